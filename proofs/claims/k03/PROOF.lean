import PyProof.Rows.All
import Wide.All
import OpenK.AllK
import Wide.FinOn
import HandS.ForMost
import HandS.ForExc
import HandS.ExcInit
import HandS.ExcField
import HandS.HotCalls
import HandS.Lambda
import HandS.EndTab
import HandS.Wide
import HandS.FStr
import HandS.IsInst
import HandS.Defaults
import HandS.Zip
import HandS.Walk
import HandS.ExcIs
import HandS.EndOwn
import HandS.SetFor
import HandS.SortInts
import KE.KSortedM
import HandS.Conv
import HandS.TupMul
import HandS.More
import HandS.TupAny
import PyProof.InstNe
import PySem.Challenge.RW_earlywrite_k03_intervals_and_redundancy
set_option Elab.async false
set_option linter.all false
set_option maxRecDepth 100000
set_option maxHeartbeats 4000000
namespace Ew
open PySem PySem.Spec PyProof.Rows L2
/-! ## an error made without arguments by its own __init__ -/
def tMk0 (C : Addr) (sp : Sp) : L2.St → Hp → XK → Prop := fun _ H Q => ∀ a, H a = none → sp [.ref a] (upd H a (exo a C none))
  (fun v G => v = .non ∧ ∃ (d : Addr) (fs : List (Str × V)), G a = some (exo a C (some d)) ∧ G d = some (exd d fs) ∧ H d = none ∧ Q (.ref C) (some d) (upd (del G a) d (.xd fs))) (fun _ _ _ => False)
theorem pmk0 {X : Cx} {CX : CXT} {x : Str} {C fI : Addr} {k : Nat} {fd : FuncData} {ps : List Str} {sp : Sp} {p pos : Pos} (T : OexC X.K C)
    (iC : PySem.W.findIn X.K (.ref C) "__init__" = some (some (.ref fI))) (tI : PySem.W.typeIn X.K (.ref fI) = some (.type "function"))
    (F1 : FnOk X.prog X.w X.K X.mg X.base CX k fI fd ps sp) (hr : Room (k + 1) X.A) (hb : Binds X.K fd ps []) (hx : Passes CX X (fun _ _ _ => False))
    (hg : Gl X x) (hm : X.mg x = some (.ref C)) (hdb : (x == ("__debug__" : Str)) = false := by decide) : PMk X (.Call (.Name x p) [] [] pos) (tMk0 C sp) := by
  intro pins s σ H Q I h
  obtain ⟨_, _, _, _, bm, _, _, _, _, _, _, _, _, _, _, hC, hbm⟩ := T.cls
  refine wpAny_Call_Name_kw (ld_glob I hg hm ?_ hdb)
  refine PySem.W.callWith_K0 I.kIn T.kC ?_
  obtain ⟨hp, g, dr, tk, os⟩ := s
  have sz1 : hp.objs.size ≤ hp.objs.size + 1 := Nat.le_succ _
  have fr : H (hp.objs.size + 1) = none := I.hok.fresh sz1
  have hq := h (hp.objs.size + 1) fr
  have kept : ∀ b o, hp.get? b = some o → ((hp.push (PySem.W.kdv_tup [])).push (PySem.HandSPX.excO C hp.objs.size)).get? b = some o :=
    fun b o e => Heap.get?_push_of_some _ (Heap.get?_push_of_some _ e)
  have got : ((hp.push (PySem.W.kdv_tup [])).push (PySem.HandSPX.excO C hp.objs.size)).get? (hp.objs.size + 1) = some (PySem.HandSPX.excO C hp.objs.size) := by heap_get
  have I2 := I.laid (t' := tk) (o := exo (hp.objs.size + 1) C none) kept sz1 (exo_ok got)
  have r2 : Vals [V.ref (hp.objs.size + 1)] [Value.ref (hp.objs.size + 1)] := .cons rfl .nil
  have hl : ([Value.ref (hp.objs.size + 1)] ++ []).length = ps.length := by
    have e := r2.length
    rw [F1.len _ _ _ _ hq] at e
    exact e.symm
  have run := F1.run _ X.stack _ _ ⟨[Value.ref (hp.objs.size + 1)], []⟩ [Value.ref (hp.objs.size + 1)] _ _ (fun _ _ _ => False) (hr.make C [] []) (I2.env0.make C [] [])
    (by have z := hb _ [Value.ref (hp.objs.size + 1)] I2.kIn hl; rw [List.append_nil] at z; exact z) r2 hq
  refine wpAny_call (PySem.HandSPX.call_own F.excBase_ValueError (fun Y => PySem.HandSPX.refsVE_contains Y bm hbm) (I.kIn _ _ hC) (PySem.W.looks_findIn I.kIn iC)
    (fun self => PySem.W.bind_fn I.kIn self tI) (Nat.zero_le _) (codeAny_mono run fun r t hq' => ?_))
  cases r with
  | error er => exact hx pins σ _ _ er t I2 hq'
  | ok fl =>
    cases fl with
    | ret u =>
      obtain ⟨v, G, os2, bare2, un2, hok2, rv, ev, d, fs, ea, ed, hd1, q2⟩ := hq'
      subst ev
      obtain ⟨h2, g2, d2, t2, os'⟩ := t
      exact ⟨rv, mk_end (raises_own T.exC T.tyC) I sz1 kept un2 hok2 os2 bare2 ea ed hd1 q2⟩
    | next => exact hq'.elim
    | brk => exact hq'.elim
    | cont => exact hq'.elim
/-! ## what lies in flight when more is laid on the heap -/
theorem flying_kept {B h h' : Heap} {l : List Env} {e : Addr} {Z : Obj → Prop} (x : HandSPX.FlyingZ B l e Z h) (k : ∀ b o, h.get? b = some o → h'.get? b = some o) : HandSPX.FlyingZ B l e Z h' := by
  obtain ⟨x1, x2, x3, oe, vs, T, oT, ts, a1, a2, a3, a4, a5, a6, a7, a8, a9⟩ := x
  exact ⟨fun b o q => k b o (x1 b o q), x2, x3.of_keeps fun b o q _ => ⟨o, k b o q, rfl⟩, oe, vs, T, oT, ts, k _ _ a1, a2, a3, a4, a5, a6, k _ _ a7, a8, a9⟩
theorem upTo_kept {h h' h'' : Heap} (x : h.UpToSlots h') (k : ∀ b o, h'.get? b = some o → h''.get? b = some o) : h.UpToSlots h'' := fun b o e n => by
  obtain ⟨sl, q⟩ := x b o e n
  exact ⟨sl, k _ _ q⟩
/-! ## except (A, B, C) as n -/
def wAs3 (K : PySem.W.Frag) (c1 c2 c3 : Value) (m i : Nat) (ts : Addr → Value → Option Addr → TS) (D : Ends) : WX := fun cls d σ H =>
  PySem.W.exmAny K cls [c1, c2, c3] = some true ∧ ∀ a, H a = none → σ.length = m → ts a cls d { nx := fun τ G => D.nx (τ.set i none) G, rt := D.rt, bk := fun τ G => D.bk (τ.set i none) G, ct := fun τ G => D.ct (τ.set i none) G } (σ.set i (some (.ref a))) H
theorem ld_name {X : Cx} {pins : List (Addr × Obj)} {σ : L2.St} {H : Hp} {s : Shared} {x : Str} {c : Value} {p : Pos} {A : Around} {Q : Value → Shared → Prop} {E : Value → Shared → Prop} (I : Inv X pins σ H s) (hc : Names X x c) (q : Q c s) (hA : A = X.A) :
    wpAny (model X.prog X.w) A (eval (.Name x p) X.env) Q E s := by
  subst hA
  obtain ⟨hg, hdbg, hm | ⟨hm, hv, hnn⟩⟩ := hc
  · exact ld_glob I hg hm q hdbg
  · exact ld_blt I hg hm hv q hnn hdbg
theorem ps_try_as3 {X : Cx} {n x1 x2 x3 : Str} {c1 c2 c3 : Value} {i : Nat} {body suite : List Stmt} {b0 : Stmt} {p1 p2 p3 pt pos pos' : Pos} {kt} {tb : WX → TS} {ts : Addr → Value → Option Addr → TS}
    (hs : X.stack = X.env :: X.outer) (hf : X.env.frame = some X.env.locals) (hN : X.N.Nodup) (hi : X.N[i]? = some n) (hln : X.env.kindOf n = some .local)
    (n1 : Names X x1 c1) (n2 : Names X x2 c2) (n3 : Names X x3 c3)
    (hb : ∀ (W : WX) (pn : List (Addr × Obj)) (xe : Value → Shared → Prop), Takes (X.tr pn xe) W → PSs (X.tr pn xe) body (tb W))
    (hsu : ∀ (a : Addr) (oe : Obj) (cls : Value) (d : Option Addr) (pn : List (Addr × Obj)), Zc cls d oe → (∃ vs, oe.data = .fields vs) → PSs (X.suite a ((a, oe) :: pn)) (b0 :: suite) (ts a cls d))
    (st3 : starEach [.Name x1 p1, .Name x2 p2, .Name x3 p3] X.env = [(false, eval (.Name x1 p1) X.env), (false, eval (.Name x2 p2) X.env), (false, eval (.Name x3 p3) X.env)] := by rfl) :
    PS X (.Try body [.ExceptHandler (some (.Tuple [.Name x1 p1, .Name x2 p2, .Name x3 p3] kt pt)) (some n) (b0 :: suite) pos'] [] [] pos) (fun D σ H => tb (wAs3 X.K c1 c2 c3 X.N.length i ts D) D σ H) := by
  refine ⟨fun pins s σ H D I hwant => ?_⟩
  have xok := I.ok
  have frs1 : X.A.frames = some (X.env :: X.outer) := xok.frames.trans (congrArg some hs)
  have locn : Loc X.env.scope n := .inl hln
  refine wpAny_Try_except ?_
  refine wpAny_mono ((hb (wAs3 X.K c1 c2 c3 X.N.length i ts D) (X.pn ++ pins) (fun e z1 => wpAny (model X.prog X.w) X.A (noteFrame e X.env) (fun _ z2 => wpAny (model X.prog X.w) X.A (setFlight e none) (fun _ z3 =>
    wpAny (model X.prog X.w) X.A (handleBy e X.env [.ExceptHandler (some (.Tuple [.Name x1 p1, .Name x2 p2, .Name x3 p3] kt pt)) (some n) (b0 :: suite) pos']) (SP X pins D) X.xe z3) X.xe z2) X.xe z1) (fun u t xx => ?_)).run [] s σ H D (I.toTry _) hwant)
    (fun f z1 hsp => ?_) (fun e z1 he => he)
  · obtain ⟨a, B, sI, qs, τ, G, cls, d, rfl, J0, nb, up, sky, na, os, ag, hyes1, hyes⟩ := xx
    have J : Inv X pins τ G sI := J0.ofTry xok
    have sky1 : Sky B (X.env :: X.outer) a (Zc cls d) X.env.locals t.heap := by rw [← hs]; exact sky
    show wpAny (model X.prog X.w) X.A (noteFrame (.ref a) X.env) _ _ _
    refine Sky.land Zc.steady frs1 hf sky1 fun g3 fz up3 => ?_
    have up4 := up.trans up3
    have J3 : Inv X pins τ G { t with heap := g3 } := J.landed nb fz.1 up4 os ag
    obtain ⟨oe3, vs3, he3, hz3, hd3⟩ := fz.there
    have nfr : a ∉ frs (X.env :: X.outer) := fun hm => by
      obtain ⟨_, ob, eb, nfl⟩ := fz.2.2.1.mem hm
      rw [he3] at eb
      cases eb
      exact nfl _ hd3
    have nL : a ≠ X.env.locals := fun z => nfr (List.mem_filterMap.mpr ⟨X.env, List.mem_cons_self, by rw [hf, z]⟩)
    have nF : a ∉ X.fs := fun hm => by
      obtain ⟨ev, hev, q⟩ := List.mem_filterMap.mp hm
      exact nfr (List.mem_filterMap.mpr ⟨ev, List.mem_cons_of_mem _ hev, q⟩)
    have S3 := J3.suite he3 hd3 na nL nF
    refine wpAny_handleBy_cons (codeAny_handlers_test ?_) (by intro q; cases q)
    refine wpAny_Tuple_spliced ?_
    rw [st3]
    refine Calls.spliced_cons (ld_name (X := X.suite a ((a, oe3) :: (X.pn ++ pins))) S3 n1 ?_ rfl)
    refine Calls.spliced_cons (ld_name (X := X.suite a ((a, oe3) :: (X.pn ++ pins))) S3 n2 ?_ rfl)
    refine Calls.spliced_cons (ld_name (X := X.suite a ((a, oe3) :: (X.pn ++ pins))) S3 n3 ?_ rfl)
    refine Calls.spliced_nil ⟨(by show 3 ≤ sizeLine; decide), ?_⟩
    have kp : ∀ b o, g3.get? b = some o → (g3.push { cls := .type "tuple", data := .seq [c1, c2, c3].toArray }).get? b = some o := fun b o q => Heap.get?_push_of_some _ q
    have fz4 := flying_kept fz kp
    have up5 := upTo_kept up4 kp
    have J4 : Inv X pins τ G { t with heap := g3.push { cls := .type "tuple", data := .seq [c1, c2, c3].toArray } } := J.landed nb fz4.1 up5 os ag
    have LT : PySem.W.Looks (model X.prog X.w) (g3.push { cls := .type "tuple", data := .seq [c1, c2, c3].toArray }) (typeOf (.ref a)) cls := fun A Q E s k q => wpAny_typeOf_ref (k _ _ (kp _ _ he3)) (by rw [hz3.1]; exact q)
    have LM := PySem.W.exm_tup3 (M := model X.prog X.w) (tp := g3.objs.size) J4.kIn LT (Heap.get?_push_size _ rfl) hyes1
    refine LM.here ?_
    refine codeAny_handlers_suite_as ?_
    refine HandSPX.lands_againZ fz4 fun g5 fz5 up6 => ?_
    have J5 : Inv X pins τ G { t with heap := g5 } := J.landed nb fz5.1 (up5.trans up6) os ag
    obtain ⟨oe5, vs5, he5, hz5, hd5⟩ := fz5.there
    have S5 := J5.suite he5 hd5 na nL nF
    refine store_ok (X := X.suite a ((a, oe5) :: (X.pn ++ pins))) (v := .ref a) S5 hN hi locn rfl (fun z5 S6 => ?_) (.inr hln)
    refine wpAny_mono ((hsu a oe5 cls d (X.pn ++ pins) hz5 ⟨_, hd5⟩).run [] z5 _ G _ S6 (hyes a na J.len)) (fun f z6 hsp => ?_) (fun _ _ z => z.elim)
    have fin : ∀ {τ6 : L2.St} {G6 : Hp} {Q : Shared → Prop}, Inv (X.suite a ((a, oe5) :: (X.pn ++ pins))) [] τ6 G6 z6 → (∀ z7, Inv X pins (τ6.set i none) G6 z7 → Q z7) →
        wpAny (model X.prog X.w) X.A (do bindName X.env n .none; unbindBehindTheSuite X.env n pos') (fun _ z7 => Q z7) X.xe z6 := fun S7 hq => gone_ok (S7.unsuite xok) hN hi hln hq
    cases f with
    | next =>
      obtain ⟨_, _, S7, q7⟩ := hsp
      exact fin S7 fun _ J8 => ⟨_, _, J8, q7⟩
    | brk =>
      obtain ⟨_, _, S7, q7⟩ := hsp
      exact fin S7 fun _ J8 => ⟨_, _, J8, q7⟩
    | cont =>
      obtain ⟨_, _, S7, q7⟩ := hsp
      exact fin S7 fun _ J8 => ⟨_, _, J8, q7⟩
    | ret u =>
      obtain ⟨_, _, _, S7, r7, q7⟩ := hsp
      exact fin S7 fun _ J8 => ⟨_, _, _, J8, r7, q7⟩
  · cases f with
    | next =>
      obtain ⟨τ, G, J0, q⟩ := hsp
      exact wpAny_execs_nil ⟨τ, G, J0.ofTry xok, q⟩
    | brk =>
      obtain ⟨τ, G, J0, q⟩ := hsp
      exact ⟨τ, G, J0.ofTry xok, q⟩
    | cont =>
      obtain ⟨τ, G, J0, q⟩ := hsp
      exact ⟨τ, G, J0.ofTry xok, q⟩
    | ret u =>
      obtain ⟨v, τ, G, J0, r, q⟩ := hsp
      exact ⟨v, τ, G, J0.ofTry xok, r, q⟩
/-! ## an error's field, wherever the error is pinned -/
theorem pe_xfp {X : Cx} {a C : Addr} {oe : Obj} {cls : Value} {d : Option Addr} {e : Expr} {te : TE} {pos : Pos} {n : Str} (T : XfC X.K C) (hno : PySem.W.findIn X.K (.ref C) n = some none)
    (hz : Zc cls d oe) (hf : ∃ vs, oe.data = .fields vs) (hpn : (a, oe) ∈ X.pn) (he : PE X e te) (hb : attributeBase e n X.env (eval e X.env) = eval e X.env := by rfl) :
    PE X (.Attribute e n pos) (tXf a cls d C n te) := by
  refine ⟨fun pins s σ H Q I h => ?_⟩
  refine attr_of hb (thn (he.run pins s σ H _ I h) fun u z1 ⟨x, G, I1, rx, ex, ec, dd, fs, v, ed, ea, l, q⟩ => ?_)
  subst ex ec ed
  obtain rfl : u = Value.ref a := rx
  have ha := (I1.pin (a, oe) (List.mem_append_left _ hpn)).1
  obtain ⟨vs, hd⟩ := hf
  obtain ⟨mA, hns, hr⟩ := (show ObjOk X.prog X.w G z1.heap dd (.xd fs) from I1.hok dd _ ea)
  obtain ⟨od, ho, hl⟩ := lookIn_ns hns
  obtain ⟨u, hu, ru⟩ := RelO.some_of (v := v) (o := mA n) (by rw [← l]; exact hr n)
  have J : PySem.W.InstAt z1.heap a oe C (some od) := ⟨ha, hz.1, by unfold PySem.W.notCls; rw [hd] <;> rfl, by rw [hz.2]; exact ho⟩
  exact HandSPX.exc_get I1.kIn J T.ga T.gg T.exC (PySem.W.findObj_own T.hdC hno rfl (by rw [hl, hu])) (handed_of ru) ⟨v, G, I1.tok _, ru, q⟩
/-! ## // by any divisor that is not zero -/
def CDivZ (_ j : Int) : Prop := j ≠ 0 ∧ j.natAbs.log2 < 9000
theorem op_fdivZ {X : Cx} : OpR X (binaryOp .FloorDiv) (rI CDivZ fun i j => .int (i.fdiv j)) := opI fun _ _ _ _ _ _ _ hc q => floordiv_int hc.1 q (.inl (PyProof.noPylong_of_log2 hc.2))
/-! ## the mathematics of fractions -/
def gcdI (a b : Int) : Int := ((Nat.gcd a.natAbs b.natAbs : Nat) : Int)
theorem gcdI_step {x y : Int} (hx : 0 ≤ x) (hy : 0 < y) : gcdI y (x % y) = gcdI x y := by
  obtain ⟨m, rfl⟩ := Int.eq_ofNat_of_zero_le hx
  obtain ⟨n, rfl⟩ := Int.eq_ofNat_of_zero_le (Int.le_of_lt hy)
  unfold gcdI
  rw [← Int.natCast_emod, Int.natAbs_natCast, Int.natAbs_natCast, Int.natAbs_natCast, Nat.gcd_comm n (m % n), ← Nat.gcd_rec n m, Nat.gcd_comm]
theorem gcdI_zero {x : Int} (hx : 0 ≤ x) : gcdI x 0 = x := by
  unfold gcdI
  rw [Int.natAbs_zero, Nat.gcd_zero_right]
  omega
theorem gcdI_nn (a b : Int) : 0 ≤ gcdI a b := Int.natCast_nonneg _
theorem gcdI_pos {a b : Int} (h : b ≠ 0) : 0 < gcdI a b := by
  have := Nat.gcd_pos_of_pos_right a.natAbs (show 0 < b.natAbs by omega)
  unfold gcdI
  omega
theorem gcdI_le {a b : Int} (h : b ≠ 0) : gcdI a b ≤ (b.natAbs : Int) := by
  have := Nat.gcd_le_right a.natAbs (show 0 < b.natAbs by omega)
  unfold gcdI
  omega
def absI (i : Int) : Int := if i < 0 then -i else i
theorem absI_nn (i : Int) : 0 ≤ absI i := by unfold absI; split <;> omega
theorem absI_natAbs (i : Int) : (absI i).natAbs = i.natAbs := by unfold absI; split <;> omega
theorem gcdI_abs (a b : Int) : gcdI (absI a) (absI b) = gcdI a b := by unfold gcdI; rw [absI_natAbs, absI_natAbs]
theorem gcdI_abs1 (a b : Int) : gcdI (absI a) b = gcdI a b := by unfold gcdI; rw [absI_natAbs]
theorem gcdI_neg (a b : Int) : gcdI (-a) (-b) = gcdI a b := by unfold gcdI; rw [Int.natAbs_neg, Int.natAbs_neg]
/-- the fraction of a and b, b not zero -/
def frN (a b : Int) : Int := (if b < 0 then -a else a) / gcdI a b
def frD (a b : Int) : Int := (if b < 0 then -b else b) / gcdI a b
theorem wide_of {j : Int} {n : Nat} (h : j ≠ 0) (hb : j.natAbs < 2 ^ n) (h0 : 0 < n) (h9 : n ≤ 9000) : CDivZ i j := ⟨h, Nat.lt_of_lt_of_le (PySem.Flt.log2_lt_of h0 hb) h9⟩
theorem fdiv_flip (a : Int) {g : Int} (hg : 0 < g) : a.fdiv (-g) = (-a) / g := by
  have e : a.fdiv (-g) = (-(-a)).fdiv (-g) := by rw [Int.neg_neg]
  rw [e, Int.neg_fdiv_neg, Int.fdiv_eq_ediv_of_nonneg _ (by omega)]
theorem ifT {c : Bool} {A B : Prop} (hc : c = true) (h : A) : if c = true then A else B := by
  rw [if_pos hc]
  exact h
theorem ifF {c : Bool} {A B : Prop} (hc : c = false) (h : B) : if c = true then A else B := by
  rw [hc]
  exact iteF h
theorem ne_int {x y : Int} (h : x ≠ y) : (!decide (V.int x = V.int y)) = true := by simp [h]
theorem eq_int {x y : Int} (h : x ≠ y) : decide (V.int x = V.int y) = false := by simp [h]
/-! ## errors: what the written part says of a class over ValueError with self.tag = t in its __init__ -/
structure ErrT (K : PySem.W.Frag) (mg : Str → Option Value) (x : Str) (C fI : Addr) : Prop where
  gC : mg x = some (.ref C)
  oex : OexC K C
  iC : PySem.W.findIn K (.ref C) "__init__" = some (some (.ref fI))
  tI : PySem.W.typeIn K (.ref fI) = some (.type "function")
  nT : PySem.W.findIn K (.ref C) "tag" = some none
  xf : XfC K C
def spInitTag (K : PySem.W.Frag) (C : Addr) (t : Str) : Sp := fun vs H Q _ => ∃ a, vs = [.ref a] ∧ H a = some (exo a C none) ∧ ∀ dx, H dx = none → dx ≠ a → Q .non (upd (upd H dx (exd dx [("tag", .str t)])) a (exo a C (some dx)))
theorem raise_heap {H : Hp} {a dx : Addr} {o1 o2 o3 u : HO} (ha : H a = none) (hd : upd H a o1 dx = none) (ne : dx ≠ a) : upd (del (upd (upd (upd H a o1) dx o2) a o3) a) dx u = upd H dx u := by
  funext b
  by_cases h1 : b = dx
  · rw [h1, upd_same, upd_same]
  · rw [upd_ne h1, upd_ne h1]
    by_cases h2 : b = a
    · rw [h2, del_same, ha]
    · rw [del_ne h2, upd_ne h2, upd_ne h1, upd_ne h2]
/-- the text of a fraction -/
def frText (n d : Int) : Str := if d = 1 then Str.ofString (toString n) else Str.ofString (toString n) ++ "/" ++ Str.ofString (toString d)
/-! ## the numbers that a law draws -/
def RngOk (i v sd : Int) : Prop := 0 ≤ i ∧ 0 ≤ v ∧ 0 ≤ sd ∧ sd < 2147483549
def rngL (q : Addr) (i v sd : Int) : List V := [.ref q, .int i, .int v, .int sd]
structure RngAt (H : Hp) (p q : Addr) (ns : List Int) (i v sd : Int) : Prop where
  at_p : H p = some (.lst (rngL q i v sd))
  at_q : H q = some (.lst (ns.map V.int))
  len : ns.length ≤ 63
  ok : RngOk i v sd
  ne : q ≠ p
theorem RngAt.next {H : Hp} {p q : Addr} {ns : List Int} {i v sd i' v' sd' : Int} (R : RngAt H p q ns i v sd) (h : RngOk i' v' sd') : RngAt (upd H p (.lst (rngL q i' v' sd'))) p q ns i' v' sd' :=
  ⟨upd_same, by rw [upd_ne R.ne]; exact R.at_q, R.len, h, R.ne⟩
theorem mul_small {i j : Int} (h0 : -9223372036854775808 < i) (h1 : i < 9223372036854775808) : CMul i j := by
  have e : (2 : Int) ^ 64 = 18446744073709551616 := by decide
  refine .inl ⟨?_, ?_⟩
  · rw [e]; omega
  · rw [e]; omega
theorem cut63 {ns : List Int} (h : ns.length ≤ 63) : cutV (ns.map V.int) none (some 63) = ns.map V.int := by
  unfold cutV
  rw [HT.sIx_none, List.drop_zero]
  have e := HT.sIx_nat (ns.map V.int).length (ns.map V.int).length 63
  rw [show (some (63 : Int)) = some ((63 : Nat) : Int) from rfl, e, Nat.sub_zero, List.take_of_length_le]
  rw [List.length_map]
  omega
def seedStep (sd c : Int) : Int := (sd * 40009 + c % 2147483549 + 31) % 2147483549
theorem upd_id {H : Hp} {a : Addr} {o : HO} (h : H a = some o) : upd H a o = H := by
  funext b
  by_cases e : b = a
  · rw [e, upd_same, h]
  · rw [upd_ne e]
theorem rng_0 {q : Addr} {i v sd : Int} : atI (rngL q i v sd) 0 = some (.ref q) := rfl
theorem rng_1 {q : Addr} {i v sd : Int} : atI (rngL q i v sd) 1 = some (.int i) := rfl
theorem rng_2 {q : Addr} {i v sd : Int} : atI (rngL q i v sd) 2 = some (.int v) := rfl
theorem rng_3 {q : Addr} {i v sd : Int} : atI (rngL q i v sd) 3 = some (.int sd) := rfl
theorem get_int {ns : List Int} {i : Int} (h0 : 0 ≤ i) (h1 : i < (ns.length : Int)) : ∃ c, c ∈ ns ∧ atI (ns.map V.int) i = some (.int c) := by
  obtain ⟨m, rfl⟩ := Int.eq_ofNat_of_zero_le h0
  have hm : m < ns.length := by omega
  refine ⟨ns[m], List.getElem_mem hm, atI_nat ?_⟩
  rw [List.getElem?_map, List.getElem?_eq_getElem hm]
  rfl
theorem map_int_at {ns : List Int} {i : Nat} {y : V} (h : (ns.map V.int)[i]? = some y) : ∃ c, y = .int c := by
  rw [List.getElem?_map] at h
  cases e : ns[i]? with
  | none =>
    rw [e] at h
    cases h
  | some c =>
    rw [e] at h
    exact ⟨c, (Option.some.inj h).symm⟩
/-! ## two values that hold the same data, at most n deep -/
def flatS : V → Bool
  | .non => true | .bl _ => true | .int _ => true | .str _ => true | _ => false
def SameN (K : PySem.W.Frag) (H : Hp) : Nat → V → V → Prop
  | 0, _, _ => False
  | n + 1, x, y => (x = y ∧ flatS x = true) ∨ ∃ (a b : Addr) (xs ys : List V), x = .ref a ∧ y = .ref b ∧ ((SqL K H a xs ∧ SqL K H b ys) ∨ (SqT K H a xs ∧ SqT K H b ys)) ∧ xs.length = ys.length ∧ xs.length ≤ 1000 ∧
      ∀ (i : Nat) (u v : V), xs[i]? = some u → ys[i]? = some v → SameN K H n u v
theorem seqT {K : PySem.W.Frag} {H G : Hp} {a : Addr} {xs : List V} (e : Same H G) (h : SqT K H a xs) : SqT K G a xs := by
  rcases h with (h | ⟨o, h⟩) | h
  · exact .inl (.inl (e _ _ h))
  · exact .inl (.inr ⟨o, e _ _ h⟩)
  · exact .inr h
theorem SameN.same {K : PySem.W.Frag} {H G : Hp} (e : Same H G) : ∀ {n : Nat} {x y : V}, SameN K H n x y → SameN K G n x y
  | 0, _, _, h => h
  | n + 1, x, y, h => by
    rcases h with h | ⟨a, b, xs, ys, h1, h2, h3, h4, h5, h6⟩
    · exact .inl h
    · refine .inr ⟨a, b, xs, ys, h1, h2, ?_, h4, h5, fun i u v p q => (h6 i u v p q).same e⟩
      rcases h3 with ⟨p, q⟩ | ⟨p, q⟩
      · exact .inl ⟨e.seq p, e.seq q⟩
      · exact .inr ⟨seqT e p, seqT e q⟩
theorem ty_list {K : PySem.W.Frag} {H : Hp} {a : Addr} {xs : List V} (h : SqL K H a xs) : TyX K H (.ref a) (.type "list") := by
  rcases h with (h | ⟨o, h⟩) | ⟨o, its, n, h, c, _⟩
  · exact .base (.lst h)
  · exact .base (.frz h)
  · exact .kList h c
theorem ty_tup {K : PySem.W.Frag} {H : Hp} {a : Addr} {xs : List V} (h : SqT K H a xs) : TyX K H (.ref a) (.type "tuple") := by
  rcases h with (h | ⟨o, h⟩) | ⟨o, its, n, h, c, _⟩
  · exact .base (.tup h)
  · exact .fTuple h
  · exact .kTuple h c
theorem walk_zipT {K : PySem.W.Frag} {a b : Addr} {xs ys : List V} (hn : xs.length = ys.length) : Walk (RZ.ItzT K a b) xs.length (fun H => SqT K H a xs ∧ SqT K H b ys) (YPair (fun i => xs[i]?) (fun i => ys[i]?)) :=
  ⟨fun i H hi q => ⟨xs, ys, xs[i], ys[i]'(by omega), q.1, q.2, by simp [hi], by simp [show i < ys.length by omega]⟩, fun H q => ⟨xs, ys, q.1, q.2, .inl (Nat.le_refl _)⟩,
    fun i H x G hi q ⟨T, u, v, e1, e2, e3, e4, e5⟩ => ⟨T, u, v, e1, e2, e3, e4 xs q.1, e5 ys q.2⟩⟩
theorem same_upd {H G : Hp} {p : Addr} {o : HO} (e : Same H G) (h : G p = none) : Same H (upd G p o) := fun b u q => by
  rw [upd_ne (ne_of_none (e b u q) h)]
  exact e b u q
theorem same_updN {H G : Hp} {p : Addr} {o : HO} (e : Same H G) (h : H p = none) : Same H (upd G p o) := fun b u q => by
  rw [upd_ne (ne_of_none q h)]
  exact e b u q
theorem kitLT {K : PySem.W.Frag} {t : String} {r : Bool} (h1 : kitB t "list" = some false) (h2 : kitB t "tuple" = some r) : PySem.W.kitAny K (.type t) [.type "list", .type "tuple"] = some r :=
  kitAny_cons (kit_ty h1) (fun _ => kitAny_cons (kit_ty h2) (fun e => by rw [e]; exact kitAny_nil) (fun e => e)) (fun e => Bool.noConfusion e)
theorem kitL {K : PySem.W.Frag} {t : String} (h1 : kitB t "list" = some true) : PySem.W.kitAny K (.type t) [.type "list", .type "tuple"] = some true :=
  kitAny_cons (kit_ty h1) (fun e => Bool.noConfusion e) (fun _ => rfl)
theorem all_true (n : Nat) : (List.replicate n true).all id = true := by simp
theorem map_rep (n : Nat) : (List.replicate n true).map V.bl = List.replicate n (V.bl true) := by simp
theorem ne_bl (b : Bool) : (!decide (V.bl b = V.bl b)) = false := by simp
theorem paired2 : Paired ClsV [V.ty "list", V.ty "tuple"] [Value.type "list", Value.type "tuple"] := .cons (.ty _) (.cons (.ty _) .nil)
/-! ## an error's field; what its class says stands in the reading -/
@[irreducible] def tXq (K : PySem.W.Frag) (a : Addr) (cls : Value) (d : Option Addr) (f : Str) (te : TE) : TE := fun σ H Q => te σ H fun x G => x = .ref a ∧ ∃ C, cls = .ref C ∧ XfC K C ∧ PySem.W.findIn K (.ref C) f = some none ∧ ∃ (dd : Addr) (fs : List (Str × V)) (v : V), d = some dd ∧ G dd = some (.xd fs) ∧ fs.lookup f = some v ∧ Q v G
theorem pe_xq {X : Cx} {a : Addr} {oe : Obj} {cls : Value} {d : Option Addr} {e : Expr} {te : TE} {pos : Pos} {n : Str} (hz : Zc cls d oe) (hf : ∃ vs, oe.data = .fields vs) (hpn : (a, oe) ∈ X.pn) (he : PE X e te) (hb : attributeBase e n X.env (eval e X.env) = eval e X.env := by rfl) :
    PE X (.Attribute e n pos) (tXq X.K a cls d n te) := by
  refine ⟨fun pins s σ H Q I h => ?_⟩
  unfold tXq at h
  refine attr_of hb (thn (he.run pins s σ H _ I h) fun u z1 ⟨x, G, I1, rx, ex, C, ec, T, hno, dd, fs, v, ed, ea, l, q⟩ => ?_)
  subst ex ec ed
  obtain rfl : u = Value.ref a := rx
  have ha := (I1.pin (a, oe) (List.mem_append_left _ hpn)).1
  obtain ⟨vs, hd⟩ := hf
  obtain ⟨mA, hns, hr⟩ := (show ObjOk X.prog X.w G z1.heap dd (.xd fs) from I1.hok dd _ ea)
  obtain ⟨od, ho, hl⟩ := lookIn_ns hns
  obtain ⟨u, hu, ru⟩ := RelO.some_of (v := v) (o := mA n) (by rw [← l]; exact hr n)
  have J : PySem.W.InstAt z1.heap a oe C (some od) := ⟨ha, hz.1, by unfold PySem.W.notCls; rw [hd] <;> rfl, by rw [hz.2]; exact ho⟩
  exact HandSPX.exc_get I1.kIn J T.ga T.gg T.exC (PySem.W.findObj_own T.hdC hno rfl (by rw [hl, hu])) (handed_of ru) ⟨v, G, I1.tok _, ru, q⟩
/-! ## a def of one parameter, called within an except suite with what is pinned there -/
theorem pe_callP {X : Cx} {k : Nat} {f : Addr} {nm name qual x0 : Str} {params : Arguments} {body : List Stmt} {scope : Scope} {dV kV doc pm cdv ct oc : Value} {an od : Option Addr} {osl : Array (Option Value)} {N : List Str} {sp : V → Hp → VK → Prop} {q pos : Pos} {e : Expr} {te : TE}
    (lk : X.K.lookup f = some ⟨oc, od, .func (PySem.W.fnOf name qual params body scope dV kV doc pm an cdv ct), osl⟩) (hcd : PySem.W.codeIn X.K cdv qual = true) (S : FnScope N [x0] scope) (p : Addr × Obj) (hp : p ∈ X.pn) (hr : L2H.RoomH (k + 1) X.A)
    (hg : Gl X nm) (hm : X.mg nm = some (.ref f)) (hk : PySem.W.keepIn X.K (.ref f) = true) (hb : Binds X.K (PySem.W.fnOf name qual params body scope dV kV doc pm an cdv ct) [x0] [])
    (hbody : ∀ (A : Around) (outer : List Env) (s : Shared) (H : Hp) (v : V) (Q : VK), L2H.RoomH k (A.deeper (envOfC qual scope s.heap.objs.size f cdv)) → sp v H Q → ∃ t, PSs (L2H.cxH CX0 X.prog X.w X.K X.mg X.base N qual scope f cdv A outer s H E0 p) body t ∧ t { nx := fun _ G => Q .non G, rt := Q } (L2.start N [v]) H)
    (he : PE X e te) (hdb : (nm == ("__debug__" : Str)) = false := by decide) (h1 : starEach [e] X.env = (false, eval e X.env) :: starEach [] X.env := by rfl) (h2 : (backTo pos (starEach [] X.env)).any (·.1) = false := by rfl) :
    PE X (.Call (.Name nm q) [e] [] pos) (fun σ H Q => tCons te tNil σ H fun vs G => ∃ v, vs = [v] ∧ sp v G Q) := by
  refine ⟨fun pins s σ H Q I h => ?_⟩
  refine wpAny_Call_Name_kw (ld_glob I hg hm ?_ hdb)
  refine PySem.W.callWith_K (h₀ := X.base) I.ok.mod.kin hk (thn ((pa_cons he pa_nil h1).run pos pins s σ H _ I h) fun us z ⟨vs, G, I1, r, v, ev, hsp⟩ => ⟨I1.kIn, ?_⟩) h1 h2
  subst ev
  obtain ⟨u, rfl, ru⟩ : ∃ u, us = [u] ∧ RelV v u := by
    cases r with
    | cons r1 r2 =>
      cases r2
      exact ⟨_, rfl, r1⟩
  have P1 := I1.pin p (List.mem_append_left _ hp)
  have hpin : L2H.PinOk X.stack G z p := ⟨P1.1, P1.2.1, fun hin => (List.mem_cons.mp (I1.stkSub p.1 hin)).elim P1.2.2.1 P1.2.2.2.1, P1.2.2.2.2⟩
  have run : codeAny (model X.prog X.w) X.A (.call (.ref f) ⟨[u], []⟩) (CR CX0 X.stack X.prog X.w G z Q E0) z := by
    have KX := I1.kIn
    have kinds : ∀ y ∈ [x0].zip [u], scope.names.lookup y.1 = some .local ∨ (scope.names.lookup y.1 = some .cell ∧ ((cellsFrom (z.heap.objs.size + 1) scope.names []).lookup y.1).isSome = true) := fun ⟨n, _⟩ hy => by
      rcases S.par n (List.of_mem_zip hy).1 with w1 | w1
      · exact .inl w1
      · exact .inr ⟨w1, PySem.W.cellsFrom_some _ _ _ (.inl w1)⟩
    have hbs := hb z [u] KX rfl
    refine codeAny_call_function hr.depth (KX _ _ lk) rfl S.co S.gen rfl (PySem.W.codeRec_of KX hcd) (hbs _ _ _ _ ?_)
    refine wpAny_newFunctionEnv_cells S.kind kinds fun env henv z2 x => ?_
    subst henv
    refine ⟨I1.nolimit.keeps x.toInCall.keep, codeAny_func ?_⟩
    obtain ⟨t, ht, hq⟩ := hbody X.A X.stack z G v Q (hr.deeper _) hsp
    have J := L2H.inv_startH (CX := CX0) (E := E0) S hpin I1.env0 (vs := [v]) rfl (.cons ru .nil) x
    refine wpAny_mono (ht.run [] z2 _ G _ J hq) (fun fl z3 hs => ?_) fun e z3 hs => hs
    cases fl with
    | ret u3 =>
      obtain ⟨v3, _, G3, J3, rv, q3⟩ := hs
      exact ⟨v3, G3, J3.os, J3.bare, J3.base, J3.hok, rv, q3⟩
    | next =>
      obtain ⟨_, G3, J3, q3⟩ := hs
      exact ⟨V.non, G3, J3.os, J3.bare, J3.base, J3.hok, rfl, q3⟩
    | brk =>
      obtain ⟨_, _, _, q3⟩ := hs
      exact q3.elim
    | cont =>
      obtain ⟨_, _, _, q3⟩ := hs
      exact q3.elim
  refine wpAny_call (codeAny_mono run fun res z4 hq => ?_)
  cases res with
  | error er => exact (show False from hq).elim
  | ok fl =>
    cases fl with
    | ret u4 => exact I1.after hq
    | next => exact hq.elim
    | brk => exact hq.elim
    | cont => exact hq.elim
/-! ## which field an error has -/
def tags5 : List V := [.str "CircularName", .str "InvalidName", .str "DuplicateName", .str "WrongKind", .str "UndefinedName"]
def tags2 : List V := [.str "InvalidText", .str "InvalidCommand"]
structure NoneTag (t : Str) : Prop where
  h5 : inV (.str t) tags5 = false
  h2 : inV (.str t) tags2 = false
  h3 : t ≠ "InvalidMachine"
  h4 : t ≠ "LimitReached"
  h6 : t ≠ "NameInUse"
  h7 : t ≠ "InvalidDocument"
def ErrAt (K : PySem.W.Frag) (G : Hp) (cls : Value) (d : Option Addr) (t : Str) : Prop := ∃ (C dd : Addr) (fs : List (Str × V)), cls = .ref C ∧ XfC K C ∧ PySem.W.findIn K (.ref C) "tag" = some none ∧ d = some dd ∧ G dd = some (.xd fs) ∧ fs.lookup ("tag" : Str) = some (V.str t)
theorem ErrAt.same {K : PySem.W.Frag} {G G' : Hp} {cls : Value} {d : Option Addr} {t : Str} (e : Same G G') (h : ErrAt K G cls d t) : ErrAt K G' cls d t := by
  obtain ⟨C, dd, fs, h1, h2, h3, h4, h5, h6⟩ := h
  exact ⟨C, dd, fs, h1, h2, h3, h4, e _ _ h5, h6⟩
theorem tag_read {K : PySem.W.Frag} {G : Hp} {cls : Value} {d : Option Addr} {t : Str} {a : Addr} {i : Nat} {σ : L2.St} {Q : VK} (h : ErrAt K G cls d t) (hs : σ[i]? = some (some (.ref a))) (q : Q (.str t) G) : tXq K a cls d "tag" (tVar i) σ G Q := by
  obtain ⟨C, dd, fs, h1, h2, h3, h4, h5, h6⟩ := h
  unfold tXq
  exact ⟨_, hs, rfl, C, h1, h2, h3, dd, fs, _, h4, h5, h6, q⟩
theorem ne_str {x y : Str} (h : x ≠ y) : decide (V.str x = V.str y) = false := by simp [h]
def spField (K : PySem.W.Frag) (a : Addr) (cls : Value) (d : Option Addr) : V → Hp → VK → Prop := fun v H Q => v = .ref a ∧ ∃ t, ErrAt K H cls d t ∧ NoneTag t ∧ ∀ G, Same H G → Q .non G
/-! ## _law_outcome(lambda: ..): what is wanted of the lambda -/
def OutWish (K : PySem.W.Frag) (c1 c2 c3 : Value) (Q : VK) : XK := fun cls d G => PySem.W.exmAny K cls [c1, c2, c3] = some true ∧ ∃ t, ErrAt K G cls d t ∧ NoneTag t ∧ ∀ G' p, Same G G' → G' p = none → Q (.ref p) (upd G' p (.tup [.str t, .non]))
def TTo (K : PySem.W.Frag) (c1 c2 c3 : Value) : (XK → Hp → VK → Prop) → Hp → VK → Prop := fun tl H Q => tl (OutWish K c1 c2 c3 Q) H (fun v G => (2 : Nat) ≤ sizeLine ∧ ∀ p, G p = none → Q (.ref p) (upd G p (.tup [.str "", v])))
theorem pss_ex {X : Cx} {ι : Type} {C : ι → Prop} {b : List Stmt} {t : ι → TS} (h : ∀ i, C i → PSs X b (t i)) : PSs X b (fun D σ H => ∃ i, C i ∧ t i D σ H) :=
  ⟨fun pins s σ H D I ⟨i, hi, w⟩ => (h i hi).run pins s σ H D I w⟩
/-! ## what is no list stays -/
def Keep (G G' : Hp) : Prop := ∀ b o, G b = some o → (∀ xs, o ≠ .lst xs) → G' b = some o
theorem Keep.of {G G' : Hp} (e : Same G G') : Keep G G' := fun b o h _ => e b o h
theorem Keep.trans {G G1 G2 : Hp} (a : Keep G G1) (b : Keep G1 G2) : Keep G G2 := fun c o h n => b c o (a c o h n) n
theorem Keep.put {G : Hp} {p : Addr} {xs : List V} {o : HO} (h : G p = some (.lst xs)) : Keep G (upd G p o) := fun b u q n => by
  rw [upd_ne (fun z => n xs (Option.some.inj (q.symm.trans (by rw [z]; exact h))))]
  exact q
theorem Keep.new {G : Hp} {p : Addr} {o : HO} (h : G p = none) : Keep G (upd G p o) := Keep.of (same_upd (Same.refl G) h)
theorem Keep.tabs {T : List (Addr × Str)} {G G' : Hp} (e : Keep G G') (h : LamX.Tabs T G) : LamX.Tabs T G' := fun p hp => by
  obtain ⟨ps, h1, h2, h3⟩ := h p hp
  refine ⟨ps, e _ _ h1 (fun xs z => nomatch z), h2, fun pos cv hc => ?_⟩
  obtain ⟨c, e1, e2⟩ := h3 pos cv hc
  exact ⟨c, e1, e _ _ e2 (fun xs z => by unfold LamX.CodeO at z; cases z)⟩
theorem RngAt.same {G G' : Hp} {p q : Addr} {ns : List Int} {i v sd : Int} (e : Same G G') (R : RngAt G p q ns i v sd) : RngAt G' p q ns i v sd := ⟨e _ _ R.at_p, e _ _ R.at_q, R.len, R.ok, R.ne⟩
theorem RngAt.extN {G G' : Hp} {p q : Addr} {ns : List Int} {i v sd : Int} (e : LamX.ExtN G G') (R : RngAt G p q ns i v sd) : RngAt G' p q ns i v sd :=
  ⟨e _ _ R.at_p (fun ps z => nomatch z), e _ _ R.at_q (fun ps z => nomatch z), R.len, R.ok, R.ne⟩
theorem not_true_if {A B : Prop} (h : B) : if (!true) = true then A else B := iteF h
theorem big_lt {n : Nat} {a : Int} (h : a.natAbs < 2 ^ n) (hn : n ≤ 8000) : a.natAbs < 2 ^ 8000 := Nat.lt_of_lt_of_le h (Nat.pow_le_pow_right (by decide) hn)
theorem log_small {m : Nat} (h : m ≤ 1000000000000000000000000000000) : m.log2 < 1920 := by
  have z : m < 2 ^ 100 := Nat.lt_of_le_of_lt h (by decide)
  exact Nat.lt_of_lt_of_le (PySem.Flt.log2_lt_of (by decide) z) (by decide)
theorem gcdI_one (a : Int) : gcdI a 1 = 1 := by unfold gcdI; rw [Int.natAbs_one, Nat.gcd_one_right]; rfl
theorem frN_one (a : Int) : frN a 1 = a := by unfold frN; rw [gcdI_one, if_neg (by decide), Int.ediv_one]
theorem frD_one (a : Int) : frD a 1 = 1 := by unfold frD; rw [gcdI_one, if_neg (by decide), Int.ediv_one]
theorem ediv_abs_le (a : Int) {g : Int} (hg : 0 < g) : (a / g).natAbs ≤ a.natAbs := by
  rcases Int.le_total 0 a with h | h
  · have h1 := Int.ediv_nonneg h (Int.le_of_lt hg)
    have h2 := Int.ediv_le_self g h
    omega
  · have h3 := Int.ediv_mul_le a (Int.ne_of_gt hg)
    have h4 : a / g ≤ 0 := by
      have := Int.ediv_le_ediv hg h
      rwa [Int.zero_ediv] at this
    have h5 := Int.lt_ediv_add_one_mul_self a hg
    -- a ≤ a / g
    have h6 : a ≤ a / g := by
      rcases Int.lt_or_le (a / g) a with q | q
      · exfalso
        have h7 : a / g + 1 ≤ a := by omega
        have h8 : (a / g + 1) * g ≤ (a / g + 1) * 1 ∨ (a / g + 1) > 0 := by
          rcases Int.lt_or_le 0 (a / g + 1) with z | z
          · exact .inr z
          · exact .inl (Int.mul_le_mul_of_nonpos_left z (by omega))
        rcases h8 with z | z
        · omega
        · omega
      · exact q
    omega
theorem frN_abs (a b : Int) (hb : b ≠ 0) : (frN a b).natAbs ≤ a.natAbs := by
  unfold frN
  have := ediv_abs_le (if b < 0 then -a else a) (gcdI_pos (a := a) hb)
  split at this <;> split <;> omega
theorem frD_abs (a b : Int) (hb : b ≠ 0) : (frD a b).natAbs ≤ b.natAbs := by
  unfold frD
  have := ediv_abs_le (if b < 0 then -b else b) (gcdI_pos (a := a) hb)
  split at this <;> split <;> omega
/-! ## what the head tells of a def, an error's class, the law's own code object -/
def DefAt (K : PySem.W.Frag) (x qual : Str) (st : Stmt) (f : Addr) : Prop := ∃ fd, Fun K x qual st f fd
theorem def_mk {K : PySem.W.Frag} {x qual : Str} {st : Stmt} {f : Addr} {oc kV doc pm cdv ct : Value} {od an : Option Addr} {osl : Array (Option Value)} (l : K.lookup f = some ⟨oc, od, .func (PySem.W.fnOf x qual (defArgs st) (defBody st) (defScope st) .none kV doc pm an cdv ct), osl⟩)
    (c : PySem.W.codeIn K cdv qual = true) (k : PySem.W.keepIn K (.ref f) = true) : DefAt K x qual st f := ⟨_, fun_mk l c k⟩
def DfltAt (K : PySem.W.Frag) (x : Str) (st : Stmt) (dv : V) (f : Addr) : Prop := ∃ fd, FunD K x x (defArgs st) (defBody st) (defScope st) [dv] [] f fd
theorem dflt_mk {K : PySem.W.Frag} {x : Str} {st : Stmt} {dv : V} {f TD : Addr} {oc kV doc pm cdv ct ot dw : Value} {od an odt : Option Addr} {osl slt : Array (Option Value)} {n : Nat} (l : K.lookup f = some ⟨oc, od, .func (PySem.W.fnOf x x (defArgs st) (defBody st) (defScope st) (.ref TD) kV doc pm an cdv ct), osl⟩)
    (c : PySem.W.codeIn K cdv x = true) (k : PySem.W.keepIn K (.ref f) = true) (t : K.lookup TD = some ⟨ot, odt, .seq #[dw] n, slt⟩) (r : RelV dv dw) : DfltAt K x st dv f :=
  ⟨_, ⟨⟨oc, od, .ref TD, kV, doc, pm, an, cdv, ct, osl, rfl, l, c, .inr ⟨by simp, TD, _, [dw], n, rfl, t, rfl, .cons r .nil⟩, .inl rfl⟩, k⟩⟩
theorem oex_mk {K : PySem.W.Frag} {C : Addr} {nm q : Str} {N : Addr} {bs bm : List Value} {sn : List Str} {sub : List Value} {ab : Bool} {col : Option Bool} {dd : Option Addr} {m0 m1 m2 m3 m5 : Option Value}
    (l : K.lookup C = some (excClassObj nm q C N bs bm true sn sub ab col dd m0 m1 m2 m3 m5 "ValueError.__new__")) (r : PySem.HandSPX.refsVE bm = true) (sa : PySem.W.findIn K (.ref C) "__setattr__" = some (some (.builtin "object.__setattr__")))
    (eC : PySem.W.subIn K (.ref C) (.type "BaseException") = some true) (tC : PySem.W.typeIn K (.ref C) = some (.type "type")) (kC : PySem.W.keepIn K (.ref C) = true) : OexC K C :=
  ⟨⟨nm, q, N, bs, bm, sn, sub, ab, col, dd, m0, m1, m2, m3, m5, l, r⟩, sa, eC, tC, kC⟩
/-- an own class that stands in an except clause, and whether the errors of the class at C are of it -/
structure ExmIn (K : PySem.W.Frag) (C D : Addr) (b : Bool) : Prop where
  e : PySem.W.subIn K (.ref D) (.type "BaseException") = some true
  d : PySem.W.hasDictIn K D = true
  t : PySem.W.typeIn K (.ref D) = some (.type "type")
  s : PySem.W.subIn K (.ref C) (.ref D) = some b
theorem exm_three {K : PySem.W.Frag} {C C1 C2 C3 : Addr} {b1 b2 b3 : Bool} (h1 : ExmIn K C C1 b1) (h2 : ExmIn K C C2 b2) (h3 : ExmIn K C C3 b3) (hb : (b1 || (b2 || (b3 || false))) = true) : PySem.W.exmAny K (.ref C) [.ref C1, .ref C2, .ref C3] = some true := by
  have e1 := PySem.W.exm_ref h1.e h1.d h1.t h1.s
  have e2 := PySem.W.exm_ref h2.e h2.d h2.t h2.s
  have e3 := PySem.W.exm_ref h3.e h3.d h3.t h3.s
  simp only [PySem.W.exmAny, e1, e2, e3, hb]
/-- the law's code object -/
structure CodeAt (K : PySem.W.Frag) (c PP : Addr) (vs : Array Value) (dd : Option Addr) (sl : Array (Option Value)) : Prop where
  l : K.lookup c = some ⟨.type "code", dd, .fields vs, sl⟩
  p : vs[11]? = some (.ref PP)
  g : ∃ file tf flags tg inF text tt, vs.getD 11 .none = .ref PP ∧ vs.getD 18 .none = .str file tf ∧ vs.getD 7 .none = .int flags tg ∧ vs.getD 9 .none = .bool inF ∧ vs.getD 10 .none = .int text tt
  n : K.lookup PP = none
theorem CodeAt.hd {K : PySem.W.Frag} {c PP : Addr} {vs : Array Value} {dd : Option Addr} {sl : Array (Option Value)} {h : Heap} (X : K.In h) (C : CodeAt K c PP vs dd sl) : PySem.W.CodeHd h c PP := by
  obtain ⟨file, tf, flags, tg, inF, text, tt, h1, h2, h3, h4, h5⟩ := C.g
  exact ⟨_, vs, file, tf, flags, tg, inF, text, tt, X _ _ C.l, rfl, rfl, C.p, h1, h2, h3, h4, h5, fun e => by
    have z := C.n
    rw [← e, C.l] at z
    cases z⟩
end Ew
namespace Ew
open PySem PySem.Spec PyProof.Rows L2
/-! ## sorted of a tuple of ints -/
section
variable {prog : Program} {w : World} {A : Around} {E : Value → Shared → Prop} {s : Shared}
theorem collect_tup {l : Addr} {vs : List Value} {o : Obj} {m : Nat} {Q : List Value → Shared → Prop} (ho : s.heap.get? l = some o) (hc : o.cls = .type "tuple") (hd : o.data = .seq vs.toArray m) (hsz : vs.length ≤ sizeLine)
    (h : Q vs { s with heap := (s.heap.push (seqObj "list" #[] 0)).update s.heap.objs.size (Obj.mapSeq (· ++ vs.toArray)) }) : wpAny (model prog w) A (collect (.ref l)) Q E s := by
  unfold collect
  refine wpAny_bind (wpAny_runValue (codeAny_builtin entry_proto_collect' ?_))
  show wpAny _ _ (do again (.builtin "list.__iadd__" ⟨[← newList [], .ref l], []⟩)) _ _ s
  refine wpAny_bind (wpAny_newList (wpAny_pure ⟨Code.quiet_builtin _ (by decide +kernel), codeAny_builtin entry_list_iadd' ?_⟩))
  show wpAny _ _ (Builtin.List.listExtendWith (.ref s.heap.objs.size) (.ref l) (.ref s.heap.objs.size)) _ _ { s with heap := s.heap.push (seqObj "list" #[] 0) }
  unfold Builtin.List.listExtendWith
  have hl : (s.heap.push (seqObj "list" #[] 0)).get? l = some o := Heap.get?_push_of_some _ ho
  refine wpAny_bind (wpAny_typeOf (T := "tuple") ⟨o, hl, hc⟩ ?_)
  rw [if_pos (by rw [show (Value.type "tuple" == Value.type "tuple") = true from rfl, Bool.or_true])]
  refine wpAny_bind (listItems_at hl hd ?_)
  refine wpAny_bind (listItems_at (xs := #[]) (n := 0) (Heap.get?_push_size _ rfl) rfl ?_)
  rw [if_neg (by simp)]
  refine wpAny_bind (listUpdate_at (xs := #[]) (n := 0) (Heap.get?_push_size _ rfl) rfl ?_ (Nat.zero_le _) (by show (#[] ++ vs.toArray).size ≤ sizeLine + 1; rw [Array.empty_append, List.size_toArray]; omega))
  refine wpAny_pure ?_
  refine wpAny_bind (wpAny_load (get?_update_seq (Heap.get?_push_size _ rfl) _) ?_)
  show wpAny _ _ (pure ((#[] : Array Value) ++ vs.toArray).toList) Q E _
  rw [Array.empty_append]
  exact wpAny_pure h
theorem sorted_tup {l : Addr} {vs : List Value} {ns : List Int} {o : Obj} {m : Nat} {Q : Value → Shared → Prop} (ho : s.heap.get? l = some o) (hc : o.cls = .type "tuple") (hd : o.data = .seq vs.toArray m) (hI : IntsAre vs ns) (h64 : vs.length < 64)
    (h : ∀ (out : Array Value) (ms : List Int), IntsAre out.toList ms → ms.Perm ns → ms.Pairwise (· ≤ ·) → Q (.ref (s.heap.objs.size + 1)) { s with heap := sortedAll s.heap vs out }) :
    wpAny (model prog w) A (call (.builtin "sorted") [.ref l]) Q E s := by
  refine Calls.call_function_entry kind_sorted plain_sorted entry_sorted (args_sorted1 _) ?_
  unfold Builtin.«sorted»
  refine wpAny_bind (m := checkCount "sorted" 1 1 _) (wpAny_pure ?_)
  have hz : vs.length ≤ sizeLine := by rw [sizeLine_eq]; omega
  refine wpAny_bind (collect_tup ho hc hd hz ?_)
  refine wpAny_bind (wpAny_newList ?_ hz)
  have e1 : ((s.heap.push (seqObj "list" #[] 0)).update s.heap.objs.size (Obj.mapSeq (· ++ vs.toArray))).objs.size = s.heap.objs.size + 1 := (Heap.size_update ..).trans (size_push' ..)
  have g1 : (((s.heap.push (seqObj "list" #[] 0)).update s.heap.objs.size (Obj.mapSeq (· ++ vs.toArray))).push (seqObj "list" vs.toArray 0)).get? (s.heap.objs.size + 1) = some (seqObj "list" vs.toArray 0) := by
    rw [← e1]
    exact Heap.get?_push_size _ rfl
  show wpAny _ _ _ _ _ { s with heap := ((s.heap.push (seqObj "list" #[] 0)).update s.heap.objs.size (Obj.mapSeq (· ++ vs.toArray))).push (seqObj "list" vs.toArray 0) }
  rw [e1]
  refine wpAny_bind (wpAny_holding (wpAny_call_entry slot_list_sort ⟨_, g1, rfl⟩ entry_list_sort (list_sort_tree g1 hI h64 fun out ms a1 a2 a3 => ⟨_, rfl, ?_⟩) (args_list_sort _)))
  exact wpAny_pure ⟨_, rfl, h out ms a1 a2 a3⟩
end
/-- sorted(x), x a list or a tuple of fewer than 64 ints -/
def rSortA (K : PySem.W.Frag) : List V → Hp → VK → Prop := fun vs H Q => ∃ (a : Addr) (ns : List Int), vs = [V.ref a] ∧ (SqL K H a (ns.map V.int) ∨ SqT K H a (ns.map V.int)) ∧ ns.length < 64 ∧
  ∀ (ms : List Int) (p : Addr), ms.Perm ns → ms.Pairwise (· ≤ ·) → H p = none → Q (.ref p) (upd H p (.lst (ms.map V.int)))
theorem cr_sortA {X : Cx} : CallR X (.builtin "sorted") (rSortA X.K) := by
  intro pins s σ H vs us Q I r h
  obtain ⟨a, ns, rfl, hs, h64, q⟩ := h
  rw [Vals.ref1 r]
  have fin : ∀ (its : List Value) (out : Array Value) (ms : List Int), IntsAre out.toList ms → ms.Perm ns → ms.Pairwise (· ≤ ·) → EP X pins σ Q (.ref (s.heap.objs.size + 1)) { s with heap := sortedAll s.heap its out } := fun its out ms h1 h2 h3 => by
    obtain ⟨ep, he⟩ := PyProof.Rows.sortedAll_at s.heap its out
    have hlen : (ms.map V.int).length ≤ sizeLine := by
      rw [List.length_map, h2.length_eq, sizeLine_eq]
      omega
    exact ⟨.ref _, upd H (s.heap.objs.size + 1) (.lst (ms.map V.int)), I.laid (t' := s.toks) (fun _ _ => PyProof.Rows.sortedAll_old) (Nat.le_succ _) ⟨hlen, out.toList, ep, vals_of_ints h1, he⟩, rfl, q ms _ h2 h3 (I.hok.fresh (Nat.le_succ _))⟩
  rcases hs with hs | hs
  · obtain ⟨its, rv, hl, _⟩ := I.list hs
    have hi := rv.ints
    exact PyProof.Rows.sorted_ints hl.isList hi (by rw [hi.length]; exact h64) fun out ms h1 h2 h3 => fin its out ms h1 h2 h3
  · obtain ⟨its, rv, ⟨o, ho, hc, m, hd⟩, _⟩ := I.tuple hs
    have hi := rv.ints
    exact sorted_tup ho hc hd hi (by rw [hi.length]; exact h64) fun out ms h1 h2 h3 => fin its out ms h1 h2 h3
/-! ## how many different ints -/
theorem nodup_le : ∀ {l m : List Int}, l.Nodup → (∀ k ∈ l, k ∈ m) → l.length ≤ m.length
  | [], _, _, _ => Nat.zero_le _
  | a :: l, m, hn, hs => by
    obtain ⟨h1, h2⟩ := List.nodup_cons.mp hn
    have ha : a ∈ m := hs a List.mem_cons_self
    have ih := nodup_le (l := l) (m := m.erase a) h2 fun k hk => (List.mem_erase_of_ne (fun (e : k = a) => h1 (by rw [← e]; exact hk))).mpr (hs k (List.mem_cons_of_mem _ hk))
    rw [List.length_erase_of_mem ha] at ih
    have := List.length_pos_of_mem ha
    show l.length + 1 ≤ m.length
    omega
theorem dup_cut : ∀ {m : List Int}, ¬ m.Nodup → ∃ r : List Int, r.length < m.length ∧ ∀ k ∈ m, k ∈ r
  | [], h => absurd List.nodup_nil h
  | a :: m, h => by
    by_cases ha : a ∈ m
    · exact ⟨m, Nat.lt_succ_self _, fun k hk => (List.mem_cons.mp hk).elim (fun e => e ▸ ha) id⟩
    · obtain ⟨r, h1, h2⟩ := dup_cut (m := m) fun hm => h (List.nodup_cons.mpr ⟨ha, hm⟩)
      exact ⟨a :: r, Nat.succ_lt_succ h1, fun k hk => (List.mem_cons.mp hk).elim (fun e => e ▸ List.mem_cons_self) fun z => List.mem_cons_of_mem _ (h2 k z)⟩
theorem count_iff {l m : List Int} (hn : l.Nodup) (h : ∀ k, k ∈ l ↔ k ∈ m) : l.length = m.length ↔ m.Nodup := by
  constructor
  · intro e
    by_cases hm : m.Nodup
    · exact hm
    · obtain ⟨r, h1, h2⟩ := dup_cut hm
      have := nodup_le hn fun k hk => h2 k ((h k).mp hk)
      omega
  · intro hm
    have h1 := nodup_le hn fun k hk => (h k).mp hk
    have h2 := nodup_le hm fun k hk => (h k).mpr hk
    omega
theorem dedup_spec : ∀ (xs acc : List Int), acc.Nodup → (xs.foldl step_dedup acc).Nodup ∧ ∀ k, k ∈ xs.foldl step_dedup acc ↔ k ∈ acc ∨ k ∈ xs
  | [], acc, h => ⟨h, fun k => by simp⟩
  | x :: xs, acc, h => by
    have e : step_dedup acc x = if acc.any (· == x) then acc else acc ++ [x] := rfl
    by_cases c : x ∈ acc
    · have e2 : step_dedup acc x = acc := by rw [e, if_pos (by simpa using c)]
      obtain ⟨h1, h2⟩ := dedup_spec xs acc h
      rw [List.foldl_cons, e2]
      refine ⟨h1, fun k => (h2 k).trans ?_⟩
      constructor
      · rintro (z | z)
        · exact .inl z
        · exact .inr (List.mem_cons_of_mem _ z)
      · rintro (z | z)
        · exact .inl z
        · rcases List.mem_cons.mp z with q | q
          · exact .inl (q ▸ c)
          · exact .inr q
    · have e2 : step_dedup acc x = acc ++ [x] := by rw [e, if_neg (by simpa using c)]
      have hn : (acc ++ [x]).Nodup := List.nodup_append.mpr ⟨h, by simp, fun a ha b hb z => c (by rw [← List.mem_singleton.mp hb, ← z]; exact ha)⟩
      obtain ⟨h1, h2⟩ := dedup_spec xs (acc ++ [x]) hn
      rw [List.foldl_cons, e2]
      refine ⟨h1, fun k => (h2 k).trans ?_⟩
      rw [List.mem_append, List.mem_singleton, List.mem_cons, or_assoc]
theorem range_getD (ns : List Int) : (List.range ns.length).map (fun i => ns.getD i 0) = ns := by
  apply List.ext_getElem
  · simp
  · intro i h1 h2
    simp [List.getD_eq_getElem?_getD, List.getElem?_eq_getElem h2]
theorem firstMet_iff (ns : List Int) : (firstMet (fun i => ns.getD i 0) ns.length).length = ns.length ↔ ns.Nodup := by
  unfold firstMet
  rw [range_getD]
  obtain ⟨h1, h2⟩ := dedup_spec ns [] List.nodup_nil
  exact count_iff h1 fun k => (h2 k).trans (by simp)
def tLenSetA (K : PySem.W.Frag) (ta : TE) : TE := fun σ H Q => ta σ H fun x G => ∃ (l : Addr) (ns : List Int), x = .ref l ∧ (SqL K G l (ns.map V.int) ∨ SqT K G l (ns.map V.int)) ∧ ns.length ≤ 4000 ∧ ∀ c : Nat, (c = ns.length ↔ ns.Nodup) → Q (.int (c : Int)) G
theorem pe_lenSetA {X : Cx} {a : Expr} {ta : TE} {p p2 q pos : Pos} (hg : Gl X "len") (hm : X.mg "len" = none) (hg2 : Gl X "set") (hm2 : X.mg "set" = none) (ha : PE X a ta) (hc : X.calm = true := by rfl)
    (na : starEach [a] X.env = (false, eval a X.env) :: starEach [] X.env := by rfl) : PE X (.Call (.Name "len" p) [.Call (.Name "set" p2) [a] [] q] [] pos) (tLenSetA X.K ta) := by
  refine ⟨fun pins s σ H Q I h => ?_⟩
  refine Call_ (ld_blt I hg hm boot_len (PyProof.Rows.callWith_builtin1 (PyProof.Rows.args_cons ?_ rfl) rfl rfl))
  refine Call_ (ld_blt I hg2 hm2 boot_set ?_)
  refine PyProof.Rows.callWith_type1 (PyProof.Rows.args_cons (thn (ha.run pins s σ H _ I h) fun v z ⟨x, G, I1, r1, l, ns, ex, hq, hl, k⟩ => PyProof.Rows.args_nil ?_) na) na rfl
  subst ex
  cases r1
  rcases hq with hq | hq
  · obtain ⟨its, r, pl, _⟩ := I1.list hq
    have hlen : its.toArray.size = ns.length := by rw [List.size_toArray, ← r.length, List.length_map]
    refine call_set_list (I1.ok.hd hc) pl.isList (by simpa using r.ints) (by rw [hlen]; unfold scanBound; omega) fun h2 tk hS hk => PyProof.Rows.args_nil ?_
    rw [hlen] at hS
    obtain ⟨o, es, ep, t, ho, hex, hd, _, _, hb, hf, hn⟩ := hS
    have I2 : Inv X pins σ G { z with heap := h2, toks := tk } := I1.kept fun b o e => hk b o (Heap.lt_size e) e
    exact call_len_set ho hex hd hf (by unfold scanBound at hb; omega) ⟨.int (es.size : Nat), G, I2.tok _, ⟨_, rfl⟩, k _ (by rw [hn]; exact firstMet_iff ns)⟩
  · obtain ⟨its, r, pt, _⟩ := I1.tuple hq
    refine call_set_tupI ns (I1.ok.hd hc) (show z.heap.IsTuple l its.toArray from pt) (by simpa using r.ints) (by unfold scanBound; omega) fun h2 tk c R hcn hk => PyProof.Rows.args_nil ?_
    obtain ⟨o, es, ep, t, ho, hex, hd, _, nd, hm3, hb, hf, hn, _⟩ := R
    have I2 : Inv X pins σ G { z with heap := h2, toks := tk } := I1.kept fun b o e => hk b o e
    refine call_len_set ho hex hd hf (by unfold scanBound at hb; omega) ⟨.int (es.size : Nat), G, I2.tok _, ⟨_, rfl⟩, k _ ?_⟩
    have q1 := count_iff nd (m := ns) fun j => (hm3 j).symm.trans (by simp)
    rw [List.length_map, Array.length_toList] at q1
    exact q1
/-! ## len(o) by an own __len__ -/
@[irreducible] def rLenO (C : Addr) (sp : Sp) : List V → Hp → VK → Prop := fun vs H Q => ∃ (a dx : Addr) (fs : List (Str × V)), vs = [.ref a] ∧ H a = some (.ins C dx fs) ∧ sp [.ref a] H (fun v G => ∃ n : Int, v = .int n ∧ 0 ≤ n ∧ n < 9223372036854775808 ∧ Q (.int n) G) E0
theorem cr_lenO {X : Cx} {C f : Addr} {fd : FuncData} {k : Nat} {ps : List Str} {sp : Sp} (hs : PySem.W.findIn X.K (.ref C) "__len__" = some (some (.ref f))) (hf : PySem.W.isFn X.K (.ref f) = true) (F : FnOk X.prog X.w X.K X.mg X.base CX0 k f fd ps sp) (hr : Room (k + 1) X.A) (hb : Binds X.K fd ps []) :
    CallR X (.builtin "len") (rLenO C sp) := by
  intro pins s σ H vs us Q I r h
  unfold rLenO at h
  obtain ⟨a, dx, fs, rfl, ha, hsp⟩ := h
  rw [Vals.ref1 r]
  obtain ⟨mA, O, _⟩ := ins_get I.hok ha
  obtain ⟨od, J, _⟩ := O.look
  obtain ⟨m, fr⟩ := I.fr
  refine PySem.W.len_K fr I.ok.mod.kin J hs hf ?_
  have hl : [Value.ref a].length = ps.length := F.len _ _ _ _ hsp
  have hbs := hb s [.ref a] I.kIn (by rw [List.append_nil]; exact hl)
  rw [List.append_nil] at hbs
  refine wpAny_call (codeAny_mono (F.run X.A.in1 X.stack s H ⟨[.ref a], []⟩ [.ref a] [.ref a] _ _ hr.in1 I.env0.in1 hbs (.cons rfl .nil) hsp) fun res z hq => ?_)
  cases res with
  | error er => exact (show False from hq).elim
  | ok fl =>
    cases fl with
    | ret u =>
      obtain ⟨v, G, J2, rv, n, ev, n0, n1, q⟩ := I.after hq
      subst ev
      obtain ⟨t, rfl⟩ := rv
      exact ⟨⟨n0, by have : (2 : Int) ^ 63 = 9223372036854775808 := by decide
                     omega⟩, .int n, G, J2.tok _, ⟨_, rfl⟩, q⟩
    | next => exact hq.elim
    | brk => exact hq.elim
    | cont => exact hq.elim
end Ew
namespace Ew
open PySem PySem.Spec PyProof.Rows L2
/-! ## the mathematics of digit sets; s ascends -/
def firstI (s : List Int) : Int := s.getD 0 0
def lastI (s : List Int) : Int := s.getD (s.length - 1) 0
structure AreS (b : Int) (s : List Int) : Prop where
  l2 : 2 ≤ s.length
  l24 : s.length ≤ 24
  nd : s.Nodup
  lo : -99 ≤ firstI s
  hi : lastI s ≤ 99
  gap : ∀ i, i + 1 < s.length → (s.getD (i + 1) 0 - s.getD i 0) * (b - 1) ≤ lastI s - firstI s
open Classical in
noncomputable def areB (b : Int) (s : List Int) : Bool := decide (AreS b s)
open Classical in
theorem areB_t {b : Int} {s : List Int} (h : AreS b s) : areB b s = true := by unfold areB; exact decide_eq_true h
open Classical in
theorem areB_f {b : Int} {s : List Int} (h : ¬ AreS b s) : areB b s = false := by unfold areB; exact decide_eq_false h
open Classical in
theorem areB_of {b : Int} {s : List Int} (h : areB b s = true) : AreS b s := by unfold areB at h; exact of_decide_eq_true h
/-- the ascending list of the same ints -/
def srt (s : List Int) : List Int := s.mergeSort (fun a b => decide (a ≤ b))
theorem srt_perm (s : List Int) : (srt s).Perm s := List.mergeSort_perm s _
theorem srt_asc (s : List Int) : (srt s).Pairwise (· ≤ ·) := by
  have h := List.pairwise_mergeSort (le := fun a b : Int => decide (a ≤ b)) (fun a b c h1 h2 => by simp at *; omega) (fun a b => by simp; omega) s
  exact h.imp fun h => by simpa using h
theorem srt_eq {m s : List Int} (hp : m.Perm s) (ha : m.Pairwise (· ≤ ·)) : m = srt s := PySem.W.ksm_same (hp.trans (srt_perm s).symm) ha (srt_asc s)
theorem srt_same {m s : List Int} (hp : m.Perm s) : srt m = srt s := srt_eq ((srt_perm m).trans hp) (srt_asc m)
theorem srt_len (s : List Int) : (srt s).length = s.length := (srt_perm s).length_eq
theorem getD_at {s : List Int} {i : Nat} (h : i < s.length) : s[i]? = some (s.getD i 0) := by
  rw [List.getD_eq_getElem?_getD, List.getElem?_eq_getElem h]
  rfl
theorem ints_at {s : List Int} {i : Nat} (h : i < s.length) : (s.map V.int)[i]? = some (.int (s.getD i 0)) := by
  rw [List.getElem?_map, getD_at h]
  rfl
theorem at_int {s : List Int} {z : Int} {i : Nat} (e : z = (i : Int)) (h : i < s.length) : atI (s.map V.int) z = some (.int (s.getD i 0)) := at_of e (ints_at h)
theorem at_first {s : List Int} (h : 0 < s.length) : atI (s.map V.int) 0 = some (.int (firstI s)) := at_int (i := 0) rfl h
theorem at_last {s : List Int} (h : 0 < s.length) : atI (s.map V.int) (-1) = some (.int (lastI s)) := by
  unfold atI ixN
  rw [List.length_map, if_neg (by decide), if_pos (by omega)]
  have e : ((-1 : Int) + (s.length : Int)).toNat = s.length - 1 := by omega
  rw [e]
  exact ints_at (by omega)
theorem asc_le {s : List Int} (h : s.Pairwise (· ≤ ·)) {i j : Nat} (hij : i ≤ j) (hj : j < s.length) : s.getD i 0 ≤ s.getD j 0 := PyProof.Rows.sorted_getD_le h hij hj
theorem first_le_last {s : List Int} (h : s.Pairwise (· ≤ ·)) (hl : 0 < s.length) : firstI s ≤ lastI s := asc_le h (Nat.zero_le _) (by omega)
theorem cut_tail (xs : List V) : cutV xs (some 1) none = xs.drop 1 := by
  unfold cutV
  have e := HT.sIx_nat xs.length 0 1
  rw [show (some (1 : Int)) = some ((1 : Nat) : Int) from rfl, e, HT.sIx_none]
  by_cases h : 1 ≤ xs.length
  · rw [Nat.min_eq_left h, List.take_of_length_le (by rw [List.length_drop]; omega)]
  · have z : xs = [] := List.eq_nil_of_length_eq_zero (by omega)
    subst z
    rfl
theorem walk_zipM {K : PySem.W.Frag} {a b : Addr} {xs ys : List V} {n : Nat} (hn : n = min xs.length ys.length) : Walk (RZ.ItzT K a b) n (fun H => SqT K H a xs ∧ SqT K H b ys) (YPair (fun i => xs[i]?) (fun i => ys[i]?)) :=
  ⟨fun i H hi q => ⟨xs, ys, xs[i]'(by omega), ys[i]'(by omega), q.1, q.2, List.getElem?_eq_getElem _, List.getElem?_eq_getElem _⟩, fun H q => ⟨xs, ys, q.1, q.2, by omega⟩,
    fun i H x G hi q ⟨T, u, v, e1, e2, e3, e4, e5⟩ => ⟨T, u, v, e1, e2, e3, e4 xs q.1, e5 ys q.2⟩⟩
/-- the gaps of s -/
def gapL (s : List Int) : List Int := (List.range (s.length - 1)).map fun i => s.getD (i + 1) 0 - s.getD i 0
theorem gapL_mem {s : List Int} {g : Int} : g ∈ gapL s ↔ ∃ i, i + 1 < s.length ∧ g = s.getD (i + 1) 0 - s.getD i 0 := by
  unfold gapL
  rw [List.mem_map]
  constructor
  · rintro ⟨i, hi, rfl⟩
    exact ⟨i, by have := List.mem_range.mp hi; omega, rfl⟩
  · rintro ⟨i, hi, rfl⟩
    exact ⟨i, List.mem_range.mpr (by omega), rfl⟩
theorem gapL_len (s : List Int) : (gapL s).length = s.length - 1 := by unfold gapL; simp
/-- by the widest gap -/
theorem gap_iff {b m : Int} {s : List Int} (hb : 2 ≤ b) (hm : m ∈ gapL s) (hg : ∀ g ∈ gapL s, g ≤ m) : m * (b - 1) ≤ lastI s - firstI s ↔ ∀ i, i + 1 < s.length → (s.getD (i + 1) 0 - s.getD i 0) * (b - 1) ≤ lastI s - firstI s := by
  constructor
  · intro h i hi
    have h1 := hg _ (gapL_mem.mpr ⟨i, hi, rfl⟩)
    exact Int.le_trans (Int.mul_le_mul_of_nonneg_right h1 (by omega)) h
  · intro h
    obtain ⟨i, hi, rfl⟩ := gapL_mem.mp hm
    exact h i hi
theorem mul_smallR {i j : Int} (h0 : -9223372036854775808 < j) (h1 : j < 9223372036854775808) : CMul i j := by
  have e : (2 : Int) ^ 64 = 18446744073709551616 := by decide
  refine .inr ⟨?_, ?_⟩
  · rw [e]; omega
  · rw [e]; omega
/-! ## all but p stays -/
def KeepBut (p : Addr) (H G : Hp) : Prop := ∀ c o, H c = some o → c ≠ p → G c = some o
theorem KeepBut.refl (p : Addr) (H : Hp) : KeepBut p H H := fun _ _ h _ => h
theorem KeepBut.trans {p : Addr} {H G G2 : Hp} (a : KeepBut p H G) (b : KeepBut p G G2) : KeepBut p H G2 := fun c o h n => b c o (a c o h n) n
theorem KeepBut.of {p : Addr} {H G : Hp} (e : Same H G) : KeepBut p H G := fun c o h _ => e c o h
theorem KeepBut.put {p : Addr} {H : Hp} {o : HO} : KeepBut p H (upd H p o) := fun c u h n => by rw [upd_ne n]; exact h
theorem KeepBut.new {p d : Addr} {H : Hp} {o : HO} (h : H d = none) : KeepBut p H (upd H d o) := KeepBut.of (same_upd (Same.refl H) h)
theorem RngAt.free {H : Hp} {p q : Addr} {ns : List Int} {i v sd : Int} (R : RngAt H p q ns i v sd) {d : Addr} (h : H d = none) : d ≠ p := fun e => by
  have z := R.at_p
  rw [← e, h] at z
  cases z
theorem KeepBut.free {p d : Addr} {H G : Hp} (e : KeepBut p H G) (n : d ≠ p) (h : G d = none) : H d = none := by
  cases z : H d with
  | none => rfl
  | some o =>
    have q := e d o z n
    rw [h] at q
    cases q
/-! ## the digits that a law draws -/
structure Dig (b : Int) (ds : List Int) : Prop where
  are : AreS b ds
  asc : ds.Pairwise (· < ·)
theorem asc_le_of {ds : List Int} (h : ds.Pairwise (· < ·)) : ds.Pairwise (· ≤ ·) := h.imp fun h => Int.le_of_lt h
theorem nodup_of {ds : List Int} (h : ds.Pairwise (· < ·)) : ds.Nodup := h.imp fun h => Int.ne_of_lt h
theorem srt_self {ds : List Int} (h : ds.Pairwise (· < ·)) : srt ds = ds := (srt_eq (List.Perm.refl ds) (asc_le_of h)).symm
def runL (front : Int) (n : Nat) : List Int := (List.range n).map fun (i : Nat) => front + (i : Int)
theorem runL_len (front : Int) (n : Nat) : (runL front n).length = n := by unfold runL; simp
theorem runL_at {front : Int} {n i : Nat} (h : i < n) : (runL front n).getD i 0 = front + (i : Int) := by
  unfold runL
  rw [List.getD_eq_getElem?_getD, List.getElem?_map, List.getElem?_range h]
  rfl
theorem runL_asc (front : Int) (n : Nat) : (runL front n).Pairwise (· < ·) := by
  unfold runL
  rw [List.pairwise_map]
  exact List.pairwise_lt_range.imp fun h => by omega
theorem runL_mem {front d : Int} {n : Nat} (h : d ∈ runL front n) : front ≤ d ∧ d < front + (n : Int) := by
  unfold runL at h
  obtain ⟨i, hi, rfl⟩ := List.mem_map.mp h
  have := List.mem_range.mp hi
  omega
theorem runL_dig {b front : Int} {n : Nat} (h2 : 2 ≤ b) (hb : b ≤ (n : Int)) (hn : n ≤ 24) (f0 : -99 ≤ front) (f1 : front + (n : Int) ≤ 100) : Dig b (runL front n) := by
  refine ⟨⟨by rw [runL_len]; omega, by rw [runL_len]; exact hn, nodup_of (runL_asc front n), ?_, ?_, ?_⟩, runL_asc front n⟩
  · unfold firstI
    rw [runL_at (by omega)]
    omega
  · unfold lastI
    rw [runL_len, runL_at (by omega)]
    omega
  · intro i hi
    rw [runL_len] at hi
    unfold lastI firstI
    rw [runL_len, runL_at hi, runL_at (by omega), runL_at (by omega), runL_at (by omega)]
    have e : front + ((i + 1 : Nat) : Int) - (front + (i : Int)) = 1 := by omega
    rw [e, Int.one_mul]
    omega
theorem getD_mem {ds : List Int} {i : Nat} (h : i < ds.length) : ds.getD i 0 ∈ ds := List.mem_of_getElem? (getD_at h)
theorem map_getD {ds : List Int} {f : Int → Int} {i : Nat} (h : i < ds.length) : (ds.map f).getD i 0 = f (ds.getD i 0) := by
  rw [List.getD_eq_getElem?_getD, List.getElem?_map, getD_at h]
  rfl
theorem scale_dig {b u : Int} {ds : List Int} (h : Dig b ds) (hu : u = 1 ∨ u = 2) (hr : ∀ d ∈ ds, -40 ≤ d ∧ d ≤ 40) : Dig b (ds.map (· * u)) := by
  have a := h.are
  have l0 : 0 < ds.length := by have := a.l2; omega
  have m0 := hr _ (getD_mem l0)
  have m1 := hr _ (getD_mem (show ds.length - 1 < ds.length by omega))
  have asc : (ds.map (· * u)).Pairwise (· < ·) := by
    rw [List.pairwise_map]
    exact h.asc.imp fun z => by rcases hu with rfl | rfl <;> omega
  refine ⟨⟨by rw [List.length_map]; exact a.l2, by rw [List.length_map]; exact a.l24, nodup_of asc, ?_, ?_, ?_⟩, asc⟩
  · unfold firstI
    rw [map_getD l0]
    rcases hu with rfl | rfl <;> omega
  · unfold lastI
    rw [List.length_map, map_getD (by omega)]
    rcases hu with rfl | rfl <;> omega
  · intro i hi
    rw [List.length_map] at hi
    have g := a.gap i hi
    unfold lastI firstI at g ⊢
    rw [List.length_map, map_getD hi, map_getD (by omega), map_getD (by omega), map_getD l0]
    rcases hu with rfl | rfl
    · simpa using g
    · have e : (ds.getD (i + 1) 0 * 2 - ds.getD i 0 * 2) * (b - 1) = 2 * ((ds.getD (i + 1) 0 - ds.getD i 0) * (b - 1)) := by
        rw [← Int.sub_mul, Int.mul_comm _ 2, Int.mul_assoc]
      rw [e]
      omega
theorem erase_asc {ds : List Int} (h : ds.Pairwise (· < ·)) (k : Nat) : (ds.eraseIdx k).Pairwise (· < ·) := h.sublist (List.eraseIdx_sublist ds k)
theorem erase_mem {ds : List Int} {d : Int} {k : Nat} (h : d ∈ ds.eraseIdx k) : d ∈ ds := (List.eraseIdx_sublist ds k).subset h
theorem map_erase : ∀ (ds : List Int) (k : Nat), (ds.map V.int).eraseIdx k = (ds.eraseIdx k).map V.int
  | [], _ => rfl
  | _ :: _, 0 => rfl
  | a :: l, k + 1 => by
    show V.int a :: (l.map V.int).eraseIdx k = V.int a :: (l.eraseIdx k).map V.int
    rw [map_erase l k]
theorem seqIx {r : Int} {n : Nat} (h0 : 0 ≤ r) (h1 : r < (n : Int)) : seqIndex? r n = some r.toNat := by
  unfold seqIndex?
  have e : ¬ r < 0 := by omega
  simp only [if_neg e]
  rw [if_pos (by simp [h0, h1])]
theorem erase_perm : ∀ (l : List Int) (k : Nat), k < l.length → (l.getD k 0 :: l.eraseIdx k).Perm l
  | [], k, h => absurd h (Nat.not_lt_zero k)
  | _ :: _, 0, _ => List.Perm.refl _
  | a :: l, k + 1, h => (List.Perm.swap a (l.getD k 0) (l.eraseIdx k)).trans ((erase_perm l k (Nat.lt_of_succ_lt_succ h)).cons a)
/-! ## ints as data -/
theorem layInts : ∀ ds : List Int, PyData.canLayAll0 (ds.map PyData.int) = true
  | [] => by simp [PyData.canLayAll0]
  | d :: ds => by
    have := layInts ds
    simp [PyData.canLayAll0, PyData.canLay0]
    simpa using this
theorem depInts : ∀ ds : List Int, PyData.depthAll (ds.map PyData.int) ≤ 1
  | [] => by simp [PyData.depthAll]
  | d :: ds => by
    have := depInts ds
    simp only [List.map_cons, PyData.depthAll, PyData.depth]
    omega
theorem shapedInts (ds : List Int) : SeqAt.shaped (.list (ds.map PyData.int)) = true := by
  unfold SeqAt.shaped
  have h1 : (PyData.list (ds.map PyData.int)).canLay0 = true := by
    have := layInts ds
    simpa [PyData.canLay0] using this
  have h2 : (PyData.list (ds.map PyData.int)).depth ≤ 64 := by
    have := depInts ds
    simp only [PyData.depth]
    omega
  rw [h1, decide_eq_true h2]
  rfl
theorem eqvInts (ds : List Int) : PyData.eqv (.list (ds.map PyData.int)) (.list (ds.map PyData.int)) = true := SeqAt.eqv_refl _ (SeqAt.canLay_of_shaped (shapedInts ds))
theorem dpInts {K : PySem.W.Frag} {H : Hp} : ∀ ds : List Int, DpAll K H (ds.map V.int) (ds.map PyData.int)
  | [] => .nil
  | d :: ds => .cons (.int d) (dpInts ds)
/-- tuple(x) -/
def rTup (K : PySem.W.Frag) : List V → Hp → VK → Prop := fun xs H Q => ∃ p ys, xs = [.ref p] ∧ ((SqL K H p ys ∧ ∀ l, H l = none → Q (.ref l) (upd H l (.tup ys))) ∨ (SqT K H p ys ∧ Q (.ref p) H))
theorem cr_tup {X : Cx} : CallR X (.type "tuple") (rTup X.K) := call_tuple_of
theorem same_three {K : PySem.W.Frag} {G : Hp} {n : Nat} {s t : Addr} {x0 x1 x2 y0 y1 y2 : V} (hs : G s = some (.lst [x0, x1, x2])) (ht : G t = some (.lst [y0, y1, y2])) (h0 : SameN K G n x0 y0) (h1 : SameN K G n x1 y1) (h2 : SameN K G n x2 y2) : SameN K G (n + 1) (.ref s) (.ref t) := by
  refine .inr ⟨s, t, _, _, rfl, rfl, .inl ⟨SqL.of hs, SqL.of ht⟩, rfl, (by show 3 ≤ 1000; decide), fun i u v hu hv => ?_⟩
  match i, hu, hv with
  | 0, hu, hv => cases hu; cases hv; exact h0
  | 1, hu, hv => cases hu; cases hv; exact h1
  | 2, hu, hv => cases hu; cases hv; exact h2
  | i + 3, hu, hv => cases hu
theorem same_ints {K : PySem.W.Frag} {G : Hp} {n : Nat} {s t : Addr} {ds : List Int} (hs : G s = some (.tup (ds.map V.int))) (ht : G t = some (.tup (ds.map V.int))) (hl : ds.length ≤ 1000) : SameN K G (n + 2) (.ref s) (.ref t) := by
  refine .inr ⟨s, t, _, _, rfl, rfl, .inr ⟨SqT.of hs, SqT.of ht⟩, rfl, by rw [List.length_map]; exact hl, fun i u v hu hv => ?_⟩
  obtain ⟨c, rfl⟩ := map_int_at hu
  rw [hu] at hv
  cases hv
  exact .inl ⟨rfl, rfl⟩
theorem noneBase : NoneTag "InvalidBase" := ⟨by decide +kernel, by decide +kernel, by decide +kernel, by decide +kernel, by decide +kernel, by decide +kernel⟩
theorem noneDigits : NoneTag "InvalidDigits" := ⟨by decide +kernel, by decide +kernel, by decide +kernel, by decide +kernel, by decide +kernel, by decide +kernel⟩
theorem KeepBut.keep {p : Addr} {H G : Hp} {xs : List V} (h : H p = some (.lst xs)) (e : KeepBut p H G) : Keep H G := fun b o hb n => e b o hb fun z => n xs (Option.some.inj (hb.symm.trans (by rw [z]; exact h)))
theorem KeepBut.tabs {T : List (Addr × Str)} {p : Addr} {H G : Hp} {xs : List V} (h : H p = some (.lst xs)) (e : KeepBut p H G) (t : LamX.Tabs T H) : LamX.Tabs T G := (e.keep h).tabs t
end Ew
namespace Ew
open PySem PySem.Spec PyProof.Rows L2
/-! ## fractions in lowest terms -/
structure Low (n d : Int) : Prop where
  cop : Nat.gcd n.natAbs d.natAbs = 1
  pos : 0 < d
theorem gcdI_dvd_left (a b : Int) : ∃ n : Int, a = n * gcdI a b := by
  obtain ⟨k, hk⟩ := Nat.gcd_dvd_left a.natAbs b.natAbs
  unfold gcdI
  rcases Int.natAbs_eq a with e | e
  · exact ⟨(k : Int), by rw [e, Int.natAbs_natCast]; rw [← Int.natCast_mul, Nat.mul_comm, ← hk]⟩
  · refine ⟨-(k : Int), ?_⟩
    have h2 : (a.natAbs : Int) = (k : Int) * ((Nat.gcd a.natAbs b.natAbs : Nat) : Int) := by rw [← Int.natCast_mul, Nat.mul_comm, ← hk]
    rw [Int.neg_mul, ← h2]
    exact e
theorem gcdI_comm (a b : Int) : gcdI a b = gcdI b a := by unfold gcdI; rw [Nat.gcd_comm]
theorem fr_spec (a : Int) {b : Int} (hb : b ≠ 0) : Low (frN a b) (frD a b) ∧ frN a b * b = a * frD a b := by
  have gp := gcdI_pos (a := a) hb
  obtain ⟨n, hn⟩ := gcdI_dvd_left a b
  obtain ⟨d, hd⟩ := gcdI_dvd_left b a
  rw [gcdI_comm b a] at hd
  have g0 : gcdI a b ≠ 0 := by omega
  have cop : Nat.gcd n.natAbs d.natAbs = 1 := by
    have e1 : a.natAbs = n.natAbs * (gcdI a b).natAbs := by rw [← Int.natAbs_mul, ← hn]
    have e2 : b.natAbs = d.natAbs * (gcdI a b).natAbs := by rw [← Int.natAbs_mul, ← hd]
    have e3 : (gcdI a b).natAbs = Nat.gcd a.natAbs b.natAbs := by unfold gcdI; exact Int.natAbs_natCast _
    have e4 : Nat.gcd (n.natAbs * (gcdI a b).natAbs) (d.natAbs * (gcdI a b).natAbs) = Nat.gcd n.natAbs d.natAbs * (gcdI a b).natAbs := Nat.gcd_mul_right _ _ _
    rw [← e1, ← e2, ← e3] at e4
    have e5 : 0 < (gcdI a b).natAbs := by omega
    have e6 : 1 * (gcdI a b).natAbs = Nat.gcd n.natAbs d.natAbs * (gcdI a b).natAbs := by rw [Nat.one_mul]; exact e4
    exact (Nat.eq_of_mul_eq_mul_right e5 e6).symm
  by_cases c : b < 0
  · have e1 : frN a b = -n := by
      unfold frN
      rw [if_pos c]
      have : -a = -n * gcdI a b := by rw [Int.neg_mul, ← hn]
      rw [this, Int.mul_ediv_cancel _ g0]
    have e2 : frD a b = -d := by
      unfold frD
      rw [if_pos c]
      have : -b = -d * gcdI a b := by rw [Int.neg_mul, ← hd]
      rw [this, Int.mul_ediv_cancel _ g0]
    rw [e1, e2]
    refine ⟨⟨by rw [Int.natAbs_neg, Int.natAbs_neg]; exact cop, ?_⟩, ?_⟩
    · rcases Int.lt_or_le 0 (-d) with z | z
      · exact z
      · exfalso
        have : 0 ≤ d * gcdI a b := Int.mul_nonneg (by omega) (by omega)
        omega
    · calc -n * b = -(n * b) := Int.neg_mul n b
        _ = -(n * (d * gcdI a b)) := by rw [← hd]
        _ = -((n * gcdI a b) * d) := by congr 1; ac_rfl
        _ = -(a * d) := by rw [← hn]
        _ = a * -d := (Int.mul_neg a d).symm
  · have e1 : frN a b = n := by
      unfold frN
      rw [if_neg c]
      conv => lhs; lhs; rw [hn]
      exact Int.mul_ediv_cancel _ g0
    have e2 : frD a b = d := by
      unfold frD
      rw [if_neg c]
      conv => lhs; lhs; rw [hd]
      exact Int.mul_ediv_cancel _ g0
    rw [e1, e2]
    refine ⟨⟨cop, ?_⟩, ?_⟩
    · rcases Int.lt_or_le 0 d with z | z
      · exact z
      · exfalso
        have : d * gcdI a b ≤ 0 := Int.mul_nonpos_of_nonpos_of_nonneg z (by omega)
        omega
    · calc n * b = n * (d * gcdI a b) := by rw [← hd]
        _ = (n * gcdI a b) * d := by ac_rfl
        _ = a * d := by rw [← hn]
theorem low_uniq {n d m e : Int} (h1 : Low n d) (h2 : Low m e) (h : n * e = m * d) : n = m ∧ d = e := by
  have hn : n.natAbs * e.natAbs = m.natAbs * d.natAbs := by rw [← Int.natAbs_mul, ← Int.natAbs_mul, h]
  have d1 : d.natAbs ∣ e.natAbs := by
    have : d.natAbs ∣ n.natAbs * e.natAbs := ⟨m.natAbs, by rw [hn, Nat.mul_comm]⟩
    exact Nat.Coprime.dvd_of_dvd_mul_left (Nat.Coprime.symm h1.cop) this
  have d2 : e.natAbs ∣ d.natAbs := by
    have : e.natAbs ∣ m.natAbs * d.natAbs := ⟨n.natAbs, by rw [← hn, Nat.mul_comm]⟩
    exact Nat.Coprime.dvd_of_dvd_mul_left (Nat.Coprime.symm h2.cop) this
  have de := Nat.dvd_antisymm d1 d2
  have p1 := h1.pos
  have p2 := h2.pos
  have e1 : d = e := by omega
  subst e1
  exact ⟨Int.eq_of_mul_eq_mul_right (by omega) h, rfl⟩
theorem fr_eq {a b c d : Int} (hb : b ≠ 0) (hd : d ≠ 0) (h : a * d = c * b) : frN a b = frN c d ∧ frD a b = frD c d := by
  obtain ⟨l1, e1⟩ := fr_spec a hb
  obtain ⟨l2, e2⟩ := fr_spec c hd
  refine low_uniq l1 l2 ?_
  refine Int.eq_of_mul_eq_mul_right (a := b * d) (Int.mul_ne_zero hb hd) ?_
  calc frN a b * frD c d * (b * d) = (frN a b * b) * (frD c d * d) := by ac_rfl
    _ = (a * frD a b) * (frD c d * d) := by rw [e1]
    _ = (a * d) * (frD a b * frD c d) := by ac_rfl
    _ = (c * b) * (frD a b * frD c d) := by rw [h]
    _ = (c * frD c d) * (frD a b * b) := by ac_rfl
    _ = (frN c d * d) * (frD a b * b) := by rw [e2]
    _ = frN c d * frD a b * (b * d) := by ac_rfl
/-! ## rows -/
def rowN (b : Int) (rs : List Int) : Int := rs.foldl (fun t d => t * b + d) 0
theorem rowN_snoc (b : Int) (rs : List Int) (d : Int) : rowN b (rs ++ [d]) = rowN b rs * b + d := by unfold rowN; rw [List.foldl_append]; rfl
theorem take_snoc {rs : List Int} {i : Nat} (h : i < rs.length) : rs.take (i + 1) = rs.take i ++ [rs.getD i 0] := by
  rw [List.take_add_one, Ew.getD_at h]
  rfl
theorem pow_nat (b : Int) (n : Nat) : (b ^ n).natAbs = b.natAbs ^ n := Int.natAbs_pow b n
theorem pow_small {b : Int} {n : Nat} (h2 : 2 ≤ b) (h10 : b ≤ 10) (hn : n ≤ 1000) : (b ^ n).natAbs < 2 ^ 8000 := by
  rw [pow_nat]
  have h1 : b.natAbs ^ n ≤ (2 ^ 4) ^ n := Nat.pow_le_pow_left (by omega) n
  rw [← Nat.pow_mul] at h1
  exact Nat.lt_of_le_of_lt h1 (Nat.pow_lt_pow_right (by decide) (by omega))
theorem pow_pos' {b : Int} (h2 : 2 ≤ b) (n : Nat) : b ^ n ≠ 0 := by
  have : 0 < b ^ n := Int.pow_pos (by omega)
  omega
/-- rs is a row of the digits s -/
structure HasR (s rs : List Int) : Prop where
  len : rs.length ≤ 200
  mem : ∀ d ∈ rs, d ∈ s
open Classical in
noncomputable def hasB (s rs : List Int) : Bool := decide (HasR s rs)
open Classical in
theorem hasB_t {s rs : List Int} (h : HasR s rs) : hasB s rs = true := by unfold hasB; exact decide_eq_true h
open Classical in
theorem hasB_f {s rs : List Int} (h : ¬ HasR s rs) : hasB s rs = false := by unfold hasB; exact decide_eq_false h
theorem flatInts (s : List Int) : (s.map V.int).all flatV = true := by
  rw [List.all_eq_true]
  intro x hx
  obtain ⟨d, _, rfl⟩ := List.mem_map.mp hx
  rfl
theorem inInts (d : Int) (s : List Int) : inV (.int d) (s.map V.int) = decide (d ∈ s) := by
  unfold inV
  by_cases h : d ∈ s
  · rw [decide_eq_true h, List.any_eq_true]
    exact ⟨.int d, List.mem_map.mpr ⟨d, h, rfl⟩, by simp [eqV]⟩
  · rw [decide_eq_false h, Bool.eq_false_iff]
    intro z
    obtain ⟨x, hx, e⟩ := List.any_eq_true.mp z
    obtain ⟨c, hc, rfl⟩ := List.mem_map.mp hx
    have : c = d := by simpa [eqV] using e
    exact h (this ▸ hc)
end Ew
namespace Ew
open PySem PySem.Spec PyProof.Rows L2
theorem pow9 {b : Int} {n : Nat} (h2 : 2 ≤ b) (h10 : b ≤ 10) (hn : n ≤ 9) : 0 < b ^ n ∧ b ^ n ≤ 1000000000 := by
  refine ⟨Int.pow_pos (by omega), ?_⟩
  have h1 : b.natAbs ^ n ≤ 10 ^ n := Nat.pow_le_pow_left (by omega) n
  have h2' : 10 ^ n ≤ 10 ^ 9 := Nat.pow_le_pow_right (by decide) hn
  have h3 : (b ^ n).natAbs ≤ 10 ^ 9 := by rw [Int.natAbs_pow]; omega
  have h4 : (10 : Nat) ^ 9 = 1000000000 := by decide
  omega
theorem rowN_le {b : Int} (h2 : 2 ≤ b) : ∀ (n : Nat) (rs : List Int), rs.length = n → (∀ d ∈ rs, -99 ≤ d ∧ d ≤ 99) → rowN b rs ≤ 100 * (b ^ n - 1) ∧ -(100 * (b ^ n - 1)) ≤ rowN b rs
  | 0, rs, hl, _ => by
    have : rs = [] := List.eq_nil_of_length_eq_zero hl
    subst this
    simp [rowN]
  | n + 1, rs, hl, hd => by
    have e := take_snoc (rs := rs) (i := n) (by omega)
    rw [List.take_of_length_le (by omega)] at e
    have l1 : (rs.take n).length = n := by rw [List.length_take]; omega
    have ih := rowN_le h2 n (rs.take n) l1 fun d h => hd d (List.mem_of_mem_take h)
    have hm : rs.getD n 0 ∈ rs := by
      rw [List.getD_eq_getElem?_getD, List.getElem?_eq_getElem (by omega : n < rs.length)]
      exact List.getElem_mem _
    have hx := hd _ hm
    rw [e, rowN_snoc, Int.pow_succ]
    generalize rowN b (rs.take n) = t at ih
    have eq : 100 * (b ^ n * b - 1) = 100 * (b ^ n - 1) * b + (100 * b - 100) := by rw [Int.mul_sub, Int.mul_sub, Int.sub_mul, Int.mul_assoc]; omega
    generalize 100 * (b ^ n - 1) = c at ih eq
    rw [eq]
    have u1 : t * b ≤ c * b := Int.mul_le_mul_of_nonneg_right ih.1 (by omega)
    have u2 : (-c) * b ≤ t * b := Int.mul_le_mul_of_nonneg_right ih.2 (by omega)
    rw [Int.neg_mul] at u2
    omega
theorem frN_le {a b : Int} (hb : 0 < b) : (frN a b).natAbs ≤ a.natAbs ∧ (frD a b).natAbs ≤ b.natAbs := by
  unfold frN frD
  rw [if_neg (by omega), if_neg (by omega)]
  exact ⟨Int.natAbs_ediv_le_natAbs _ _, Int.natAbs_ediv_le_natAbs _ _⟩
theorem sum_step {b d : Int} {i : Nat} (h2 : 2 ≤ b) (R : Int) :
    frN (frN R (b ^ i) * frD d (b ^ (i + 1)) + frN d (b ^ (i + 1)) * frD R (b ^ i)) (frD R (b ^ i) * frD d (b ^ (i + 1))) = frN (R * b + d) (b ^ (i + 1)) ∧
    frD (frN R (b ^ i) * frD d (b ^ (i + 1)) + frN d (b ^ (i + 1)) * frD R (b ^ i)) (frD R (b ^ i) * frD d (b ^ (i + 1))) = frD (R * b + d) (b ^ (i + 1)) := by
  obtain ⟨l1, e1⟩ := fr_spec R (pow_pos' h2 i)
  obtain ⟨l2, e2⟩ := fr_spec d (pow_pos' h2 (i + 1))
  have p1 := l1.pos
  have p2 := l2.pos
  refine fr_eq (Int.mul_ne_zero (by omega) (by omega)) (pow_pos' h2 _) ?_
  have ep : b ^ (i + 1) = b ^ i * b := Int.pow_succ b i
  generalize frN R (b ^ i) = N at *
  generalize frD R (b ^ i) = D at *
  generalize frN d (b ^ (i + 1)) = N' at *
  generalize frD d (b ^ (i + 1)) = D' at *
  calc (N * D' + N' * D) * b ^ (i + 1) = N * D' * b ^ (i + 1) + (N' * b ^ (i + 1)) * D := by rw [Int.add_mul]; congr 1; ac_rfl
    _ = (N * b ^ i) * (b * D') + (N' * b ^ (i + 1)) * D := by congr 1; rw [ep]; ac_rfl
    _ = (R * D) * (b * D') + (d * D') * D := by rw [e1, e2]
    _ = (R * b + d) * (D * D') := by rw [Int.add_mul]; congr 1 <;> ac_rfl
theorem fr_zero (b : Int) : frN (rowN b []) (b ^ 0) = 0 ∧ frD (rowN b []) (b ^ 0) = 1 := by
  rw [Int.pow_zero, show rowN b [] = 0 from rfl]
  exact ⟨by decide, by decide⟩
theorem shapedTup (ds : List Int) : SeqAt.shaped (.tuple (ds.map PyData.int)) = true := by
  unfold SeqAt.shaped
  have h1 : (PyData.tuple (ds.map PyData.int)).canLay0 = true := by
    have := layInts ds
    simpa [PyData.canLay0] using this
  have h2 : (PyData.tuple (ds.map PyData.int)).depth ≤ 64 := by
    have := depInts ds
    simp only [PyData.depth]
    omega
  rw [h1, decide_eq_true h2]
  rfl
theorem eqvTup (ds : List Int) : PyData.eqv (.tuple (ds.map PyData.int)) (.tuple (ds.map PyData.int)) = true := SeqAt.eqv_refl _ (SeqAt.canLay_of_shaped (shapedTup ds))
theorem dig_le {b : Int} {ds : List Int} (h : Dig b ds) : ∀ d ∈ ds, -99 ≤ d ∧ d ≤ 99 := by
  intro d hd
  obtain ⟨i, hi, rfl⟩ := List.getElem_of_mem hd
  have e : ds[i] = ds.getD i 0 := by rw [List.getD_eq_getElem?_getD, List.getElem?_eq_getElem hi]; rfl
  have a1 := asc_le (asc_le_of h.asc) (Nat.zero_le i) hi
  have a2 := asc_le (asc_le_of h.asc) (i := i) (j := ds.length - 1) (by omega) (by omega)
  have := h.are.lo
  have := h.are.hi
  unfold firstI at *
  unfold lastI at *
  rw [e]
  omega
theorem noneRow : NoneTag "InvalidRow" := ⟨by decide +kernel, by decide +kernel, by decide +kernel, by decide +kernel, by decide +kernel, by decide +kernel⟩
theorem cut9 (xs : List V) : cutV xs none (some 9) = xs.take 9 := by
  unfold cutV
  have e := HT.sIx_nat xs.length xs.length 9
  rw [show (some (9 : Int)) = some ((9 : Nat) : Int) from rfl, e, HT.sIx_none]
  simp
theorem whole9 {xs : List V} (h : HT.sIx xs.length 0 none = 0 ∧ HT.sIx xs.length xs.length (some (9 : Int)) = xs.length) : xs.take 9 = xs := by
  have e := HT.sIx_nat xs.length xs.length 9
  have z := h.2
  rw [show (some (9 : Int)) = some ((9 : Nat) : Int) from rfl, e] at z
  exact List.take_of_length_le (by omega)
end Ew
namespace Ew
open PySem PySem.Spec PyProof.Rows L2
/-! ## repr(o) by an own __repr__ -/
@[irreducible] def rReprO (C : Addr) (sp : Sp) : List V → Hp → VK → Prop := fun vs H Q => ∃ (a dx : Addr) (fs : List (Str × V)), vs = [.ref a] ∧ H a = some (.ins C dx fs) ∧ sp [.ref a] H (fun v G => ∃ z : Str, v = .str z ∧ Q (.str z) G) E0
theorem cr_reprO {X : Cx} {C f : Addr} {fd : FuncData} {k : Nat} {ps : List Str} {sp : Sp} (hs : PySem.W.findIn X.K (.ref C) "__repr__" = some (some (.ref f))) (hf : PySem.W.isFn X.K (.ref f) = true) (F : FnOk X.prog X.w X.K X.mg X.base CX0 k f fd ps sp) (hr : Room (k + 1) X.A) (hb : Binds X.K fd ps []) :
    CallR X (.builtin "repr") (rReprO C sp) := by
  intro pins s σ H vs us Q I r h
  unfold rReprO at h
  obtain ⟨a, dx, fs, rfl, ha, hsp⟩ := h
  rw [Vals.ref1 r]
  obtain ⟨mA, O, _⟩ := ins_get I.hok ha
  obtain ⟨od, J, _⟩ := O.look
  obtain ⟨m, fr⟩ := I.fr
  refine PySem.W.repr_K hr.in1.units0 fr I.ok.mod.kin J hs hf ?_
  have hl : [Value.ref a].length = ps.length := F.len _ _ _ _ hsp
  have hbs := hb s [.ref a] I.kIn (by rw [List.append_nil]; exact hl)
  rw [List.append_nil] at hbs
  refine wpAny_call (codeAny_mono (F.run X.A.in1 X.stack s H ⟨[.ref a], []⟩ [.ref a] [.ref a] _ _ hr.in1 I.env0.in1 hbs (.cons rfl .nil) hsp) fun res z hq => ?_)
  cases res with
  | error er => exact (show False from hq).elim
  | ok fl =>
    cases fl with
    | ret u =>
      obtain ⟨v, G, J2, rv, n, ev, q⟩ := I.after hq
      subst ev
      obtain ⟨t, rfl⟩ := rv
      exact ⟨.str n, G, J2, ⟨_, rfl⟩, q⟩
    | next => exact False.elim hq
    | brk => exact False.elim hq
    | cont => exact False.elim hq
/-! ## == by an own __eq__, both answers -/
/-- what stands right of ==: an instance of the class, or a thing of another type -/
def RightOf (K : PySem.W.Frag) (C : Addr) (H : Hp) (y : V) : Prop := (∃ (b dy : Addr) (gs : List (Str × V)), y = .ref b ∧ H b = some (.ins C dy gs)) ∨ ∃ t, TyX K H y t ∧ PySem.W.notFirst K C t = true
def rEqO (K : PySem.W.Frag) (C : Addr) (sp : Sp) : R2 := fun x y H Q => ∃ (a dx : Addr) (fs : List (Str × V)), x = .ref a ∧ H a = some (.ins C dx fs) ∧ RightOf K C H y ∧ sp [x, y] H (fun v G => ∃ b : Bool, v = .bl b ∧ Q (.bl b) G) E0
theorem op_eqO {X : Cx} {C f : Addr} {fd : FuncData} {k : Nat} {ps : List Str} {sp : Sp} (hs : PySem.W.findIn X.K (.ref C) "__eq__" = some (some (.ref f))) (hf : PySem.W.isFn X.K (.ref f) = true) (F : FnOk X.prog X.w X.K X.mg X.base CX0 k f fd ps sp) (hr : Room k X.A) (hb : Binds X.K fd ps []) :
    OpR X (compareOp .Eq) (rEqO X.K C sp) := by
  intro pins s σ H x y v u Q I rx ry h
  obtain ⟨a, dx, fs, rfl, ha, hy, hsp⟩ := h
  cases rx
  show wpAny (model X.prog X.w) X.A (richCompare .Eq (.ref a) u) (EP X pins σ Q) X.xe s
  obtain ⟨mA, O, _⟩ := ins_get I.hok ha
  obtain ⟨od, J, _⟩ := O.look
  obtain ⟨m, fr⟩ := I.fr
  have hl : [Value.ref a, u].length = ps.length := F.len _ _ _ _ hsp
  have hbs := hb s [.ref a, u] I.kIn (by rw [List.append_nil]; exact hl)
  rw [List.append_nil] at hbs
  have body : wpAny (model X.prog X.w) X.A (call (.ref f) [.ref a, u]) (PySem.W.CmpBack (EP X pins σ Q)) X.xe s := by
    refine wpAny_call (codeAny_mono (F.run X.A X.stack s H ⟨[.ref a, u], []⟩ [.ref a, u] _ _ _ hr I.env0 hbs (.cons (show L2.RelV (.ref a) (.ref a) from rfl) (.cons ry .nil)) hsp) fun res z hq => ?_)
    cases res with
    | error er => exact (show False from hq).elim
    | ok fl =>
      cases fl with
      | ret u =>
        obtain ⟨v, G, J2, rv, b, ev, q⟩ := I.after hq
        subst ev
        cases rv
        exact ⟨.bl b, G, J2, rfl, q⟩
      | next => exact False.elim hq
      | brk => exact False.elim hq
      | cont => exact False.elim hq
  rcases hy with ⟨b, dy, gs, rfl, hy⟩ | ⟨t, ty, hn⟩
  · cases ry
    obtain ⟨mB, O', _⟩ := ins_get I.hok hy
    obtain ⟨od', J', _⟩ := O'.look
    exact PySem.W.cmp_K (op := .Eq) (tb := .ref C) hr.units0 fr I.ok.mod.kin J J'.type (by simp [PySem.W.notFirst]) hs hf body
  · obtain ⟨PP, Z, hp, _⟩ := kit_of I ry ty
    exact PySem.W.cmp_K (op := .Eq) (tb := t) hr.units0 fr I.ok.mod.kin J (Z.ty _ _ I.kIn hp) hn hs hf body
/-! ## != by an own __eq__ -/
def rNeO (C : Addr) (sp : Sp) : R2 := fun x y H Q => ∃ (a dx b dy : Addr) (fs gs : List (Str × V)), x = .ref a ∧ y = .ref b ∧ H a = some (.ins C dx fs) ∧ H b = some (.ins C dy gs) ∧ sp [x, y] H (fun v G => ∃ b : Bool, v = .bl b ∧ Q (.bl (!b)) G) E0
/-- the class's own text, with == and without != -/
structure EqNe (K : PySem.W.Frag) (C f : Addr) (nm q : Str) (N : Addr) (bs sub : List Value) (hdct ab : Bool) (sn : List Str) (col : Option Bool) (dd : Option Addr) (k0 k1 k2 k3 k5 : Option Value) (newId : String) (of : Obj) (oc : Value) (od : Option Addr) (es : Array DictEntry) (ep : Nat) (sl : Array (Option Value)) : Prop where
  c : K.lookup C = some (excClassObj nm q C N bs [.type "object"] hdct sn sub ab col dd k0 k1 k2 k3 k5 newId)
  n : K.lookup N = some ⟨oc, od, .dict es ep, sl⟩
  keys : StrKeys es
  eq : nsFind es "__eq__" = some (.ref f)
  ne : nsFind es "__ne__" = none
  f : K.lookup f = some of
  fc : of.cls = .type "function"
def HasEqNe (K : PySem.W.Frag) (C f : Addr) : Prop := ∃ nm q N bs sub hdct ab sn col dd k0 k1 k2 k3 k5 newId of oc od es ep sl, EqNe K C f nm q N bs sub hdct ab sn col dd k0 k1 k2 k3 k5 newId of oc od es ep sl
theorem eq_lk : ∃ y, typeLookup (.type "object") "__eq__" = pure y := ⟨_, PySem.F.cmp_object.eq.lookup⟩
theorem op_neO {X : Cx} {C f : Addr} {fd : FuncData} {k : Nat} {ps : List Str} {sp : Sp} (hE : HasEqNe X.K C f) (F : FnOk X.prog X.w X.K X.mg X.base CX0 k f fd ps sp) (hr : Room (k + 1) X.A) (hb : Binds X.K fd ps []) :
    OpR X (compareOp .NotEq) (rNeO C sp) := by
  intro pins s σ H x y v u Q I rx ry h
  obtain ⟨a, dx, b, dy, fs, gs, rfl, rfl, ha, hb', hsp⟩ := h
  cases rx
  cases ry
  obtain ⟨nm, q, N, bs, sub, hdct, ab, sn, col, dd, k0, k1, k2, k3, k5, newId, of, oc, od, es, ep, sl, E⟩ := hE
  obtain ⟨mA, O, _⟩ := ins_get I.hok ha
  obtain ⟨od1, J, _⟩ := O.look
  obtain ⟨mB, O', _⟩ := ins_get I.hok hb'
  obtain ⟨od2, J', _⟩ := O'.look
  obtain ⟨y0, hy0⟩ := eq_lk
  have kin := I.kIn
  have own : s.heap.OwnEqNoNe a C f "object" [.type "object"] := ⟨_, of, nm, q, N, bs, hdct, sn, sub, ab, col, dd, k0, k1, k2, k3, k5, newId, nsFind es, y0, J.at_, J.cls, kin _ _ E.c, ⟨_, es, ep, kin _ _ E.n, rfl, E.keys, fun _ => rfl⟩, E.eq, kin _ _ E.f, E.fc, PySem.F.cmp_object.mro, hy0, E.ne⟩
  have hl : [Value.ref a, Value.ref b].length = ps.length := F.len _ _ _ _ hsp
  have hbs := hb s [.ref a, .ref b] I.kIn (by rw [List.append_nil]; exact hl)
  rw [List.append_nil] at hbs
  obtain ⟨hp, g, d, tk, os⟩ := s
  refine compareOp_ne_ownEq PySem.F.cmp_object own J'.at_ J'.cls (by have := hr.units; omega) ?_
  refine wpAny_call (codeAny_mono (F.run X.A.in1 X.stack _ H ⟨[.ref a, .ref b], []⟩ [.ref a, .ref b] [.ref a, .ref b] _ _ hr.in1 I.env0.in1 hbs (.cons rfl (.cons rfl .nil)) hsp) fun res z hq => ?_)
  cases res with
  | error er => exact (show False from hq).elim
  | ok fl =>
    cases fl with
    | ret u =>
      obtain ⟨v, G, J2, rv, c, ev, q⟩ := I.after hq
      subst ev
      cases rv
      exact ⟨c, rfl, .bl (!c), G, J2, rfl, q⟩
    | next => exact False.elim hq
    | brk => exact False.elim hq
    | cont => exact False.elim hq
end Ew
namespace Ew
open PySem PySem.Spec PyProof.Rows L2
theorem eqvAll_ints : ∀ s s' : List Int, PyData.eqvAll (s.map PyData.int) (s'.map PyData.int) = decide (s = s')
  | [], [] => by simp [PyData.eqvAll]
  | [], b :: s' => by simp [PyData.eqvAll]
  | a :: s, [] => by simp [PyData.eqvAll]
  | a :: s, b :: s' => by
    have ih := eqvAll_ints s s'
    simp only [List.map_cons, PyData.eqvAll, PyData.eqv, ih]
    by_cases h : a = b
    · subst h
      by_cases h2 : s = s' <;> simp [h2]
    · simp [h]
theorem eqv_tup2 (s s' : List Int) : PyData.eqv (.tuple (s.map PyData.int)) (.tuple (s'.map PyData.int)) = decide (s = s') := by rw [PyData.eqv]; exact eqvAll_ints s s'
theorem eqv_lst2 (s s' : List Int) : PyData.eqv (.list (s.map PyData.int)) (.list (s'.map PyData.int)) = decide (s = s') := by rw [PyData.eqv]; exact eqvAll_ints s s'
end Ew
namespace K03
open PySem PySem.Spec PyProof.Rows L2 Ew
def top (i : Nat) : Stmt := PySem.Challenge.pw_earlywrite_k03_intervals_and_redundancy.main.body.getD i (.Pass ⟨0, 0, 0, 0⟩)
abbrev sWall : Stmt := top 0
abbrev sEarlyError_init : Stmt := inClass (top 2) 0
abbrev sInvalidBase_init : Stmt := inClass (top 3) 0
abbrev sInvalidDigits_init : Stmt := inClass (top 4) 0
abbrev sOutOfRange_init : Stmt := inClass (top 5) 0
abbrev sFraction : Stmt := top 7
abbrev sGcd : Stmt := top 8
abbrev sDigitSet_init : Stmt := inClass (top 15) 0
abbrev sDigitSet_len : Stmt := inClass (top 15) 1
abbrev sDigitSet_eq : Stmt := inClass (top 15) 2
abbrev sDigitSet_repr : Stmt := inClass (top 15) 3
abbrev sDigitSet_low : Stmt := inClass (top 15) 4
abbrev sDigitSet_high : Stmt := inClass (top 15) 5
abbrev sDigitSet_is_redundant : Stmt := inClass (top 15) 6
abbrev sDigitSet_value : Stmt := inClass (top 15) 7
abbrev sDigitSet_row_of : Stmt := inClass (top 15) 8
abbrev sDigitSet_has_row : Stmt := inClass (top 15) 9
abbrev sDigitSet_has_number : Stmt := inClass (top 15) 10
abbrev sDigitSet_rest_behind : Stmt := inClass (top 15) 11
abbrev sDigitSet_least_first_digit : Stmt := inClass (top 15) 12
abbrev sAreDigits : Stmt := top 16
abbrev sWidestGap : Stmt := top 17
abbrev sSpread : Stmt := top 18
abbrev sBegin : Stmt := top 20
abbrev sDraw : Stmt := top 21
abbrev sPick : Stmt := top 22
abbrev sLawMixed : Stmt := top 23
abbrev sSame : Stmt := top 24
abbrev sLowest : Stmt := top 25
abbrev sLawEnds : Stmt := top 26
abbrev sLawAreDigits : Stmt := top 27
abbrev sLawRedundant : Stmt := top 28
abbrev sLawDigits : Stmt := top 29
abbrev sLawSet : Stmt := top 30
abbrev sLaw : Stmt := top 31
section
variable {P : Program} {w : World} {K : PySem.W.Frag} {mg : Str → Option Value} {base : Heap}
structure TxtR (mg : Str → Option Value) : Prop where
  len : mg "len" = none
  list : mg "list" = none
/-! ## _law_begin -/
def spBegin (K : PySem.W.Frag) : Sp := fun vs H Q _ => ∃ (a : Addr) (ns : List Int), vs = [.ref a] ∧ SqL K H a (ns.map V.int) ∧ ns.length ≤ 63 ∧
  ∀ (G : Hp) (p q : Addr) (sd : Int), Same H G → RngAt G p q ns 0 0 sd → H p = none → H q = none → Q (.ref p) G
theorem scBegin : FnScope ["_law_script", "_law_seed", "_law_cell"] ["_law_script"] (defScope sBegin) := ⟨rfl, rfl, rfl, by decide +kernel, rfl, by decide +kernel, by decide +kernel⟩
theorem ok_begin {f : Addr} {fd : FuncData} (F : Fun K "_law_begin" "_law_begin" sBegin f fd) (T : TxtR mg) : FnOk P w K mg base CX0 1 f fd ["_law_script"] (spBegin K) := by
  refine F.ok scBegin (fun vs H Q E h => ?_) (fun cdv A outer s H vs Q E hr h => ?_)
  · obtain ⟨a, ns, rfl, _⟩ := h
    rfl
  · obtain ⟨a, ns, rfl, hS, hl, k⟩ := h
    refine ⟨_, pss_cons (ps_set (i := 1) scBegin.nd rfl (Or.inl rfl) (pe_op op_add pe_int (pe_callB call_len_seq (by rfl) T.len PySem.boot_len (pa_cons (pe_slice sl_list (pv 0) po_none (po_some pe_int)) pa_nil))))
      (pss_cons (ps_for PassesOwn.never rfl (pi_list (pe_slice sl_list (pv 0) po_none (po_some pe_int))) (pg_name (i := 2) scBegin.nd rfl (Or.inl rfl))
        (pss_one (ps_set (i := 1) scBegin.nd rfl (Or.inl rfl) (pe_op op_mod (pe_op op_add (pe_op op_add (pe_op op_mul (pv 1) pe_int) (pe_op op_mod (pv 2) pe_int)) pe_int) pe_int))))
      (pss_one (ps_ret (pe_lst (pa_cons (pe_callTy call_list_of (by rfl) T.list (by decide +kernel) (pa_cons (pe_slice sl_list (pv 0) po_none (po_some pe_int)) pa_nil)) (pa_cons pe_int (pa_cons pe_int (pa_cons (pv 1) pa_nil)))))))), ?_⟩
    refine ⟨_, rfl, _, rfl, a, _, rfl, hS, fun p1 n1 => ?_⟩
    rw [cut63 hl]
    have s1 : Same H (upd H p1 (.lst (ns.map V.int))) := fun b o e => by rw [upd_ne (ne_of_none e n1)]; exact e
    refine ⟨p1, _, rfl, .inl (SqL.of upd_same), _, _, rfl, rfl, ?_⟩
    refine ⟨_, rfl, _, rfl, a, _, rfl, s1.seq hS, fun p2 n2 => ?_⟩
    rw [cut63 hl]
    have s2 : Same H (upd (upd H p1 (.lst (ns.map V.int))) p2 (.lst (ns.map V.int))) := fun b o e => by rw [upd_ne (ne_of_none (s1 b o e) n2)]; exact s1 b o e
    refine ⟨p2, rfl, ⟨_, SqL.of upd_same⟩, for_list (K := K) (a := p2) (xs := ns.map V.int) (fun i σ G => G = upd (upd H p1 (.lst (ns.map V.int))) p2 (.lst (ns.map V.int)) ∧ ∃ (sd : Int) (c : Option V), σ = [some (.ref a), some (.int sd), c] ∧ 0 ≤ sd ∧ sd < 2147483549)
      ⟨rfl, _, none, rfl, ?_, ?_⟩ (fun i σ G _ ⟨e, _⟩ => by rw [e]; exact SqL.of upd_same) ?_ ?_⟩
    · rw [List.length_map]; omega
    · rw [List.length_map]; omega
    · rintro i y σ G hi ⟨rfl, sd, c, rfl, h0, h1⟩
      obtain ⟨z, rfl⟩ := map_int_at hi
      refine ⟨_, rfl, sd, 40009, rfl, rfl, mul_small (by omega) (by omega), _, rfl, z, 2147483549, rfl, rfl, (by show (0 : Int) < 2147483549; decide), _, _, rfl, rfl, _, _, rfl, rfl, _, _, rfl, rfl, (by show (0 : Int) < 2147483549; decide), ?_⟩
      exact ⟨rfl, _, _, rfl, Int.emod_nonneg _ (by decide), Int.emod_lt_of_pos _ (by decide)⟩
    · rintro σ G ⟨rfl, sd, c, rfl, h0, h1⟩
      refine ⟨_, rfl, _, rfl, a, _, rfl, s2.seq hS, fun p3 n3 => ?_⟩
      rw [cut63 hl]
      have s3 := s2.trans (H2 := upd (upd (upd H p1 (.lst (ns.map V.int))) p2 (.lst (ns.map V.int))) p3 (.lst (ns.map V.int))) fun b o e => by rw [upd_ne (ne_of_none e n3)]; exact e
      refine ⟨p3, _, rfl, .inl (SqL.of upd_same), fun q n4 => ?_⟩
      have s4 := s3.trans (H2 := upd (upd (upd (upd H p1 (.lst (ns.map V.int))) p2 (.lst (ns.map V.int))) p3 (.lst (ns.map V.int))) q (.lst (ns.map V.int))) fun b o e => by rw [upd_ne (ne_of_none e n4)]; exact e
      refine ⟨_, rfl, (by show 4 ≤ sizeLine; decide), fun p n5 => ?_⟩
      have nqp : q ≠ p := fun e => by rw [← e, upd_same] at n5; cases n5
      refine k _ p q sd (fun b o e => by rw [upd_ne (ne_of_none (s4 b o e) n5)]; exact s4 b o e) ⟨upd_same, ?_, hl, ⟨by omega, by omega, h0, h1⟩, nqp⟩ (s4.free n5) (s3.free n4)
      rw [upd_ne nqp, upd_same]
/-! ## _law_draw -/
def spDraw : Sp := fun vs H Q _ => ∃ (p q : Addr) (ns : List Int) (i v sd many : Int), vs = [.ref p, .int many] ∧ RngAt H p q ns i v sd ∧ 0 < many ∧ many.natAbs < 2 ^ 8000 ∧
  ∀ r i' v' sd' : Int, 0 ≤ r → r < many → RngOk i' v' sd' → Q (.int r) (upd H p (.lst (rngL q i' v' sd')))
theorem scDraw : FnScope ["_law_rng", "_law_many", "_law_cell", "_law_got", "_law_seed"] ["_law_rng", "_law_many"] (defScope sDraw) := ⟨rfl, rfl, rfl, by decide +kernel, rfl, by decide +kernel, by decide +kernel⟩
theorem ok_draw {f : Addr} {fd : FuncData} (F : Fun K "_law_draw" "_law_draw" sDraw f fd) (T : TxtR mg) : FnOk P w K mg base CX0 1 f fd ["_law_rng", "_law_many"] spDraw := by
  refine F.ok scDraw (fun vs H Q E h => ?_) (fun cdv A outer s H vs Q E hr h => ?_)
  · obtain ⟨p, q, ns, i, v, sd, many, rfl, _⟩ := h
    rfl
  · obtain ⟨p, q, ns, i, v, sd, many, rfl, R, hm, hmz, k⟩ := h
    refine ⟨_, C8.pss_cut (ps_if (PW.pt (pw_and (pt_cmpR op_eq (pe_ix ix_list (pv 0) pe_int (fun _ _ => rfl)) pe_int (nomark _)) (pw_and1 (pt_cmpR op_lt (pe_ix ix_list (pv 0) pe_int (fun _ _ => rfl)) (pe_callB call_len_seq (by rfl) T.len PySem.boot_len (pa_cons (pe_ix ix_list (pv 0) pe_int (fun _ _ => rfl)) pa_nil)) (nomark _)))))
        (pss_cons (ps_set (i := 2) scDraw.nd rfl (Or.inl rfl) (pe_ix ix_list (pe_ix ix_list (pv 0) pe_int (fun _ _ => rfl)) (pe_ix ix_list (pv 0) pe_int (fun _ _ => rfl)) (fun _ _ => rfl)))
        (pss_cons (ps_asg (pe_op op_add (pe_ix ix_list (pv 0) pe_int (fun _ _ => rfl)) pe_int) (pg_sub (pv 0) pe_int set_list))
        (pss_one (ps_if (pt_cmpR op_ge (pv 2) (pe_op op_pow pe_int pe_int) (nomark _)) (pss_one (ps_asg (pv 2) (pg_sub (pv 0) pe_int set_list)))
          (pss_one (ps_asg (pe_op op_mod (pe_op op_add (pe_op op_add (pe_op op_mul (pe_ix ix_list (pv 0) pe_int (fun _ _ => rfl)) pe_int) (pe_op op_mul (pe_op op_mod (pv 2) pe_int) pe_int)) pe_int) pe_int) (pg_sub (pv 0) pe_int set_list)))))))
        pss_nil)
      (pss_cons (ps_if (pt_cmpR op_gt (pe_ix ix_list (pv 0) pe_int (fun _ _ => rfl)) pe_int (nomark _))
        (pss_cons (ps_set (i := 3) scDraw.nd rfl (Or.inl rfl) (pe_op op_mod (pe_ix ix_list (pv 0) pe_int (fun _ _ => rfl)) (pv 1)))
        (pss_cons (ps_asg (pe_op op_fdivW (pe_ix ix_list (pv 0) pe_int (fun _ _ => rfl)) (pv 1)) (pg_sub (pv 0) pe_int set_list))
        (pss_one (ps_ret (pv 3))))) pss_nil)
      (pss_cons (ps_set (i := 4) scDraw.nd rfl (Or.inl rfl) (pe_ix ix_list (pv 0) pe_int (fun _ _ => rfl)))
      (pss_cons (ps_asg (pe_op op_mod (pe_op op_add (pe_op op_add (pe_op op_mul (pv 4) (pe_op op_add (pe_op op_mod (pv 4) pe_int) pe_int)) (pe_op op_mul (pv 4) pe_int)) pe_int) pe_int) (pg_sub (pv 0) pe_int set_list))
      (pss_one (ps_ret (pe_op op_mod (pe_op op_add (pe_op op_fdiv (pe_ix ix_list (pv 0) pe_int (fun _ _ => rfl)) pe_int) (pe_op op_mul (pe_op op_mod (pe_ix ix_list (pv 0) pe_int (fun _ _ => rfl)) pe_int) pe_int)) (pv 1))))))), ?_⟩
    refine ⟨fun σ G => ∃ (c : Option V) (i' v' sd' : Int), σ = [some (.ref p), some (.int many), c, none, none] ∧ RngOk i' v' sd' ∧ G = upd H p (.lst (rngL q i' v' sd')), ?_, ?_⟩
    · obtain ⟨i0, v0, sd0, sd1⟩ := R.ok
      refine ⟨_, rfl, p, _, _, _, rfl, rfl, SqL.of R.at_p, rng_2, rfl, _, rfl, ?_⟩
      by_cases c1 : v = 0
      · subst c1
        refine ifT (decide_eq_true rfl) ?_
        refine ⟨_, rfl, p, _, _, _, rfl, rfl, SqL.of R.at_p, rng_1, _, rfl, p, _, _, _, rfl, rfl, SqL.of R.at_p, rng_0, q, _, rfl, .inl (SqL.of R.at_q), _, _, rfl, rfl, _, rfl, ?_⟩
        rw [List.length_map]
        by_cases c2 : i < (ns.length : Int)
        · refine ifT (decide_eq_true c2) ?_
          obtain ⟨c, hc, hat⟩ := get_int i0 c2
          refine ⟨_, rfl, p, _, _, _, rfl, rfl, SqL.of R.at_p, rng_0, _, rfl, p, _, _, _, rfl, rfl, SqL.of R.at_p, rng_1, q, _, _, _, rfl, rfl, SqL.of R.at_q, hat, ?_⟩
          refine ⟨_, rfl, p, _, _, _, rfl, rfl, SqL.of R.at_p, rng_1, _, _, rfl, rfl, _, rfl, p, _, _, 1, rfl, rfl, R.at_p, rfl, ?_⟩
          refine ⟨_, rfl, _, _, rfl, rfl, (by show (0 : Int) ≤ 18 ∧ (18 : Int) ≤ 1000000 ∧ (10 : Int).natAbs < 2 ^ 64; decide), _, _, rfl, rfl, _, rfl, ?_⟩
          by_cases c3 : (10 : Int) ^ (18 : Int).toNat ≤ c
          · refine ifT (decide_eq_true c3) ?_
            refine ⟨_, rfl, _, rfl, p, _, _, 2, rfl, rfl, upd_same, rfl, ?_⟩
            refine ⟨_, i + 1, c, sd, rfl, ⟨by omega, ?_, sd0, sd1⟩, upd_upd⟩
            exact Int.le_trans (by decide) c3
          · refine ifF (decide_eq_false c3) ?_
            refine ⟨_, rfl, p, _, _, _, rfl, rfl, SqL.of upd_same, rfl, sd, 44111, rfl, rfl, mul_small (by omega) (by omega), _, rfl, c, 2147483549, rfl, rfl, (by show (0 : Int) < 2147483549; decide), c % 2147483549, 70001, rfl, rfl, ?_, _, _, rfl, rfl, _, _, rfl, rfl, _, _, rfl, rfl, (by show (0 : Int) < 2147483549; decide),
              _, rfl, p, _, _, 3, rfl, rfl, upd_same, rfl, ?_⟩
            · have := Int.emod_nonneg c (by decide : (2147483549 : Int) ≠ 0)
              have := Int.emod_lt_of_pos c (by decide : (0 : Int) < 2147483549)
              exact mul_small (by omega) (by omega)
            · exact ⟨_, i + 1, 0, _, rfl, ⟨by omega, by omega, Int.emod_nonneg _ (by decide), Int.emod_lt_of_pos _ (by decide)⟩, upd_upd⟩
        · exact ifF (decide_eq_false c2) ⟨none, i, 0, sd, rfl, R.ok, (upd_id R.at_p).symm⟩
      · exact ifF (eq_int c1) (iteF ⟨none, i, v, sd, rfl, R.ok, (upd_id R.at_p).symm⟩)
    · rintro σ G ⟨c, i', v', sd', rfl, ⟨i0, v0, s0, s1⟩, rfl⟩
      refine ⟨_, rfl, p, _, _, _, rfl, rfl, SqL.of upd_same, rng_2, _, _, rfl, rfl, _, rfl, ?_⟩
      by_cases c1 : 0 < v'
      · refine ifT (decide_eq_true c1) ?_
        refine ⟨_, rfl, p, _, _, _, rfl, rfl, SqL.of upd_same, rng_2, _, rfl, _, _, rfl, rfl, hm, ?_⟩
        refine ⟨_, rfl, p, _, _, _, rfl, rfl, SqL.of upd_same, rng_2, _, rfl, _, _, rfl, rfl, wide_div hm hmz (by decide) (by decide), _, rfl, p, _, _, 2, rfl, rfl, upd_same, rfl, _, rfl, ?_⟩
        rw [upd_upd]
        exact k _ i' _ sd' (Int.emod_nonneg _ (by omega)) (Int.emod_lt_of_pos _ hm) ⟨i0, Int.ediv_nonneg (by omega) (by omega), s0, s1⟩
      · refine ifF (decide_eq_false c1) ?_
        refine ⟨_, rfl, p, _, _, _, rfl, rfl, SqL.of upd_same, rng_3, ?_⟩
        refine ⟨_, rfl, _, rfl, sd', 65479, rfl, rfl, (by show (0 : Int) < 65479; decide), _, _, rfl, rfl, sd', _, rfl, rfl, mul_small (by omega) (by omega), _, rfl, sd', 40699, rfl, rfl, mul_small (by omega) (by omega), _, _, rfl, rfl, _, _, rfl, rfl, _, _, rfl, rfl, (by show (0 : Int) < 2147483549; decide),
          _, rfl, p, _, _, 3, rfl, rfl, upd_same, rfl, ?_⟩
        rw [upd_upd]
        have small : ∀ z : Int, CMul (z % 7919) 211 := fun z => by
          have := Int.emod_nonneg z (by decide : (7919 : Int) ≠ 0)
          have := Int.emod_lt_of_pos z (by decide : (0 : Int) < 7919)
          exact mul_small (by omega) (by omega)
        refine ⟨_, rfl, p, _, _, _, rfl, rfl, SqL.of upd_same, rfl, _, 67, rfl, rfl, ⟨by decide, by decide⟩, _, rfl, p, _, _, _, rfl, rfl, SqL.of upd_same, rfl, _, 7919, rfl, rfl, (by show (0 : Int) < 7919; decide), _, 211, rfl, rfl, small _, _, _, rfl, rfl, _, rfl, _, _, rfl, rfl, hm, ?_⟩
        exact k _ i' v' _ (Int.emod_nonneg _ (by omega)) (Int.emod_lt_of_pos _ hm) ⟨i0, v0, Int.emod_nonneg _ (by decide), Int.emod_lt_of_pos _ (by decide)⟩
/-! ## _law_pick -/
def spPick (K : PySem.W.Frag) : Sp := fun vs H Q _ => ∃ (p q l : Addr) (ns : List Int) (i v sd : Int) (xs : List V), vs = [.ref p, .ref l] ∧ RngAt H p q ns i v sd ∧ H l = some (.lst xs) ∧ l ≠ p ∧ xs ≠ [] ∧ xs.length ≤ 1000 ∧
  ∀ (x : V) (i' v' sd' : Int), x ∈ xs → RngOk i' v' sd' → Q x (upd H p (.lst (rngL q i' v' sd')))
structure TxtP (K : PySem.W.Frag) (mg : Str → Option Value) (fD : Addr) : Prop where
  len : mg "len" = none
  gD : mg "_law_draw" = some (.ref fD)
  kD : PySem.W.keepIn K (.ref fD) = true
theorem scPick : FnScope ["_law_rng", "_law_items"] ["_law_rng", "_law_items"] (defScope sPick) := ⟨rfl, rfl, rfl, by decide +kernel, rfl, by decide +kernel, by decide +kernel⟩
theorem ok_pick {f fD : Addr} {fd fdD : FuncData} (F : Fun K "_law_pick" "_law_pick" sPick f fd) (T : TxtP K mg fD) (FD : FnOk P w K mg base CX0 1 fD fdD ["_law_rng", "_law_many"] spDraw) (bD : Binds K fdD ["_law_rng", "_law_many"] []) :
    FnOk P w K mg base CX0 2 f fd ["_law_rng", "_law_items"] (spPick K) := by
  refine F.ok scPick (fun vs H Q E h => ?_) (fun cdv A outer s H vs Q E hr h => ?_)
  · obtain ⟨p, q, l, ns, i, v, sd, xs, rfl, _⟩ := h
    rfl
  · obtain ⟨p, q, l, ns, i, v, sd, xs, rfl, R, hl, nlp, hne, hlen, k⟩ := h
    refine ⟨_, pss_one (ps_ret (pe_ix ix_list (pv 1) (pe_call FD hr rfl T.gD T.kD bD .nil pass0 (pa_cons (pv 0) (pa_cons (pe_callB call_len_seq (by rfl) T.len PySem.boot_len (pa_cons (pv 1) pa_nil)) pa_nil))) (fun _ _ => rfl))), ?_⟩
    have hpos : 0 < xs.length := List.length_pos_iff.mpr hne
    have hbig : 1000 < 2 ^ 8000 := Nat.lt_of_lt_of_le (by decide : 1000 < 2 ^ 10) (Nat.pow_le_pow_right (by decide) (by decide))
    refine ⟨_, rfl, _, rfl, _, rfl, l, xs, rfl, .inl (SqL.of hl), p, q, ns, i, v, sd, (xs.length : Int), rfl, R, by omega, by omega, fun r i' v' sd' r0 r1 ok => ?_⟩
    obtain ⟨m, rfl⟩ := Int.eq_ofNat_of_zero_le r0
    have hm : m < xs.length := by omega
    exact ⟨l, xs, _, xs[m], rfl, rfl, SqL.of (by rw [upd_ne nlp]; exact hl), atI_nat (List.getElem?_eq_getElem hm), k _ i' v' sd' (List.getElem_mem hm) ok⟩
end
section
variable {P : Program} {w : World} {K : PySem.W.Frag} {mg : Str → Option Value} {base : Heap}
structure TxtS (K : PySem.W.Frag) (mg : Str → Option Value) (f : Addr) : Prop where
  isi : mg "isinstance" = none
  list : mg "list" = none
  tuple : mg "tuple" = none
  len : mg "len" = none
  all : mg "all" = none
  zip : mg "zip" = none
  bool : mg "bool" = none
  int : mg "int" = none
  str : mg "str" = none
  gS : mg "_law_same" = some (.ref f)
  kS : PySem.W.keepIn K (.ref f) = true
def spSame (K : PySem.W.Frag) (n : Nat) : Sp := fun vs H Q _ => ∃ x y : V, vs = [x, y] ∧ SameN K H n x y ∧ ∀ G, Same H G → Q (.bl true) G
theorem scSame : FnScope ["_law_found", "_law_due", "_law_one", "_law_other"] ["_law_found", "_law_due"] (defScope sSame) := ⟨rfl, rfl, rfl, by decide +kernel, rfl, by decide +kernel, by decide +kernel⟩
theorem ok_same {f : Addr} {fd : FuncData} (F : Fun K "_law_same" "_law_same" sSame f fd) (b : Binds K fd ["_law_found", "_law_due"] []) (T : TxtS K mg f) : ∀ n, FnOk P w K mg base CX0 n f fd ["_law_found", "_law_due"] (spSame K n)
  | 0 => ⟨fun _ _ _ _ h => by obtain ⟨_, _, _, h, _⟩ := h; exact h.elim, fun _ _ _ _ _ _ _ _ _ _ _ _ _ h => by obtain ⟨_, _, _, h, _⟩ := h; exact h.elim⟩
  | n + 1 => by
    have IH := ok_same F b T n
    refine F.ok scSame (fun vs H Q E h => ?_) (fun cdv A outer s H vs Q E hr h => ?_)
    · obtain ⟨x, y, rfl, _⟩ := h
      rfl
    · obtain ⟨x, y, rfl, hxy, k⟩ := h
      refine ⟨_, pss_cons (ps_if (PW.pt (pw_or (pt_cmpR op_isN (pv 1) pe_non (nomark _)) (pw_or1 (pt_cmpR op_isN (pv 0) pe_non (nomark _)))))
          (pss_one (ps_ret (pe_and (pe_cmpR op_isN (pv 0) pe_non (nomark _)) (pe_one (pe_cmpR op_isN (pv 1) pe_non (nomark _)))))) pss_nil)
        (pss_cons (ps_if (pt_val (pe_callB call_isiT (by rfl) T.isi (by decide +kernel) (pa_cons (pv 1) (pa_cons (pe_tup (pa_cons (pe_bltn (v := .ty "list") (by rfl) T.list (by decide +kernel) rfl) (pa_cons (pe_bltn (v := .ty "tuple") (by rfl) T.tuple (by decide +kernel) rfl) pa_nil))) pa_nil))))
          (pss_cons (ps_if (PW.pt (pw_or (pt_cmpR op_ne (pe_callB call_isi (by rfl) T.isi (by decide +kernel) (pa_cons (pv 0) (pa_cons (pe_bltn (v := .ty "list") (by rfl) T.list (by decide +kernel) rfl) pa_nil))) (pe_callB call_isi (by rfl) T.isi (by decide +kernel) (pa_cons (pv 1) (pa_cons (pe_bltn (v := .ty "list") (by rfl) T.list (by decide +kernel) rfl) pa_nil))) (nomark _))
              (pw_or1 (pt_cmpR op_ne (pe_callB call_isi (by rfl) T.isi (by decide +kernel) (pa_cons (pv 0) (pa_cons (pe_bltn (v := .ty "tuple") (by rfl) T.tuple (by decide +kernel) rfl) pa_nil))) (pe_callB call_isi (by rfl) T.isi (by decide +kernel) (pa_cons (pv 1) (pa_cons (pe_bltn (v := .ty "tuple") (by rfl) T.tuple (by decide +kernel) rfl) pa_nil))) (nomark _)))))
            (pss_one (ps_ret pe_bl)) pss_nil)
          (pss_one (ps_ret (pe_and (pe_cmpR op_eq (pe_callB call_len_seq (by rfl) T.len PySem.boot_len (pa_cons (pv 0) pa_nil)) (pe_callB call_len_seq (by rfl) T.len PySem.boot_len (pa_cons (pv 1) pa_nil)) (nomark _))
            (pe_one (pe_callB (cr_all rfl) (by rfl) T.all (by decide +kernel) (pa_cons
              (pe_lc (own := [("_law_one", 2), ("_law_other", 3)]) (g := gTup K 2 (gCons (gName 2) (gCons (gName 3) gNil))) (tt := tYes) (te := tCall (spSame K n) [] E0 (tCons (tVar 2) (tCons (tVar 3) tNil))) rfl scSame.nd (RZ.pi_zipA (by rfl) T.zip (pa_cons (pv 0) (pa_cons (pv 1) pa_nil)))
                (blkOk_by (N := ["_law_found", "_law_due", "_law_one", "_law_other"]) (sc := defScope sSame) (by decide +kernel))
                (fun _ _ _ _ _ => by exact pg_tup rfl (by exact pgs_cons (pg_name (i := 2) scSame.nd rfl (Or.inl rfl)) (by exact pgs_cons (pg_name (i := 3) scSame.nd rfl (Or.inl rfl)) pgs_nil)))
                (fun _ _ _ _ _ => pts_nil)
                (fun _ _ _ _ _ => by exact pe_call IH hr rfl T.gS T.kS b .nil pass0 (pa_cons (pv 2) (pa_cons (pv 3) pa_nil)))) pa_nil))))))) pss_nil)
        (pss_cons (ps_if (PW.pt (pw_or (pt_cmpR op_ne (pe_callB call_isi (by rfl) T.isi (by decide +kernel) (pa_cons (pv 0) (pa_cons (pe_bltn (v := .ty "bool") (by rfl) T.bool (by decide +kernel) rfl) pa_nil))) (pe_callB call_isi (by rfl) T.isi (by decide +kernel) (pa_cons (pv 1) (pa_cons (pe_bltn (v := .ty "bool") (by rfl) T.bool (by decide +kernel) rfl) pa_nil))) (nomark _))
              (pw_or1 (pt_cmpR op_ne (pe_callB call_isi (by rfl) T.isi (by decide +kernel) (pa_cons (pv 0) (pa_cons (pe_bltn (v := .ty "int") (by rfl) T.int (by decide +kernel) rfl) pa_nil))) (pe_callB call_isi (by rfl) T.isi (by decide +kernel) (pa_cons (pv 1) (pa_cons (pe_bltn (v := .ty "int") (by rfl) T.int (by decide +kernel) rfl) pa_nil))) (nomark _)))))
            (pss_one (ps_ret pe_bl)) pss_nil)
        (pss_one (ps_ret (pe_and (pe_cmpR op_eq (pe_callB call_isi (by rfl) T.isi (by decide +kernel) (pa_cons (pv 0) (pa_cons (pe_bltn (v := .ty "str") (by rfl) T.str (by decide +kernel) rfl) pa_nil))) (pe_callB call_isi (by rfl) T.isi (by decide +kernel) (pa_cons (pv 1) (pa_cons (pe_bltn (v := .ty "str") (by rfl) T.str (by decide +kernel) rfl) pa_nil))) (nomark _))
          (pe_one (pe_cmpR op_eq (pv 0) (pv 1) (nomark _)))))))), ?_⟩
      rcases hxy with ⟨rfl, hfl⟩ | ⟨a, c, xs, ys, rfl, rfl, hsq, hlen, hmax, hall⟩
      · by_cases hn : x = .non
        · subst hn
          refine ⟨_, rfl, rfl, _, rfl, iteT (iteT ?_)⟩
          exact ⟨_, rfl, rfl, _, rfl, iteT ⟨_, rfl, rfl, k H (Same.refl H)⟩⟩
        · obtain ⟨t, b1, b2, b3, ty, l1, l2, l3, l4, l5, sc⟩ : ∃ (t : String) (b1 b2 b3 : Bool), (∀ G, TyX K G x (.type t)) ∧ kitB t "list" = some false ∧ kitB t "tuple" = some false ∧ kitB t "bool" = some b1 ∧ kitB t "int" = some b2 ∧ kitB t "str" = some b3 ∧ scal x x = true := by
            cases x with
            | non => exact absurd rfl hn
            | bl z => exact ⟨"bool", true, true, false, fun _ => .base (.bl z), by decide +kernel, by decide +kernel, by decide +kernel, by decide +kernel, by decide +kernel, rfl⟩
            | int z => exact ⟨"int", false, true, false, fun _ => .base (.int z), by decide +kernel, by decide +kernel, by decide +kernel, by decide +kernel, by decide +kernel, rfl⟩
            | str z => exact ⟨"str", false, false, true, fun _ => .base (.str z), by decide +kernel, by decide +kernel, by decide +kernel, by decide +kernel, by decide +kernel, rfl⟩
            | byt z => cases hfl
            | flt z => cases hfl
            | ref z => cases hfl
            | ty z => cases hfl
          refine ⟨_, rfl, rfl, _, rfl, ifF (decide_eq_false hn) ⟨_, rfl, rfl, _, rfl, ifF (decide_eq_false hn) ?_⟩⟩
          refine ⟨_, rfl, (by show 2 ≤ sizeLine; decide), fun p hp => ⟨x, p, _, _, _, false, rfl, upd_same, paired2, ty _, kitLT l1 l2, _, rfl, iteF ?_⟩⟩
          refine ⟨_, rfl, x, _, _, _, b1, rfl, .ty _, ty _, kit_ty l3, _, rfl, x, _, _, _, b1, rfl, .ty _, ty _, kit_ty l3, rfl, _, rfl, ifF (ne_bl b1) ?_⟩
          refine ⟨_, rfl, x, _, _, _, b2, rfl, .ty _, ty _, kit_ty l4, _, rfl, x, _, _, _, b2, rfl, .ty _, ty _, kit_ty l4, rfl, _, rfl, ifF (ne_bl b2) ?_⟩
          refine ⟨_, rfl, x, _, _, _, b3, rfl, .ty _, ty _, kit_ty l5, _, rfl, x, _, _, _, b3, rfl, .ty _, ty _, kit_ty l5, rfl, _, rfl, ifT (decide_eq_true rfl) ?_⟩
          refine ⟨_, rfl, _, rfl, sc, ?_⟩
          have e : decide (x = x) = true := decide_eq_true rfl
          show Q (V.bl (decide (x = x))) _
          rw [e]
          exact k _ (same_upd (Same.refl H) hp)
      · have na : V.ref a ≠ V.non := fun z => nomatch z
        have nc : V.ref c ≠ V.non := fun z => nomatch z
        obtain ⟨t, bL, bT, tyA, tyC, hk, l1, l2⟩ : ∃ (t : String) (bL bT : Bool), (∀ G, Same H G → TyX K G (.ref a) (.type t)) ∧ (∀ G, Same H G → TyX K G (.ref c) (.type t)) ∧ PySem.W.kitAny K (.type t) [.type "list", .type "tuple"] = some true ∧ kitB t "list" = some bL ∧ kitB t "tuple" = some bT := by
          rcases hsq with ⟨p, q⟩ | ⟨p, q⟩
          · exact ⟨"list", true, false, fun G e => ty_list (e.seq p), fun G e => ty_list (e.seq q), kitL (by decide +kernel), by decide +kernel, by decide +kernel⟩
          · exact ⟨"tuple", false, true, fun G e => ty_tup (seqT e p), fun G e => ty_tup (seqT e q), kitLT (by decide +kernel) (by decide +kernel), by decide +kernel, by decide +kernel⟩
        have lenA : ∀ G, Same H G → SqL K G a xs ∨ SqT K G a xs := fun G e => hsq.imp (fun q => e.seq q.1) (fun q => seqT e q.1)
        have lenC : ∀ G, Same H G → SqL K G c ys ∨ SqT K G c ys := fun G e => hsq.imp (fun q => e.seq q.2) (fun q => seqT e q.2)
        refine ⟨_, rfl, rfl, _, rfl, ifF (decide_eq_false nc) ⟨_, rfl, rfl, _, rfl, ifF (decide_eq_false na) ?_⟩⟩
        refine ⟨_, rfl, (by show 2 ≤ sizeLine; decide), fun p hp => ?_⟩
        have s1 : Same H (upd H p (.tup [V.ty "list", V.ty "tuple"])) := same_upd (Same.refl H) hp
        refine ⟨_, p, _, _, _, true, rfl, upd_same, paired2, tyC _ s1, hk, _, rfl, iteT ?_⟩
        refine ⟨_, rfl, _, _, _, _, bL, rfl, .ty _, tyA _ s1, kit_ty l1, _, rfl, _, _, _, _, bL, rfl, .ty _, tyC _ s1, kit_ty l1, rfl, _, rfl, ifF (ne_bl bL) ?_⟩
        refine ⟨_, rfl, _, _, _, _, bT, rfl, .ty _, tyA _ s1, kit_ty l2, _, rfl, _, _, _, _, bT, rfl, .ty _, tyC _ s1, kit_ty l2, rfl, _, rfl, ifF (ne_bl bT) ?_⟩
        refine ⟨_, rfl, a, xs, rfl, lenA _ s1, _, rfl, c, ys, rfl, lenC _ s1, rfl, _, rfl, ifT (decide_eq_true (by rw [hlen])) ?_⟩
        have turn : ∀ (D : Addr) (i : Nat) (v : V) (G G' : Hp) (τ : L2.St), (upd H p (.tup [V.ty "list", V.ty "tuple"])) D = none → (Same (upd H p (.tup [V.ty "list", V.ty "tuple"])) G ∧ G D = some (.lst (List.replicate i (V.bl true)))) → i < xs.length →
            YPair (fun i => xs[i]?) (fun i => ys[i]?) i G v G' → τ = [some (V.ref a), some (V.ref c), none, none] →
            gTup K 2 (gCons (gName 2) (gCons (gName 3) gNil)) v τ G' fun σ2 H2 => wipe σ2 [2, 3] = wipe τ [2, 3] ∧ tYes σ2 H2 fun b H3 =>
              if b = true then tCall (spSame K n) [] E0 (tCons (tVar 2) (tCons (tVar 3) tNil)) σ2 H3 fun y H4 => ∃ acc, H4 D = some (.lst acc) ∧ acc.length < sizeLine ∧ (Same (upd H p (.tup [V.ty "list", V.ty "tuple"])) (upd H4 D (.lst (acc ++ [y]))) ∧ (upd H4 D (.lst (acc ++ [y]))) D = some (.lst (List.replicate (i + 1) (V.bl true))))
              else (Same (upd H p (.tup [V.ty "list", V.ty "tuple"])) H3 ∧ H3 D = some (.lst (List.replicate (i + 1) (V.bl true)))) := by
          rintro D i v G G' τ hD ⟨e1, e2⟩ hi ⟨U, u, z, rfl, hU, rfl, hu, hz⟩ rfl
          refine ⟨U, [u, z], rfl, SqT.of upd_same, rfl, _, _, rfl, _, _, rfl, rfl, rfl, ?_⟩
          refine iteT (B := Same (upd H p (.tup [V.ty "list", V.ty "tuple"])) (upd G U (.tup [u, z])) ∧ upd G U (.tup [u, z]) D = some (.lst (List.replicate (i + 1) (V.bl true)))) ⟨_, rfl, _, rfl, u, z, rfl, ?_, fun G2 e3 => ?_⟩
          · exact (hall i u z hu hz).same (s1.trans (same_upd e1 hU))
          · have e4 : G2 D = some (.lst (List.replicate i (V.bl true))) := e3 _ _ (by rw [upd_ne (ne_of_none e2 hU)]; exact e2)
            refine ⟨_, e4, by rw [List.length_replicate, sizeLine_eq]; omega, same_updN ((same_upd e1 hU).trans e3) hD, ?_⟩
            rw [upd_same, List.replicate_succ']
        have last : ∀ (D : Addr) (G : Hp), (Same (upd H p (.tup [V.ty "list", V.ty "tuple"])) G ∧ G D = some (.lst (List.replicate xs.length (V.bl true)))) → rAll K [V.ref D] G Q := fun D G ⟨e1, e2⟩ => by
          refine ⟨D, List.replicate xs.length true, rfl, SqL.of (by rw [map_rep]; exact e2), ?_⟩
          rw [all_true]
          exact k G (s1.trans e1)
        rcases hsq with ⟨hA, hC⟩ | ⟨hA, hC⟩
        · refine ⟨_, rfl, _, rfl, a, c, xs, ys, rfl, .inl ⟨s1.seq hA, s1.seq hC, fun D hD => ?_⟩⟩
          exact lc_it (walk_zip (n := xs.length) (by omega)) (fun i G => Same (upd H p (.tup [V.ty "list", V.ty "tuple"])) G ∧ G D = some (.lst (List.replicate i (V.bl true)))) ⟨same_upd (Same.refl _) hD, upd_same⟩
            (fun i G _ q => ⟨q.1.seq (s1.seq hA), q.1.seq (s1.seq hC)⟩) (fun i v G G' hi q y => turn D i v G G' _ hD q hi y rfl) (fun G q => last D G q)
        · refine ⟨_, rfl, _, rfl, a, c, xs, ys, rfl, .inr ⟨seqT s1 hA, seqT s1 hC, fun D hD => ?_⟩⟩
          exact lc_it (walk_zipT hlen) (fun i G => Same (upd H p (.tup [V.ty "list", V.ty "tuple"])) G ∧ G D = some (.lst (List.replicate i (V.bl true)))) ⟨same_upd (Same.refl _) hD, upd_same⟩
            (fun i G _ q => ⟨seqT q.1 (seqT s1 hA), seqT q.1 (seqT s1 hC)⟩) (fun i v G G' hi q y => turn D i v G G' _ hD q hi y rfl) (fun G q => last D G q)
end
/-- a def that stands at f and is called by its name -/
structure Def (P : Program) (w : World) (K : PySem.W.Frag) (mg : Str → Option Value) (base : Heap) (CX : CXT) (k : Nat) (x : Str) (f : Addr) (fd : FuncData) (ps : List Str) (sp : Sp) : Prop where
  ok : FnOk P w K mg base CX k f fd ps sp
  g : mg x = some (.ref f)
  k : PySem.W.keepIn K (.ref f) = true
  b : Binds K fd ps []

section
variable {P : Program} {w : World} {K : PySem.W.Frag} {mg : Str → Option Value} {base : Heap}
/-! ## common_divisor -/
def spGcd : Sp := fun vs H Q _ => ∃ a b : Int, vs = [.int a, .int b] ∧ 0 ≤ a ∧ 0 ≤ b ∧ Q (.int (gcdI a b)) H
theorem scGcd : FnScope ["one", "other"] ["one", "other"] (defScope sGcd) := ⟨rfl, rfl, rfl, by decide +kernel, rfl, by decide +kernel, by decide +kernel⟩
theorem ok_gcd {f : Addr} {fd : FuncData} (F : Fun K "common_divisor" "common_divisor" sGcd f fd) : FnOk P w K mg base CX0 1 f fd ["one", "other"] spGcd := by
  refine F.ok scGcd (fun vs H Q E h => ?_) (fun cdv A outer s H vs Q E hr h => ?_)
  · obtain ⟨a, b, rfl, _⟩ := h
    rfl
  · obtain ⟨a, b, rfl, ha, hb, k⟩ := h
    refine ⟨_, pss_cons (ps_while PassesOwn.never (pt_cmpR op_ne (pv 1) pe_int (nomark _)) (pss_one (ps_par (i := 0) (j := 1) rfl scGcd.nd rfl rfl (by decide) rfl rfl (pa_cons (pv 1) (pa_cons (pe_op op_mod (pv 0) (pv 1)) pa_nil)) (by rfl)))) (pss_one (ps_ret (pv 0))), ?_⟩
    refine ⟨fun m σ G => ∃ x y : Int, σ = [some (.int x), some (.int y)] ∧ G = H ∧ m = y.toNat ∧ 0 ≤ x ∧ 0 ≤ y ∧ gcdI x y = gcdI a b, ⟨_, a, b, rfl, rfl, rfl, ha, hb, rfl⟩, ?_⟩
    rintro m σ G ⟨x, y, rfl, rfl, rfl, hx, hy, hg⟩
    refine ⟨_, rfl, rfl, _, rfl, ?_⟩
    by_cases c : y = 0
    · subst c
      refine iteNS rfl ?_
      rw [gcdI_zero hx] at hg
      refine ⟨_, rfl, ?_⟩
      rw [hg]
      exact k
    · have hy1 : 0 < y := by omega
      refine ifT (ne_int c) ⟨fun σ G1 => ∃ x' y' : Int, σ = [some (.int x'), some (.int y')] ∧ G1 = G ∧ y'.toNat < y.toNat ∧ 0 ≤ x' ∧ 0 ≤ y' ∧ gcdI x' y' = gcdI a b, ?_, ?_⟩
      · rintro σ' H' ⟨x', y', rfl, rfl, hl, h1, h2, h3⟩
        exact ⟨_, hl, x', y', rfl, rfl, rfl, h1, h2, h3⟩
      · refine ⟨_, rfl, _, rfl, _, rfl, x, y, rfl, rfl, hy1, _, _, rfl, ?_⟩
        have q1 := Int.emod_nonneg x c
        have q2 := Int.emod_lt_of_pos x hy1
        exact ⟨y, x % y, rfl, rfl, by omega, hy, q1, (gcdI_step hx hy1).trans hg⟩
end
section
variable {P : Program} {w : World} {K : PySem.W.Frag} {mg : Str → Option Value} {base : Heap}
structure TxtA (mg : Str → Option Value) : Prop where
  abs : mg "abs" = none
def spLow : Sp := fun vs H Q _ => ∃ a b : Int, vs = [.int a, .int b] ∧ b ≠ 0 ∧ b.natAbs < 2 ^ 8000 ∧ ∀ p, H p = none → Q (.ref p) (upd H p (.tup [.int (frN a b), .int (frD a b)]))
theorem scLow : FnScope ["_law_above", "_law_below", "_law_one", "_law_other"] ["_law_above", "_law_below"] (defScope sLowest) := ⟨rfl, rfl, rfl, by decide +kernel, rfl, by decide +kernel, by decide +kernel⟩
theorem ok_low {f : Addr} {fd : FuncData} (F : Fun K "_law_lowest" "_law_lowest" sLowest f fd) (T : TxtA mg) : FnOk P w K mg base CX0 1 f fd ["_law_above", "_law_below"] spLow := by
  refine F.ok scLow (fun vs H Q E h => ?_) (fun cdv A outer s H vs Q E hr h => ?_)
  · obtain ⟨a, b, rfl, _⟩ := h
    rfl
  · obtain ⟨a, b, rfl, hb, hsz, k⟩ := h
    refine ⟨_, C8.pss_cut (ps_if (pt_cmpR op_lt (pv 1) pe_int (nomark _)) (pss_one (ps_par (i := 0) (j := 1) rfl scLow.nd rfl rfl (by decide) rfl rfl (pa_cons (pe_op op_sub pe_int (pv 0)) (pa_cons (pe_op op_sub pe_int (pv 1)) pa_nil)) (by rfl))) pss_nil)
      (pss_cons (ps_par (i := 2) (j := 3) rfl scLow.nd rfl rfl (by decide) rfl rfl (pa_cons (pe_callB call_abs (by rfl) T.abs (by decide +kernel) (pa_cons (pv 0) pa_nil)) (pa_cons (pv 1) pa_nil)) (by rfl))
      (pss_cons (ps_while PassesOwn.never (pt_cmpR op_ne (pv 3) pe_int (nomark _)) (pss_one (ps_par (i := 2) (j := 3) rfl scLow.nd rfl rfl (by decide) rfl rfl (pa_cons (pv 3) (pa_cons (pe_op op_mod (pv 2) (pv 3)) pa_nil)) (by rfl))))
      (pss_one (ps_ret (pe_tup (pa_cons (pe_op op_fdivW (pv 0) (pv 2)) (pa_cons (pe_op op_fdivW (pv 1) (pv 2)) pa_nil))))))), ?_⟩
    refine ⟨fun σ G => G = H ∧ ∃ x y : Int, σ = [some (.int x), some (.int y), none, none] ∧ x = (if b < 0 then -a else a) ∧ y = (if b < 0 then -b else b), ?_, ?_⟩
    · refine ⟨_, rfl, _, _, rfl, rfl, _, rfl, ?_⟩
      by_cases c : b < 0
      · refine ifT (decide_eq_true c) ?_
        refine ⟨_, rfl, _, _, rfl, rfl, _, rfl, _, _, rfl, rfl, _, _, rfl, ?_⟩
        exact ⟨rfl, _, _, rfl, by rw [if_pos c]; omega, by rw [if_pos c]; omega⟩
      · refine ifF (decide_eq_false c) ?_
        exact ⟨rfl, a, b, rfl, by rw [if_neg c], by rw [if_neg c]⟩
    · rintro σ G ⟨rfl, x, y, rfl, ex, ey⟩
      have y1 : 0 < y := by
        rw [ey]
        split <;> omega
      have eg : gcdI x y = gcdI a b := by
        rw [ex, ey]
        by_cases c : b < 0
        · rw [if_pos c, if_pos c, gcdI_neg]
        · rw [if_neg c, if_neg c]
      refine ⟨_, rfl, _, rfl, _, rfl, _, _, rfl, ?_⟩
      refine ⟨fun m σ G' => ∃ u v : Int, σ = [some (.int x), some (.int y), some (.int u), some (.int v)] ∧ G' = G ∧ m = v.toNat ∧ 0 ≤ u ∧ 0 ≤ v ∧ gcdI u v = gcdI a b,
        ⟨_, _, y, rfl, rfl, rfl, absI_nn x, by omega, (gcdI_abs1 x y).trans eg⟩, ?_⟩
      rintro m σ G' ⟨u, v, rfl, rfl, rfl, hu, hv, hg⟩
      refine ⟨_, rfl, rfl, _, rfl, ?_⟩
      by_cases c : v = 0
      · subst c
        refine iteNS rfl ?_
        rw [gcdI_zero hu] at hg
        have gp : 0 < gcdI a b := gcdI_pos hb
        have gl : (gcdI a b).natAbs < 2 ^ 8000 := Nat.lt_of_le_of_lt (by have := gcdI_le (a := a) hb; omega) hsz
        refine ⟨_, rfl, _, rfl, _, _, rfl, rfl, wide_div (by omega) (by rw [hg]; exact gl) (by decide) (by decide), _, rfl, _, rfl, _, _, rfl, rfl, wide_div (by omega) (by rw [hg]; exact gl) (by decide) (by decide), (by show 2 ≤ sizeLine; decide), fun p hp => ?_⟩
        have q := k p hp
        unfold frN frD at q
        rw [← ex, ← ey, ← hg] at q
        exact q
      · have v1 : 0 < v := by omega
        refine ifT (ne_int c) ⟨fun σ G1 => ∃ u' v' : Int, σ = [some (.int x), some (.int y), some (.int u'), some (.int v')] ∧ G1 = G' ∧ v'.toNat < v.toNat ∧ 0 ≤ u' ∧ 0 ≤ v' ∧ gcdI u' v' = gcdI a b, ?_, ?_⟩
        · rintro σ' H' ⟨u', v', rfl, rfl, hl, h1, h2, h3⟩
          exact ⟨_, hl, u', v', rfl, rfl, rfl, h1, h2, h3⟩
        · refine ⟨_, rfl, _, rfl, _, rfl, u, v, rfl, rfl, v1, _, _, rfl, ?_⟩
          have q1 := Int.emod_nonneg u c
          have q2 := Int.emod_lt_of_pos u v1
          exact ⟨v, u % v, rfl, rfl, by omega, hv, q1, (gcdI_step hu v1).trans hg⟩
end
end K03
namespace K03
open PySem PySem.Spec PyProof.Rows L2 Ew
section
variable {P : Program} {w : World} {K : PySem.W.Frag} {mg : Str → Option Value} {base : Heap}
/-! ## spread -/
def spSpread (K : PySem.W.Frag) : Sp := fun vs H Q _ => ∃ (t : Addr) (s : List Int), vs = [.ref t] ∧ SqT K H t (s.map V.int) ∧ 0 < s.length ∧ Q (.int (lastI s - firstI s)) H
theorem scSpread : FnScope ["ascending"] ["ascending"] (defScope sSpread) := ⟨rfl, rfl, rfl, by decide +kernel, rfl, by decide +kernel, by decide +kernel⟩
theorem ok_spread {f : Addr} {fd : FuncData} (F : Fun K "spread" "spread" sSpread f fd) : FnOk P w K mg base CX0 1 f fd ["ascending"] (spSpread K) := by
  refine F.ok scSpread (fun vs H Q E h => ?_) (fun cdv A outer s H vs Q E hr h => ?_)
  · obtain ⟨t, l, rfl, _⟩ := h
    rfl
  · obtain ⟨t, l, rfl, hT, hl, k⟩ := h
    refine ⟨_, pss_one (ps_ret (pe_op op_sub (pe_ix ix_tup (pv 0) (pe_un un_neg pe_int) (fun _ _ => rfl)) (pe_ix ix_tup (pv 0) pe_int (fun _ _ => rfl)))), ?_⟩
    exact ⟨_, rfl, _, rfl, t, _, _, _, rfl, rfl, hT, at_last hl, _, rfl, t, _, _, _, rfl, rfl, hT, at_first hl, _, _, rfl, rfl, k⟩
/-! ## widest_gap -/
structure TxtW (mg : Str → Option Value) : Prop where
  max : mg "max" = none
  zip : mg "zip" = none
def spWidest (K : PySem.W.Frag) : Sp := fun vs H Q _ => ∃ (t : Addr) (s : List Int), vs = [.ref t] ∧ SqT K H t (s.map V.int) ∧ 2 ≤ s.length ∧ s.length ≤ 1000 ∧ ∀ (m : Int) (G : Hp), Same H G → m ∈ gapL s → (∀ g ∈ gapL s, g ≤ m) → Q (.int m) G
theorem scWidest : FnScope ["ascending", "left", "right"] ["ascending"] (defScope sWidestGap) := ⟨rfl, rfl, rfl, by decide +kernel, rfl, by decide +kernel, by decide +kernel⟩
theorem ok_widest {f : Addr} {fd : FuncData} (F : Fun K "widest_gap" "widest_gap" sWidestGap f fd) (T : TxtW mg) : FnOk P w K mg base CX0 1 f fd ["ascending"] (spWidest K) := by
  refine F.ok scWidest (fun vs H Q E h => ?_) (fun cdv A outer s H vs Q E hr h => ?_)
  · obtain ⟨t, l, rfl, _⟩ := h
    rfl
  · obtain ⟨t, l, rfl, hT, hl, hmax, k⟩ := h
    refine ⟨_, pss_one (ps_ret (pe_callB (cr_max rfl) (by rfl) T.max (by decide +kernel) (pa_cons
      (pe_lc (own := [("left", 1), ("right", 2)]) (g := gTup K 2 (gCons (gName 1) (gCons (gName 2) gNil))) (tt := tYes) (te := tOp (rI0 fun i j => .int (i - j)) (tVar 2) (tVar 1)) rfl scWidest.nd
        (RZ.pi_zipA (by rfl) T.zip (pa_cons (pv 0) (pa_cons (pe_slice sl_tup (pv 0) (po_some pe_int) po_none) pa_nil)))
        (blkOk_by (N := ["ascending", "left", "right"]) (sc := defScope sWidestGap) (by decide +kernel))
        (fun _ _ _ _ _ => by exact pg_tup rfl (by exact pgs_cons (pg_name (i := 1) scWidest.nd rfl (Or.inl rfl)) (by exact pgs_cons (pg_name (i := 2) scWidest.nd rfl (Or.inl rfl)) pgs_nil)))
        (fun _ _ _ _ _ => pts_nil) (fun _ _ _ _ _ => by exact pe_op op_sub (pv 2) (pv 1))) pa_nil))), ?_⟩
    refine ⟨_, rfl, _, rfl, _, rfl, t, _, rfl, hT, ?_, fun p hp => ?_⟩
    · rintro ⟨z, _⟩
      have e := HT.sIx_nat (l.map V.int).length 0 1
      rw [show (some (1 : Int)) = some ((1 : Nat) : Int) from rfl, e, List.length_map] at z
      omega
    · rw [cut_tail]
      have s1 : Same H (upd H p (.tup ((l.map V.int).drop 1))) := same_upd (Same.refl H) hp
      refine ⟨t, p, _, _, rfl, .inr ⟨seqT s1 hT, SqT.of upd_same, fun D hD => ?_⟩⟩
      refine lc_it (walk_zipM (xs := l.map V.int) (ys := (l.map V.int).drop 1) (n := l.length - 1) (by rw [List.length_drop, List.length_map]; omega)) (fun i G => Same (upd H p (.tup ((l.map V.int).drop 1))) G ∧ G D = some (.lst (((gapL l).take i).map V.int)))
        ⟨same_upd (Same.refl _) hD, upd_same⟩ (fun i G _ q => ⟨seqT q.1 (seqT s1 hT), seqT q.1 (SqT.of upd_same)⟩) ?_ ?_
      · rintro i v G G' hi ⟨e1, e2⟩ ⟨U, u, z, rfl, hU, rfl, hu, hz⟩
        have hu' : (l.map V.int)[i]? = some u := hu
        have hz' : ((l.map V.int).drop 1)[i]? = some z := hz
        rw [ints_at (by omega)] at hu'
        rw [List.getElem?_drop, Nat.add_comm, ints_at (by omega)] at hz'
        cases hu'
        cases hz'
        refine ⟨U, _, rfl, SqT.of upd_same, rfl, _, _, rfl, _, _, rfl, rfl, rfl, ?_⟩
        refine iteT (B := Same (upd H p (.tup ((l.map V.int).drop 1))) (upd G U (.tup [.int (l.getD i 0), .int (l.getD (i + 1) 0)])) ∧ upd G U (.tup [.int (l.getD i 0), .int (l.getD (i + 1) 0)]) D = some (.lst (((gapL l).take (i + 1)).map V.int))) ⟨_, rfl, _, rfl, _, _, rfl, rfl, ?_⟩
        have e4 : upd G U (.tup [.int (l.getD i 0), .int (l.getD (i + 1) 0)]) D = some (.lst (((gapL l).take i).map V.int)) := by rw [upd_ne (ne_of_none e2 hU)]; exact e2
        refine ⟨_, e4, by rw [List.length_map, List.length_take, sizeLine_eq]; omega, same_updN (same_upd e1 hU) hD, ?_⟩
        rw [upd_same, List.take_add_one, show (gapL l)[i]? = some (l.getD (i + 1) 0 - l.getD i 0) by unfold gapL; rw [List.getElem?_map, List.getElem?_range hi]; rfl]
        simp
      · rintro G ⟨e1, e2⟩
        rw [List.take_of_length_le (by rw [gapL_len]; omega)] at e2
        exact ⟨D, gapL l, rfl, SqL.of e2, by rw [gapL_len]; omega, fun m hm hg => k m G (s1.trans e1) hm hg⟩
/-! ## are_digits -/
structure TxtD (K : PySem.W.Frag) (mg : Str → Option Value) (fW fSp : Addr) : Prop where
  len : mg "len" = none
  set : mg "set" = none
  g1 : ∃ t, mg "MIN_DIGITS" = some (.int 2 t)
  g2 : ∃ t, mg "MAX_DIGITS" = some (.int 24 t)
  g3 : ∃ t, mg "MAX_DIGIT" = some (.int 99 t)
  gW : mg "widest_gap" = some (.ref fW)
  kW : PySem.W.keepIn K (.ref fW) = true
  gS : mg "spread" = some (.ref fSp)
  kS : PySem.W.keepIn K (.ref fSp) = true
def spAre (K : PySem.W.Frag) : Sp := fun vs H Q _ => ∃ (b : Int) (t : Addr) (s : List Int), vs = [.int b, .ref t] ∧ SqT K H t (s.map V.int) ∧ s.Pairwise (· ≤ ·) ∧ 2 ≤ b ∧ b ≤ 10 ∧ s.length < 64 ∧ ∀ G, Same H G → Q (.bl (areB b s)) G
theorem scAre : FnScope ["base", "ascending"] ["base", "ascending"] (defScope sAreDigits) := ⟨rfl, rfl, rfl, by decide +kernel, rfl, by decide +kernel, by decide +kernel⟩
theorem ok_are {f fW fSp : Addr} {fd fdW fdS : FuncData} (F : Fun K "are_digits" "are_digits" sAreDigits f fd) (T : TxtD K mg fW fSp) (FW : FnOk P w K mg base CX0 1 fW fdW ["ascending"] (spWidest K)) (bW : Binds K fdW ["ascending"] [])
    (FS : FnOk P w K mg base CX0 1 fSp fdS ["ascending"] (spSpread K)) (bS : Binds K fdS ["ascending"] []) : FnOk P w K mg base CX0 2 f fd ["base", "ascending"] (spAre K) := by
  obtain ⟨t1, g1⟩ := T.g1
  obtain ⟨t2, g2⟩ := T.g2
  obtain ⟨t3, g3⟩ := T.g3
  refine F.ok scAre (fun vs H Q E h => ?_) (fun cdv A outer s H vs Q E hr h => ?_)
  · obtain ⟨b, t, l, rfl, _⟩ := h
    rfl
  · obtain ⟨b, t, l, rfl, hT, hasc, b2, b10, h64, k⟩ := h
    refine ⟨_, pss_cons (ps_if (PW.pt (pw_or (pt_not (pt_chain op_le op_le (pe_glob (v := .int 2) rfl g1 ⟨_, rfl⟩) (pe_callB call_len_seq (by rfl) T.len PySem.boot_len (pa_cons (pv 1) pa_nil)) (pe_glob (v := .int 24) rfl g2 ⟨_, rfl⟩)))
          (pw_or1 (pt_cmpR op_ne (pe_lenSetA (by rfl) T.len (by rfl) T.set (pv 1)) (pe_callB call_len_seq (by rfl) T.len PySem.boot_len (pa_cons (pv 1) pa_nil)) (nomark _)))))
        (pss_one (ps_ret pe_bl)) pss_nil)
      (pss_cons (ps_if (PW.pt (pw_or (pt_cmpR op_lt (pe_ix ix_tup (pv 1) pe_int (fun _ _ => rfl)) (pe_un un_neg (pe_glob (v := .int 99) rfl g3 ⟨_, rfl⟩)) (nomark _))
          (pw_or1 (pt_cmpR op_gt (pe_ix ix_tup (pv 1) (pe_un un_neg pe_int) (fun _ _ => rfl)) (pe_glob (v := .int 99) rfl g3 ⟨_, rfl⟩) (nomark _)))))
        (pss_one (ps_ret pe_bl)) pss_nil)
      (pss_one (ps_ret (pe_cmpR op_le (pe_op op_mul (pe_call FW hr rfl T.gW T.kW bW .nil pass0 (pa_cons (pv 1) pa_nil)) (pe_op op_sub (pv 0) pe_int)) (pe_call FS hr rfl T.gS T.kS bS .nil pass0 (pa_cons (pv 1) pa_nil)) (nomark _))))), ?_⟩
    have no : ¬ AreS b l → Q (.bl false) H := fun z => by
      have q := k H (Same.refl H)
      rw [areB_f z] at q
      exact q
    refine ⟨_, rfl, t, _, rfl, .inr hT, _, _, rfl, rfl, _, rfl, ?_⟩
    rw [List.length_map]
    by_cases c1 : (2 : Int) ≤ (l.length : Int)
    · refine ifT (decide_eq_true c1) ⟨_, _, rfl, rfl, _, rfl, ?_⟩
      by_cases c2 : (l.length : Int) ≤ 24
      · rw [decide_eq_true c2]
        refine iteF ?_
        refine ⟨_, rfl, t, l, rfl, .inr hT, by omega, fun c hc => ?_⟩
        refine ⟨_, rfl, t, _, rfl, .inr hT, rfl, _, rfl, ?_⟩
        rw [List.length_map]
        by_cases c3 : l.Nodup
        · have e : (!decide (V.int (c : Int) = V.int (l.length : Int))) = false := by rw [hc.mpr c3]; simp
          refine ifF e ?_
          have lp : 0 < l.length := by omega
          refine ⟨_, rfl, t, _, _, _, rfl, rfl, hT, at_first lp, _, rfl, _, _, rfl, rfl, _, rfl, ?_⟩
          by_cases c4 : firstI l < -99
          · exact ifT (decide_eq_true c4) (iteT (no fun z => by have := z.lo; omega))
          · refine ifF (decide_eq_false c4) ⟨_, rfl, _, rfl, t, _, _, _, rfl, rfl, hT, at_last lp, _, _, rfl, rfl, _, rfl, ?_⟩
            by_cases c5 : 99 < lastI l
            · exact ifT (decide_eq_true c5) (no fun z => by have := z.hi; omega)
            · refine ifF (decide_eq_false c5) ⟨_, rfl, t, l, rfl, hT, by omega, by omega, fun m G e1 hm hg => ?_⟩
              refine ⟨_, rfl, _, _, rfl, rfl, m, b - 1, rfl, rfl, mul_smallR (by omega) (by omega), _, rfl, t, l, rfl, seqT e1 hT, lp, _, _, rfl, rfl, ?_⟩
              have q := k G e1
              by_cases c6 : m * (b - 1) ≤ lastI l - firstI l
              · rw [areB_t ⟨by omega, by omega, c3, by omega, by omega, (gap_iff b2 hm hg).mp c6⟩] at q
                show Q (V.bl (decide (m * (b - 1) ≤ lastI l - firstI l))) G
                rw [decide_eq_true c6]
                exact q
              · rw [areB_f fun z => c6 ((gap_iff b2 hm hg).mpr z.gap)] at q
                show Q (V.bl (decide (m * (b - 1) ≤ lastI l - firstI l))) G
                rw [decide_eq_false c6]
                exact q
        · have e : (!decide (V.int (c : Int) = V.int (l.length : Int))) = true := ne_int fun z => c3 (hc.mp (by omega))
          exact ifT e (no fun z => c3 z.nd)
      · rw [decide_eq_false c2]
        exact iteT (no fun z => by have := z.l24; omega)
    · exact ifF (decide_eq_false c1) ⟨_, rfl, iteT (no fun z => by have := z.l2; omega)⟩
end
end K03
namespace K03
open PySem PySem.Spec PyProof.Rows L2 Ew
section
variable {P : Program} {w : World} {K : PySem.W.Frag} {mg : Str → Option Value} {base : Heap}
/-! ## _law_are_digits -/
structure TxtLD (mg : Str → Option Value) : Prop where
  sorted : mg "sorted" = none
  len : mg "len" = none
  set : mg "set" = none
  abs : mg "abs" = none
  all : mg "all" = none
  range : mg "range" = none
def spLAre (K : PySem.W.Frag) : Sp := fun vs H Q _ => ∃ (b : Int) (a : Addr) (ds : List Int), vs = [.int b, .ref a] ∧ (SqL K H a (ds.map V.int) ∨ SqT K H a (ds.map V.int)) ∧ 2 ≤ b ∧ b ≤ 10 ∧ ds.length < 64 ∧ ∀ G, Same H G → Q (.bl (areB b (srt ds))) G
theorem scLAre : FnScope ["_law_base", "_law_digits_here", "_law_line", "_law_k"] ["_law_base", "_law_digits_here"] (defScope sLawAreDigits) := ⟨rfl, rfl, rfl, by decide +kernel, rfl, by decide +kernel, by decide +kernel⟩
theorem ok_lare {f : Addr} {fd : FuncData} (F : Fun K "_law_are_digits" "_law_are_digits" sLawAreDigits f fd) (T : TxtLD mg) : FnOk P w K mg base CX0 1 f fd ["_law_base", "_law_digits_here"] (spLAre K) := by
  refine F.ok scLAre (fun vs H Q E h => ?_) (fun cdv A outer s H vs Q E hr h => ?_)
  · obtain ⟨b, a, ds, rfl, _⟩ := h
    rfl
  · obtain ⟨b, a, ds, rfl, hA, b2, b10, h64, k⟩ := h
    refine ⟨_, pss_cons (ps_set (i := 2) scLAre.nd rfl (Or.inr rfl) (pe_callB cr_sortA (by rfl) T.sorted (by decide +kernel) (pa_cons (pv 1) pa_nil)))
      (pss_cons (ps_if (PW.pt (pw_or (pt_not (pt_chain op_le op_le pe_int (pe_callB call_len_seq (by rfl) T.len PySem.boot_len (pa_cons (pv 2) pa_nil)) pe_int))
          (pw_or1 (pt_cmpR op_ne (pe_lenSetA (by rfl) T.len (by rfl) T.set (pv 2)) (pe_callB call_len_seq (by rfl) T.len PySem.boot_len (pa_cons (pv 2) pa_nil)) (nomark _)))))
        (pss_one (ps_ret pe_bl)) pss_nil)
      (pss_cons (ps_if (PW.pt (pw_or (pt_cmpR op_gt (pe_callB call_abs (by rfl) T.abs (by decide +kernel) (pa_cons (pe_ix ix_list (pv 2) pe_int (fun _ _ => rfl)) pa_nil)) pe_int (nomark _))
          (pw_or1 (pt_cmpR op_gt (pe_callB call_abs (by rfl) T.abs (by decide +kernel) (pa_cons (pe_ix ix_list (pv 2) (pe_un un_neg pe_int) (fun _ _ => rfl)) pa_nil)) pe_int (nomark _)))))
        (pss_one (ps_ret pe_bl)) pss_nil)
      (pss_one (ps_ret (pe_callB (cr_all rfl) (by rfl) T.all (by decide +kernel) (pa_cons
        (pe_lc (own := [("_law_k", 3)]) (g := gName 3) (tt := tYes)
          (te := tOp (rI0 fun i j => .bl (decide (i ≤ j))) (tOp (rI CMul fun i j => .int (i * j)) (tOp (rI0 fun i j => .int (i - j)) (tOp (rIxL K) (tVar 2) (tOp (rI0 fun i j => .int (i + j)) (tVar 3) (tC (.int 1)))) (tOp (rIxL K) (tVar 2) (tVar 3))) (tOp (rI0 fun i j => .int (i - j)) (tVar 0) (tC (.int 1))))
            (tOp (rI0 fun i j => .int (i - j)) (tOp (rIxL K) (tVar 2) (tUn (rU fun i => .int (-i)) (tC (.int 1)))) (tOp (rIxL K) (tVar 2) (tC (.int 0)))))
          rfl scLAre.nd (pi_range1 rfl T.range (pa_cons (pe_op op_sub (pe_callB call_len_seq (by rfl) T.len PySem.boot_len (pa_cons (pv 2) pa_nil)) pe_int) pa_nil))
          (blkOk_by (N := ["_law_base", "_law_digits_here", "_law_line", "_law_k"]) (sc := defScope sLawAreDigits) (by decide +kernel))
          (fun _ _ _ _ _ => by exact pg_name (i := 3) scLAre.nd rfl (Or.inl rfl)) (fun _ _ _ _ _ => pts_nil)
          (fun _ _ _ _ _ => by exact pe_cmpR op_le (pe_op op_mul (pe_op op_sub (pe_ix ix_list (pv 2) (pe_op op_add (pv 3) pe_int) (fun _ _ => rfl)) (pe_ix ix_list (pv 2) (pv 3) (fun _ _ => rfl))) (pe_op op_sub (pv 0) pe_int)) (pe_op op_sub (pe_ix ix_list (pv 2) (pe_un un_neg pe_int) (fun _ _ => rfl)) (pe_ix ix_list (pv 2) pe_int (fun _ _ => rfl))) (nomark _))) pa_nil)))))), ?_⟩
    refine ⟨_, rfl, a, ds, rfl, hA, h64, fun ms p hp hasc hnew => ?_⟩
    rw [← srt_eq hp hasc] at k
    have hlen : ms.length < 64 := by rw [hp.length_eq]; exact h64
    have s1 : Same H (upd H p (.lst (ms.map V.int))) := same_upd (Same.refl H) hnew
    have no : ∀ G, Same H G → ¬ AreS b ms → Q (.bl false) G := fun G e z => by
      have q := k G e
      rw [areB_f z] at q
      exact q
    clear hp hA h64
    refine ⟨_, rfl, p, _, rfl, .inl (SqL.of upd_same), _, _, rfl, rfl, _, rfl, ?_⟩
    rw [List.length_map]
    by_cases c1 : (2 : Int) ≤ (ms.length : Int)
    · refine ifT (decide_eq_true c1) ⟨_, _, rfl, rfl, _, rfl, ?_⟩
      by_cases c2 : (ms.length : Int) ≤ 24
      · rw [decide_eq_true c2]
        refine iteF ?_
        refine ⟨_, rfl, p, ms, rfl, .inl (SqL.of upd_same), by omega, fun c hc => ?_⟩
        refine ⟨_, rfl, p, _, rfl, .inl (SqL.of upd_same), rfl, _, rfl, ?_⟩
        rw [List.length_map]
        by_cases c3 : ms.Nodup
        · have e : (!decide (V.int (c : Int) = V.int (ms.length : Int))) = false := by rw [hc.mpr c3]; simp
          refine ifF e ?_
          have lp : 0 < ms.length := by omega
          have fl := first_le_last hasc lp
          refine ⟨_, rfl, p, _, _, _, rfl, rfl, SqL.of upd_same, at_first lp, _, rfl, _, _, rfl, rfl, _, rfl, ?_⟩
          by_cases c4 : 99 < absI (firstI ms)
          · refine ifT (decide_eq_true c4) (iteT (no _ s1 fun z => ?_))
            have := z.lo
            have := z.hi
            unfold absI at c4
            split at c4 <;> omega
          · refine ifF (decide_eq_false c4) ⟨_, rfl, _, rfl, p, _, _, _, rfl, rfl, SqL.of upd_same, at_last lp, _, rfl, _, _, rfl, rfl, _, rfl, ?_⟩
            by_cases c5 : 99 < absI (lastI ms)
            · refine ifT (decide_eq_true c5) (no _ s1 fun z => ?_)
              have := z.lo
              have := z.hi
              unfold absI at c5
              split at c5 <;> omega
            · refine ifF (decide_eq_false c5) ⟨_, rfl, p, _, rfl, .inl (SqL.of upd_same), _, _, rfl, rfl, _, rfl, ?_, ?_, fun D hD => ?_⟩
              · rw [List.length_map]
                have : (2 : Int) ^ 62 = 4611686018427387904 := by decide
                omega
              · rw [List.length_map]
                have : (2 : Int) ^ 62 = 4611686018427387904 := by decide
                omega
              · rw [List.length_map]
                have en : ((ms.length : Int) - 1).toNat = ms.length - 1 := by omega
                rw [en]
                refine lc_range (lo := 0) (n := ms.length - 1) (fun i G => Same (upd H p (.lst (ms.map V.int))) G ∧ G D = some (.lst (((List.range i).map fun j => decide ((ms.getD (j + 1) 0 - ms.getD j 0) * (b - 1) ≤ lastI ms - firstI ms)).map V.bl)))
                  ⟨same_upd (Same.refl _) hD, upd_same⟩ ?_ ?_
                · rintro i G hi ⟨e1, e2⟩
                  have hL : SqL K G p (ms.map V.int) := e1.seq (SqL.of upd_same)
                  refine ⟨rfl, ?_⟩
                  refine iteT (B := Same (upd H p (.lst (ms.map V.int))) G ∧ G D = some (.lst (((List.range (i + 1)).map fun j => decide ((ms.getD (j + 1) 0 - ms.getD j 0) * (b - 1) ≤ lastI ms - firstI ms)).map V.bl))) ?_
                  refine ⟨_, rfl, _, rfl, _, _, rfl, rfl, p, _, _, _, rfl, rfl, hL, at_int (i := i + 1) (by omega) (by omega), _, rfl, _, rfl, p, _, _, _, rfl, rfl, hL, at_int (i := i) (by omega) (by omega), _, _, rfl, rfl, _, rfl, _, _, rfl, rfl, _, _, rfl, rfl, mul_smallR (by omega) (by omega),
                    _, rfl, _, rfl, p, _, _, _, rfl, rfl, hL, at_last lp, _, rfl, p, _, _, _, rfl, rfl, hL, at_first lp, _, _, rfl, rfl, _, _, rfl, rfl, ?_⟩
                  refine ⟨_, e2, by rw [List.length_map, List.length_map, List.length_range, sizeLine_eq]; omega, same_updN e1 hD, ?_⟩
                  rw [upd_same, List.range_succ, List.map_append, List.map_append]
                  rfl
                · rintro G ⟨e1, e2⟩
                  refine ⟨D, _, rfl, SqL.of e2, ?_⟩
                  have q := k G (s1.trans e1)
                  by_cases c6 : ∀ i, i + 1 < ms.length → (ms.getD (i + 1) 0 - ms.getD i 0) * (b - 1) ≤ lastI ms - firstI ms
                  · have ok : AreS b ms := ⟨by omega, by omega, c3, by unfold absI at c4; split at c4 <;> omega, by unfold absI at c5; split at c5 <;> omega, c6⟩
                    rw [areB_t ok] at q
                    rw [show (((List.range (ms.length - 1)).map fun j => decide ((ms.getD (j + 1) 0 - ms.getD j 0) * (b - 1) ≤ lastI ms - firstI ms)).all id) = true from by
                      rw [List.all_eq_true]
                      intro x hx
                      obtain ⟨j, hj, rfl⟩ := List.mem_map.mp hx
                      exact decide_eq_true (c6 j (by have := List.mem_range.mp hj; omega))]
                    exact q
                  · rw [areB_f fun z => c6 z.gap] at q
                    rw [show (((List.range (ms.length - 1)).map fun j => decide ((ms.getD (j + 1) 0 - ms.getD j 0) * (b - 1) ≤ lastI ms - firstI ms)).all id) = false from by
                      refine Bool.eq_false_iff.mpr fun z => c6 fun i hi => ?_
                      have := List.all_eq_true.mp z _ (List.mem_map.mpr ⟨i, List.mem_range.mpr (by omega), rfl⟩)
                      exact of_decide_eq_true this]
                    exact q
        · have e : (!decide (V.int (c : Int) = V.int (ms.length : Int))) = true := ne_int fun z => c3 (hc.mp (by omega))
          exact ifT e (no _ s1 fun z => c3 z.nd)
      · rw [decide_eq_false c2]
        exact iteT (no _ s1 fun z => by have := z.l24; omega)
    · exact ifF (decide_eq_false c1) ⟨_, rfl, iteT (no _ s1 fun z => by have := z.l2; omega)⟩
end
end K03
namespace K03
open PySem PySem.Spec PyProof.Rows L2 Ew
section
variable {P : Program} {w : World} {K : PySem.W.Frag} {mg : Str → Option Value} {base : Heap}
theorem scInitBase : FnScope ["self"] ["self"] (defScope sInvalidBase_init) := ⟨rfl, rfl, rfl, by decide +kernel, rfl, by decide +kernel, by decide +kernel⟩
theorem ok_initBase {f C fI : Addr} {fd : FuncData} (F : Fun K "__init__" "InvalidBase.__init__" sInvalidBase_init f fd) (T : ErrT K mg "InvalidBase" C fI) : FnOk P w K mg base CX0 1 f fd ["self"] (spInitTag K C "InvalidBase") := by
  refine F.ok scInitBase (fun vs H Q E h => ?_) (fun cdv A outer s H vs Q E hr h => ?_)
  · obtain ⟨a, rfl, _⟩ := h
    rfl
  · obtain ⟨a, rfl, ha, k⟩ := h
    exact ⟨_, pss_one (ps_ost (pv 0) pe_str), _, rfl, a, C, rfl, T.oex, T.nT, .inl ⟨ha, k⟩⟩
theorem scInitDigits : FnScope ["self"] ["self"] (defScope sInvalidDigits_init) := ⟨rfl, rfl, rfl, by decide +kernel, rfl, by decide +kernel, by decide +kernel⟩
theorem ok_initDigits {f C fI : Addr} {fd : FuncData} (F : Fun K "__init__" "InvalidDigits.__init__" sInvalidDigits_init f fd) (T : ErrT K mg "InvalidDigits" C fI) : FnOk P w K mg base CX0 1 f fd ["self"] (spInitTag K C "InvalidDigits") := by
  refine F.ok scInitDigits (fun vs H Q E h => ?_) (fun cdv A outer s H vs Q E hr h => ?_)
  · obtain ⟨a, rfl, _⟩ := h
    rfl
  · obtain ⟨a, rfl, ha, k⟩ := h
    exact ⟨_, pss_one (ps_ost (pv 0) pe_str), _, rfl, a, C, rfl, T.oex, T.nT, .inl ⟨ha, k⟩⟩
/-! ## DigitSet -/
def dsF (b : Int) (t : Addr) : List (Str × V) := putF "digits" (.ref t) (putF "base" (.int b) [])
theorem dsF_base (b : Int) (t : Addr) : (dsF b t).lookup ("base" : Str) = some (.int b) := by
  unfold dsF
  rw [lookup_putF, if_neg (by decide +kernel), lookup_putF, if_pos rfl]
theorem dsF_digits (b : Int) (t : Addr) : (dsF b t).lookup ("digits" : Str) = some (.ref t) := by
  unfold dsF
  rw [lookup_putF, if_pos rfl]
structure TxtDS (K : PySem.W.Frag) (mg : Str → Option Value) (CD CB CI fIB fID fA : Addr) : Prop where
  cl : Cls K CD
  nB : NoAttr K CD "base"
  nD : NoAttr K CD "digits"
  gB : ∃ t, mg "MIN_BASE" = some (.int 2 t)
  gX : ∃ t, mg "MAX_BASE" = some (.int 10 t)
  eB : ErrT K mg "InvalidBase" CB fIB
  eD : ErrT K mg "InvalidDigits" CI fID
  tuple : mg "tuple" = none
  sorted : mg "sorted" = none
  len : mg "len" = none
  gA : mg "are_digits" = some (.ref fA)
  kA : PySem.W.keepIn K (.ref fA) = true
def spSetInit (K : PySem.W.Frag) (CD CB CI : Addr) : Sp := fun vs H Q E => ∃ (x dx a : Addr) (b : Int) (ds : List Int), vs = [.ref x, .int b, .ref a] ∧ H x = some (.ins CD dx []) ∧ (SqL K H a (ds.map V.int) ∨ SqT K H a (ds.map V.int)) ∧ ds.length < 64 ∧
  (¬ (2 ≤ b ∧ b ≤ 10) → ∀ d, H d = none → E (.ref CB) (some d) (upd H d (.xd [("tag", .str "InvalidBase")]))) ∧
  (2 ≤ b → b ≤ 10 → ¬ AreS b (srt ds) → ∀ G d, Same H G → G d = none → E (.ref CI) (some d) (upd G d (.xd [("tag", .str "InvalidDigits")]))) ∧
  (2 ≤ b → b ≤ 10 → AreS b (srt ds) → ∀ G t, (∀ c o, H c = some o → c ≠ x → G c = some o) → H t = none → G x = some (.ins CD dx (dsF b t)) → G t = some (.tup ((srt ds).map V.int)) → Q .non G)
theorem scSetInit : FnScope ["self", "base", "digits", "ascending"] ["self", "base", "digits"] (defScope sDigitSet_init) := ⟨rfl, rfl, rfl, by decide +kernel, rfl, by decide +kernel, by decide +kernel⟩
theorem raise_tag {H : Hp} {C : Addr} {t : Str} {E : XK} {K : PySem.W.Frag} (h : ∀ d, H d = none → E (.ref C) (some d) (upd H d (.xd [("tag", .str t)]))) {σ : L2.St} : tMk0 C (spInitTag K C t) σ H fun cls d H' => E cls d H' := fun a ha => by
  refine ⟨a, rfl, upd_same, fun dx hdx ne => ⟨rfl, dx, [("tag", .str t)], upd_same, ?_, ?_, ?_⟩⟩
  · rw [upd_ne ne, upd_same]
  · rw [upd_ne ne] at hdx
    exact hdx
  · rw [raise_heap ha hdx ne]
    rw [upd_ne ne] at hdx
    exact h dx hdx
theorem ok_setInit {f CD CB CI fIB fID fA : Addr} {fd fdB fdD fdA : FuncData} (F : Fun K "__init__" "DigitSet.__init__" sDigitSet_init f fd) (T : TxtDS K mg CD CB CI fIB fID fA)
    (FB : FnOk P w K mg base CX0 1 fIB fdB ["self"] (spInitTag K CB "InvalidBase")) (bB : Binds K fdB ["self"] []) (FD : FnOk P w K mg base CX0 1 fID fdD ["self"] (spInitTag K CI "InvalidDigits")) (bD : Binds K fdD ["self"] [])
    (FA : FnOk P w K mg base CX0 2 fA fdA ["base", "ascending"] (spAre K)) (bA : Binds K fdA ["base", "ascending"] []) : FnOk P w K mg base (L2.CX P w) 3 f fd ["self", "base", "digits"] (spSetInit K CD CB CI) := by
  obtain ⟨t1, g1⟩ := T.gB
  obtain ⟨t2, g2⟩ := T.gX
  refine F.okX scSetInit (fun vs H Q E h => ?_) (fun cdv A outer s H vs Q E hr h => ?_)
  · obtain ⟨x, dx, a, b, ds, rfl, _⟩ := h
    rfl
  · obtain ⟨x, dx, a, b, ds, rfl, hx, hA, h64, kB, kD, kQ⟩ := h
    refine ⟨_, pss_cons (ps_if (pt_not (pt_chain op_le op_le (pe_glob (v := .int 2) rfl g1 ⟨_, rfl⟩) (pv 1) (pe_glob (v := .int 10) rfl g2 ⟨_, rfl⟩))) (pss_one (ps_raise rfl (takes_of rfl rfl rfl rfl) (pmk0 T.eB.oex T.eB.iC T.eB.tI FB hr bB pass0 rfl T.eB.gC))) pss_nil)
      (pss_cons (ps_set (i := 3) scSetInit.nd rfl (Or.inl rfl) (pe_callTy call_tuple_of (by rfl) T.tuple (by decide +kernel) (pa_cons (pe_callB cr_sortA (by rfl) T.sorted (by decide +kernel) (pa_cons (pv 2) pa_nil)) pa_nil)))
      (pss_cons (ps_if (pt_not (pt_val (pe_call FA hr rfl T.gA T.kA bA .nil pass0 (pa_cons (pv 1) (pa_cons (pv 3) pa_nil))))) (pss_one (ps_raise rfl (takes_of rfl rfl rfl rfl) (pmk0 T.eD.oex T.eD.iC T.eD.tI FD hr bD pass0 rfl T.eD.gC))) pss_nil)
      (pss_cons (ps_fld (pv 0) (pv 1) rfl) (pss_one (ps_fld (pv 0) (pv 3) rfl))))), ?_⟩
    refine ⟨_, rfl, _, _, rfl, rfl, _, rfl, ?_⟩
    by_cases c1 : 2 ≤ b
    · refine ifT (decide_eq_true c1) ⟨_, _, rfl, rfl, _, rfl, ?_⟩
      by_cases c2 : b ≤ 10
      · rw [decide_eq_true c2]
        refine iteF ?_
        refine ⟨_, rfl, a, ds, rfl, hA, h64, fun ms p hp hasc hnew => ?_⟩
        have em := srt_eq hp hasc
        have s1 : Same H (upd H p (.lst (ms.map V.int))) := same_upd (Same.refl H) hnew
        refine ⟨p, _, rfl, .inl ⟨SqL.of upd_same, fun t ht => ?_⟩⟩
        have s2 : Same H (upd (upd H p (.lst (ms.map V.int))) t (.tup (ms.map V.int))) := same_upd s1 ht
        refine ⟨_, rfl, _, rfl, b, t, ms, rfl, SqT.of upd_same, hasc, c1, c2, by rw [hp.length_eq]; exact h64, fun G e => ?_⟩
        have s3 := s2.trans e
        have gt : G t = some (.tup (ms.map V.int)) := e _ _ upd_same
        rw [em] at gt ⊢
        by_cases c3 : AreS b (srt ds)
        · refine ⟨_, rfl, ?_⟩
          rw [areB_t c3]
          refine iteF ?_
          have gx := s3 _ _ hx
          have nxt : x ≠ t := ne_of gx gt (by intro z; cases z)
          refine ⟨_, rfl, _, rfl, x, CD, dx, [], rfl, gx, T.cl, T.nB, (by show 0 < 1000; decide), _, rfl, _, rfl, x, CD, dx, _, rfl, upd_same, T.cl, T.nD, (by show 1 < 1000; decide), ?_⟩
          refine kQ c1 c2 c3 _ t (fun q o hq nq => ?_) (s1.free ht) upd_same ?_
          · rw [upd_ne nq, upd_ne nq]
            exact s3 _ _ hq
          · rw [upd_ne nxt.symm, upd_ne nxt.symm]
            exact gt
        · refine ⟨_, rfl, ?_⟩
          rw [areB_f c3]
          exact iteT (raise_tag fun d hd => kD c1 c2 c3 G d s3 hd)
      · rw [decide_eq_false c2]
        exact iteT (raise_tag fun d hd => kB (fun z => c2 z.2) d hd)
    · exact ifF (decide_eq_false c1) ⟨_, rfl, iteT (raise_tag fun d hd => kB (fun z => c1 z.1) d hd)⟩
def spSetLen (CD : Addr) : Sp := fun vs H Q _ => ∃ (x dx t : Addr) (b : Int) (xs : List V), vs = [.ref x] ∧ H x = some (.ins CD dx (dsF b t)) ∧ H t = some (.tup xs) ∧ Q (.int xs.length) H
theorem scSetLen : FnScope ["self"] ["self"] (defScope sDigitSet_len) := ⟨rfl, rfl, rfl, by decide +kernel, rfl, by decide +kernel, by decide +kernel⟩
theorem ok_setLen {f CD CB CI fIB fID fA : Addr} {fd : FuncData} (F : Fun K "__len__" "DigitSet.__len__" sDigitSet_len f fd) (T : TxtDS K mg CD CB CI fIB fID fA) : FnOk P w K mg base CX0 1 f fd ["self"] (spSetLen CD) := by
  refine F.ok scSetLen (fun vs H Q E h => ?_) (fun cdv A outer s H vs Q E hr h => ?_)
  · obtain ⟨x, dx, t, b, xs, rfl, _⟩ := h
    rfl
  · obtain ⟨x, dx, t, b, xs, rfl, hx, ht, k⟩ := h
    refine ⟨_, pss_one (ps_ret (pe_callB call_len_seq (by rfl) T.len PySem.boot_len (pa_cons (pe_fld (pv 0) rfl) pa_nil))), ?_⟩
    exact ⟨_, rfl, x, CD, dx, _, _, rfl, hx, T.cl, T.nD, dsF_digits b t, t, _, rfl, .inr (SqT.of ht), k⟩
end
end K03
namespace K03
open PySem PySem.Spec PyProof.Rows L2 Ew
section
variable {P : Program} {w : World} {K : PySem.W.Frag} {mg : Str → Option Value} {base : Heap}
/-! ## _law_digits -/
structure TxtLG (mg : Str → Option Value) : Prop where
  list : mg "list" = none
  range : mg "range" = none
  len : mg "len" = none
def spLDigits : Sp := fun vs H Q _ => ∃ (p q : Addr) (ns : List Int) (i v sd b m : Int), vs = [.ref p, .int b, .int m] ∧ RngAt H p q ns i v sd ∧ 2 ≤ b ∧ b ≤ 10 ∧ b ≤ m ∧ m ≤ 20 ∧
  ∀ (G : Hp) (d : Addr) (ds : List Int) (i' v' sd' : Int), KeepBut p H G → RngAt G p q ns i' v' sd' → H d = none → G d = some (.lst (ds.map V.int)) → Dig b ds → Q (.ref d) G
def ldN : List Str := ["_law_rng", "_law_base", "_law_most", "_law_many", "_law_front", "_law_line", "_law_turn", "_law_fewer", "_law_unit", "_law_digit"]
theorem scLDigits : FnScope ldN ["_law_rng", "_law_base", "_law_most"] (defScope sLawDigits) := ⟨rfl, rfl, rfl, by decide +kernel, rfl, by decide +kernel, by decide +kernel⟩
theorem ok_ldigits {f fD fP fA : Addr} {fd fdD fdP fdA : FuncData} (F : Fun K "_law_digits" "_law_digits" sLawDigits f fd) (T : TxtLG mg) (D : Def P w K mg base CX0 1 "_law_draw" fD fdD ["_law_rng", "_law_many"] spDraw) (Pk : Def P w K mg base CX0 2 "_law_pick" fP fdP ["_law_rng", "_law_items"] (spPick K))
    (LA : Def P w K mg base CX0 1 "_law_are_digits" fA fdA ["_law_base", "_law_digits_here"] (spLAre K)) : FnOk P w K mg base CX0 3 f fd ["_law_rng", "_law_base", "_law_most"] spLDigits := by
  refine F.ok scLDigits (fun vs H Q E h => ?_) (fun cdv A outer s H vs Q E hr h => ?_)
  · obtain ⟨p, q, ns, i, v, sd, b, m, rfl, _⟩ := h
    rfl
  · obtain ⟨p, q, ns, i, v, sd, b, m, rfl, R, b2, b10, bm, m20, k⟩ := h
    have r1' : Room 1 _ := hr.mono (by decide)
    refine ⟨_, pss_cons (ps_set (i := 3) scLDigits.nd rfl (Or.inl rfl) (pe_op op_add (pv 1) (pe_call D.ok r1' rfl D.g D.k D.b .nil pass0 (pa_cons (pv 0) (pa_cons (pe_op op_add (pe_op op_sub (pv 2) (pv 1)) pe_int) pa_nil)))))
      (pss_cons (ps_set (i := 4) scLDigits.nd rfl (Or.inl rfl) (pe_call Pk.ok hr rfl Pk.g Pk.k Pk.b .nil pass0 (pa_cons (pv 0) (pa_cons (pe_lst (pa_cons (pe_op op_sub pe_int (pe_op op_fdiv (pv 3) pe_int)) (pa_cons pe_int (pa_cons (pe_op op_sub (pe_call D.ok r1' rfl D.g D.k D.b .nil pass0 (pa_cons (pv 0) (pa_cons pe_int pa_nil))) pe_int) pa_nil)))) pa_nil))))
      (pss_cons (ps_set (i := 5) scLDigits.nd rfl (Or.inl rfl) (pe_listRg rfl rfl T.list (prg_2 rfl T.range (pv 4) (pe_op op_add (pv 4) (pv 3)))))
      (pss_cons (ps_for PassesOwn.never rfl (pi_range1 rfl T.range (pa_cons (pe_call D.ok r1' rfl D.g D.k D.b .nil pass0 (pa_cons (pv 0) (pa_cons pe_int pa_nil))) pa_nil)) (pg_name (i := 6) scLDigits.nd rfl (Or.inl rfl))
        (pss_cons (ps_set (i := 7) scLDigits.nd rfl (Or.inl rfl) (pe_callTy call_list_of (by rfl) T.list (by decide +kernel) (pa_cons (pv 5) pa_nil)))
        (pss_cons (ps_expr (pe_bm PySem.F.plainAttrs_list PySem.F.slot_list_pop PySem.F.type_list_pop mt_popAt (pv 7) (pa_cons (pe_call D.ok r1' rfl D.g D.k D.b .nil pass0 (pa_cons (pv 0) (pa_cons (pe_callB call_len_seq (by rfl) T.len PySem.boot_len (pa_cons (pv 5) pa_nil)) pa_nil))) pa_nil)))
        (pss_one (ps_if (PW.pt (pw_and (pt_cmpR op_gt (pe_callB call_len_seq (by rfl) T.len PySem.boot_len (pa_cons (pv 7) pa_nil)) pe_int (nomark _)) (pw_and1 (pt_val (pe_call LA.ok r1' rfl LA.g LA.k LA.b .nil pass0 (pa_cons (pv 1) (pa_cons (pv 7) pa_nil)))))))
          (pss_one (ps_set (i := 5) scLDigits.nd rfl (Or.inl rfl) (pv 7))) pss_nil)))))
      (pss_cons (ps_set (i := 8) scLDigits.nd rfl (Or.inr rfl) (pe_call Pk.ok hr rfl Pk.g Pk.k Pk.b .nil pass0 (pa_cons (pv 0) (pa_cons (pe_lst (pa_cons pe_int (pa_cons pe_int (pa_cons pe_int (pa_cons pe_int pa_nil))))) pa_nil))))
      (pss_one (ps_ret (pe_lc (own := [("_law_digit", 9)]) (g := gName 9) (tt := tYes) (te := tOp (rI CMul fun i j => .int (i * j)) (tVar 9) (tVar 8)) rfl scLDigits.nd (pi_list (pv 5))
        (blkOk_by (N := ldN) (sc := defScope sLawDigits) (by decide +kernel)) (fun _ _ _ _ _ => by exact pg_name (i := 9) scLDigits.nd rfl (Or.inl rfl)) (fun _ _ _ _ _ => pts_nil) (fun _ _ _ _ _ => by exact pe_op op_mul (pv 9) (pv 8))))))))), ?_⟩
    have small : ∀ z : Int, 0 ≤ z → z ≤ 1000 → z.natAbs < 2 ^ 8000 := fun z h0 h1 => big_lt (n := 10) (Nat.lt_of_le_of_lt (by omega : z.natAbs ≤ 1000) (by decide)) (by decide)
    -- many
    refine ⟨_, rfl, _, rfl, _, rfl, _, rfl, _, _, rfl, rfl, _, _, rfl, rfl, p, q, ns, i, v, sd, m - b + 1, rfl, R, by omega, small _ (by omega) (by omega), fun x1 i1 v1 sd1 x10 x11 ok1 => ?_⟩
    have R1 := R.next ok1
    have K1 : KeepBut p H _ := KeepBut.put (o := .lst (rngL q i1 v1 sd1))
    generalize upd H p (.lst (rngL q i1 v1 sd1)) = G1 at R1 K1
    refine ⟨_, _, rfl, rfl, ?_⟩
    have mn0 : b ≤ b + x1 := by omega
    have mn1 : b + x1 ≤ 20 := by omega
    -- front
    refine ⟨_, rfl, _, rfl, b + x1, 2, rfl, rfl, ⟨by decide, by decide⟩, _, _, rfl, rfl, _, rfl, p, q, ns, i1, v1, sd1, 9, rfl, R1, by decide, small _ (by decide) (by decide), fun x2 i2 v2 sd2 x20 x21 ok2 => ?_⟩
    have R2 := R1.next ok2
    have K2 : KeepBut p H _ := K1.trans (KeepBut.put (o := .lst (rngL q i2 v2 sd2)))
    generalize upd G1 p (.lst (rngL q i2 v2 sd2)) = G2 at R2 K2
    refine ⟨_, _, rfl, rfl, (by show 3 ≤ sizeLine; decide), fun l hl => ?_⟩
    have R3 := R2.same (same_upd (o := .lst [.int (0 - (b + x1) / 2), .int 0, .int (x2 - 6)]) (Same.refl G2) hl)
    have K3 : KeepBut p H _ := K2.trans (KeepBut.new (o := .lst [.int (0 - (b + x1) / 2), .int 0, .int (x2 - 6)]) hl)
    refine ⟨p, q, l, ns, i2, v2, sd2, _, rfl, R3, upd_same, R2.free hl, (by simp), (by show 3 ≤ 1000; decide), fun x i3 v3 sd3 hx ok3 => ?_⟩
    obtain ⟨fr, rfl, f0, f1⟩ : ∃ fr : Int, x = .int fr ∧ -10 ≤ fr ∧ fr ≤ 2 := by
      rcases List.mem_cons.mp hx with e | hx
      · exact ⟨_, e, by omega, by omega⟩
      · rcases List.mem_cons.mp hx with e | hx
        · exact ⟨0, e, by decide, by decide⟩
        · rcases List.mem_cons.mp hx with e | hx
          · exact ⟨_, e, by omega, by omega⟩
          · cases hx
    have R4 := R3.next ok3
    have K4 : KeepBut p H _ := K3.trans (KeepBut.put (o := .lst (rngL q i3 v3 sd3)))
    generalize upd (upd G2 l (.lst [.int (0 - (b + x1) / 2), .int 0, .int (x2 - 6)])) p (.lst (rngL q i3 v3 sd3)) = G4 at R4 K4
    -- line
    have p62 : (2 : Int) ^ 62 = 4611686018427387904 := by decide
    refine ⟨_, rfl, _, rfl, _, rfl, _, _, rfl, rfl, _, _, rfl, rfl, ⟨by omega, by omega, by omega, by omega, by omega⟩, fun l5 h5 => ?_⟩
    have er : rgV fr (fr + (b + x1)) = (runL fr (b + x1).toNat).map V.int := by
      unfold rgV runL
      rw [List.map_map, show (fr + (b + x1) - fr).toNat = (b + x1).toNat by omega]
      rfl
    have R5 := R4.same (same_upd (o := .lst (rgV fr (fr + (b + x1)))) (Same.refl G4) h5)
    have K5 : KeepBut p H _ := K4.trans (KeepBut.new (o := .lst (rgV fr (fr + (b + x1)))) h5)
    have a5 : upd G4 l5 (.lst (rgV fr (fr + (b + x1)))) l5 = some (.lst ((runL fr (b + x1).toNat).map V.int)) := by rw [upd_same, er]
    have d5 : Dig b (runL fr (b + x1).toNat) := runL_dig b2 (by omega) (by omega) (by omega) (by omega)
    have m5 : ∀ d ∈ runL fr (b + x1).toNat, -40 ≤ d ∧ d ≤ 40 := fun d hd => by have := runL_mem hd; omega
    have n5 : H l5 = none := K4.free (R4.free h5) h5
    generalize upd G4 l5 (.lst (rgV fr (fr + (b + x1)))) = G5 at R5 K5 a5
    -- the turns
    refine ⟨_, rfl, p, q, ns, i3, v3, sd3, 3, rfl, R5, by decide, small _ (by decide) (by decide), fun x6 i6 v6 sd6 x60 x61 ok6 => ?_⟩
    have R6 := R5.next ok6
    have K6 : KeepBut p H _ := K5.trans (KeepBut.put (o := .lst (rngL q i6 v6 sd6)))
    have n6 : l5 ≠ p := fun e => by
      have z := R5.at_p
      rw [← e, a5] at z
      have z2 := Option.some.inj z
      injection z2 with z3
      have z4 := congrArg List.length z3
      rw [List.length_map, runL_len] at z4
      have z5 := congrArg (fun l : List V => l[0]?) z3
      rw [show ((runL fr (b + x1).toNat).map V.int)[0]? = some (.int ((runL fr (b + x1).toNat).getD 0 0)) from ints_at (by rw [runL_len]; omega)] at z5
      cases z5
    have a6 : upd G5 p (.lst (rngL q i6 v6 sd6)) l5 = some (.lst ((runL fr (b + x1).toNat).map V.int)) := by rw [upd_ne n6]; exact a5
    generalize upd G5 p (.lst (rngL q i6 v6 sd6)) = G6 at R6 K6 a6
    refine ⟨x6, rfl, by omega, by omega, for_range (lo := 0) (n := x6.toNat) (fun _ σ G => ∃ (l : Addr) (ds : List Int) (i' v' sd' : Int) (o6 o7 : Option V), σ = [some (.ref p), some (.int b), some (.int m), some (.int (b + x1)), some (.int fr), some (.ref l), o6, o7, none, none] ∧
        KeepBut p H G ∧ RngAt G p q ns i' v' sd' ∧ H l = none ∧ G l = some (.lst (ds.map V.int)) ∧ l ≠ p ∧ Dig b ds ∧ ∀ d ∈ ds, -40 ≤ d ∧ d ≤ 40)
      ⟨l5, _, i6, v6, sd6, none, none, rfl, K6, R6, n5, a6, n6, d5, m5⟩ ?_ ?_⟩
    · rintro j σ G _ ⟨l, ds, i7, v7, sd7, o6, o7, rfl, KG, RG, nl, al, nlp, dg, mm⟩
      have dl := dg.are.l2
      have dl2 := dg.are.l24
      refine ⟨_, rfl, l, _, rfl, .inl (SqL.of al), fun l8 h8 => ?_⟩
      have R8 := RG.same (same_upd (o := .lst (ds.map V.int)) (Same.refl G) h8)
      have K8 : KeepBut p H _ := KG.trans (KeepBut.new (o := .lst (ds.map V.int)) h8)
      have nl8 : l ≠ l8 := ne_of_none al h8
      refine ⟨_, rfl, .inl ⟨rfl, _, SqL.of upd_same⟩, _, rfl, _, rfl, l, _, rfl, .inl (SqL.of (by rw [upd_ne nl8]; exact al)), p, q, ns, i7, v7, sd7, _, rfl, R8, ?_, small _ ?_ ?_, fun x9 i9 v9 sd9 x90 x91 ok9 => ?_⟩
      · rw [List.length_map]; omega
      · rw [List.length_map]; omega
      · rw [List.length_map]; omega
      · rw [List.length_map] at x91
        have R9 := R8.next ok9
        have K9 : KeepBut p H _ := K8.trans (KeepBut.put (o := .lst (rngL q i9 v9 sd9)))
        have n8p : l8 ≠ p := RG.free h8
        have a9 : upd (upd G l8 (.lst (ds.map V.int))) p (.lst (rngL q i9 v9 sd9)) l8 = some (.lst (ds.map V.int)) := by rw [upd_ne n8p, upd_same]
        have b9 : upd (upd G l8 (.lst (ds.map V.int))) p (.lst (rngL q i9 v9 sd9)) l = some (.lst (ds.map V.int)) := by rw [upd_ne nlp, upd_ne nl8]; exact al
        have n8 : H l8 = none := KG.free n8p h8
        generalize upd (upd G l8 (.lst (ds.map V.int))) p (.lst (rngL q i9 v9 sd9)) = G9 at R9 K9 a9 b9
        have hk : x9.toNat < ds.length := by omega
        have p63 : (2 : Int) ^ 63 = 9223372036854775808 := by decide
        refine ⟨l8, ds.map V.int, x9, x9.toNat, _, rfl, rfl, a9, by omega, by omega, seqIx x90 (by rw [List.length_map]; omega), ints_at hk, ?_⟩
        rw [map_erase]
        have R10 : RngAt (upd G9 l8 (.lst ((ds.eraseIdx x9.toNat).map V.int))) p q ns i9 v9 sd9 := by
          refine ⟨by rw [upd_ne n8p.symm]; exact R9.at_p, ?_, R9.len, R9.ok, R9.ne⟩
          rw [upd_ne (fun e => ?_)]
          · exact R9.at_q
          · have z := RG.at_q
            rw [e, h8] at z
            cases z
        have K10 : KeepBut p H (upd G9 l8 (.lst ((ds.eraseIdx x9.toNat).map V.int))) := fun c o hc nc => by
          rw [upd_ne (ne_of_none hc n8)]
          exact K9 c o hc nc
        have b10' : upd G9 l8 (.lst ((ds.eraseIdx x9.toNat).map V.int)) l = some (.lst (ds.map V.int)) := by rw [upd_ne nl8]; exact b9
        have a10 : upd G9 l8 (.lst ((ds.eraseIdx x9.toNat).map V.int)) l8 = some (.lst ((ds.eraseIdx x9.toNat).map V.int)) := upd_same
        generalize upd G9 l8 (.lst ((ds.eraseIdx x9.toNat).map V.int)) = G10 at R10 K10 b10' a10
        have le := List.length_eraseIdx_of_lt hk
        refine ⟨_, rfl, l8, _, rfl, .inl (SqL.of a10), _, _, rfl, rfl, _, rfl, ?_⟩
        rw [List.length_map]
        by_cases c1 : (1 : Int) < ((ds.eraseIdx x9.toNat).length : Int)
        · refine ifT (decide_eq_true c1) ⟨_, rfl, _, rfl, b, l8, _, rfl, .inl (SqL.of a10), b2, b10, by omega, fun G11 e11 => ⟨_, rfl, ?_⟩⟩
          have ea := erase_asc dg.asc x9.toNat
          rw [srt_self ea]
          by_cases c2 : AreS b (ds.eraseIdx x9.toNat)
          · rw [areB_t c2]
            refine iteT ⟨_, rfl, ?_⟩
            exact ⟨l8, _, i9, v9, sd9, _, _, rfl, K10.trans (KeepBut.of e11), R10.same e11, n8, e11 _ _ a10, n8p, ⟨c2, ea⟩, fun d hd => mm d (erase_mem hd)⟩
          · rw [areB_f c2]
            refine iteF ?_
            exact ⟨l, ds, i9, v9, sd9, _, _, rfl, K10.trans (KeepBut.of e11), R10.same e11, nl, e11 _ _ b10', nlp, dg, mm⟩
        · refine ifF (decide_eq_false c1) (iteF ?_)
          exact ⟨l, ds, i9, v9, sd9, _, _, rfl, K10, R10, nl, b10', nlp, dg, mm⟩
    · rintro σ G ⟨l, ds, i7, v7, sd7, o6, o7, rfl, KG, RG, nl, al, nlp, dg, mm⟩
      have dl2 := dg.are.l24
      refine ⟨_, rfl, (by show 4 ≤ sizeLine; decide), fun l8 h8 => ?_⟩
      have R8 := RG.same (same_upd (o := .lst [.int 1, .int 1, .int 1, .int 2]) (Same.refl G) h8)
      have K8 : KeepBut p H _ := KG.trans (KeepBut.new (o := .lst [.int 1, .int 1, .int 1, .int 2]) h8)
      refine ⟨p, q, l8, ns, i7, v7, sd7, _, rfl, R8, upd_same, RG.free h8, (by simp), (by show 4 ≤ 1000; decide), fun x i9 v9 sd9 hx ok9 => ?_⟩
      obtain ⟨u, rfl, hu⟩ : ∃ u : Int, x = .int u ∧ (u = 1 ∨ u = 2) := by
        rcases List.mem_cons.mp hx with e | hx
        · exact ⟨1, e, .inl rfl⟩
        · rcases List.mem_cons.mp hx with e | hx
          · exact ⟨1, e, .inl rfl⟩
          · rcases List.mem_cons.mp hx with e | hx
            · exact ⟨1, e, .inl rfl⟩
            · rcases List.mem_cons.mp hx with e | hx
              · exact ⟨2, e, .inr rfl⟩
              · cases hx
      have R9 := R8.next ok9
      have K9 : KeepBut p H _ := K8.trans (KeepBut.put (o := .lst (rngL q i9 v9 sd9)))
      have b9 : upd (upd G l8 (.lst [.int 1, .int 1, .int 1, .int 2])) p (.lst (rngL q i9 v9 sd9)) l = some (.lst (ds.map V.int)) := by rw [upd_ne nlp, upd_ne (ne_of_none al h8)]; exact al
      generalize upd (upd G l8 (.lst [.int 1, .int 1, .int 1, .int 2])) p (.lst (rngL q i9 v9 sd9)) = G9 at R9 K9 b9
      refine ⟨_, rfl, l, rfl, ⟨_, SqL.of b9⟩, fun D hD => ?_⟩
      have nD : H D = none := K9.free (R9.free hD) hD
      refine lc_list (K := K) (a := l) (xs := ds.map V.int) (fun i G => Same G9 G ∧ G D = some (.lst (((ds.take i).map (· * u)).map V.int))) ⟨same_upd (Same.refl _) hD, upd_same⟩ (fun i G _ e => e.1.seq (SqL.of b9)) ?_ ?_
      · rintro i y G hi ⟨e1, e2⟩
        have hlt : i < ds.length := by
          have z := (List.getElem?_eq_some_iff.mp hi).1
          rw [List.length_map] at z
          exact z
        rw [ints_at hlt] at hi
        cases hi
        have mb := mm _ (Ew.getD_mem hlt)
        refine ⟨rfl, ?_⟩
        refine iteT (B := Same G9 G ∧ G D = some (.lst (((ds.take (i + 1)).map (· * u)).map V.int))) ⟨_, rfl, _, rfl, _, _, rfl, rfl, mul_small (by omega) (by omega), ?_⟩
        refine ⟨_, e2, by rw [List.length_map, List.length_map, List.length_take, sizeLine_eq]; omega, same_updN e1 hD, ?_⟩
        rw [upd_same, List.take_add_one, Ew.getD_at hlt]
        simp
      · rintro G ⟨e1, e2⟩
        rw [List.length_map, List.take_length] at e2
        exact k G D _ i9 v9 sd9 (K9.trans (KeepBut.of e1)) (R9.same e1) nD e2 (scale_dig dg hu mm)
end
end K03
namespace K03
open PySem PySem.Spec PyProof.Rows L2 Ew
section
variable {P : Program} {w : World} {K : PySem.W.Frag} {mg : Str → Option Value} {base : Heap}
/-! ## _law_mixed -/
def spMixed : Sp := fun vs H Q _ => ∃ (p q a : Addr) (ns : List Int) (i v sd : Int) (ds : List Int), vs = [.ref p, .ref a] ∧ RngAt H p q ns i v sd ∧ H a = some (.lst (ds.map V.int)) ∧ a ≠ p ∧ ds.length ≤ 1000 ∧
  ∀ (G : Hp) (d : Addr) (ms : List Int) (i' v' sd' : Int), KeepBut p H G → RngAt G p q ns i' v' sd' → H d = none → G d = some (.lst (ms.map V.int)) → ms.Perm ds → Q (.ref d) G
theorem scMixed : FnScope ["_law_rng", "_law_items", "_law_left", "_law_result", "_law_k"] ["_law_rng", "_law_items"] (defScope sLawMixed) := ⟨rfl, rfl, rfl, by decide +kernel, rfl, by decide +kernel, by decide +kernel⟩
theorem ok_mixed {f fD : Addr} {fd fdD : FuncData} (F : Fun K "_law_mixed" "_law_mixed" sLawMixed f fd) (T : TxtLG mg) (D : Def P w K mg base CX0 1 "_law_draw" fD fdD ["_law_rng", "_law_many"] spDraw) : FnOk P w K mg base CX0 2 f fd ["_law_rng", "_law_items"] spMixed := by
  refine F.ok scMixed (fun vs H Q E h => ?_) (fun cdv A outer s H vs Q E hr h => ?_)
  · obtain ⟨p, q, a, ns, i, v, sd, ds, rfl, _⟩ := h
    rfl
  · obtain ⟨p, q, a, ns, i, v, sd, ds, rfl, R, ha, nap, hlen, k⟩ := h
    refine ⟨_, pss_cons (ps_par (i := 2) (j := 3) rfl scMixed.nd rfl rfl (by decide) rfl rfl (pa_cons (pe_callTy call_list_of (by rfl) T.list (by decide +kernel) (pa_cons (pv 1) pa_nil)) (pa_cons (pe_lst pa_nil) pa_nil)) (by rfl))
      (pss_cons (ps_for PassesOwn.never rfl (pi_range1 rfl T.range (pa_cons (pe_callB call_len_seq (by rfl) T.len PySem.boot_len (pa_cons (pv 1) pa_nil)) pa_nil)) (pg_name (i := 4) scMixed.nd rfl (Or.inl rfl))
        (pss_one (ps_expr (pe_bm PySem.F.plainAttrs_list PySem.F.slot_list_append PySem.F.type_list_append mt_append (pv 3) (pa_cons
          (pe_bm PySem.F.plainAttrs_list PySem.F.slot_list_pop PySem.F.type_list_pop mt_popAt (pv 2) (pa_cons (pe_call D.ok hr rfl D.g D.k D.b .nil pass0 (pa_cons (pv 0) (pa_cons (pe_callB call_len_seq (by rfl) T.len PySem.boot_len (pa_cons (pv 2) pa_nil)) pa_nil))) pa_nil)) pa_nil)))))
      (pss_one (ps_ret (pv 3)))), ?_⟩
    have small : ∀ z : Int, 0 ≤ z → z ≤ 1000 → z.natAbs < 2 ^ 8000 := fun z h0 h1 => big_lt (n := 10) (Nat.lt_of_le_of_lt (by omega : z.natAbs ≤ 1000) (by decide)) (by decide)
    have p62 : (2 : Int) ^ 62 = 4611686018427387904 := by decide
    have p63 : (2 : Int) ^ 63 = 9223372036854775808 := by decide
    refine ⟨_, rfl, a, _, rfl, .inl (SqL.of ha), fun l hl => ⟨Nat.zero_le _, fun r hr2 => ?_⟩⟩
    have nlr : l ≠ r := fun e => by rw [← e, upd_same] at hr2; cases hr2
    have s1 : Same H (upd H l (.lst (ds.map V.int))) := same_upd (Same.refl H) hl
    have s2 : Same H (upd (upd H l (.lst (ds.map V.int))) r (.lst [])) := same_upd s1 hr2
    have nr : H r = none := s1.free hr2
    refine ⟨_, _, rfl, ?_⟩
    refine ⟨_, rfl, a, _, rfl, .inl (SqL.of (s2 _ _ ha)), _, rfl, ?_, ?_, ?_⟩
    · rw [List.length_map]; omega
    · rw [List.length_map]; omega
    · rw [List.length_map]
      refine for_range (lo := 0) (n := ((ds.length : Int)).toNat) (fun j σ G => ∃ (rs ls : List Int) (i' v' sd' : Int) (o4 : Option V), σ = [some (.ref p), some (.ref a), some (.ref l), some (.ref r), o4] ∧
          KeepBut p H G ∧ RngAt G p q ns i' v' sd' ∧ G l = some (.lst (ls.map V.int)) ∧ G r = some (.lst (rs.map V.int)) ∧ (rs ++ ls).Perm ds ∧ rs.length = j)
        ⟨[], ds, i, v, sd, none, rfl, KeepBut.of s2, R.same s2, by rw [upd_ne nlr, upd_same], upd_same, List.Perm.refl _, rfl⟩ ?_ ?_
      · rintro j σ G hj ⟨rs, ls, i1, v1, sd1, o4, rfl, KG, RG, al, ar, pm, lr⟩
        have hls : rs.length + ls.length = ds.length := by rw [← List.length_append]; exact pm.length_eq
        have nlp : l ≠ p := R.free hl
        have nrp : r ≠ p := R.free nr
        refine ⟨_, rfl, .inl ⟨rfl, _, SqL.of ar⟩, _, rfl, .inl ⟨rfl, _, SqL.of al⟩, _, rfl, _, rfl, l, _, rfl, .inl (SqL.of al), p, q, ns, i1, v1, sd1, _, rfl, RG, ?_, small _ ?_ ?_, fun x i2 v2 sd2 x0 x1 ok => ?_⟩
        · rw [List.length_map]; omega
        · rw [List.length_map]; omega
        · rw [List.length_map]; omega
        · rw [List.length_map] at x1
          have R2 := RG.next ok
          have K2 : KeepBut p H _ := KG.trans (KeepBut.put (o := .lst (rngL q i2 v2 sd2)))
          have al2 : upd G p (.lst (rngL q i2 v2 sd2)) l = some (.lst (ls.map V.int)) := by rw [upd_ne nlp]; exact al
          have ar2 : upd G p (.lst (rngL q i2 v2 sd2)) r = some (.lst (rs.map V.int)) := by rw [upd_ne nrp]; exact ar
          generalize upd G p (.lst (rngL q i2 v2 sd2)) = G2 at R2 K2 al2 ar2
          have hk : x.toNat < ls.length := by omega
          refine ⟨l, ls.map V.int, x, x.toNat, _, rfl, rfl, al2, by omega, by omega, seqIx x0 (by rw [List.length_map]; omega), ints_at hk, ?_⟩
          rw [map_erase]
          refine ⟨r, _, _, rfl, rfl, (by rw [upd_ne nlr.symm]; exact ar2), by rw [List.length_map, sizeLine_eq]; omega, ?_⟩
          have nq : q ≠ l := fun e => by
            have z := R.at_q
            rw [e, hl] at z
            cases z
          have nq2 : q ≠ r := fun e => by
            have z := R.at_q
            rw [e, nr] at z
            cases z
          refine ⟨rs ++ [ls.getD x.toNat 0], ls.eraseIdx x.toNat, i2, v2, sd2, _, rfl, fun c o hc nc => ?_, ⟨?_, ?_, R2.len, R2.ok, R2.ne⟩, ?_, ?_, ?_, by rw [List.length_append, lr]; rfl⟩
          · rw [upd_ne (ne_of_none hc nr), upd_ne (ne_of_none hc hl)]
            exact K2 c o hc nc
          · rw [upd_ne nrp.symm, upd_ne nlp.symm]
            exact R2.at_p
          · rw [upd_ne nq2, upd_ne nq]
            exact R2.at_q
          · rw [upd_ne nlr, upd_same]
          · rw [upd_same, List.map_append]
            rfl
          · refine List.Perm.trans ?_ pm
            rw [List.append_assoc]
            exact (erase_perm ls x.toNat hk).append_left rs
      · rintro σ G ⟨rs, ls, i1, v1, sd1, o4, rfl, KG, RG, al, ar, pm, lr⟩
        have hls : rs.length + ls.length = ds.length := by rw [← List.length_append]; exact pm.length_eq
        have e : ls = [] := List.eq_nil_of_length_eq_zero (by omega)
        rw [e, List.append_nil] at pm
        exact ⟨_, rfl, k G r rs i1 v1 sd1 KG RG nr ar pm⟩
end
end K03
namespace K03
open PySem PySem.Spec PyProof.Rows L2 Ew
section
variable {P : Program} {w : World} {K : PySem.W.Frag} {mg : Str → Option Value} {base : Heap}
/-! ## OutOfRange.__init__ -/
theorem scOut : FnScope ["self"] ["self"] (defScope sOutOfRange_init) := ⟨rfl, rfl, rfl, by decide +kernel, rfl, by decide +kernel, by decide +kernel⟩
theorem ok_out {f C fI : Addr} {fd : FuncData} (F : Fun K "__init__" "OutOfRange.__init__" sOutOfRange_init f fd) (T : ErrT K mg "OutOfRange" C fI) : FnOk P w K mg base CX0 1 f fd ["self"] (spInitTag K C "OutOfRange") := by
  refine F.ok scOut (fun vs H Q E h => ?_) (fun cdv A outer s H vs Q E hr h => ?_)
  · obtain ⟨a, rfl, _⟩ := h
    rfl
  · obtain ⟨a, rfl, ha, k⟩ := h
    exact ⟨_, pss_one (ps_ost (pv 0) pe_str), _, rfl, a, C, rfl, T.oex, T.nT, .inl ⟨ha, k⟩⟩
/-! ## fraction -/
def spFraction (C : Addr) : Sp := fun vs H Q E => ∃ n d : Int, vs = [.int n, .int d] ∧ d.natAbs < 2 ^ 8000 ∧
  (d = 0 → ∀ x, H x = none → E (.ref C) (some x) (upd H x (.xd [("tag", .str "OutOfRange")]))) ∧ (d ≠ 0 → ∀ p, H p = none → Q (.ref p) (upd H p (.tup [.int (frN n d), .int (frD n d)])))
structure TxtF (K : PySem.W.Frag) (mg : Str → Option Value) (C fI fG : Addr) : Prop where
  abs : mg "abs" = none
  out : ErrT K mg "OutOfRange" C fI
  gG : mg "common_divisor" = some (.ref fG)
  kG : PySem.W.keepIn K (.ref fG) = true
theorem scFr : FnScope ["numerator", "denominator", "divisor"] ["numerator", "denominator"] (defScope sFraction) := ⟨rfl, rfl, rfl, by decide +kernel, rfl, by decide +kernel, by decide +kernel⟩
theorem ok_fraction {f C fI fG : Addr} {fd fdI fdG : FuncData} {dvs : List V} {kws : List (Str × V)} (F : FunD K "fraction" "fraction" (defArgs sFraction) (defBody sFraction) (defScope sFraction) dvs kws f fd) (T : TxtF K mg C fI fG)
    (FI : FnOk P w K mg base CX0 1 fI fdI ["self"] (spInitTag K C "OutOfRange")) (bI : Binds K fdI ["self"] []) (FG : FnOk P w K mg base CX0 1 fG fdG ["one", "other"] spGcd) (bG : Binds K fdG ["one", "other"] []) :
    FnOk P w K mg base (L2.CX P w) 3 f fd ["numerator", "denominator"] (spFraction C) := by
  refine F.ok scFr (fun vs H Q E h => ?_) (fun cdv A outer s H vs Q E hr h => ?_)
  · obtain ⟨a, b, rfl, _⟩ := h
    rfl
  · obtain ⟨n, d, rfl, hsz, kE, kQ⟩ := h
    refine ⟨_, pss_cons (ps_if (pt_cmpR op_eq (pv 1) pe_int (nomark _)) (pss_one (ps_raise rfl (takes_of rfl rfl rfl rfl) (pmk0 T.out.oex T.out.iC T.out.tI FI hr bI pass0 rfl T.out.gC))) pss_nil)
      (pss_cons (ps_set (i := 2) scFr.nd rfl (Or.inl rfl) (pe_call FG (hr.mono (by decide)) rfl T.gG T.kG bG .nil pass0 (pa_cons (pe_callB call_abs (by rfl) T.abs (by decide +kernel) (pa_cons (pv 0) pa_nil)) (pa_cons (pe_callB call_abs (by rfl) T.abs (by decide +kernel) (pa_cons (pv 1) pa_nil)) pa_nil))))
      (C8.pss_cut (ps_if (pt_cmpR op_lt (pv 1) pe_int (nomark _)) (pss_one (ps_set (i := 2) scFr.nd rfl (Or.inl rfl) (pe_un un_neg (pv 2)))) pss_nil)
      (pss_one (ps_ret (pe_tup (pa_cons (pe_op op_fdivZ (pv 0) (pv 2)) (pa_cons (pe_op op_fdivZ (pv 1) (pv 2)) pa_nil))))))), ?_⟩
    refine ⟨_, rfl, rfl, _, rfl, ?_⟩
    by_cases c : d = 0
    · subst c
      refine ifT (decide_eq_true rfl) fun a ha => ?_
      refine ⟨a, rfl, upd_same, fun dx hdx ne => ⟨rfl, dx, [("tag", .str "OutOfRange")], upd_same, ?_, ?_, ?_⟩⟩
      · rw [upd_ne ne, upd_same]
      · rw [upd_ne ne] at hdx
        exact hdx
      · rw [raise_heap ha hdx ne]
        rw [upd_ne ne] at hdx
        exact kE rfl dx hdx
    · refine ifF (eq_int c) ?_
      have gp : 0 < gcdI n d := gcdI_pos c
      have gl : (gcdI n d).natAbs < 2 ^ 8000 := Nat.lt_of_le_of_lt (by have := gcdI_le (a := n) c; omega) hsz
      refine ⟨_, rfl, _, rfl, _, rfl, _, rfl, absI n, absI d, rfl, absI_nn n, absI_nn d, ?_⟩
      rw [gcdI_abs]
      refine ⟨fun σ G => G = H ∧ σ = [some (.int n), some (.int d), some (.int (if d < 0 then -(gcdI n d) else gcdI n d))], ?_, ?_⟩
      · refine ⟨_, rfl, _, _, rfl, rfl, _, rfl, ?_⟩
        by_cases e : d < 0
        · refine ifT (decide_eq_true e) ⟨_, rfl, _, rfl, rfl, ?_⟩
          rw [if_pos e]
          rfl
        · refine ifF (decide_eq_false e) ⟨rfl, ?_⟩
          rw [if_neg e]
          rfl
      · rintro σ G ⟨rfl, rfl⟩
        have kq := kQ c
        unfold frN frD at kq
        by_cases e : d < 0
        · rw [if_pos e] at kq ⊢
          rw [if_pos e] at kq
          have hc : ∀ i : Int, CDivZ i (-(gcdI n d)) := fun i => ⟨by omega, by rw [Int.natAbs_neg]; exact Nat.lt_of_lt_of_le (PySem.Flt.log2_lt_of (by decide) gl) (by decide)⟩
          refine ⟨_, rfl, _, rfl, _, _, rfl, rfl, hc _, _, rfl, _, rfl, _, _, rfl, rfl, hc _, (by show 2 ≤ sizeLine; decide), fun p hp => ?_⟩
          have q := kq p hp
          rw [← fdiv_flip n gp, ← fdiv_flip d gp] at q
          exact q
        · rw [if_neg e] at kq ⊢
          rw [if_neg e] at kq
          have hc : ∀ i : Int, CDivZ i (gcdI n d) := fun i => ⟨by omega, Nat.lt_of_lt_of_le (PySem.Flt.log2_lt_of (by decide) gl) (by decide)⟩
          refine ⟨_, rfl, _, rfl, _, _, rfl, rfl, hc _, _, rfl, _, rfl, _, _, rfl, rfl, hc _, (by show 2 ≤ sizeLine; decide), fun p hp => ?_⟩
          have q := kq p hp
          rw [← Int.fdiv_eq_ediv_of_nonneg n (by omega : 0 ≤ gcdI n d), ← Int.fdiv_eq_ediv_of_nonneg d (by omega : 0 ≤ gcdI n d)] at q
          exact q
end
end K03
namespace K03
open PySem PySem.Spec PyProof.Rows L2 Ew
section
variable {P : Program} {w : World} {K : PySem.W.Frag} {mg : Str → Option Value} {base : Heap}
/-! ## low, high -/
def spEnd (CD : Addr) (K : PySem.W.Frag) (g : List Int → Int) : Sp := fun vs H Q _ => ∃ (x dx t : Addr) (b : Int) (s : List Int), vs = [.ref x] ∧ H x = some (.ins CD dx (dsF b t)) ∧ SqT K H t (s.map V.int) ∧ 0 < s.length ∧ 2 ≤ b ∧ b ≤ 10 ∧ ∀ p, H p = none → Q (.ref p) (upd H p (.tup [.int (frN (g s) (b - 1)), .int (frD (g s) (b - 1))]))
theorem b_small {b : Int} (h2 : 2 ≤ b) (h10 : b ≤ 10) : (b - 1).natAbs < 2 ^ 8000 := big_lt (n := 10) (Nat.lt_of_le_of_lt (by omega : (b - 1).natAbs ≤ 1000) (by decide)) (by decide)
theorem scSLow : FnScope ["self"] ["self"] (defScope sDigitSet_low) := ⟨rfl, rfl, rfl, by decide +kernel, rfl, by decide +kernel, by decide +kernel⟩
theorem ok_slow {f CD CB CI fIB fID fA CO fFr : Addr} {fd fdFr : FuncData} (F : Fun K "low" "DigitSet.low" sDigitSet_low f fd) (TS : TxtDS K mg CD CB CI fIB fID fA) (Fr : Def P w K mg base (L2.CX P w) 3 "fraction" fFr fdFr ["numerator", "denominator"] (spFraction CO)) : FnOk P w K mg base CX0 4 f fd ["self"] (spEnd CD K firstI) := by
  refine F.ok scSLow (fun vs H Q E h => ?_) (fun cdv A outer s H vs Q E hr h => ?_)
  · obtain ⟨x, dx, t, b, s, rfl, _⟩ := h
    rfl
  · obtain ⟨x, dx, t, b, s, rfl, hx, hT, hl, b2, b10, k⟩ := h
    refine ⟨_, pss_one (ps_ret (pe_call Fr.ok hr rfl Fr.g Fr.k Fr.b .nil passL (pa_cons (pe_ix ix_tup (pe_fld (pv 0) rfl) pe_int (fun _ _ => rfl)) (pa_cons (pe_op op_sub (pe_fld (pv 0) rfl) pe_int) pa_nil)))), ?_⟩
    exact ⟨_, rfl, x, CD, dx, _, _, rfl, hx, TS.cl, TS.nD, dsF_digits b t, t, _, _, _, rfl, rfl, hT, at_first hl, _, rfl, x, CD, dx, _, _, rfl, hx, TS.cl, TS.nB, dsF_base b t, _, _, rfl, rfl, _, _, rfl, b_small b2 b10, fun z => absurd z (by omega), fun _ p hp => k p hp⟩
theorem scSHigh : FnScope ["self"] ["self"] (defScope sDigitSet_high) := ⟨rfl, rfl, rfl, by decide +kernel, rfl, by decide +kernel, by decide +kernel⟩
theorem ok_shigh {f CD CB CI fIB fID fA CO fFr : Addr} {fd fdFr : FuncData} (F : Fun K "high" "DigitSet.high" sDigitSet_high f fd) (TS : TxtDS K mg CD CB CI fIB fID fA) (Fr : Def P w K mg base (L2.CX P w) 3 "fraction" fFr fdFr ["numerator", "denominator"] (spFraction CO)) : FnOk P w K mg base CX0 4 f fd ["self"] (spEnd CD K lastI) := by
  refine F.ok scSHigh (fun vs H Q E h => ?_) (fun cdv A outer s H vs Q E hr h => ?_)
  · obtain ⟨x, dx, t, b, s, rfl, _⟩ := h
    rfl
  · obtain ⟨x, dx, t, b, s, rfl, hx, hT, hl, b2, b10, k⟩ := h
    refine ⟨_, pss_one (ps_ret (pe_call Fr.ok hr rfl Fr.g Fr.k Fr.b .nil passL (pa_cons (pe_ix ix_tup (pe_fld (pv 0) rfl) (pe_un un_neg pe_int) (fun _ _ => rfl)) (pa_cons (pe_op op_sub (pe_fld (pv 0) rfl) pe_int) pa_nil)))), ?_⟩
    exact ⟨_, rfl, x, CD, dx, _, _, rfl, hx, TS.cl, TS.nD, dsF_digits b t, _, rfl, t, _, _, _, rfl, rfl, hT, at_last hl, _, rfl, x, CD, dx, _, _, rfl, hx, TS.cl, TS.nB, dsF_base b t, _, _, rfl, rfl, _, _, rfl, b_small b2 b10, fun z => absurd z (by omega), fun _ p hp => k p hp⟩
/-! ## is_redundant -/
def RedS (b : Int) (s : List Int) : Prop := ∀ i, i + 1 < s.length → (s.getD (i + 1) 0 - s.getD i 0) * (b - 1) < lastI s - firstI s
open Classical in
noncomputable def redB (b : Int) (s : List Int) : Bool := decide (RedS b s)
open Classical in
theorem redB_t {b : Int} {s : List Int} (h : RedS b s) : redB b s = true := by unfold redB; exact decide_eq_true h
open Classical in
theorem redB_f {b : Int} {s : List Int} (h : ¬ RedS b s) : redB b s = false := by unfold redB; exact decide_eq_false h
theorem red_iff {b m : Int} {s : List Int} (hb : 2 ≤ b) (hm : m ∈ gapL s) (hg : ∀ g ∈ gapL s, g ≤ m) : m * (b - 1) < lastI s - firstI s ↔ RedS b s := by
  constructor
  · intro h i hi
    have h1 := hg _ (gapL_mem.mpr ⟨i, hi, rfl⟩)
    exact Int.lt_of_le_of_lt (Int.mul_le_mul_of_nonneg_right h1 (by omega)) h
  · intro h
    obtain ⟨i, hi, rfl⟩ := gapL_mem.mp hm
    exact h i hi
def spRed (CD : Addr) (K : PySem.W.Frag) : Sp := fun vs H Q _ => ∃ (x dx t : Addr) (b : Int) (s : List Int), vs = [.ref x] ∧ H x = some (.ins CD dx (dsF b t)) ∧ SqT K H t (s.map V.int) ∧ 2 ≤ s.length ∧ s.length ≤ 1000 ∧ 2 ≤ b ∧ b ≤ 10 ∧ ∀ G, Same H G → Q (.bl (redB b s)) G
theorem scRed : FnScope ["self"] ["self"] (defScope sDigitSet_is_redundant) := ⟨rfl, rfl, rfl, by decide +kernel, rfl, by decide +kernel, by decide +kernel⟩
theorem ok_red {f CD CB CI fIB fID fA fW fSp : Addr} {fd fdW fdS : FuncData} (F : Fun K "is_redundant" "DigitSet.is_redundant" sDigitSet_is_redundant f fd) (TS : TxtDS K mg CD CB CI fIB fID fA) (T : TxtD K mg fW fSp) (FW : FnOk P w K mg base CX0 1 fW fdW ["ascending"] (spWidest K)) (bW : Binds K fdW ["ascending"] [])
    (FS : FnOk P w K mg base CX0 1 fSp fdS ["ascending"] (spSpread K)) (bS : Binds K fdS ["ascending"] []) : FnOk P w K mg base CX0 2 f fd ["self"] (spRed CD K) := by
  refine F.ok scRed (fun vs H Q E h => ?_) (fun cdv A outer s H vs Q E hr h => ?_)
  · obtain ⟨x, dx, t, b, s, rfl, _⟩ := h
    rfl
  · obtain ⟨x, dx, t, b, s, rfl, hx, hT, l2, l1000, b2, b10, k⟩ := h
    refine ⟨_, pss_one (ps_ret (pe_cmpR op_lt (pe_op op_mul (pe_call FW hr rfl T.gW T.kW bW .nil pass0 (pa_cons (pe_fld (pv 0) rfl) pa_nil)) (pe_op op_sub (pe_fld (pv 0) rfl) pe_int)) (pe_call FS hr rfl T.gS T.kS bS .nil pass0 (pa_cons (pe_fld (pv 0) rfl) pa_nil)) (nomark _))), ?_⟩
    refine ⟨_, rfl, x, CD, dx, _, _, rfl, hx, TS.cl, TS.nD, dsF_digits b t, t, s, rfl, hT, l2, l1000, fun m G e hm hg => ?_⟩
    have gx := e _ _ hx
    refine ⟨_, rfl, x, CD, dx, _, _, rfl, gx, TS.cl, TS.nB, dsF_base b t, _, _, rfl, rfl, m, b - 1, rfl, rfl, mul_smallR (by omega) (by omega), _, rfl, x, CD, dx, _, _, rfl, gx, TS.cl, TS.nD, dsF_digits b t, t, s, rfl, seqT e hT, by omega, _, _, rfl, rfl, ?_⟩
    have q := k G e
    show Q (V.bl (decide (m * (b - 1) < lastI s - firstI s))) G
    by_cases c : RedS b s
    · rw [redB_t c] at q
      rw [decide_eq_true ((red_iff b2 hm hg).mpr c)]
      exact q
    · rw [redB_f c] at q
      rw [decide_eq_false fun z => c ((red_iff b2 hm hg).mp z)]
      exact q
/-! ## _law_ends -/
structure TxtEn (mg : Str → Option Value) : Prop where
  min : mg "min" = none
  max : mg "max" = none
def spEnds (K : PySem.W.Frag) : Sp := fun vs H Q _ => ∃ (b : Int) (l : Addr) (s : List Int), vs = [.int b, .ref l] ∧ SqL K H l (s.map V.int) ∧ 0 < s.length ∧ s.Pairwise (· ≤ ·) ∧ 2 ≤ b ∧ b ≤ 10 ∧
  ∀ (G : Hp) (p u v : Addr), Same H G → G p = some (.tup [.ref u, .ref v]) → G u = some (.tup [.int (frN (firstI s) (b - 1)), .int (frD (firstI s) (b - 1))]) → G v = some (.tup [.int (frN (lastI s) (b - 1)), .int (frD (lastI s) (b - 1))]) → Q (.ref p) G
theorem scEnds : FnScope ["_law_base", "_law_digits_here"] ["_law_base", "_law_digits_here"] (defScope sLawEnds) := ⟨rfl, rfl, rfl, by decide +kernel, rfl, by decide +kernel, by decide +kernel⟩
theorem first_min {s : List Int} (h : s.Pairwise (· ≤ ·)) {m : Int} (hm : m ∈ s) (hn : ∀ y, y ∈ s → m ≤ y) (hl : 0 < s.length) : m = firstI s := by
  obtain ⟨i, hi, rfl⟩ := List.getElem_of_mem hm
  have e : s[i] = s.getD i 0 := by rw [List.getD_eq_getElem?_getD, List.getElem?_eq_getElem hi]; rfl
  have a1 := asc_le h (Nat.zero_le i) hi
  have a2 := hn (firstI s) (by unfold firstI; rw [List.getD_eq_getElem?_getD, List.getElem?_eq_getElem hl]; exact List.getElem_mem _)
  unfold firstI at *
  omega
theorem last_max {s : List Int} (h : s.Pairwise (· ≤ ·)) {m : Int} (hm : m ∈ s) (hn : ∀ y, y ∈ s → y ≤ m) (hl : 0 < s.length) : m = lastI s := by
  obtain ⟨i, hi, rfl⟩ := List.getElem_of_mem hm
  have e : s[i] = s.getD i 0 := by rw [List.getD_eq_getElem?_getD, List.getElem?_eq_getElem hi]; rfl
  have a1 := asc_le h (i := i) (j := s.length - 1) (by omega) (by omega)
  have a2 := hn (lastI s) (by unfold lastI; rw [List.getD_eq_getElem?_getD, List.getElem?_eq_getElem (by omega : s.length - 1 < s.length)]; exact List.getElem_mem _)
  unfold lastI at *
  omega
theorem ok_ends {f fL : Addr} {fd fdL : FuncData} (F : Fun K "_law_ends" "_law_ends" sLawEnds f fd) (T : TxtEn mg) (L : Def P w K mg base CX0 1 "_law_lowest" fL fdL ["_law_above", "_law_below"] spLow) : FnOk P w K mg base CX0 2 f fd ["_law_base", "_law_digits_here"] (spEnds K) := by
  refine F.ok scEnds (fun vs H Q E h => ?_) (fun cdv A outer s H vs Q E hr h => ?_)
  · obtain ⟨b, l, s, rfl, _⟩ := h
    rfl
  · obtain ⟨b, l, s, rfl, hL, hl, hasc, b2, b10, k⟩ := h
    refine ⟨_, pss_one (ps_ret (pe_tup (pa_cons (pe_call L.ok hr rfl L.g L.k L.b .nil pass0 (pa_cons (pe_callB (cr_min rfl) (by rfl) T.min (by decide +kernel) (pa_cons (pv 1) pa_nil)) (pa_cons (pe_op op_sub (pv 0) pe_int) pa_nil)))
      (pa_cons (pe_call L.ok hr rfl L.g L.k L.b .nil pass0 (pa_cons (pe_callB (cr_max rfl) (by rfl) T.max (by decide +kernel) (pa_cons (pv 1) pa_nil)) (pa_cons (pe_op op_sub (pv 0) pe_int) pa_nil))) pa_nil)))), ?_⟩
    refine ⟨_, rfl, l, s, rfl, hL, hl, fun m hm hn => ⟨_, rfl, _, _, rfl, rfl, _, _, rfl, by omega, b_small b2 b10, fun u hu => ?_⟩⟩
    have s1 := same_upd (o := .tup [.int (frN m (b - 1)), .int (frD m (b - 1))]) (Same.refl H) hu
    refine ⟨_, rfl, l, s, rfl, s1.seq hL, hl, fun m2 hm2 hn2 => ⟨_, rfl, _, _, rfl, rfl, _, _, rfl, by omega, b_small b2 b10, fun v hv => ⟨(by show 2 ≤ sizeLine; decide), fun p hp => ?_⟩⟩⟩
    have s2 := same_upd (o := .tup [.int (frN m2 (b - 1)), .int (frD m2 (b - 1))]) (Same.refl _) hv
    have s3 := same_upd (o := .tup [.ref u, .ref v]) (Same.refl _) hp
    refine k _ p u v (s1.trans (s2.trans s3)) upd_same ?_ ?_
    · rw [← first_min hasc hm hn hl]
      exact s3 _ _ (s2 _ _ upd_same)
    · rw [← last_max hasc hm2 hn2 hl]
      exact s3 _ _ upd_same
end
end K03
namespace K03
open PySem PySem.Spec PyProof.Rows L2 Ew
section
variable {P : Program} {w : World} {K : PySem.W.Frag} {mg : Str → Option Value} {base : Heap}
/-! ## DigitSet.__eq__ -/
/-- what isinstance asks of the class -/
structure IsiC (K : PySem.W.Frag) (CD : Addr) : Prop where
  ha : PySem.W.findIn K (.ref CD) "__class__" = some (some (.builtin "object.__class__"))
  hn : PySem.W.specialIn K (.builtin "object.__class__") "__get__" = some (some (.builtin "getset_descriptor.__get__"))
  ht : PySem.W.takesIn K (.builtin "object.__class__") = some true
  hm : PySem.W.mroIn K CD (.type "object") = some true
  yes : PySem.W.kitOne K (.ref CD) (.ref CD) = some true
  noL : PySem.W.kitOne K (.type "list") (.ref CD) = some false
  noS : PySem.W.kitOne K (.type "str") (.ref CD) = some false
structure TxtEq (K : PySem.W.Frag) (mg : Str → Option Value) (CD : Addr) : Prop where
  isi : mg "isinstance" = none
  gD : mg "DigitSet" = some (.ref CD)
  c : IsiC K CD
theorem isi_ty {CD : Addr} {H : Hp} {a dx : Addr} {fs : List (Str × V)} (I : IsiC K CD) (cl : Cls K CD) (h : H a = some (.ins CD dx fs)) : TyX K H (.ref a) (.ref CD) := .base (.ins h cl I.ha I.hn I.ht I.hm)
def spSEq (K : PySem.W.Frag) (CD : Addr) : Sp := fun vs H Q _ => ∃ (x dx t : Addr) (b : Int) (s : List Int) (y : V), vs = [.ref x, y] ∧ H x = some (.ins CD dx (dsF b t)) ∧ SqT K H t (s.map V.int) ∧
  ((∃ (x2 dx2 t2 : Addr) (b2 : Int) (s2 : List Int), y = .ref x2 ∧ H x2 = some (.ins CD dx2 (dsF b2 t2)) ∧ SqT K H t2 (s2.map V.int) ∧ Q (.bl (decide (b = b2 ∧ s = s2))) H) ∨
   ((∃ (a : Addr) (xs : List V), y = .ref a ∧ SqL K H a xs) ∧ Q (.bl false) H) ∨ ((∃ z, y = .str z) ∧ Q (.bl false) H))
theorem scSEq : FnScope ["self", "other"] ["self", "other"] (defScope sDigitSet_eq) := ⟨rfl, rfl, rfl, by decide +kernel, rfl, by decide +kernel, by decide +kernel⟩
theorem ok_seq {f CD CB CI fIB fID fA : Addr} {fd : FuncData} (F : Fun K "__eq__" "DigitSet.__eq__" sDigitSet_eq f fd) (TS : TxtDS K mg CD CB CI fIB fID fA) (T : TxtEq K mg CD) (kD : PySem.W.keepIn K (.ref CD) = true) : FnOk P w K mg base CX0 1 f fd ["self", "other"] (spSEq K CD) := by
  refine F.ok scSEq (fun vs H Q E h => ?_) (fun cdv A outer s H vs Q E hr h => ?_)
  · obtain ⟨x, dx, t, b, s, y, rfl, _⟩ := h
    rfl
  · obtain ⟨x, dx, t, b, s, y, rfl, hx, hT, hy⟩ := h
    refine ⟨_, pss_one (ps_ret (pe_and (pe_callB call_isi (by rfl) T.isi (by decide +kernel) (pa_cons (pv 1) (pa_cons (pe_glob (v := .ref CD) rfl T.gD rfl) pa_nil)))
      (pe_and (pe_cmpR op_eq (pe_fld (pv 0) rfl) (pe_fld (pv 1) rfl) (nomark _)) (pe_one (pe_cmpR (op_eqD hr.units) (pe_fld (pv 0) rfl) (pe_fld (pv 1) rfl) (nomark _)))))), ?_⟩
    rcases hy with ⟨x2, dx2, t2, b2, s2, rfl, hx2, hT2, q⟩ | ⟨⟨a, xs, rfl, ha⟩, q⟩ | ⟨⟨z, rfl⟩, q⟩
    · refine ⟨_, rfl, _, _, _, _, true, rfl, .own CD, isi_ty T.c TS.cl hx2, T.c.yes, _, rfl, iteT ?_⟩
      refine ⟨_, rfl, x, CD, dx, _, _, rfl, hx, TS.cl, TS.nB, dsF_base b t, _, rfl, x2, CD, dx2, _, _, rfl, hx2, TS.cl, TS.nB, dsF_base b2 t2, rfl, _, rfl, ?_⟩
      by_cases c : b = b2
      · subst c
        refine ifT (decide_eq_true rfl) ?_
        refine ⟨_, rfl, x, CD, dx, _, _, rfl, hx, TS.cl, TS.nD, dsF_digits b t, _, rfl, x2, CD, dx2, _, _, rfl, hx2, TS.cl, TS.nD, dsF_digits b t2, .tuple (s.map PyData.int), .tuple (s2.map PyData.int), .tup hT (dpInts s), .tup hT2 (dpInts s2), shapedTup s, shapedTup s2, ?_⟩
        rw [eqv_tup2]
        have e : (b = b ∧ s = s2) = (s = s2) := by simp
        rw [show decide (b = b ∧ s = s2) = decide (s = s2) by simp] at q
        exact q
      · refine ifF (eq_int c) ?_
        rw [decide_eq_false (fun z => c z.1)] at q
        exact q
    · exact ⟨_, rfl, _, _, _, _, false, rfl, .own CD, ty_list ha, T.c.noL, _, rfl, iteF q⟩
    · exact ⟨_, rfl, _, _, _, _, false, rfl, .own CD, .base (.str z), T.c.noS, _, rfl, iteF q⟩
/-! ## DigitSet.__repr__ -/
def setText (b : Int) (n : Nat) : Str := "DigitSet(" ++ Str.ofString (toString b) ++ ", " ++ Str.ofString (toString (n : Int)) ++ " digits)"
theorem log_small {n : Int} (h0 : 0 ≤ n) (h1 : n ≤ 1000) : n.natAbs.log2 < 1920 := Nat.lt_of_lt_of_le (PySem.Flt.log2_lt_of (n := n.natAbs) (k := 10) (by decide) (Nat.lt_of_le_of_lt (by omega : n.natAbs ≤ 1000) (by decide))) (by decide)
def spRepr (K : PySem.W.Frag) (CD : Addr) : Sp := fun vs H Q _ => ∃ (x dx t : Addr) (b : Int) (s : List Int), vs = [.ref x] ∧ H x = some (.ins CD dx (dsF b t)) ∧ SqT K H t (s.map V.int) ∧ 2 ≤ b ∧ b ≤ 10 ∧ s.length ≤ 1000 ∧ Q (.str (setText b s.length)) H
theorem scRepr : FnScope ["self"] ["self"] (defScope sDigitSet_repr) := ⟨rfl, rfl, rfl, by decide +kernel, rfl, by decide +kernel, by decide +kernel⟩
theorem ok_repr {f CD CB CI fIB fID fA : Addr} {fd : FuncData} (F : Fun K "__repr__" "DigitSet.__repr__" sDigitSet_repr f fd) (TS : TxtDS K mg CD CB CI fIB fID fA) : FnOk P w K mg base CX0 1 f fd ["self"] (spRepr K CD) := by
  refine F.ok scRepr (fun vs H Q E h => ?_) (fun cdv A outer s H vs Q E hr h => ?_)
  · obtain ⟨x, dx, t, b, s, rfl, _⟩ := h
    rfl
  · obtain ⟨x, dx, t, b, s, rfl, hx, hT, b2, b10, hl, k⟩ := h
    refine ⟨_, pss_one (ps_ret (pe_joined (PJ.cons pe_str (PJ.cons (pe_fmt (pe_fld (pv 0) rfl)) (PJ.cons pe_str (PJ.cons (pe_fmt (pe_callB call_len_seq (by rfl) TS.len PySem.boot_len (pa_cons (pe_fld (pv 0) rfl) pa_nil))) (PJ.cons pe_str PJ.nil))))))), ?_⟩
    have hb := log_small (n := b) (by omega) (by omega)
    have hn := log_small (n := (s.length : Int)) (by omega) (by omega)
    have lb := int_text_len_1921 hb
    have ln := int_text_len_1921 hn
    have l1 : (("DigitSet(" : Str)).length = 9 := by decide +kernel
    have l2 : ((", " : Str)).length = 2 := by decide +kernel
    have l3 : ((" digits)" : Str)).length = 8 := by decide +kernel
    unfold setText at k
    refine ⟨_, rfl, ?_, _, rfl, x, CD, dx, _, _, rfl, hx, TS.cl, TS.nB, dsF_base b t, .inr ⟨b, rfl, hb, _, rfl, ?_, _, rfl, ?_, _, rfl, x, CD, dx, _, _, rfl, hx, TS.cl, TS.nD, dsF_digits b t, t, _, rfl, .inr hT, .inr ⟨(s.length : Int), by rw [List.length_map], hn, _, rfl, ?_, _, rfl, ?_, ?_⟩⟩⟩
    · rw [Str.empty_append, sizeLine_eq]; omega
    · rw [Str.empty_append, Str.length_append, sizeLine_eq]; omega
    · rw [Str.empty_append, Str.length_append, Str.length_append, sizeLine_eq]; omega
    · rw [Str.empty_append, Str.length_append, Str.length_append, Str.length_append, sizeLine_eq]; omega
    · rw [Str.empty_append, Str.length_append, Str.length_append, Str.length_append, Str.length_append, sizeLine_eq]; omega
    · rw [Str.empty_append]
      exact k
/-! ## _law_redundant -/
def spLRed (K : PySem.W.Frag) : Sp := fun vs H Q _ => ∃ (b : Int) (a : Addr) (ds : List Int), vs = [.int b, .ref a] ∧ SqL K H a (ds.map V.int) ∧ 2 ≤ b ∧ b ≤ 10 ∧ 0 < ds.length ∧ ds.length < 64 ∧ ∀ G, Same H G → Q (.bl (redB b (srt ds))) G
theorem scLRed : FnScope ["_law_base", "_law_digits_here", "_law_line", "_law_k"] ["_law_base", "_law_digits_here"] (defScope sLawRedundant) := ⟨rfl, rfl, rfl, by decide +kernel, rfl, by decide +kernel, by decide +kernel⟩
theorem ok_lred {f : Addr} {fd : FuncData} (F : Fun K "_law_redundant" "_law_redundant" sLawRedundant f fd) (T : TxtLD mg) : FnOk P w K mg base CX0 1 f fd ["_law_base", "_law_digits_here"] (spLRed K) := by
  refine F.ok scLRed (fun vs H Q E h => ?_) (fun cdv A outer s H vs Q E hr h => ?_)
  · obtain ⟨b, a, ds, rfl, _⟩ := h
    rfl
  · obtain ⟨b, a, ds, rfl, hA, b2, b10, hpos, h64, k⟩ := h
    refine ⟨_, pss_cons (ps_set (i := 2) scLRed.nd rfl (Or.inr rfl) (pe_callB cr_sortA (by rfl) T.sorted (by decide +kernel) (pa_cons (pv 1) pa_nil)))
      (pss_one (ps_ret (pe_callB (cr_all rfl) (by rfl) T.all (by decide +kernel) (pa_cons
        (pe_lc (own := [("_law_k", 3)]) (g := gName 3) (tt := tYes)
          (te := tOp (rI0 fun i j => .bl (decide (i < j))) (tOp (rI CMul fun i j => .int (i * j)) (tOp (rI0 fun i j => .int (i - j)) (tOp (rIxL K) (tVar 2) (tOp (rI0 fun i j => .int (i + j)) (tVar 3) (tC (.int 1)))) (tOp (rIxL K) (tVar 2) (tVar 3))) (tOp (rI0 fun i j => .int (i - j)) (tVar 0) (tC (.int 1))))
            (tOp (rI0 fun i j => .int (i - j)) (tOp (rIxL K) (tVar 2) (tUn (rU fun i => .int (-i)) (tC (.int 1)))) (tOp (rIxL K) (tVar 2) (tC (.int 0)))))
          rfl scLRed.nd (pi_range1 rfl T.range (pa_cons (pe_op op_sub (pe_callB call_len_seq (by rfl) T.len PySem.boot_len (pa_cons (pv 2) pa_nil)) pe_int) pa_nil))
          (blkOk_by (N := ["_law_base", "_law_digits_here", "_law_line", "_law_k"]) (sc := defScope sLawRedundant) (by decide +kernel))
          (fun _ _ _ _ _ => by exact pg_name (i := 3) scLRed.nd rfl (Or.inl rfl)) (fun _ _ _ _ _ => pts_nil)
          (fun _ _ _ _ _ => by exact pe_cmpR op_lt (pe_op op_mul (pe_op op_sub (pe_ix ix_list (pv 2) (pe_op op_add (pv 3) pe_int) (fun _ _ => rfl)) (pe_ix ix_list (pv 2) (pv 3) (fun _ _ => rfl))) (pe_op op_sub (pv 0) pe_int)) (pe_op op_sub (pe_ix ix_list (pv 2) (pe_un un_neg pe_int) (fun _ _ => rfl)) (pe_ix ix_list (pv 2) pe_int (fun _ _ => rfl))) (nomark _))) pa_nil)))), ?_⟩
    refine ⟨_, rfl, a, ds, rfl, .inl hA, h64, fun ms p hp hasc hnew => ?_⟩
    rw [← srt_eq hp hasc] at k
    have hlen : ms.length < 64 := by rw [hp.length_eq]; exact h64
    have lp : 0 < ms.length := by rw [hp.length_eq]; exact hpos
    have s1 : Same H (upd H p (.lst (ms.map V.int))) := same_upd (Same.refl H) hnew
    clear hp hA h64
    refine ⟨_, rfl, p, _, rfl, .inl (SqL.of upd_same), _, _, rfl, rfl, _, rfl, ?_, ?_, fun D hD => ?_⟩
    · rw [List.length_map]
      have : (2 : Int) ^ 62 = 4611686018427387904 := by decide
      omega
    · rw [List.length_map]
      have : (2 : Int) ^ 62 = 4611686018427387904 := by decide
      omega
    · rw [List.length_map]
      have en : ((ms.length : Int) - 1).toNat = ms.length - 1 := by omega
      rw [en]
      refine lc_range (lo := 0) (n := ms.length - 1) (fun i G => Same (upd H p (.lst (ms.map V.int))) G ∧ G D = some (.lst (((List.range i).map fun j => decide ((ms.getD (j + 1) 0 - ms.getD j 0) * (b - 1) < lastI ms - firstI ms)).map V.bl)))
        ⟨same_upd (Same.refl _) hD, upd_same⟩ ?_ ?_
      · rintro i G hi ⟨e1, e2⟩
        have hL : SqL K G p (ms.map V.int) := e1.seq (SqL.of upd_same)
        refine ⟨rfl, ?_⟩
        refine iteT (B := Same (upd H p (.lst (ms.map V.int))) G ∧ G D = some (.lst (((List.range (i + 1)).map fun j => decide ((ms.getD (j + 1) 0 - ms.getD j 0) * (b - 1) < lastI ms - firstI ms)).map V.bl))) ?_
        refine ⟨_, rfl, _, rfl, _, _, rfl, rfl, p, _, _, _, rfl, rfl, hL, at_int (i := i + 1) (by omega) (by omega), _, rfl, _, rfl, p, _, _, _, rfl, rfl, hL, at_int (i := i) (by omega) (by omega), _, _, rfl, rfl, _, rfl, _, _, rfl, rfl, _, _, rfl, rfl, mul_smallR (by omega) (by omega),
          _, rfl, _, rfl, p, _, _, _, rfl, rfl, hL, at_last lp, _, rfl, p, _, _, _, rfl, rfl, hL, at_first lp, _, _, rfl, rfl, _, _, rfl, rfl, ?_⟩
        refine ⟨_, e2, by rw [List.length_map, List.length_map, List.length_range, sizeLine_eq]; omega, same_updN e1 hD, ?_⟩
        rw [upd_same, List.range_succ, List.map_append, List.map_append]
        rfl
      · rintro G ⟨e1, e2⟩
        refine ⟨D, _, rfl, SqL.of e2, ?_⟩
        have q := k G (s1.trans e1)
        by_cases c6 : RedS b ms
        · rw [redB_t c6] at q
          rw [show (((List.range (ms.length - 1)).map fun j => decide ((ms.getD (j + 1) 0 - ms.getD j 0) * (b - 1) < lastI ms - firstI ms)).all id) = true from by
            rw [List.all_eq_true]
            intro x hx
            obtain ⟨j, hj, rfl⟩ := List.mem_map.mp hx
            exact decide_eq_true (c6 j (by have := List.mem_range.mp hj; omega))]
          exact q
        · rw [redB_f c6] at q
          rw [show (((List.range (ms.length - 1)).map fun j => decide ((ms.getD (j + 1) 0 - ms.getD j 0) * (b - 1) < lastI ms - firstI ms)).all id) = false from by
            refine Bool.eq_false_iff.mpr fun z => c6 fun i hi => ?_
            have := List.all_eq_true.mp z _ (List.mem_map.mpr ⟨i, List.mem_range.mpr (by omega), rfl⟩)
            exact of_decide_eq_true this]
          exact q
end
end K03
namespace K03
open PySem PySem.Spec PyProof.Rows L2 Ew
section
variable {P : Program} {w : World} {K : PySem.W.Frag} {mg : Str → Option Value} {base : Heap}
/-! ## _law_set -/
structure TxtSt (mg : Str → Option Value) : Prop where
  list : mg "list" = none
def spLSet (CD : Addr) : Sp := fun vs H Q _ => ∃ (b : Int) (l : Addr) (ds : List Int), vs = [.int b, .ref l] ∧ H l = some (.lst (ds.map V.int)) ∧ ds.length < 64 ∧ 2 ≤ b ∧ b ≤ 10 ∧ AreS b (srt ds) ∧
  ∀ G x dx u, Same H G → H x = none → G x = some (.ins CD dx (dsF b u)) → G u = some (.tup ((srt ds).map V.int)) → Q (.ref x) G
theorem scLSet : FnScope ["_law_base", "_law_digits_here"] ["_law_base", "_law_digits_here"] (defScope sLawSet) := ⟨rfl, rfl, rfl, by decide +kernel, rfl, by decide +kernel, by decide +kernel⟩
theorem mk_set {CD CB CI : Addr} {G : Hp} {y dx e : Addr} {b : Int} {ds : List Int} {R : Hp → Prop} {E : XK} (ny : G y = none) (ndx : G dx = none) (he : SqL K G e (ds.map V.int) ∨ SqT K G e (ds.map V.int)) (h64 : ds.length < 64) (c1 : 2 ≤ b) (c2 : b ≤ 10) (c3 : AreS b (srt ds))
    (k : ∀ Gx u, Same G Gx → Gx y = some (.ins CD dx (dsF b u)) → Gx u = some (.tup ((srt ds).map V.int)) → R Gx) :
    spSetInit K CD CB CI [.ref y, .int b, .ref e] (upd (upd G dx (.own y)) y (.ins CD dx [])) (fun v H2 => v = .non ∧ R H2) E := by
  have sN : Same G (upd (upd G dx (.own y)) y (.ins CD dx [])) := fun q o hq => by
    rw [upd_ne (ne_of_none hq ny), upd_ne (ne_of_none hq ndx)]
    exact hq
  exact ⟨y, dx, e, b, ds, rfl, upd_same, he.imp sN.seq (seqT sN), h64, fun z => absurd ⟨c1, c2⟩ z, fun _ _ z => absurd c3 z, fun _ _ _ Gx u e1 hu hy hut => ⟨rfl, k Gx u (Same.made ny ndx e1) hy hut⟩⟩
theorem ok_lset {f CD CB CI fIn : Addr} {fd fdIn : FuncData} (F : Fun K "_law_set" "_law_set" sLawSet f fd) (T : TxtSt mg) (gDS : mg "DigitSet" = some (.ref CD)) (M : Mk K CD fIn) (In : FnOk P w K mg base (L2.CX P w) 3 fIn fdIn ["self", "base", "digits"] (spSetInit K CD CB CI)) (bIn : Binds K fdIn ["self", "base", "digits"] []) :
    FnOk P w K mg base CX0 5 f fd ["_law_base", "_law_digits_here"] (spLSet CD) := by
  refine F.ok scLSet (fun vs H Q E h => ?_) (fun cdv A outer s H vs Q E hr h => ?_)
  · obtain ⟨b, l, ds, rfl, _⟩ := h
    rfl
  · obtain ⟨b, l, ds, rfl, hl, h64, b2, b10, ha, k⟩ := h
    refine ⟨_, pss_one (ps_ret (pe_make M In hr rfl gDS bIn .nil passL (pa_cons (pv 0) (pa_cons (pe_callTy call_list_of (by rfl) T.list (by decide +kernel) (pa_cons (pv 1) pa_nil)) pa_nil)))), ?_⟩
    refine ⟨_, rfl, _, rfl, l, _, rfl, .inl (SqL.of hl), fun m hm => ?_⟩
    have s1 : Same H (upd H m (.lst (ds.map V.int))) := same_upd (Same.refl H) hm
    exact fun y dx ny nd _ => mk_set (ds := ds) ny nd (.inl (SqL.of upd_same)) h64 b2 b10 ha fun G u e hy hu => k G y dx u (s1.trans e) (s1.free ny) hy hu
theorem redB_all (b : Int) (s : List Int) : redB b s = (List.range (s.length - 1)).all fun i => decide ((s.getD (i + 1) 0 - s.getD i 0) * (b - 1) < lastI s - firstI s) := by
  by_cases c : RedS b s
  · rw [redB_t c]
    symm
    rw [List.all_eq_true]
    intro i hi
    exact decide_eq_true (c i (by have := List.mem_range.mp hi; omega))
  · rw [redB_f c]
    symm
    refine Bool.eq_false_iff.mpr fun z => c fun i hi => ?_
    exact of_decide_eq_true (List.all_eq_true.mp z i (List.mem_range.mpr (by omega)))
end
end K03
namespace K03
open PySem PySem.Spec PyProof.Rows L2 Ew
def lawN : List Str := ["_law_script", "_law_rng", "_law_turn", "_law_base", "_law_digits_here", "_law_one", "_law_twin", "_law_shown", "_law_more", "_law_other", "_law_some"]
theorem scLaw : FnScope lawN ["_law_script"] (defScope sLaw) := ⟨rfl, rfl, rfl, by decide +kernel, rfl, by decide +kernel, by decide +kernel⟩
def spLaw (K : PySem.W.Frag) : Sp := fun vs H Q _ => ∃ (a : Addr) (ns : List Int), vs = [.ref a] ∧ SqL K H a (ns.map V.int) ∧ ns.length ≤ 63 ∧ ∀ G, Q (.bl true) G
structure TxtL (K : PySem.W.Frag) (mg : Str → Option Value) : Prop where
  range : mg "range" = none
  len : mg "len" = none
  list : mg "list" = none
  str : mg "str" = none
  repr : mg "repr" = none
  sorted : mg "sorted" = none
theorem dsF_no {b : Int} {t : Addr} {m : Str} (h1 : m ≠ "base") (h2 : m ≠ "digits") : (dsF b t).lookup m = none := by
  unfold dsF
  rw [lookup_putF, if_neg h2, lookup_putF, if_neg h1]
  rfl
theorem same_two {K : PySem.W.Frag} {G : Hp} {n : Nat} {s t : Addr} {x0 x1 y0 y1 : V} (hs : G s = some (.lst [x0, x1])) (ht : G t = some (.lst [y0, y1])) (h0 : SameN K G n x0 y0) (h1 : SameN K G n x1 y1) : SameN K G (n + 1) (.ref s) (.ref t) := by
  refine .inr ⟨s, t, _, _, rfl, rfl, .inl ⟨SqL.of hs, SqL.of ht⟩, rfl, (by show 2 ≤ 1000; decide), fun i u v hu hv => ?_⟩
  match i, hu, hv with
  | 0, hu, hv => cases hu; cases hv; exact h0
  | 1, hu, hv => cases hu; cases hv; exact h1
  | i + 2, hu, hv => cases hu
theorem repr_read {K : PySem.W.Frag} {CD x dx u : Addr} {G : Hp} {b : Int} {s : List Int} {Q : VK} (hx : G x = some (.ins CD dx (dsF b u))) (hu : G u = some (.tup (s.map V.int))) (b2 : 2 ≤ b) (b10 : b ≤ 10) (hl : s.length ≤ 1000) (q : Q (.str (setText b s.length)) G) : rReprO CD (spRepr K CD) [.ref x] G Q := by
  unfold rReprO
  exact ⟨x, dx, _, rfl, hx, x, dx, u, b, s, rfl, hx, SqT.of hu, b2, b10, hl, _, rfl, q⟩
/-- at x: the set of b and s -/
def SetAt (CD : Addr) (G : Hp) (x : Addr) (b : Int) (s : List Int) : Prop := ∃ dx u, G x = some (.ins CD dx (dsF b u)) ∧ G u = some (.tup (s.map V.int))
theorem SetAt.same {CD : Addr} {G G' : Hp} {x : Addr} {b : Int} {s : List Int} (e : Same G G') (h : SetAt CD G x b s) : SetAt CD G' x b s := let ⟨dx, u, h1, h2⟩ := h; ⟨dx, u, e _ _ h1, e _ _ h2⟩
theorem SetAt.keep {CD p : Addr} {G G' : Hp} {x : Addr} {b : Int} {s : List Int} {xs : List V} (e : KeepBut p G G') (hp : G p = some (.lst xs)) (h : SetAt CD G x b s) : SetAt CD G' x b s := by
  obtain ⟨dx, u, h1, h2⟩ := h
  exact ⟨dx, u, e _ _ h1 (fun z => by rw [z, hp] at h1; cases h1), e _ _ h2 (fun z => by rw [z, hp] at h2; cases h2)⟩
/-- x == y of two sets -/
theorem eq_read {K : PySem.W.Frag} {CD x y : Addr} {G : Hp} {b b' : Int} {s s' : List Int} {Q : VK} (h1 : SetAt CD G x b s) (h2 : SetAt CD G y b' s') (q : Q (.bl (decide (b = b' ∧ s = s'))) G) : rEqO K CD (spSEq K CD) (.ref x) (.ref y) G Q := by
  obtain ⟨dx, u, hx, hu⟩ := h1
  obtain ⟨dy, v, hy, hv⟩ := h2
  exact ⟨x, dx, _, rfl, hx, .inl ⟨y, dy, _, rfl, hy⟩, x, dx, u, b, s, _, rfl, hx, SqT.of hu, .inl ⟨y, dy, v, b', s', rfl, hy, SqT.of hv, _, rfl, q⟩⟩
theorem ne_read {K : PySem.W.Frag} {CD x y : Addr} {G : Hp} {b b' : Int} {s s' : List Int} {Q : VK} (h1 : SetAt CD G x b s) (h2 : SetAt CD G y b' s') (q : Q (.bl (!decide (b = b' ∧ s = s'))) G) : rNeO CD (spSEq K CD) (.ref x) (.ref y) G Q := by
  obtain ⟨dx, u, hx, hu⟩ := h1
  obtain ⟨dy, v, hy, hv⟩ := h2
  exact ⟨x, dx, y, dy, _, _, rfl, rfl, hx, hy, x, dx, u, b, s, _, rfl, hx, SqT.of hu, .inl ⟨y, dy, v, b', s', rfl, hy, SqT.of hv, _, rfl, q⟩⟩
theorem bne_false {A B : Bool} (h : A = B) : (!decide (V.bl A = V.bl B)) = false := by subst h; simp
theorem run12 : rgV 0 12 = (runL 0 12).map V.int := by decide +kernel
theorem are12 : AreS 2 (srt (runL 0 12)) := by
  rw [srt_self (runL_asc 0 12)]
  exact (runL_dig (b := 2) (by decide) (by decide) (by decide) (by decide) (by decide)).are
theorem eqL_read {K : PySem.W.Frag} {CD x l : Addr} {G : Hp} {b : Int} {s : List Int} {xs : List V} {Q : VK} (n : PySem.W.notFirst K CD (.type "list") = true) (h1 : SetAt CD G x b s) (h2 : G l = some (.lst xs)) (q : Q (.bl false) G) : rEqO K CD (spSEq K CD) (.ref x) (.ref l) G Q := by
  obtain ⟨dx, u, hx, hu⟩ := h1
  exact ⟨x, dx, _, rfl, hx, .inr ⟨_, ty_list (SqL.of h2), n⟩, x, dx, u, b, s, _, rfl, hx, SqT.of hu, .inr (.inl ⟨⟨l, xs, rfl, SqL.of h2⟩, _, rfl, q⟩)⟩
theorem eqS_read {K : PySem.W.Frag} {CD x : Addr} {G : Hp} {b : Int} {s : List Int} {z : Str} {Q : VK} (n : PySem.W.notFirst K CD (.type "str") = true) (h1 : SetAt CD G x b s) (q : Q (.bl false) G) : rEqO K CD (spSEq K CD) (.ref x) (.str z) G Q := by
  obtain ⟨dx, u, hx, hu⟩ := h1
  exact ⟨x, dx, _, rfl, hx, .inr ⟨_, .base (.str z), n⟩, x, dx, u, b, s, _, rfl, hx, SqT.of hu, .inr (.inr ⟨⟨z, rfl⟩, _, rfl, q⟩)⟩
theorem are_of {b : Int} {s : List Int} (hs : s.Pairwise (· < ·)) (h : 2 ≤ s.length ∧ s.length ≤ 24 ∧ -99 ≤ firstI s ∧ lastI s ≤ 99 ∧ ∀ i ∈ List.range (s.length - 1), (s.getD (i + 1) 0 - s.getD i 0) * (b - 1) ≤ lastI s - firstI s) : AreS b (srt s) := by
  rw [srt_self hs]
  exact ⟨h.1, h.2.1, nodup_of hs, h.2.2.1, h.2.2.2.1, fun i hi => h.2.2.2.2 i (List.mem_range.mpr (by omega))⟩
theorem ok_law {P : Program} {w : World} {K : PySem.W.Frag} {mg : Str → Option Value} {base : Heap} {f fB fD fP fS fLD fSt fMx fEn fLR CD CB CI fIB fID fA fIn fLo fHi fRe fEq fRp : Addr} {fd fdB fdD fdS fdLD fdSt fdMx fdEn fdLR fdIn fdLo fdHi fdRe fdEq fdRp : FuncData}
    (F : Fun K "law" "law" sLaw f fd) (T : TxtL K mg)
    (B : Def P w K mg base CX0 1 "_law_begin" fB fdB ["_law_script"] (spBegin K)) (D : Def P w K mg base CX0 1 "_law_draw" fD fdD ["_law_rng", "_law_many"] spDraw)
    (S : Def P w K mg base CX0 3 "_law_same" fS fdS ["_law_found", "_law_due"] (spSame K 3)) (LD : Def P w K mg base CX0 3 "_law_digits" fLD fdLD ["_law_rng", "_law_base", "_law_most"] spLDigits) (Mx : Def P w K mg base CX0 2 "_law_mixed" fMx fdMx ["_law_rng", "_law_items"] spMixed)
    (St : Def P w K mg base CX0 5 "_law_set" fSt fdSt ["_law_base", "_law_digits_here"] (spLSet CD)) (En : Def P w K mg base CX0 2 "_law_ends" fEn fdEn ["_law_base", "_law_digits_here"] (spEnds K)) (LR : Def P w K mg base CX0 1 "_law_redundant" fLR fdLR ["_law_base", "_law_digits_here"] (spLRed K))
    (gDS : mg "DigitSet" = some (.ref CD)) (M : Mk K CD fIn) (In : FnOk P w K mg base (L2.CX P w) 3 fIn fdIn ["self", "base", "digits"] (spSetInit K CD CB CI)) (bIn : Binds K fdIn ["self", "base", "digits"] []) (DS : TxtDS K mg CD CB CI fIB fID fA)
    (hLo : Meth K CD "low" fLo) (Lo : FnOk P w K mg base CX0 4 fLo fdLo ["self"] (spEnd CD K firstI)) (bLo : Binds K fdLo ["self"] []) (hHi : Meth K CD "high" fHi) (Hi : FnOk P w K mg base CX0 4 fHi fdHi ["self"] (spEnd CD K lastI)) (bHi : Binds K fdHi ["self"] [])
    (hRe : Meth K CD "is_redundant" fRe) (Re : FnOk P w K mg base CX0 2 fRe fdRe ["self"] (spRed CD K)) (bRe : Binds K fdRe ["self"] [])
    (hEq : PySem.W.findIn K (.ref CD) "__eq__" = some (some (.ref fEq))) (hEf : PySem.W.isFn K (.ref fEq) = true) (Eq : FnOk P w K mg base CX0 1 fEq fdEq ["self", "other"] (spSEq K CD)) (bEq : Binds K fdEq ["self", "other"] []) (hNe : HasEqNe K CD fEq) (nL : PySem.W.notFirst K CD (.type "list") = true) (nS : PySem.W.notFirst K CD (.type "str") = true)
    (hRp : PySem.W.findIn K (.ref CD) "__repr__" = some (some (.ref fRp))) (hRf : PySem.W.isFn K (.ref fRp) = true) (Rp : FnOk P w K mg base CX0 1 fRp fdRp ["self"] (spRepr K CD)) (bRp : Binds K fdRp ["self"] []) :
    FnOk P w K mg base CX0 6 f fd ["_law_script"] (spLaw K) := by
  refine F.ok scLaw (fun vs H Q E h => ?_) (fun cdv A outer s H vs Q E hr h => ?_)
  · obtain ⟨a, ns, rfl, _⟩ := h
    rfl
  · obtain ⟨a, ns, rfl, hS, hl, k⟩ := h
    have r1' : Room 1 _ := hr.mono (by decide)
    have r2' : Room 2 _ := hr.mono (by decide)
    have r3' : Room 3 _ := hr.mono (by decide)
    have r4' : Room 4 _ := hr.mono (by decide)
    refine ⟨_, pss_cons (ps_set (i := 1) scLaw.nd rfl (Or.inl rfl) (pe_call B.ok r1' rfl B.g B.k B.b .nil pass0 (pa_cons (pv 0) pa_nil)))
      (pss_cons (ps_for PassesOwn.never rfl (pi_range1 rfl T.range (pa_cons pe_int pa_nil)) (pg_name (i := 2) scLaw.nd rfl (Or.inl rfl))
        (pss_cons (ps_set (i := 3) scLaw.nd rfl (Or.inl rfl) (pe_op op_add pe_int (pe_call D.ok r1' rfl D.g D.k D.b .nil pass0 (pa_cons (pv 1) (pa_cons pe_int pa_nil)))))
        (pss_cons (ps_set (i := 4) scLaw.nd rfl (Or.inl rfl) (pe_call LD.ok r3' rfl LD.g LD.k LD.b .nil pass0 (pa_cons (pv 1) (pa_cons (pv 3) (pa_cons pe_int pa_nil)))))
        (pss_cons (ps_par (i := 5) (j := 6) rfl scLaw.nd rfl rfl (by decide) rfl rfl (pa_cons (pe_call St.ok hr rfl St.g St.k St.b .nil pass0 (pa_cons (pv 3) (pa_cons (pv 4) pa_nil))) (pa_cons (pe_call St.ok hr rfl St.g St.k St.b .nil pass0 (pa_cons (pv 3) (pa_cons (pe_call Mx.ok r2' rfl Mx.g Mx.k Mx.b .nil pass0 (pa_cons (pv 1) (pa_cons (pv 4) pa_nil))) pa_nil))) pa_nil)) (by rfl))
        (pss_cons (ps_if (pt_not (pt_val (pe_call S.ok r3' rfl S.g S.k S.b .nil pass0 (pa_cons (pe_lst (pa_cons (pe_meth0 (pv 5) DS.cl hLo Lo r4' bLo .nil pass0) (pa_cons (pe_meth0 (pv 5) DS.cl hHi Hi r4' bHi .nil pass0) pa_nil))) (pa_cons (pe_callTy call_list_of (by rfl) T.list (by decide +kernel) (pa_cons (pe_call En.ok r2' rfl En.g En.k En.b .nil pass0 (pa_cons (pv 3) (pa_cons (pv 4) pa_nil))) pa_nil)) pa_nil))))) (pss_one (ps_ret pe_bl)) pss_nil)
        (pss_cons (ps_if (pt_not (pt_val (pe_call S.ok r3' rfl S.g S.k S.b .nil pass0 (pa_cons (pe_meth0 (pv 5) DS.cl hRe Re r2' bRe .nil pass0) (pa_cons (pe_call LR.ok r1' rfl LR.g LR.k LR.b .nil pass0 (pa_cons (pv 3) (pa_cons (pv 4) pa_nil))) pa_nil))))) (pss_one (ps_ret pe_bl)) pss_nil)
        (pss_cons (ps_set (i := 7) scLaw.nd rfl (Or.inl rfl) (pe_op op_add_str (pe_op op_add_str (pe_op op_add_str (pe_op op_add_str pe_str (pe_callTy call_str_int (by rfl) T.str (by decide +kernel) (pa_cons (pv 3) pa_nil))) pe_str) (pe_callTy call_str_int (by rfl) T.str (by decide +kernel) (pa_cons (pe_callB call_len_seq (by rfl) T.len PySem.boot_len (pa_cons (pv 4) pa_nil)) pa_nil))) pe_str))
        (pss_cons (ps_if (PW.pt (pw_or (pt_not (pt_val (pe_call S.ok r3' rfl S.g S.k S.b .nil pass0 (pa_cons (pe_callB (cr_reprO hRp hRf Rp r2' bRp) (by rfl) T.repr (by decide +kernel) (pa_cons (pv 5) pa_nil)) (pa_cons (pv 7) pa_nil)))))
            (pw_or (pt_cmpR (op_neO hNe Eq r2' bEq) (pv 5) (pv 6) (nomark _)) (pw_or1 (pt_not (pt_cmpR (op_eqO hEq hEf Eq r1' bEq) (pv 5) (pv 6) (nomark _))))))) (pss_one (ps_ret pe_bl)) pss_nil)
        (pss_cons (ps_set (i := 8) scLaw.nd rfl (Or.inl rfl) (pe_call LD.ok r3' rfl LD.g LD.k LD.b .nil pass0 (pa_cons (pv 1) (pa_cons (pv 3) (pa_cons pe_int pa_nil)))))
        (pss_cons (ps_if (pt_cmpR op_ne (pe_cmpR (op_eqO hEq hEf Eq r1' bEq) (pv 5) (pe_call St.ok hr rfl St.g St.k St.b .nil pass0 (pa_cons (pv 3) (pa_cons (pv 8) pa_nil))) (nomark _)) (pe_cmpR (op_eqD hr.units) (pe_callB cr_sortA (by rfl) T.sorted (by decide +kernel) (pa_cons (pv 4) pa_nil)) (pe_callB cr_sortA (by rfl) T.sorted (by decide +kernel) (pa_cons (pv 8) pa_nil)) (nomark _)) (nomark _)) (pss_one (ps_ret pe_bl)) pss_nil)
        (pss_cons (ps_set (i := 9) scLaw.nd rfl (Or.inl rfl) (pe_call St.ok hr rfl St.g St.k St.b .nil pass0 (pa_cons pe_int (pa_cons (pe_listRg rfl rfl T.list (prg_1 rfl T.range pe_int)) pa_nil))))
        (pss_one (ps_if (PW.pt (pw_or (pt_cmpR op_ne (pe_cmpR (op_eqO hEq hEf Eq r1' bEq) (pv 5) (pv 9) (nomark _)) (pe_and (pe_cmpR op_eq (pv 3) pe_int (nomark _)) (pe_one (pe_cmpR (op_eqD hr.units) (pv 4) (pe_listRg rfl rfl T.list (prg_1 rfl T.range pe_int)) (nomark _)))) (nomark _))
            (pw_or (pt_cmpR (op_eqO hEq hEf Eq r1' bEq) (pv 5) (pv 4) (nomark _)) (pw_or1 (pt_cmpR (op_eqO hEq hEf Eq r1' bEq) (pv 5) (pv 7) (nomark _)))))) (pss_one (ps_ret pe_bl)) pss_nil)))))))))))))
      (pss_cons (ps_set (i := 10) scLaw.nd rfl (Or.inl rfl) (pe_lst (pa_cons (pe_make M In r4' rfl gDS bIn .nil passL (pa_cons pe_int (pa_cons (pe_tup (pa_cons pe_int (pa_cons pe_int pa_nil))) pa_nil)))
          (pa_cons (pe_make M In r4' rfl gDS bIn .nil passL (pa_cons pe_int (pa_cons (pe_tup (pa_cons pe_int (pa_cons pe_int (pa_cons pe_int pa_nil)))) pa_nil)))
          (pa_cons (pe_make M In r4' rfl gDS bIn .nil passL (pa_cons pe_int (pa_cons (pe_tup (pa_cons pe_int (pa_cons pe_int (pa_cons pe_int pa_nil)))) pa_nil)))
          (pa_cons (pe_make M In r4' rfl gDS bIn .nil passL (pa_cons pe_int (pa_cons (pe_listRg rfl rfl T.list (prg_2 rfl T.range (pe_un un_neg pe_int) pe_int)) pa_nil))) pa_nil))))))
      (pss_one (ps_ret (pe_cmpR (op_eqD hr.units) (pe_lc (own := [("_law_one", 5)]) (g := gName 5) (tt := tYes) (te := tMeth CD "is_redundant" (spRed CD K) [] E0 (tVar 5) tNil) rfl scLaw.nd (pi_list (pv 10))
          (blkOk_by (N := lawN) (sc := defScope sLaw) (by decide +kernel)) (fun _ _ _ _ _ => by exact pg_name (i := 5) scLaw.nd rfl (Or.inl rfl)) (fun _ _ _ _ _ => pts_nil) (fun _ _ _ _ _ => by exact pe_meth0 (pv 5) DS.cl hRe Re r2' bRe .nil pass0))
          (pe_lst (pa_cons pe_bl (pa_cons pe_bl (pa_cons pe_bl (pa_cons pe_bl pa_nil))))) (nomark _)))))), ?_⟩
    have small : ∀ z : Int, 0 ≤ z → z ≤ 1000 → z.natAbs < 2 ^ 8000 := fun z h0 h1 => big_lt (n := 10) (Nat.lt_of_le_of_lt (by omega : z.natAbs ≤ 1000) (by decide)) (by decide)
    have lN : ∀ {bb : Int} {uu : Addr}, (dsF bb uu).lookup ("low" : Str) = none := dsF_no (by decide +kernel) (by decide +kernel)
    have hN : ∀ {bb : Int} {uu : Addr}, (dsF bb uu).lookup ("high" : Str) = none := dsF_no (by decide +kernel) (by decide +kernel)
    have rN : ∀ {bb : Int} {uu : Addr}, (dsF bb uu).lookup ("is_redundant" : Str) = none := dsF_no (by decide +kernel) (by decide +kernel)
    refine ⟨_, rfl, a, ns, rfl, hS, hl, fun G0 p q sd s0 R0 np nq => ?_⟩
    refine ⟨6, rfl, by decide, by decide, for_range (lo := 0) (n := 6) (fun _ σ G => ∃ (i v sd : Int) (o2 o3 o4 o5 o6 o7 o8 o9 : Option V), σ = [some (.ref a), some (.ref p), o2, o3, o4, o5, o6, o7, o8, o9, none] ∧ RngAt G p q ns i v sd)
      ⟨0, 0, sd, none, none, none, none, none, none, none, none, rfl, R0⟩ ?_ ?_⟩
    · rintro j σ G _ ⟨i, v, sd, o2, o3, o4, o5, o6, o7, o8, o9, rfl, R⟩
      refine ⟨_, rfl, p, q, ns, i, v, sd, 9, rfl, R, by decide, small _ (by decide) (by decide), fun x1 i1 v1 sd1 x10 x11 ok1 => ?_⟩
      have R1 := R.next ok1
      generalize upd G p (.lst (rngL q i1 v1 sd1)) = G1 at R1
      refine ⟨_, _, rfl, rfl, ?_⟩
      have b2 : 2 ≤ 2 + x1 := by omega
      have b10 : 2 + x1 ≤ 10 := by omega
      refine ⟨_, rfl, _, rfl, p, q, ns, i1, v1, sd1, 2 + x1, 14, rfl, R1, b2, b10, by omega, by decide, fun G2 d2 ds i2 v2 sd2 K2 R2 n2 a2 dg => ?_⟩
      have d2p := R1.free n2
      have l24 := dg.are.l24
      have l2 := dg.are.l2
      have es : srt ds = ds := srt_self dg.asc
      have asc := asc_le_of dg.asc
      -- one, twin
      refine ⟨_, rfl, _, rfl, 2 + x1, d2, ds, rfl, a2, by omega, b2, b10, by rw [es]; exact dg.are, fun G3 x dx u s3 nx hx hu => ?_⟩
      rw [es] at hu
      have S3 : SetAt CD G3 x (2 + x1) ds := ⟨dx, u, hx, hu⟩
      have R3 := R2.same s3
      refine ⟨_, rfl, _, rfl, _, rfl, p, q, d2, ns, i2, v2, sd2, ds, rfl, R3, s3 _ _ a2, d2p, by omega, fun G4 d4 ms i4 v4 sd4 K4 R4 n4 a4 pm => ?_⟩
      have em : srt ms = ds := (srt_eq pm.symm asc).symm
      have S4 := S3.keep K4 R3.at_p
      have A4 := K4 _ _ (s3 _ _ a2) d2p
      refine ⟨2 + x1, d4, ms, rfl, a4, by rw [pm.length_eq]; omega, b2, b10, by rw [em]; exact dg.are, fun G5 y dy z s5 ny hy hz => ⟨_, _, rfl, ?_⟩⟩
      rw [em] at hz
      have T5 : SetAt CD G5 y (2 + x1) ds := ⟨dy, z, hy, hz⟩
      have S5 := S4.same s5
      have R5 := R4.same s5
      have A5 := s5 _ _ A4
      clear hy hz ny s5 A4 S4 R4 a4 n4 K4 pm em S3 R3 hx hu nx s3 a2 R2 n2 K2 R1
      obtain ⟨dx, u, hx, hu⟩ := id S5
      -- ends
      refine ⟨_, rfl, x, dx, _, rfl, hx, lN, x, dx, u, 2 + x1, ds, rfl, hx, SqT.of hu, by omega, b2, b10, fun e1 he1 => ?_⟩
      have s6 := same_upd (o := .tup [.int (frN (firstI ds) (2 + x1 - 1)), .int (frD (firstI ds) (2 + x1 - 1))]) (Same.refl G5) he1
      refine ⟨_, rfl, x, dx, _, rfl, s6 _ _ hx, hN, x, dx, u, 2 + x1, ds, rfl, s6 _ _ hx, SqT.of (s6 _ _ hu), by omega, b2, b10, fun e2 he2 => ?_⟩
      have s7 := same_upd (o := .tup [.int (frN (lastI ds) (2 + x1 - 1)), .int (frD (lastI ds) (2 + x1 - 1))]) (Same.refl _) he2
      refine ⟨(by show 2 ≤ sizeLine; decide), fun ll hll => ?_⟩
      have s8 := same_upd (o := .lst [.ref e1, .ref e2]) (Same.refl _) hll
      have t1 := s8 _ _ (s7 _ _ (upd_same (H := G5) (a := e1) (o := .tup [.int (frN (firstI ds) (2 + x1 - 1)), .int (frD (firstI ds) (2 + x1 - 1))])))
      have t2 := s8 _ _ (upd_same (a := e2) (o := .tup [.int (frN (lastI ds) (2 + x1 - 1)), .int (frD (lastI ds) (2 + x1 - 1))]))
      have s58 := s6.trans (s7.trans s8)
      refine ⟨_, rfl, _, rfl, 2 + x1, d2, ds, rfl, SqL.of (s58 _ _ A5), by omega, asc, b2, b10, fun G9 e u9 v9 s9 he hu9 hv9 => ⟨e, _, rfl, .inr (SqT.of he), fun l10 hl10 => ?_⟩⟩
      have s10 := same_upd (o := .lst [.ref u9, .ref v9]) (Same.refl G9) hl10
      refine ⟨_, _, rfl, same_two (s10 _ _ (s9 _ _ upd_same)) upd_same (same_ints (n := 0) (ds := [frN (firstI ds) (2 + x1 - 1), frD (firstI ds) (2 + x1 - 1)]) (s10 _ _ (s9 _ _ t1)) (s10 _ _ hu9) (by show 2 ≤ 1000; decide)) (same_ints (n := 0) (ds := [frN (lastI ds) (2 + x1 - 1), frD (lastI ds) (2 + x1 - 1)]) (s10 _ _ (s9 _ _ t2)) (s10 _ _ hv9) (by show 2 ≤ 1000; decide)), fun G11 e11 => ⟨true, rfl, iteF ?_⟩⟩
      have sA := s58.trans (s9.trans (s10.trans e11))
      clear e11 s10 hl10 hu9 hv9 he s9 s58 t1 t2 s8 hll s7 he2 s6 he1
      have S6 := S5.same sA
      have T6 := T5.same sA
      have R6 := R5.same sA
      have A6 := sA _ _ A5
      clear S5 T5 R5 A5 sA
      obtain ⟨dx, u, hx, hu⟩ := id S6
      -- redundant
      refine ⟨_, rfl, x, dx, _, rfl, hx, rN, x, dx, u, 2 + x1, ds, rfl, hx, SqT.of hu, by omega, by omega, b2, b10, fun G12 s12 => ?_⟩
      refine ⟨_, rfl, _, rfl, 2 + x1, d2, ds, rfl, SqL.of (s12 _ _ A6), b2, b10, by omega, by omega, fun G13 s13 => ⟨_, _, rfl, .inl ⟨by rw [es], rfl⟩, fun G14 s14 => ⟨true, rfl, iteF ?_⟩⟩⟩
      have sA := s12.trans (s13.trans s14)
      have S7 := S6.same sA
      have T7 := T6.same sA
      have R7 := R6.same sA
      have A7 := sA _ _ A6
      clear S6 T6 R6 A6 sA s12 s13 s14 hx hu
      obtain ⟨dx, u, hx, hu⟩ := id S7
      -- shown
      have hb := log_small (n := 2 + x1) (by omega) (by omega)
      have hn := log_small (n := (ds.length : Int)) (by omega) (by omega)
      have lb := int_text_len_1921 hb
      have ln := int_text_len_1921 hn
      have q1 : (("DigitSet(" : Str)).length = 9 := by decide +kernel
      have q2 : ((", " : Str)).length = 2 := by decide +kernel
      have q3 : ((" digits)" : Str)).length = 8 := by decide +kernel
      refine ⟨_, rfl, 2 + x1, rfl, hb, _, _, rfl, rfl, ?_, _, _, rfl, rfl, ?_, _, rfl, d2, _, rfl, .inl (SqL.of A7), (ds.length : Int), by rw [List.length_map], hn, _, _, rfl, rfl, ?_, _, _, rfl, rfl, ?_, ?_⟩
      · rw [sizeLine_eq]; omega
      · rw [Str.length_append, sizeLine_eq]; omega
      · rw [Str.length_append, Str.length_append, sizeLine_eq]; omega
      · rw [Str.length_append, Str.length_append, Str.length_append, sizeLine_eq]; omega
      refine ⟨_, rfl, repr_read hx hu b2 b10 (by omega) ?_⟩
      refine ⟨_, rfl, _, _, rfl, .inl ⟨rfl, rfl⟩, fun G15 s15 => ⟨true, rfl, iteF ?_⟩⟩
      have S8 := S7.same s15
      have T8 := T7.same s15
      have R8 := R7.same s15
      have A8 := s15 _ _ A7
      clear S7 T7 R7 A7 s15 hx hu
      have dd : decide (2 + x1 = 2 + x1 ∧ ds = ds) = true := decide_eq_true ⟨rfl, rfl⟩
      refine ⟨_, rfl, _, rfl, ne_read S8 T8 ⟨_, rfl, ifF (by rw [dd]; rfl) ⟨_, rfl, _, rfl, eq_read S8 T8 ⟨_, rfl, ?_⟩⟩⟩⟩
      rw [dd]
      refine iteF ?_
      -- more
      refine ⟨_, rfl, _, rfl, p, q, ns, _, _, _, 2 + x1, 14, rfl, R8, b2, b10, by omega, by decide, fun G9 d9 ds9 i9 v9 sd9 K9 R9 n9 a9 dg9 => ?_⟩
      have S9 := S8.keep K9 R8.at_p
      have A9 := K9 _ _ A8 d2p
      have es9 : srt ds9 = ds9 := srt_self dg9.asc
      have l249 := dg9.are.l24
      clear S8 T8 R8 A8 K9
      refine ⟨_, rfl, _, rfl, _, rfl, 2 + x1, d9, ds9, rfl, a9, by omega, b2, b10, by rw [es9]; exact dg9.are, fun G10 y10 dy10 u10 s10 ny10 hy10 hu10 => ?_⟩
      rw [es9] at hu10
      refine eq_read (S9.same s10) ⟨dy10, u10, hy10, hu10⟩ ?_
      refine ⟨_, rfl, d2, ds, rfl, .inl (SqL.of (s10 _ _ A9)), by omega, fun ms p2 hpm hasc hp2 => ?_⟩
      have s11 := same_upd (o := .lst (ms.map V.int)) (Same.refl G10) hp2
      refine ⟨_, rfl, d9, ds9, rfl, .inl (SqL.of (s11 _ _ (s10 _ _ a9))), by omega, fun ms9 p3 hpm9 hasc9 hp3 => ?_⟩
      have s12 := same_upd (o := .lst (ms9.map V.int)) (Same.refl _) hp3
      refine ⟨.list (ms.map PyData.int), .list (ms9.map PyData.int), .lst (SqL.of (s12 _ _ upd_same)) (dpInts ms), .lst (SqL.of upd_same) (dpInts ms9), shapedInts ms, shapedInts ms9, rfl, _, rfl, ifF (bne_false ?_) ?_⟩
      · rw [eqv_lst2, srt_eq hpm hasc, srt_eq hpm9 hasc9, es, es9]
        simp
      have sB := s10.trans (s11.trans s12)
      have S11 := S9.same sB
      have R11 := R9.same sB
      have A11 := sB _ _ A9
      generalize upd (upd G10 p2 (.lst (ms.map V.int))) p3 (.lst (ms9.map V.int)) = G11 at S11 R11 A11
      clear S9 R9 A9 sB s12 s11 s10
      -- other
      refine ⟨12, rfl, ⟨by decide, by decide, by decide, by decide, by decide⟩, fun t12 ht12 => ?_⟩
      rw [run12]
      have s13 := same_upd (o := .lst ((runL 0 12).map V.int)) (Same.refl G11) ht12
      refine ⟨2, t12, runL 0 12, rfl, upd_same, by rw [runL_len]; decide, by decide, by decide, are12, fun G14 y14 dy14 u14 s14 ny14 hy14 hu14 => ?_⟩
      rw [srt_self (runL_asc 0 12)] at hu14
      have sC := s13.trans s14
      have S12 := S11.same sC
      have R12 := R11.same sC
      have A12 := sC _ _ A11
      refine ⟨_, rfl, _, rfl, eq_read S12 ⟨dy14, u14, hy14, hu14⟩ ?_⟩
      refine ⟨_, rfl, rfl, _, rfl, ?_⟩
      by_cases c : 2 + x1 = 2
      · refine ifT (decide_eq_true (by show V.int (2 + x1) = V.int 2; rw [c])) ⟨_, rfl, 12, rfl, ⟨by decide, by decide, by decide, by decide, by decide⟩, fun t15 ht15 => ?_⟩
        rw [run12]
        have s15 := same_upd (o := .lst ((runL 0 12).map V.int)) (Same.refl G14) ht15
        refine ⟨.list (ds.map PyData.int), .list ((runL 0 12).map PyData.int), .lst (SqL.of (s15 _ _ A12)) (dpInts ds), .lst (SqL.of upd_same) (dpInts (runL 0 12)), shapedInts ds, shapedInts _, rfl, _, rfl, ifF (bne_false ?_) ?_⟩
        · rw [eqv_lst2]
          simp [c]
        · exact ⟨_, rfl, _, rfl, eqL_read nL (S12.same s15) (s15 _ _ A12) ⟨_, rfl, ifF rfl ⟨_, rfl, _, rfl, eqS_read nS (S12.same s15) ⟨_, rfl, ifF rfl ⟨_, _, _, _, _, _, _, _, _, _, _, rfl, R12.same s15⟩⟩⟩⟩⟩
      · refine ifF (eq_int c) ⟨rfl, _, rfl, ifF (bne_false ?_) ?_⟩
        · exact decide_eq_false fun z => c z.1
        · exact ⟨_, rfl, _, rfl, eqL_read nL (S12) (A12) ⟨_, rfl, ifF rfl ⟨_, rfl, _, rfl, eqS_read nS (S12) ⟨_, rfl, ifF rfl ⟨_, _, _, _, _, _, _, _, _, _, _, rfl, R12⟩⟩⟩⟩⟩
    · rintro σ G ⟨i, v, sd, o2, o3, o4, o5, o6, o7, o8, o9, rfl, R⟩
      have d1 : ([0, 1] : List Int).Pairwise (· < ·) := by decide +kernel
      have d2 : ([0, 1, 2] : List Int).Pairwise (· < ·) := by decide +kernel
      have d3 : ([0, 2, 4] : List Int).Pairwise (· < ·) := by decide +kernel
      have d4 : (runL (-5) 11).Pairwise (· < ·) := runL_asc _ _
      refine ⟨(by show 2 ≤ sizeLine; decide), fun t1 ht1 y1 dx1 ny1 nd1 _ => mk_set (b := 2) (ds := [0, 1]) ny1 nd1 (.inr (SqT.of upd_same)) (by decide) (by decide) (by decide) (are_of d1 (by decide +kernel)) fun G1 u1 e1 hy1 hu1 => ?_⟩
      refine ⟨(by show 3 ≤ sizeLine; decide), fun t2 ht2 y2 dx2 ny2 nd2 _ => mk_set (b := 2) (ds := [0, 1, 2]) ny2 nd2 (.inr (SqT.of upd_same)) (by decide) (by decide) (by decide) (are_of d2 (by decide +kernel)) fun G2 u2 e2 hy2 hu2 => ?_⟩
      refine ⟨(by show 3 ≤ sizeLine; decide), fun t3 ht3 y3 dx3 ny3 nd3 _ => mk_set (b := 3) (ds := [0, 2, 4]) ny3 nd3 (.inr (SqT.of upd_same)) (by decide) (by decide) (by decide) (are_of d3 (by decide +kernel)) fun G3 u3 e3 hy3 hu3 => ?_⟩
      refine ⟨5, rfl, -5, 6, rfl, rfl, ⟨by decide, by decide, by decide, by decide, by decide⟩, fun t4 ht4 y4 dx4 ny4 nd4 _ => ?_⟩
      have e56 : rgV (-5) 6 = (runL (-5) 11).map V.int := by decide +kernel
      rw [e56] at ny4 nd4 ⊢
      refine mk_set (b := 10) (ds := runL (-5) 11) ny4 nd4 (.inl (SqL.of upd_same)) (by rw [runL_len]; decide) (by decide) (by decide) (are_of d4 (by decide +kernel)) fun G4 u4 e4 hy4 hu4 => ?_
      rw [srt_self d1] at hu1
      rw [srt_self d2] at hu2
      rw [srt_self d3] at hu3
      rw [srt_self d4] at hu4
      have f4 := (same_upd (o := .lst ((runL (-5) 11).map V.int)) (Same.refl G3) ht4).trans e4
      have f3 := (same_upd (o := .tup [.int 0, .int 2, .int 4]) (Same.refl G2) ht3).trans e3
      have f2 := (same_upd (o := .tup [.int 0, .int 1, .int 2]) (Same.refl G1) ht2).trans e2
      have Z1 : SetAt CD G4 y1 2 [0, 1] := SetAt.same (f2.trans (f3.trans f4)) ⟨dx1, u1, hy1, hu1⟩
      have Z2 : SetAt CD G4 y2 2 [0, 1, 2] := SetAt.same (f3.trans f4) ⟨dx2, u2, hy2, hu2⟩
      have Z3 : SetAt CD G4 y3 3 [0, 2, 4] := SetAt.same f4 ⟨dx3, u3, hy3, hu3⟩
      have Z4 : SetAt CD G4 y4 10 (runL (-5) 11) := ⟨dx4, u4, hy4, hu4⟩
      refine ⟨(by show 4 ≤ sizeLine; decide), fun l hl => ?_⟩
      have s5 := same_upd (o := .lst [.ref y1, .ref y2, .ref y3, .ref y4]) (Same.refl G4) hl
      have l5 : upd G4 l (.lst [.ref y1, .ref y2, .ref y3, .ref y4]) l = some (.lst [.ref y1, .ref y2, .ref y3, .ref y4]) := upd_same
      have el : ∀ (i : Nat) (v : V), [V.ref y1, .ref y2, .ref y3, .ref y4][i]? = some v → ∃ y b s, v = .ref y ∧ SetAt CD G4 y b s ∧ 2 ≤ s.length ∧ s.length ≤ 1000 ∧ 2 ≤ b ∧ b ≤ 10 ∧ [false, true, false, true][i]? = some (redB b s) := by
        intro i v hv
        match i, hv with
        | 0, hv => cases hv; exact ⟨_, _, _, rfl, Z1, by decide, by decide, by decide, by decide, by rw [redB_all]; decide +kernel⟩
        | 1, hv => cases hv; exact ⟨_, _, _, rfl, Z2, by decide, by decide, by decide, by decide, by rw [redB_all]; decide +kernel⟩
        | 2, hv => cases hv; exact ⟨_, _, _, rfl, Z3, by decide, by decide, by decide, by decide, by rw [redB_all]; decide +kernel⟩
        | 3, hv => cases hv; exact ⟨_, _, _, rfl, Z4, by rw [runL_len]; decide, by rw [runL_len]; decide, by decide, by decide, by rw [redB_all]; decide +kernel⟩
        | i + 4, hv => cases hv
      generalize upd G4 l (.lst [.ref y1, .ref y2, .ref y3, .ref y4]) = G5 at s5 l5
      refine ⟨_, rfl, l, rfl, ⟨_, SqL.of l5⟩, fun D hD => ?_⟩
      refine lc_it (walk_list (xs := [V.ref y1, .ref y2, .ref y3, .ref y4])) (fun i G => Same G5 G ∧ G D = some (.lst (([false, true, false, true].take i).map V.bl))) ⟨same_upd (Same.refl _) hD, upd_same⟩ (fun i G _ q => q.1.seq (SqL.of l5)) ?_ ?_
      · rintro i v G G' hi ⟨e1, e2⟩ ⟨rfl, hv⟩
        obtain ⟨y, b, s, rfl, ⟨dy, u, hy, hu⟩, h2, h3, h4, h5, h6⟩ := el i v hv
        refine ⟨rfl, ?_⟩
        refine iteT (B := Same G5 G' ∧ G' D = some (.lst (([false, true, false, true].take (i + 1)).map V.bl))) ?_
        have hy' := e1 _ _ (s5 _ _ hy)
        refine ⟨_, rfl, y, dy, _, rfl, hy', rN, y, dy, u, b, s, rfl, hy', SqT.of (e1 _ _ (s5 _ _ hu)), h2, h3, h4, h5, fun G6 s6 => ?_⟩
        refine ⟨_, s6 _ _ e2, Nat.lt_of_le_of_lt (by rw [List.length_map]; exact List.length_take_le' _ _ : _ ≤ 4) (by decide), same_updN (e1.trans s6) hD, ?_⟩
        rw [upd_same, List.take_add_one, h6]
        simp
      · rintro G ⟨e1, e2⟩
        have e3 : G D = some (.lst [.bl false, .bl true, .bl false, .bl true]) := e2
        refine ⟨(by show 4 ≤ sizeLine; decide), fun l2 hl2 => ?_⟩
        have s6 := same_upd (o := .lst [.bl false, .bl true, .bl false, .bl true]) (Same.refl G) hl2
        refine ⟨.list [.bool false, .bool true, .bool false, .bool true], .list [.bool false, .bool true, .bool false, .bool true], .lst (SqL.of (s6 _ _ e3)) (.cons (.bl _) (.cons (.bl _) (.cons (.bl _) (.cons (.bl _) .nil)))), .lst (SqL.of upd_same) (.cons (.bl _) (.cons (.bl _) (.cons (.bl _) (.cons (.bl _) .nil)))), by decide +kernel, by decide +kernel, ?_⟩
        rw [show PyData.eqv (.list [.bool false, .bool true, .bool false, .bool true]) (.list [.bool false, .bool true, .bool false, .bool true]) = true by decide +kernel]
        exact k _
end K03
namespace K03
open PySem PySem.Spec PyProof.Rows L2 Ew
theorem isi_mk {K : PySem.W.Frag} {C : Addr} {nm q : Str} {N : Addr} {bs bm sub : List Value} {hdct ab : Bool} {sn : List Str} {col : Option Bool} {dd : Option Addr} {k0 k1 k2 k3 k5 : Option Value} {newId : String}
    (a : PySem.W.findIn K (.ref C) "__class__" = some (some (.builtin "object.__class__"))) (b : PySem.W.specialIn K (.builtin "object.__class__") "__get__" = some (some (.builtin "getset_descriptor.__get__"))) (c : PySem.W.takesIn K (.builtin "object.__class__") = some true) (d : PySem.W.mroIn K C (.type "object") = some true)
    (l : K.lookup C = some (excClassObj nm q C N bs bm hdct sn sub ab col dd k0 k1 k2 k3 k5 newId)) (t : PySem.W.typeIn K (.ref C) = some (.type "type")) (sL : PySem.W.subIn K (.type "list") (.ref C) = some false) (sS : PySem.W.subIn K (.type "str") (.ref C) = some false) : IsiC K C := by
  have cl : (PySem.W.clsIn K C).isSome = true := by unfold PySem.W.clsIn; rw [l]; rfl
  have no : ∀ n : String, PySem.W.subIn K (.type n) (.ref C) = some false → PySem.W.kitOne K (.type n) (.ref C) = some false := fun n h => by
    unfold PySem.W.kitOne
    rw [if_neg (by intro z; have := beq_iff_eq.mp z; cases this)]
    unfold PySem.W.kitCls
    simp only [cl, t, beq_self_eq_true, Bool.and_self, if_true]
    exact h
  exact ⟨a, b, c, d, by unfold PySem.W.kitOne; rw [if_pos (beq_iff_eq.mpr rfl)], no _ sL, no _ sS⟩
theorem eqne_mk {K : PySem.W.Frag} {C f : Addr} {nm q : Str} {N : Addr} {bs sub : List Value} {hdct ab : Bool} {sn : List Str} {col : Option Bool} {dd : Option Addr} {k0 k1 k2 k3 k5 : Option Value} {newId : String} {of : Obj} {oc : Value} {od : Option Addr} {es : Array DictEntry} {ep : Nat} {sl : Array (Option Value)}
    (a : K.lookup C = some (excClassObj nm q C N bs [.type "object"] hdct sn sub ab col dd k0 k1 k2 k3 k5 newId)) (b : K.lookup N = some ⟨oc, od, .dict es ep, sl⟩) (c : es.all (fun e => match e.key with | .str _ _ => true | _ => false) = true) (d : nsFind es "__eq__" = some (.ref f)) (e : nsFind es "__ne__" = none) (g : K.lookup f = some of) (i : of.cls = .type "function") : HasEqNe K C f := by
  refine ⟨nm, q, N, bs, sub, hdct, ab, sn, col, dd, k0, k1, k2, k3, k5, newId, of, oc, od, es, ep, sl, a, b, ?_, d, e, g, i⟩
  intro e he
  have z := Array.all_eq_true'.mp c e he
  cases hk : e.key <;> rw [hk] at z <;> first | exact ⟨_, _, rfl⟩ | cases z
theorem all_mk {l : PySem.W.OpenLaw} {w : World} {K : PySem.W.Frag} {h : Heap} {mg : Str → Option Value} {fa CB CI CO CD fIB fID fIO fIn fLo fHi fRe fEq fRp fFr fA fW fSp fG fB fD fP fMx fS fL fEn fLA fLD fLR fSt fLaw : Addr} (X : K.In h) (G : h.Ns mainGlobals mg) (hfa : mg "law" = some (.ref fa))
    {tk0 tk1 tk2 tk3 tk4 : Tok}
    (nB : PySem.W.nsIn K mainGlobals "InvalidBase" = some (some (.ref CB)))
    (oB : OexC K CB)
    (fB_ : XfC K CB)
    (tB : PySem.W.findIn K (.ref CB) "tag" = some none)
    (iB : PySem.W.findIn K (.ref CB) "__init__" = some (some (.ref fIB)))
    (yB : PySem.W.typeIn K (.ref fIB) = some (.type "function"))
    (dB : DefAt K "__init__" "InvalidBase.__init__" sInvalidBase_init fIB)
    (nI : PySem.W.nsIn K mainGlobals "InvalidDigits" = some (some (.ref CI)))
    (oI : OexC K CI)
    (fI_ : XfC K CI)
    (tI : PySem.W.findIn K (.ref CI) "tag" = some none)
    (iI : PySem.W.findIn K (.ref CI) "__init__" = some (some (.ref fID)))
    (yI : PySem.W.typeIn K (.ref fID) = some (.type "function"))
    (dI : DefAt K "__init__" "InvalidDigits.__init__" sInvalidDigits_init fID)
    (nO : PySem.W.nsIn K mainGlobals "OutOfRange" = some (some (.ref CO)))
    (oO : OexC K CO)
    (fO_ : XfC K CO)
    (tO : PySem.W.findIn K (.ref CO) "tag" = some none)
    (iO : PySem.W.findIn K (.ref CO) "__init__" = some (some (.ref fIO)))
    (yO : PySem.W.typeIn K (.ref fIO) = some (.type "function"))
    (dO : DefAt K "__init__" "OutOfRange.__init__" sOutOfRange_init fIO)
    (nD : PySem.W.nsIn K mainGlobals "DigitSet" = some (some (.ref CD)))
    (cD : Cls K CD)
    (mD : PySem.W.makesIn K CD = true)
    (kD : PySem.W.keepIn K (.ref CD) = true)
    (aB : PySem.W.findIn K (.ref CD) "base" = some none)
    (aD : PySem.W.findIn K (.ref CD) "digits" = some none)
    (iD : PySem.W.findIn K (.ref CD) "__init__" = some (some (.ref fIn)))
    (iF : PySem.W.isFn K (.ref fIn) = true)
    (dIn : DefAt K "__init__" "DigitSet.__init__" sDigitSet_init fIn)
    (m_fLo : PySem.W.findIn K (.ref CD) "low" = some (some (.ref fLo)))
    (i_fLo : PySem.W.isFn K (.ref fLo) = true)
    (k_fLo : PySem.W.keepIn K (.ref fLo) = true)
    (d_fLo : DefAt K "low" "DigitSet.low" sDigitSet_low fLo)
    (m_fHi : PySem.W.findIn K (.ref CD) "high" = some (some (.ref fHi)))
    (i_fHi : PySem.W.isFn K (.ref fHi) = true)
    (k_fHi : PySem.W.keepIn K (.ref fHi) = true)
    (d_fHi : DefAt K "high" "DigitSet.high" sDigitSet_high fHi)
    (m_fRe : PySem.W.findIn K (.ref CD) "is_redundant" = some (some (.ref fRe)))
    (i_fRe : PySem.W.isFn K (.ref fRe) = true)
    (k_fRe : PySem.W.keepIn K (.ref fRe) = true)
    (d_fRe : DefAt K "is_redundant" "DigitSet.is_redundant" sDigitSet_is_redundant fRe)
    (m_fEq : PySem.W.findIn K (.ref CD) "__eq__" = some (some (.ref fEq)))
    (i_fEq : PySem.W.isFn K (.ref fEq) = true)
    (k_fEq : PySem.W.keepIn K (.ref fEq) = true)
    (d_fEq : DefAt K "__eq__" "DigitSet.__eq__" sDigitSet_eq fEq)
    (m_fRp : PySem.W.findIn K (.ref CD) "__repr__" = some (some (.ref fRp)))
    (i_fRp : PySem.W.isFn K (.ref fRp) = true)
    (k_fRp : PySem.W.keepIn K (.ref fRp) = true)
    (d_fRp : DefAt K "__repr__" "DigitSet.__repr__" sDigitSet_repr fRp)
    (isc : IsiC K CD)
    (eqn : HasEqNe K CD fEq)
    (nfL : PySem.W.notFirst K CD (.type "list") = true)
    (nfS : PySem.W.notFirst K CD (.type "str") = true)
    (n_fA : PySem.W.nsIn K mainGlobals "are_digits" = some (some (.ref fA)))
    (d_fA : DefAt K "are_digits" "are_digits" sAreDigits fA)
    (n_fW : PySem.W.nsIn K mainGlobals "widest_gap" = some (some (.ref fW)))
    (d_fW : DefAt K "widest_gap" "widest_gap" sWidestGap fW)
    (n_fSp : PySem.W.nsIn K mainGlobals "spread" = some (some (.ref fSp)))
    (d_fSp : DefAt K "spread" "spread" sSpread fSp)
    (n_fG : PySem.W.nsIn K mainGlobals "common_divisor" = some (some (.ref fG)))
    (d_fG : DefAt K "common_divisor" "common_divisor" sGcd fG)
    (n_fB : PySem.W.nsIn K mainGlobals "_law_begin" = some (some (.ref fB)))
    (d_fB : DefAt K "_law_begin" "_law_begin" sBegin fB)
    (n_fD : PySem.W.nsIn K mainGlobals "_law_draw" = some (some (.ref fD)))
    (d_fD : DefAt K "_law_draw" "_law_draw" sDraw fD)
    (n_fP : PySem.W.nsIn K mainGlobals "_law_pick" = some (some (.ref fP)))
    (d_fP : DefAt K "_law_pick" "_law_pick" sPick fP)
    (n_fMx : PySem.W.nsIn K mainGlobals "_law_mixed" = some (some (.ref fMx)))
    (d_fMx : DefAt K "_law_mixed" "_law_mixed" sLawMixed fMx)
    (n_fS : PySem.W.nsIn K mainGlobals "_law_same" = some (some (.ref fS)))
    (d_fS : DefAt K "_law_same" "_law_same" sSame fS)
    (n_fL : PySem.W.nsIn K mainGlobals "_law_lowest" = some (some (.ref fL)))
    (d_fL : DefAt K "_law_lowest" "_law_lowest" sLowest fL)
    (n_fEn : PySem.W.nsIn K mainGlobals "_law_ends" = some (some (.ref fEn)))
    (d_fEn : DefAt K "_law_ends" "_law_ends" sLawEnds fEn)
    (n_fLA : PySem.W.nsIn K mainGlobals "_law_are_digits" = some (some (.ref fLA)))
    (d_fLA : DefAt K "_law_are_digits" "_law_are_digits" sLawAreDigits fLA)
    (n_fLD : PySem.W.nsIn K mainGlobals "_law_digits" = some (some (.ref fLD)))
    (d_fLD : DefAt K "_law_digits" "_law_digits" sLawDigits fLD)
    (n_fLR : PySem.W.nsIn K mainGlobals "_law_redundant" = some (some (.ref fLR)))
    (d_fLR : DefAt K "_law_redundant" "_law_redundant" sLawRedundant fLR)
    (n_fSt : PySem.W.nsIn K mainGlobals "_law_set" = some (some (.ref fSt)))
    (d_fSt : DefAt K "_law_set" "_law_set" sLawSet fSt)
    (n_fLaw : PySem.W.nsIn K mainGlobals "law" = some (some (.ref fLaw)))
    (d_fLaw : DefAt K "law" "law" sLaw fLaw)
    (nFr : PySem.W.nsIn K mainGlobals "fraction" = some (some (.ref fFr)))
    (dFr : DfltAt K "fraction" sFraction (.int 1) fFr)
    (cst0 : PySem.W.nsIn K mainGlobals "MIN_BASE" = some (some (.int 2 tk0)))
    (cst1 : PySem.W.nsIn K mainGlobals "MAX_BASE" = some (some (.int 10 tk1)))
    (cst2 : PySem.W.nsIn K mainGlobals "MIN_DIGITS" = some (some (.int 2 tk2)))
    (cst3 : PySem.W.nsIn K mainGlobals "MAX_DIGITS" = some (some (.int 24 tk3)))
    (cst4 : PySem.W.nsIn K mainGlobals "MAX_DIGIT" = some (some (.int 99 tk4)))
    (zlen : PySem.W.nsIn K mainGlobals "len" = some none)
    (zlist : PySem.W.nsIn K mainGlobals "list" = some none)
    (zisinstance : PySem.W.nsIn K mainGlobals "isinstance" = some none)
    (ztuple : PySem.W.nsIn K mainGlobals "tuple" = some none)
    (zall : PySem.W.nsIn K mainGlobals "all" = some none)
    (zzip : PySem.W.nsIn K mainGlobals "zip" = some none)
    (zbool : PySem.W.nsIn K mainGlobals "bool" = some none)
    (zint : PySem.W.nsIn K mainGlobals "int" = some none)
    (zstr : PySem.W.nsIn K mainGlobals "str" = some none)
    (zrange : PySem.W.nsIn K mainGlobals "range" = some none)
    (zsorted : PySem.W.nsIn K mainGlobals "sorted" = some none)
    (zset : PySem.W.nsIn K mainGlobals "set" = some none)
    (zabs : PySem.W.nsIn K mainGlobals "abs" = some none)
    (zmax : PySem.W.nsIn K mainGlobals "max" = some none)
    (zmin : PySem.W.nsIn K mainGlobals "min" = some none)
    (zrepr : PySem.W.nsIn K mainGlobals "repr" = some none) :
    ∃ fd : FuncData, (∀ (s : Shared) (u : Value), BindsTo s fd ⟨[u], []⟩ [("_law_script", u)]) ∧ ∀ base : Heap, K.In base → base.Ns mainGlobals mg → FnOk l.prog w K mg base CX0 6 fa fd ["_law_script"] (spLaw K) := by
  have e := hfa.symm.trans (PySem.W.mg_of X G n_fLaw)
  cases e
  obtain ⟨fdB0, FB0⟩ := dB
  obtain ⟨fdI0, FI0⟩ := dI
  obtain ⟨fdO0, FO0⟩ := dO
  obtain ⟨fdIn, FIn⟩ := dIn
  obtain ⟨fdFr, FFr⟩ := dFr
  obtain ⟨fd_fLo, F_fLo⟩ := d_fLo
  obtain ⟨fd_fHi, F_fHi⟩ := d_fHi
  obtain ⟨fd_fRe, F_fRe⟩ := d_fRe
  obtain ⟨fd_fEq, F_fEq⟩ := d_fEq
  obtain ⟨fd_fRp, F_fRp⟩ := d_fRp
  obtain ⟨fd_fA, F_fA⟩ := d_fA
  obtain ⟨fd_fW, F_fW⟩ := d_fW
  obtain ⟨fd_fSp, F_fSp⟩ := d_fSp
  obtain ⟨fd_fG, F_fG⟩ := d_fG
  obtain ⟨fd_fB, F_fB⟩ := d_fB
  obtain ⟨fd_fD, F_fD⟩ := d_fD
  obtain ⟨fd_fP, F_fP⟩ := d_fP
  obtain ⟨fd_fMx, F_fMx⟩ := d_fMx
  obtain ⟨fd_fS, F_fS⟩ := d_fS
  obtain ⟨fd_fL, F_fL⟩ := d_fL
  obtain ⟨fd_fEn, F_fEn⟩ := d_fEn
  obtain ⟨fd_fLA, F_fLA⟩ := d_fLA
  obtain ⟨fd_fLD, F_fLD⟩ := d_fLD
  obtain ⟨fd_fLR, F_fLR⟩ := d_fLR
  obtain ⟨fd_fSt, F_fSt⟩ := d_fSt
  obtain ⟨fd_fLaw, F_fLaw⟩ := d_fLaw
  have bB0 := FB0.binds (ps := ["self"]) fun _ _ _ _ _ _ us hl => match us, hl with | [_], _ => rfl
  have bI0 := FI0.binds (ps := ["self"]) fun _ _ _ _ _ _ us hl => match us, hl with | [_], _ => rfl
  have bO0 := FO0.binds (ps := ["self"]) fun _ _ _ _ _ _ us hl => match us, hl with | [_], _ => rfl
  have bIn := FIn.binds (ps := ["self", "base", "digits"]) fun _ _ _ _ _ _ us hl => match us, hl with | [_, _, _], _ => rfl
  have b_fLo := F_fLo.binds (ps := ["self"]) fun _ _ _ _ _ _ us hl => match us, hl with | [_], _ => rfl
  have b_fHi := F_fHi.binds (ps := ["self"]) fun _ _ _ _ _ _ us hl => match us, hl with | [_], _ => rfl
  have b_fRe := F_fRe.binds (ps := ["self"]) fun _ _ _ _ _ _ us hl => match us, hl with | [_], _ => rfl
  have b_fEq := F_fEq.binds (ps := ["self", "other"]) fun _ _ _ _ _ _ us hl => match us, hl with | [_, _], _ => rfl
  have b_fRp := F_fRp.binds (ps := ["self"]) fun _ _ _ _ _ _ us hl => match us, hl with | [_], _ => rfl
  have b_fA := F_fA.binds (ps := ["base", "ascending"]) fun _ _ _ _ _ _ us hl => match us, hl with | [_, _], _ => rfl
  have b_fW := F_fW.binds (ps := ["ascending"]) fun _ _ _ _ _ _ us hl => match us, hl with | [_], _ => rfl
  have b_fSp := F_fSp.binds (ps := ["ascending"]) fun _ _ _ _ _ _ us hl => match us, hl with | [_], _ => rfl
  have b_fG := F_fG.binds (ps := ["one", "other"]) fun _ _ _ _ _ _ us hl => match us, hl with | [_, _], _ => rfl
  have b_fB := F_fB.binds (ps := ["_law_script"]) fun _ _ _ _ _ _ us hl => match us, hl with | [_], _ => rfl
  have b_fD := F_fD.binds (ps := ["_law_rng", "_law_many"]) fun _ _ _ _ _ _ us hl => match us, hl with | [_, _], _ => rfl
  have b_fP := F_fP.binds (ps := ["_law_rng", "_law_items"]) fun _ _ _ _ _ _ us hl => match us, hl with | [_, _], _ => rfl
  have b_fMx := F_fMx.binds (ps := ["_law_rng", "_law_items"]) fun _ _ _ _ _ _ us hl => match us, hl with | [_, _], _ => rfl
  have b_fS := F_fS.binds (ps := ["_law_found", "_law_due"]) fun _ _ _ _ _ _ us hl => match us, hl with | [_, _], _ => rfl
  have b_fL := F_fL.binds (ps := ["_law_above", "_law_below"]) fun _ _ _ _ _ _ us hl => match us, hl with | [_, _], _ => rfl
  have b_fEn := F_fEn.binds (ps := ["_law_base", "_law_digits_here"]) fun _ _ _ _ _ _ us hl => match us, hl with | [_, _], _ => rfl
  have b_fLA := F_fLA.binds (ps := ["_law_base", "_law_digits_here"]) fun _ _ _ _ _ _ us hl => match us, hl with | [_, _], _ => rfl
  have b_fLD := F_fLD.binds (ps := ["_law_rng", "_law_base", "_law_most"]) fun _ _ _ _ _ _ us hl => match us, hl with | [_, _, _], _ => rfl
  have b_fLR := F_fLR.binds (ps := ["_law_base", "_law_digits_here"]) fun _ _ _ _ _ _ us hl => match us, hl with | [_, _], _ => rfl
  have b_fSt := F_fSt.binds (ps := ["_law_base", "_law_digits_here"]) fun _ _ _ _ _ _ us hl => match us, hl with | [_, _], _ => rfl
  have b_fLaw := F_fLaw.binds (ps := ["_law_script"]) fun _ _ _ _ _ _ us hl => match us, hl with | [_], _ => rfl
  obtain ⟨ds2, rds2, bFr2⟩ := FFr.binds1 (ps := ["numerator", "denominator"]) 2 1 (by simp) rfl fun T kV doc pm an cdv ct us its hu hi => match us, its, hu, hi with | [_, _], [_], _, _ => ⟨_, rfl, rfl⟩
  obtain rfl : ds2 = [] := by
    cases rds2
    rfl
  have no : ∀ {x : Str}, PySem.W.nsIn K mainGlobals x = some none → mg x = none := fun z => PySem.W.mg_none_of X G z
  have at_ : ∀ {x : Str} {v : Value}, PySem.W.nsIn K mainGlobals x = some (some v) → mg x = some v := fun z => PySem.W.mg_of X G z
  have TEB : ErrT K mg "InvalidBase" CB fIB := ⟨at_ nB, oB, iB, yB, tB, fB_⟩
  have TEI : ErrT K mg "InvalidDigits" CI fID := ⟨at_ nI, oI, iI, yI, tI, fI_⟩
  have TEO : ErrT K mg "OutOfRange" CO fIO := ⟨at_ nO, oO, iO, yO, tO, fO_⟩
  have TR : TxtR mg := ⟨no zlen, no zlist⟩
  have TG : TxtLG mg := ⟨no zlist, no zrange, no zlen⟩
  have TLD : TxtLD mg := ⟨no zsorted, no zlen, no zset, no zabs, no zall, no zrange⟩
  have TD : TxtD K mg fW fSp := ⟨no zlen, no zset, ⟨_, at_ cst2⟩, ⟨_, at_ cst3⟩, ⟨_, at_ cst4⟩, at_ n_fW, F_fW.kp, at_ n_fSp, F_fSp.kp⟩
  have DS : TxtDS K mg CD CB CI fIB fID fA := ⟨cD, aB, aD, ⟨_, at_ cst0⟩, ⟨_, at_ cst1⟩, TEB, TEI, no ztuple, no zsorted, no zlen, at_ n_fA, F_fA.kp⟩
  refine ⟨fd_fLaw, fun s u => ?_, fun base _ _ => ?_⟩
  · obtain ⟨oc, od, kV, doc, pm, an, cd, ct, sl, rfl, lk, hc⟩ := F_fLaw.ex
    exact .of_eq rfl
  have okD : FnOk l.prog w K mg base CX0 1 fD fd_fD ["_law_rng", "_law_many"] spDraw := ok_draw F_fD TR
  have dD : Def l.prog w K mg base CX0 1 "_law_draw" fD fd_fD ["_law_rng", "_law_many"] spDraw := ⟨okD, at_ n_fD, F_fD.kp, b_fD⟩
  have dP : Def l.prog w K mg base CX0 2 "_law_pick" fP fd_fP ["_law_rng", "_law_items"] (spPick K) := ⟨ok_pick F_fP ⟨no zlen, at_ n_fD, F_fD.kp⟩ okD b_fD, at_ n_fP, F_fP.kp, b_fP⟩
  have dLA : Def l.prog w K mg base CX0 1 "_law_are_digits" fLA fd_fLA ["_law_base", "_law_digits_here"] (spLAre K) := ⟨ok_lare F_fLA TLD, at_ n_fLA, F_fLA.kp, b_fLA⟩
  have okW : FnOk l.prog w K mg base CX0 1 fW fd_fW ["ascending"] (spWidest K) := ok_widest F_fW ⟨no zmax, no zzip⟩
  have okS : FnOk l.prog w K mg base CX0 1 fSp fd_fSp ["ascending"] (spSpread K) := ok_spread F_fSp
  have okA : FnOk l.prog w K mg base CX0 2 fA fd_fA ["base", "ascending"] (spAre K) := ok_are F_fA TD okW b_fW okS b_fSp
  have okIn := ok_setInit (P := l.prog) (w := w) (base := base) FIn DS (ok_initBase FB0 TEB) bB0 (ok_initDigits FI0 TEI) bI0 okA b_fA
  have dFr2 : Def l.prog w K mg base (L2.CX l.prog w) 3 "fraction" fFr fdFr ["numerator", "denominator"] (spFraction CO) := ⟨ok_fraction FFr ⟨no zabs, TEO, at_ n_fG, F_fG.kp⟩ (ok_out FO0 TEO) bO0 (ok_gcd F_fG) b_fG, at_ nFr, FFr.kp, bFr2⟩
  have dL : Def l.prog w K mg base CX0 1 "_law_lowest" fL fd_fL ["_law_above", "_law_below"] spLow := ⟨ok_low F_fL ⟨no zabs⟩, at_ n_fL, F_fL.kp, b_fL⟩
  have dEn : Def l.prog w K mg base CX0 2 "_law_ends" fEn fd_fEn ["_law_base", "_law_digits_here"] (spEnds K) := ⟨ok_ends F_fEn ⟨no zmin, no zmax⟩ dL, at_ n_fEn, F_fEn.kp, b_fEn⟩
  have dLR : Def l.prog w K mg base CX0 1 "_law_redundant" fLR fd_fLR ["_law_base", "_law_digits_here"] (spLRed K) := ⟨ok_lred F_fLR TLD, at_ n_fLR, F_fLR.kp, b_fLR⟩
  have dSt : Def l.prog w K mg base CX0 5 "_law_set" fSt fd_fSt ["_law_base", "_law_digits_here"] (spLSet CD) := ⟨ok_lset F_fSt ⟨no zlist⟩ (at_ nD) ⟨mD, iD, iF, kD⟩ okIn bIn, at_ n_fSt, F_fSt.kp, b_fSt⟩
  exact ok_law (fP := fP) F_fLaw ⟨no zrange, no zlen, no zlist, no zstr, no zrepr, no zsorted⟩
    ⟨ok_begin F_fB TR, at_ n_fB, F_fB.kp, b_fB⟩ dD
    ⟨ok_same F_fS b_fS ⟨no zisinstance, no zlist, no ztuple, no zlen, no zall, no zzip, no zbool, no zint, no zstr, at_ n_fS, F_fS.kp⟩ 3, at_ n_fS, F_fS.kp, b_fS⟩
    ⟨ok_ldigits F_fLD TG dD dP dLA, at_ n_fLD, F_fLD.kp, b_fLD⟩ ⟨ok_mixed F_fMx TG dD, at_ n_fMx, F_fMx.kp, b_fMx⟩ dSt dEn dLR
    (at_ nD) ⟨mD, iD, iF, kD⟩ okIn bIn DS ⟨m_fLo, i_fLo, k_fLo⟩ (ok_slow F_fLo DS dFr2) b_fLo ⟨m_fHi, i_fHi, k_fHi⟩ (ok_shigh F_fHi DS dFr2) b_fHi ⟨m_fRe, i_fRe, k_fRe⟩ (ok_red F_fRe DS TD okW b_fW okS b_fSp) b_fRe
    m_fEq i_fEq (ok_seq F_fEq DS ⟨no zisinstance, at_ nD, isc⟩ kD) b_fEq eqn nfL nfS m_fRp i_fRp (ok_repr F_fRp DS) b_fRp
theorem walk {l : PySem.W.OpenLaw} {q : Program} {loose : List Str} {XP : (Str → Option Value) → Heap → Prop} {YP : World → Heap → Prop} {d : DefRec} {K : Params → PySem.W.Frag} (hn : l.most = some 63) (hdf : d.params.defaults = [])
    (hY : ∀ (w : World) (h : Heap), YP w h → (K w.params).In h)
    (F : ∀ (w : World) (mg : Str → Option Value) (fa : Addr) (h : Heap), (K w.params).In h → h.Ns mainGlobals mg → mg d.name = some (.ref fa) →
      ∃ fd : FuncData, (∀ (s : Shared) (u : Value), BindsTo s fd ⟨[u], []⟩ [("_law_script", u)]) ∧ ∀ base : Heap, (K w.params).In base → base.Ns mainGlobals mg → FnOk l.prog w (K w.params) mg base CX0 6 fa fd ["_law_script"] (spLaw (K w.params))) :
    PySem.W.WalkO q loose XP YP l.row.toRowW d [] (fun f vs => PySem.call f vs) :=
  walk_ofK (n := 63) (k := 6) (x := "_law_script") (CX := CX0) (sp := spLaw) hn (by decide) hdf ⟨rfl, by decide, by decide⟩ hY F (fun K H a ns h1 _ h3 => ⟨a, ns, rfl, h3, h1, fun _ => rfl⟩) fun _ _ _ _ z => z
end K03
open PySem PySem.W PyProof.Rows in
set_option maxRecDepth 100000 in
set_option maxHeartbeats 0 in
theorem PySem.Challenge.cw_earlywrite_k03_intervals_and_redundancy_holds : PySem.Challenge.rw_earlywrite_k03_intervals_and_redundancy.Holds := by
  w_on; o_law; k_head; (case hw => w_witness2)
  k_fill
  refine K03.walk (l := PySem.Challenge.rw_earlywrite_k03_intervals_and_redundancy) rfl rfl (fun w h Y => PySem.W.kIn_of Y) ?F
  case F =>
    intro w mg fa h KX G hmg
    refine' K03.all_mk KX G hmg ?nB ?oB ?fB_ ?tB ?iB ?yB ?dB ?nI ?oI ?fI_ ?tI ?iI ?yI ?dI ?nO ?oO ?fO_ ?tO ?iO ?yO ?dO ?nD ?cD ?mD ?kD ?aB ?aD ?iD ?iF ?dIn ?m_fLo ?i_fLo ?k_fLo ?d_fLo ?m_fHi ?i_fHi ?k_fHi ?d_fHi ?m_fRe ?i_fRe ?k_fRe ?d_fRe ?m_fEq ?i_fEq ?k_fEq ?d_fEq ?m_fRp ?i_fRp ?k_fRp ?d_fRp ?isc ?eqn ?nfL ?nfS ?n_fA ?d_fA ?n_fW ?d_fW ?n_fSp ?d_fSp ?n_fG ?d_fG ?n_fB ?d_fB ?n_fD ?d_fD ?n_fP ?d_fP ?n_fMx ?d_fMx ?n_fS ?d_fS ?n_fL ?d_fL ?n_fEn ?d_fEn ?n_fLA ?d_fLA ?n_fLD ?d_fLD ?n_fLR ?d_fLR ?n_fSt ?d_fSt ?n_fLaw ?d_fLaw ?nFr ?dFr ?cst0 ?cst1 ?cst2 ?cst3 ?cst4 ?zlen ?zlist ?zisinstance ?ztuple ?zall ?zzip ?zbool ?zint ?zstr ?zrange ?zsorted ?zset ?zabs ?zmax ?zmin ?zrepr
    (case nB => k_is)
    (case oB => (refine' Ew.oex_mk ?l ?r ?sa ?e ?t ?k; (case l => k_is); (case r => decide +kernel); (case sa => k_is); (case e => k_is); (case t => k_is); (case k => k_is)))
    (case fB_ => (refine' ⟨?a, ?b, ?c, ?d⟩; (case a => k_is); (case b => k_is); (case c => k_is); (case d => k_is)))
    (case tB => k_is)
    (case iB => k_is)
    (case yB => k_is)
    (case dB => (refine' Ew.def_mk ?l ?c ?k; (case l => k_is); (case c => k_is); (case k => k_is)))
    (case nI => k_is)
    (case oI => (refine' Ew.oex_mk ?l ?r ?sa ?e ?t ?k; (case l => k_is); (case r => decide +kernel); (case sa => k_is); (case e => k_is); (case t => k_is); (case k => k_is)))
    (case fI_ => (refine' ⟨?a, ?b, ?c, ?d⟩; (case a => k_is); (case b => k_is); (case c => k_is); (case d => k_is)))
    (case tI => k_is)
    (case iI => k_is)
    (case yI => k_is)
    (case dI => (refine' Ew.def_mk ?l ?c ?k; (case l => k_is); (case c => k_is); (case k => k_is)))
    (case nO => k_is)
    (case oO => (refine' Ew.oex_mk ?l ?r ?sa ?e ?t ?k; (case l => k_is); (case r => decide +kernel); (case sa => k_is); (case e => k_is); (case t => k_is); (case k => k_is)))
    (case fO_ => (refine' ⟨?a, ?b, ?c, ?d⟩; (case a => k_is); (case b => k_is); (case c => k_is); (case d => k_is)))
    (case tO => k_is)
    (case iO => k_is)
    (case yO => k_is)
    (case dO => (refine' Ew.def_mk ?l ?c ?k; (case l => k_is); (case c => k_is); (case k => k_is)))
    (case nD => k_is)
    (case cD => (refine' ⟨?a, ?b, ?c, ?d⟩; (case a => k_is); (case b => k_is); (case c => k_is); (case d => k_is)))
    (case mD => k_is)
    (case kD => k_is)
    (case aB => k_is)
    (case aD => k_is)
    (case iD => k_is)
    (case iF => k_is)
    (case dIn => (refine' Ew.def_mk ?l ?c ?k; (case l => k_is); (case c => k_is); (case k => k_is)))
    (case m_fLo => k_is)
    (case i_fLo => k_is)
    (case k_fLo => k_is)
    (case d_fLo => (refine' Ew.def_mk ?l ?c ?k; (case l => k_is); (case c => k_is); (case k => k_is)))
    (case m_fHi => k_is)
    (case i_fHi => k_is)
    (case k_fHi => k_is)
    (case d_fHi => (refine' Ew.def_mk ?l ?c ?k; (case l => k_is); (case c => k_is); (case k => k_is)))
    (case m_fRe => k_is)
    (case i_fRe => k_is)
    (case k_fRe => k_is)
    (case d_fRe => (refine' Ew.def_mk ?l ?c ?k; (case l => k_is); (case c => k_is); (case k => k_is)))
    (case m_fEq => k_is)
    (case i_fEq => k_is)
    (case k_fEq => k_is)
    (case d_fEq => (refine' Ew.def_mk ?l ?c ?k; (case l => k_is); (case c => k_is); (case k => k_is)))
    (case m_fRp => k_is)
    (case i_fRp => k_is)
    (case k_fRp => k_is)
    (case d_fRp => (refine' Ew.def_mk ?l ?c ?k; (case l => k_is); (case c => k_is); (case k => k_is)))
    (case isc => (refine' K03.isi_mk ?a ?b ?c ?d ?e ?f ?g ?i; (case a => k_is); (case b => k_is); (case c => k_is); (case d => k_is); (case e => k_is); (case f => k_is); (case g => k_is); (case i => k_is)))
    (case eqn => (refine' K03.eqne_mk ?a ?b ?c ?d ?e ?f ?g; (case a => k_is); (case b => k_is); (case c => first | decide +kernel | kernel_rfl | rfl); (case d => first | rfl | kernel_rfl); (case e => first | rfl | kernel_rfl); (case f => k_is); (case g => rfl)))
    (case nfL => first | k_is | kernel_rfl | rfl)
    (case nfS => first | k_is | kernel_rfl | rfl)
    (case n_fA => k_is)
    (case d_fA => (refine' Ew.def_mk ?l ?c ?k; (case l => k_is); (case c => k_is); (case k => k_is)))
    (case n_fW => k_is)
    (case d_fW => (refine' Ew.def_mk ?l ?c ?k; (case l => k_is); (case c => k_is); (case k => k_is)))
    (case n_fSp => k_is)
    (case d_fSp => (refine' Ew.def_mk ?l ?c ?k; (case l => k_is); (case c => k_is); (case k => k_is)))
    (case n_fG => k_is)
    (case d_fG => (refine' Ew.def_mk ?l ?c ?k; (case l => k_is); (case c => k_is); (case k => k_is)))
    (case n_fB => k_is)
    (case d_fB => (refine' Ew.def_mk ?l ?c ?k; (case l => k_is); (case c => k_is); (case k => k_is)))
    (case n_fD => k_is)
    (case d_fD => (refine' Ew.def_mk ?l ?c ?k; (case l => k_is); (case c => k_is); (case k => k_is)))
    (case n_fP => k_is)
    (case d_fP => (refine' Ew.def_mk ?l ?c ?k; (case l => k_is); (case c => k_is); (case k => k_is)))
    (case n_fMx => k_is)
    (case d_fMx => (refine' Ew.def_mk ?l ?c ?k; (case l => k_is); (case c => k_is); (case k => k_is)))
    (case n_fS => k_is)
    (case d_fS => (refine' Ew.def_mk ?l ?c ?k; (case l => k_is); (case c => k_is); (case k => k_is)))
    (case n_fL => k_is)
    (case d_fL => (refine' Ew.def_mk ?l ?c ?k; (case l => k_is); (case c => k_is); (case k => k_is)))
    (case n_fEn => k_is)
    (case d_fEn => (refine' Ew.def_mk ?l ?c ?k; (case l => k_is); (case c => k_is); (case k => k_is)))
    (case n_fLA => k_is)
    (case d_fLA => (refine' Ew.def_mk ?l ?c ?k; (case l => k_is); (case c => k_is); (case k => k_is)))
    (case n_fLD => k_is)
    (case d_fLD => (refine' Ew.def_mk ?l ?c ?k; (case l => k_is); (case c => k_is); (case k => k_is)))
    (case n_fLR => k_is)
    (case d_fLR => (refine' Ew.def_mk ?l ?c ?k; (case l => k_is); (case c => k_is); (case k => k_is)))
    (case n_fSt => k_is)
    (case d_fSt => (refine' Ew.def_mk ?l ?c ?k; (case l => k_is); (case c => k_is); (case k => k_is)))
    (case n_fLaw => k_is)
    (case d_fLaw => (refine' Ew.def_mk ?l ?c ?k; (case l => k_is); (case c => k_is); (case k => k_is)))
    (case nFr => k_is)
    (case dFr => (refine' Ew.dflt_mk ?l ?c ?k ?t ?r; (case l => k_is); (case c => k_is); (case k => k_is); (case t => k_is); (case r => exact ⟨_, rfl⟩)))
    (case cst0 => k_is)
    (case cst1 => k_is)
    (case cst2 => k_is)
    (case cst3 => k_is)
    (case cst4 => k_is)
    (case zlen => k_is)
    (case zlist => k_is)
    (case zisinstance => k_is)
    (case ztuple => k_is)
    (case zall => k_is)
    (case zzip => k_is)
    (case zbool => k_is)
    (case zint => k_is)
    (case zstr => k_is)
    (case zrange => k_is)
    (case zsorted => k_is)
    (case zset => k_is)
    (case zabs => k_is)
    (case zmax => k_is)
    (case zmin => k_is)
    (case zrepr => k_is)
#print axioms PySem.Challenge.cw_earlywrite_k03_intervals_and_redundancy_holds
