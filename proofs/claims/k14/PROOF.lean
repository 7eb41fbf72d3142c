import PyProof.Rows.All
import Wide.All
import OpenK.AllK
import Wide.FinOn
import HandS.ForMost
import HandS.ForExc
import HandS.ExcInit
import HandS.ExcField
import HandS.HotCalls
import HandS.Lambda
import HandS.EndTab
import HandS.Wide
import HandS.FStr
import HandS.IsInst
import HandS.Defaults
import HandS.Zip
import HandS.Walk
import HandS.ExcIs
import HandS.EndOwn
import HandS.SetFor
import HandS.SortInts
import KE.KSortedM
import HandS.Conv
import HandS.TupMul
import HandS.More
import HandS.TupAny
import PyProof.InstNe
import PySem.Challenge.RW_earlywrite_k14_names
set_option Elab.async false
set_option linter.all false
set_option maxRecDepth 100000
set_option maxHeartbeats 4000000
namespace Ew
open PySem PySem.Spec PyProof.Rows L2
/-! ## an error made without arguments by its own __init__ -/
def tMk0 (C : Addr) (sp : Sp) : L2.St → Hp → XK → Prop := fun _ H Q => ∀ a, H a = none → sp [.ref a] (upd H a (exo a C none))
  (fun v G => v = .non ∧ ∃ (d : Addr) (fs : List (Str × V)), G a = some (exo a C (some d)) ∧ G d = some (exd d fs) ∧ H d = none ∧ Q (.ref C) (some d) (upd (del G a) d (.xd fs))) (fun _ _ _ => False)
theorem pmk0 {X : Cx} {CX : CXT} {x : Str} {C fI : Addr} {k : Nat} {fd : FuncData} {ps : List Str} {sp : Sp} {p pos : Pos} (T : OexC X.K C)
    (iC : PySem.W.findIn X.K (.ref C) "__init__" = some (some (.ref fI))) (tI : PySem.W.typeIn X.K (.ref fI) = some (.type "function"))
    (F1 : FnOk X.prog X.w X.K X.mg X.base CX k fI fd ps sp) (hr : Room (k + 1) X.A) (hb : Binds X.K fd ps []) (hx : Passes CX X (fun _ _ _ => False))
    (hg : Gl X x) (hm : X.mg x = some (.ref C)) (hdb : (x == ("__debug__" : Str)) = false := by decide) : PMk X (.Call (.Name x p) [] [] pos) (tMk0 C sp) := by
  intro pins s σ H Q I h
  obtain ⟨_, _, _, _, bm, _, _, _, _, _, _, _, _, _, _, hC, hbm⟩ := T.cls
  refine wpAny_Call_Name_kw (ld_glob I hg hm ?_ hdb)
  refine PySem.W.callWith_K0 I.kIn T.kC ?_
  obtain ⟨hp, g, dr, tk, os⟩ := s
  have sz1 : hp.objs.size ≤ hp.objs.size + 1 := Nat.le_succ _
  have fr : H (hp.objs.size + 1) = none := I.hok.fresh sz1
  have hq := h (hp.objs.size + 1) fr
  have kept : ∀ b o, hp.get? b = some o → ((hp.push (PySem.W.kdv_tup [])).push (PySem.HandSPX.excO C hp.objs.size)).get? b = some o :=
    fun b o e => Heap.get?_push_of_some _ (Heap.get?_push_of_some _ e)
  have got : ((hp.push (PySem.W.kdv_tup [])).push (PySem.HandSPX.excO C hp.objs.size)).get? (hp.objs.size + 1) = some (PySem.HandSPX.excO C hp.objs.size) := by heap_get
  have I2 := I.laid (t' := tk) (o := exo (hp.objs.size + 1) C none) kept sz1 (exo_ok got)
  have r2 : Vals [V.ref (hp.objs.size + 1)] [Value.ref (hp.objs.size + 1)] := .cons rfl .nil
  have hl : ([Value.ref (hp.objs.size + 1)] ++ []).length = ps.length := by
    have e := r2.length
    rw [F1.len _ _ _ _ hq] at e
    exact e.symm
  have run := F1.run _ X.stack _ _ ⟨[Value.ref (hp.objs.size + 1)], []⟩ [Value.ref (hp.objs.size + 1)] _ _ (fun _ _ _ => False) (hr.make C [] []) (I2.env0.make C [] [])
    (by have z := hb _ [Value.ref (hp.objs.size + 1)] I2.kIn hl; rw [List.append_nil] at z; exact z) r2 hq
  refine wpAny_call (PySem.HandSPX.call_own F.excBase_ValueError (fun Y => PySem.HandSPX.refsVE_contains Y bm hbm) (I.kIn _ _ hC) (PySem.W.looks_findIn I.kIn iC)
    (fun self => PySem.W.bind_fn I.kIn self tI) (Nat.zero_le _) (codeAny_mono run fun r t hq' => ?_))
  cases r with
  | error er => exact hx pins σ _ _ er t I2 hq'
  | ok fl =>
    cases fl with
    | ret u =>
      obtain ⟨v, G, os2, bare2, un2, hok2, rv, ev, d, fs, ea, ed, hd1, q2⟩ := hq'
      subst ev
      obtain ⟨h2, g2, d2, t2, os'⟩ := t
      exact ⟨rv, mk_end (raises_own T.exC T.tyC) I sz1 kept un2 hok2 os2 bare2 ea ed hd1 q2⟩
    | next => exact hq'.elim
    | brk => exact hq'.elim
    | cont => exact hq'.elim
/-! ## what lies in flight when more is laid on the heap -/
theorem flying_kept {B h h' : Heap} {l : List Env} {e : Addr} {Z : Obj → Prop} (x : HandSPX.FlyingZ B l e Z h) (k : ∀ b o, h.get? b = some o → h'.get? b = some o) : HandSPX.FlyingZ B l e Z h' := by
  obtain ⟨x1, x2, x3, oe, vs, T, oT, ts, a1, a2, a3, a4, a5, a6, a7, a8, a9⟩ := x
  exact ⟨fun b o q => k b o (x1 b o q), x2, x3.of_keeps fun b o q _ => ⟨o, k b o q, rfl⟩, oe, vs, T, oT, ts, k _ _ a1, a2, a3, a4, a5, a6, k _ _ a7, a8, a9⟩
theorem upTo_kept {h h' h'' : Heap} (x : h.UpToSlots h') (k : ∀ b o, h'.get? b = some o → h''.get? b = some o) : h.UpToSlots h'' := fun b o e n => by
  obtain ⟨sl, q⟩ := x b o e n
  exact ⟨sl, k _ _ q⟩
/-! ## except (A, B, C) as n -/
def wAs3 (K : PySem.W.Frag) (c1 c2 c3 : Value) (m i : Nat) (ts : Addr → Value → Option Addr → TS) (D : Ends) : WX := fun cls d σ H =>
  PySem.W.exmAny K cls [c1, c2, c3] = some true ∧ ∀ a, H a = none → σ.length = m → ts a cls d { nx := fun τ G => D.nx (τ.set i none) G, rt := D.rt, bk := fun τ G => D.bk (τ.set i none) G, ct := fun τ G => D.ct (τ.set i none) G } (σ.set i (some (.ref a))) H
theorem ld_name {X : Cx} {pins : List (Addr × Obj)} {σ : L2.St} {H : Hp} {s : Shared} {x : Str} {c : Value} {p : Pos} {A : Around} {Q : Value → Shared → Prop} {E : Value → Shared → Prop} (I : Inv X pins σ H s) (hc : Names X x c) (q : Q c s) (hA : A = X.A) :
    wpAny (model X.prog X.w) A (eval (.Name x p) X.env) Q E s := by
  subst hA
  obtain ⟨hg, hdbg, hm | ⟨hm, hv, hnn⟩⟩ := hc
  · exact ld_glob I hg hm q hdbg
  · exact ld_blt I hg hm hv q hnn hdbg
theorem ps_try_as3 {X : Cx} {n x1 x2 x3 : Str} {c1 c2 c3 : Value} {i : Nat} {body suite : List Stmt} {b0 : Stmt} {p1 p2 p3 pt pos pos' : Pos} {kt} {tb : WX → TS} {ts : Addr → Value → Option Addr → TS}
    (hs : X.stack = X.env :: X.outer) (hf : X.env.frame = some X.env.locals) (hN : X.N.Nodup) (hi : X.N[i]? = some n) (hln : X.env.kindOf n = some .local)
    (n1 : Names X x1 c1) (n2 : Names X x2 c2) (n3 : Names X x3 c3)
    (hb : ∀ (W : WX) (pn : List (Addr × Obj)) (xe : Value → Shared → Prop), Takes (X.tr pn xe) W → PSs (X.tr pn xe) body (tb W))
    (hsu : ∀ (a : Addr) (oe : Obj) (cls : Value) (d : Option Addr) (pn : List (Addr × Obj)), Zc cls d oe → (∃ vs, oe.data = .fields vs) → PSs (X.suite a ((a, oe) :: pn)) (b0 :: suite) (ts a cls d))
    (st3 : starEach [.Name x1 p1, .Name x2 p2, .Name x3 p3] X.env = [(false, eval (.Name x1 p1) X.env), (false, eval (.Name x2 p2) X.env), (false, eval (.Name x3 p3) X.env)] := by rfl) :
    PS X (.Try body [.ExceptHandler (some (.Tuple [.Name x1 p1, .Name x2 p2, .Name x3 p3] kt pt)) (some n) (b0 :: suite) pos'] [] [] pos) (fun D σ H => tb (wAs3 X.K c1 c2 c3 X.N.length i ts D) D σ H) := by
  refine ⟨fun pins s σ H D I hwant => ?_⟩
  have xok := I.ok
  have frs1 : X.A.frames = some (X.env :: X.outer) := xok.frames.trans (congrArg some hs)
  have locn : Loc X.env.scope n := .inl hln
  refine wpAny_Try_except ?_
  refine wpAny_mono ((hb (wAs3 X.K c1 c2 c3 X.N.length i ts D) (X.pn ++ pins) (fun e z1 => wpAny (model X.prog X.w) X.A (noteFrame e X.env) (fun _ z2 => wpAny (model X.prog X.w) X.A (setFlight e none) (fun _ z3 =>
    wpAny (model X.prog X.w) X.A (handleBy e X.env [.ExceptHandler (some (.Tuple [.Name x1 p1, .Name x2 p2, .Name x3 p3] kt pt)) (some n) (b0 :: suite) pos']) (SP X pins D) X.xe z3) X.xe z2) X.xe z1) (fun u t xx => ?_)).run [] s σ H D (I.toTry _) hwant)
    (fun f z1 hsp => ?_) (fun e z1 he => he)
  · obtain ⟨a, B, sI, qs, τ, G, cls, d, rfl, J0, nb, up, sky, na, os, ag, hyes1, hyes⟩ := xx
    have J : Inv X pins τ G sI := J0.ofTry xok
    have sky1 : Sky B (X.env :: X.outer) a (Zc cls d) X.env.locals t.heap := by rw [← hs]; exact sky
    show wpAny (model X.prog X.w) X.A (noteFrame (.ref a) X.env) _ _ _
    refine Sky.land Zc.steady frs1 hf sky1 fun g3 fz up3 => ?_
    have up4 := up.trans up3
    have J3 : Inv X pins τ G { t with heap := g3 } := J.landed nb fz.1 up4 os ag
    obtain ⟨oe3, vs3, he3, hz3, hd3⟩ := fz.there
    have nfr : a ∉ frs (X.env :: X.outer) := fun hm => by
      obtain ⟨_, ob, eb, nfl⟩ := fz.2.2.1.mem hm
      rw [he3] at eb
      cases eb
      exact nfl _ hd3
    have nL : a ≠ X.env.locals := fun z => nfr (List.mem_filterMap.mpr ⟨X.env, List.mem_cons_self, by rw [hf, z]⟩)
    have nF : a ∉ X.fs := fun hm => by
      obtain ⟨ev, hev, q⟩ := List.mem_filterMap.mp hm
      exact nfr (List.mem_filterMap.mpr ⟨ev, List.mem_cons_of_mem _ hev, q⟩)
    have S3 := J3.suite he3 hd3 na nL nF
    refine wpAny_handleBy_cons (codeAny_handlers_test ?_) (by intro q; cases q)
    refine wpAny_Tuple_spliced ?_
    rw [st3]
    refine Calls.spliced_cons (ld_name (X := X.suite a ((a, oe3) :: (X.pn ++ pins))) S3 n1 ?_ rfl)
    refine Calls.spliced_cons (ld_name (X := X.suite a ((a, oe3) :: (X.pn ++ pins))) S3 n2 ?_ rfl)
    refine Calls.spliced_cons (ld_name (X := X.suite a ((a, oe3) :: (X.pn ++ pins))) S3 n3 ?_ rfl)
    refine Calls.spliced_nil ⟨(by show 3 ≤ sizeLine; decide), ?_⟩
    have kp : ∀ b o, g3.get? b = some o → (g3.push { cls := .type "tuple", data := .seq [c1, c2, c3].toArray }).get? b = some o := fun b o q => Heap.get?_push_of_some _ q
    have fz4 := flying_kept fz kp
    have up5 := upTo_kept up4 kp
    have J4 : Inv X pins τ G { t with heap := g3.push { cls := .type "tuple", data := .seq [c1, c2, c3].toArray } } := J.landed nb fz4.1 up5 os ag
    have LT : PySem.W.Looks (model X.prog X.w) (g3.push { cls := .type "tuple", data := .seq [c1, c2, c3].toArray }) (typeOf (.ref a)) cls := fun A Q E s k q => wpAny_typeOf_ref (k _ _ (kp _ _ he3)) (by rw [hz3.1]; exact q)
    have LM := PySem.W.exm_tup3 (M := model X.prog X.w) (tp := g3.objs.size) J4.kIn LT (Heap.get?_push_size _ rfl) hyes1
    refine LM.here ?_
    refine codeAny_handlers_suite_as ?_
    refine HandSPX.lands_againZ fz4 fun g5 fz5 up6 => ?_
    have J5 : Inv X pins τ G { t with heap := g5 } := J.landed nb fz5.1 (up5.trans up6) os ag
    obtain ⟨oe5, vs5, he5, hz5, hd5⟩ := fz5.there
    have S5 := J5.suite he5 hd5 na nL nF
    refine store_ok (X := X.suite a ((a, oe5) :: (X.pn ++ pins))) (v := .ref a) S5 hN hi locn rfl (fun z5 S6 => ?_) (.inr hln)
    refine wpAny_mono ((hsu a oe5 cls d (X.pn ++ pins) hz5 ⟨_, hd5⟩).run [] z5 _ G _ S6 (hyes a na J.len)) (fun f z6 hsp => ?_) (fun _ _ z => z.elim)
    have fin : ∀ {τ6 : L2.St} {G6 : Hp} {Q : Shared → Prop}, Inv (X.suite a ((a, oe5) :: (X.pn ++ pins))) [] τ6 G6 z6 → (∀ z7, Inv X pins (τ6.set i none) G6 z7 → Q z7) →
        wpAny (model X.prog X.w) X.A (do bindName X.env n .none; unbindBehindTheSuite X.env n pos') (fun _ z7 => Q z7) X.xe z6 := fun S7 hq => gone_ok (S7.unsuite xok) hN hi hln hq
    cases f with
    | next =>
      obtain ⟨_, _, S7, q7⟩ := hsp
      exact fin S7 fun _ J8 => ⟨_, _, J8, q7⟩
    | brk =>
      obtain ⟨_, _, S7, q7⟩ := hsp
      exact fin S7 fun _ J8 => ⟨_, _, J8, q7⟩
    | cont =>
      obtain ⟨_, _, S7, q7⟩ := hsp
      exact fin S7 fun _ J8 => ⟨_, _, J8, q7⟩
    | ret u =>
      obtain ⟨_, _, _, S7, r7, q7⟩ := hsp
      exact fin S7 fun _ J8 => ⟨_, _, _, J8, r7, q7⟩
  · cases f with
    | next =>
      obtain ⟨τ, G, J0, q⟩ := hsp
      exact wpAny_execs_nil ⟨τ, G, J0.ofTry xok, q⟩
    | brk =>
      obtain ⟨τ, G, J0, q⟩ := hsp
      exact ⟨τ, G, J0.ofTry xok, q⟩
    | cont =>
      obtain ⟨τ, G, J0, q⟩ := hsp
      exact ⟨τ, G, J0.ofTry xok, q⟩
    | ret u =>
      obtain ⟨v, τ, G, J0, r, q⟩ := hsp
      exact ⟨v, τ, G, J0.ofTry xok, r, q⟩
/-! ## an error's field, wherever the error is pinned -/
theorem pe_xfp {X : Cx} {a C : Addr} {oe : Obj} {cls : Value} {d : Option Addr} {e : Expr} {te : TE} {pos : Pos} {n : Str} (T : XfC X.K C) (hno : PySem.W.findIn X.K (.ref C) n = some none)
    (hz : Zc cls d oe) (hf : ∃ vs, oe.data = .fields vs) (hpn : (a, oe) ∈ X.pn) (he : PE X e te) (hb : attributeBase e n X.env (eval e X.env) = eval e X.env := by rfl) :
    PE X (.Attribute e n pos) (tXf a cls d C n te) := by
  refine ⟨fun pins s σ H Q I h => ?_⟩
  refine attr_of hb (thn (he.run pins s σ H _ I h) fun u z1 ⟨x, G, I1, rx, ex, ec, dd, fs, v, ed, ea, l, q⟩ => ?_)
  subst ex ec ed
  obtain rfl : u = Value.ref a := rx
  have ha := (I1.pin (a, oe) (List.mem_append_left _ hpn)).1
  obtain ⟨vs, hd⟩ := hf
  obtain ⟨mA, hns, hr⟩ := (show ObjOk X.prog X.w G z1.heap dd (.xd fs) from I1.hok dd _ ea)
  obtain ⟨od, ho, hl⟩ := lookIn_ns hns
  obtain ⟨u, hu, ru⟩ := RelO.some_of (v := v) (o := mA n) (by rw [← l]; exact hr n)
  have J : PySem.W.InstAt z1.heap a oe C (some od) := ⟨ha, hz.1, by unfold PySem.W.notCls; rw [hd] <;> rfl, by rw [hz.2]; exact ho⟩
  exact HandSPX.exc_get I1.kIn J T.ga T.gg T.exC (PySem.W.findObj_own T.hdC hno rfl (by rw [hl, hu])) (handed_of ru) ⟨v, G, I1.tok _, ru, q⟩
/-! ## // by any divisor that is not zero -/
def CDivZ (_ j : Int) : Prop := j ≠ 0 ∧ j.natAbs.log2 < 9000
theorem op_fdivZ {X : Cx} : OpR X (binaryOp .FloorDiv) (rI CDivZ fun i j => .int (i.fdiv j)) := opI fun _ _ _ _ _ _ _ hc q => floordiv_int hc.1 q (.inl (PyProof.noPylong_of_log2 hc.2))
/-! ## the mathematics of fractions -/
def gcdI (a b : Int) : Int := ((Nat.gcd a.natAbs b.natAbs : Nat) : Int)
theorem gcdI_step {x y : Int} (hx : 0 ≤ x) (hy : 0 < y) : gcdI y (x % y) = gcdI x y := by
  obtain ⟨m, rfl⟩ := Int.eq_ofNat_of_zero_le hx
  obtain ⟨n, rfl⟩ := Int.eq_ofNat_of_zero_le (Int.le_of_lt hy)
  unfold gcdI
  rw [← Int.natCast_emod, Int.natAbs_natCast, Int.natAbs_natCast, Int.natAbs_natCast, Nat.gcd_comm n (m % n), ← Nat.gcd_rec n m, Nat.gcd_comm]
theorem gcdI_zero {x : Int} (hx : 0 ≤ x) : gcdI x 0 = x := by
  unfold gcdI
  rw [Int.natAbs_zero, Nat.gcd_zero_right]
  omega
theorem gcdI_nn (a b : Int) : 0 ≤ gcdI a b := Int.natCast_nonneg _
theorem gcdI_pos {a b : Int} (h : b ≠ 0) : 0 < gcdI a b := by
  have := Nat.gcd_pos_of_pos_right a.natAbs (show 0 < b.natAbs by omega)
  unfold gcdI
  omega
theorem gcdI_le {a b : Int} (h : b ≠ 0) : gcdI a b ≤ (b.natAbs : Int) := by
  have := Nat.gcd_le_right a.natAbs (show 0 < b.natAbs by omega)
  unfold gcdI
  omega
def absI (i : Int) : Int := if i < 0 then -i else i
theorem absI_nn (i : Int) : 0 ≤ absI i := by unfold absI; split <;> omega
theorem absI_natAbs (i : Int) : (absI i).natAbs = i.natAbs := by unfold absI; split <;> omega
theorem gcdI_abs (a b : Int) : gcdI (absI a) (absI b) = gcdI a b := by unfold gcdI; rw [absI_natAbs, absI_natAbs]
theorem gcdI_abs1 (a b : Int) : gcdI (absI a) b = gcdI a b := by unfold gcdI; rw [absI_natAbs]
theorem gcdI_neg (a b : Int) : gcdI (-a) (-b) = gcdI a b := by unfold gcdI; rw [Int.natAbs_neg, Int.natAbs_neg]
/-- the fraction of a and b, b not zero -/
def frN (a b : Int) : Int := (if b < 0 then -a else a) / gcdI a b
def frD (a b : Int) : Int := (if b < 0 then -b else b) / gcdI a b
theorem wide_of {j : Int} {n : Nat} (h : j ≠ 0) (hb : j.natAbs < 2 ^ n) (h0 : 0 < n) (h9 : n ≤ 9000) : CDivZ i j := ⟨h, Nat.lt_of_lt_of_le (PySem.Flt.log2_lt_of h0 hb) h9⟩
theorem fdiv_flip (a : Int) {g : Int} (hg : 0 < g) : a.fdiv (-g) = (-a) / g := by
  have e : a.fdiv (-g) = (-(-a)).fdiv (-g) := by rw [Int.neg_neg]
  rw [e, Int.neg_fdiv_neg, Int.fdiv_eq_ediv_of_nonneg _ (by omega)]
theorem ifT {c : Bool} {A B : Prop} (hc : c = true) (h : A) : if c = true then A else B := by
  rw [if_pos hc]
  exact h
theorem ifF {c : Bool} {A B : Prop} (hc : c = false) (h : B) : if c = true then A else B := by
  rw [hc]
  exact iteF h
theorem ne_int {x y : Int} (h : x ≠ y) : (!decide (V.int x = V.int y)) = true := by simp [h]
theorem eq_int {x y : Int} (h : x ≠ y) : decide (V.int x = V.int y) = false := by simp [h]
/-! ## errors: what the written part says of a class over ValueError with self.tag = t in its __init__ -/
structure ErrT (K : PySem.W.Frag) (mg : Str → Option Value) (x : Str) (C fI : Addr) : Prop where
  gC : mg x = some (.ref C)
  oex : OexC K C
  iC : PySem.W.findIn K (.ref C) "__init__" = some (some (.ref fI))
  tI : PySem.W.typeIn K (.ref fI) = some (.type "function")
  nT : PySem.W.findIn K (.ref C) "tag" = some none
  xf : XfC K C
def spInitTag (K : PySem.W.Frag) (C : Addr) (t : Str) : Sp := fun vs H Q _ => ∃ a, vs = [.ref a] ∧ H a = some (exo a C none) ∧ ∀ dx, H dx = none → dx ≠ a → Q .non (upd (upd H dx (exd dx [("tag", .str t)])) a (exo a C (some dx)))
theorem raise_heap {H : Hp} {a dx : Addr} {o1 o2 o3 u : HO} (ha : H a = none) (hd : upd H a o1 dx = none) (ne : dx ≠ a) : upd (del (upd (upd (upd H a o1) dx o2) a o3) a) dx u = upd H dx u := by
  funext b
  by_cases h1 : b = dx
  · rw [h1, upd_same, upd_same]
  · rw [upd_ne h1, upd_ne h1]
    by_cases h2 : b = a
    · rw [h2, del_same, ha]
    · rw [del_ne h2, upd_ne h2, upd_ne h1, upd_ne h2]
/-- the text of a fraction -/
def frText (n d : Int) : Str := if d = 1 then Str.ofString (toString n) else Str.ofString (toString n) ++ "/" ++ Str.ofString (toString d)
/-! ## the numbers that a law draws -/
def RngOk (i v sd : Int) : Prop := 0 ≤ i ∧ 0 ≤ v ∧ 0 ≤ sd ∧ sd < 2147483549
def rngL (q : Addr) (i v sd : Int) : List V := [.ref q, .int i, .int v, .int sd]
structure RngAt (H : Hp) (p q : Addr) (ns : List Int) (i v sd : Int) : Prop where
  at_p : H p = some (.lst (rngL q i v sd))
  at_q : H q = some (.lst (ns.map V.int))
  len : ns.length ≤ 63
  ok : RngOk i v sd
  ne : q ≠ p
theorem RngAt.next {H : Hp} {p q : Addr} {ns : List Int} {i v sd i' v' sd' : Int} (R : RngAt H p q ns i v sd) (h : RngOk i' v' sd') : RngAt (upd H p (.lst (rngL q i' v' sd'))) p q ns i' v' sd' :=
  ⟨upd_same, by rw [upd_ne R.ne]; exact R.at_q, R.len, h, R.ne⟩
theorem mul_small {i j : Int} (h0 : -9223372036854775808 < i) (h1 : i < 9223372036854775808) : CMul i j := by
  have e : (2 : Int) ^ 64 = 18446744073709551616 := by decide
  refine .inl ⟨?_, ?_⟩
  · rw [e]; omega
  · rw [e]; omega
theorem cut63 {ns : List Int} (h : ns.length ≤ 63) : cutV (ns.map V.int) none (some 63) = ns.map V.int := by
  unfold cutV
  rw [HT.sIx_none, List.drop_zero]
  have e := HT.sIx_nat (ns.map V.int).length (ns.map V.int).length 63
  rw [show (some (63 : Int)) = some ((63 : Nat) : Int) from rfl, e, Nat.sub_zero, List.take_of_length_le]
  rw [List.length_map]
  omega
def seedStep (sd c : Int) : Int := (sd * 40009 + c % 2147483549 + 31) % 2147483549
theorem upd_id {H : Hp} {a : Addr} {o : HO} (h : H a = some o) : upd H a o = H := by
  funext b
  by_cases e : b = a
  · rw [e, upd_same, h]
  · rw [upd_ne e]
theorem rng_0 {q : Addr} {i v sd : Int} : atI (rngL q i v sd) 0 = some (.ref q) := rfl
theorem rng_1 {q : Addr} {i v sd : Int} : atI (rngL q i v sd) 1 = some (.int i) := rfl
theorem rng_2 {q : Addr} {i v sd : Int} : atI (rngL q i v sd) 2 = some (.int v) := rfl
theorem rng_3 {q : Addr} {i v sd : Int} : atI (rngL q i v sd) 3 = some (.int sd) := rfl
theorem get_int {ns : List Int} {i : Int} (h0 : 0 ≤ i) (h1 : i < (ns.length : Int)) : ∃ c, c ∈ ns ∧ atI (ns.map V.int) i = some (.int c) := by
  obtain ⟨m, rfl⟩ := Int.eq_ofNat_of_zero_le h0
  have hm : m < ns.length := by omega
  refine ⟨ns[m], List.getElem_mem hm, atI_nat ?_⟩
  rw [List.getElem?_map, List.getElem?_eq_getElem hm]
  rfl
theorem map_int_at {ns : List Int} {i : Nat} {y : V} (h : (ns.map V.int)[i]? = some y) : ∃ c, y = .int c := by
  rw [List.getElem?_map] at h
  cases e : ns[i]? with
  | none =>
    rw [e] at h
    cases h
  | some c =>
    rw [e] at h
    exact ⟨c, (Option.some.inj h).symm⟩
/-! ## two values that hold the same data, at most n deep -/
def flatS : V → Bool
  | .non => true | .bl _ => true | .int _ => true | .str _ => true | _ => false
def SameN (K : PySem.W.Frag) (H : Hp) : Nat → V → V → Prop
  | 0, _, _ => False
  | n + 1, x, y => (x = y ∧ flatS x = true) ∨ ∃ (a b : Addr) (xs ys : List V), x = .ref a ∧ y = .ref b ∧ ((SqL K H a xs ∧ SqL K H b ys) ∨ (SqT K H a xs ∧ SqT K H b ys)) ∧ xs.length = ys.length ∧ xs.length ≤ 1000 ∧
      ∀ (i : Nat) (u v : V), xs[i]? = some u → ys[i]? = some v → SameN K H n u v
theorem seqT {K : PySem.W.Frag} {H G : Hp} {a : Addr} {xs : List V} (e : Same H G) (h : SqT K H a xs) : SqT K G a xs := by
  rcases h with (h | ⟨o, h⟩) | h
  · exact .inl (.inl (e _ _ h))
  · exact .inl (.inr ⟨o, e _ _ h⟩)
  · exact .inr h
theorem SameN.same {K : PySem.W.Frag} {H G : Hp} (e : Same H G) : ∀ {n : Nat} {x y : V}, SameN K H n x y → SameN K G n x y
  | 0, _, _, h => h
  | n + 1, x, y, h => by
    rcases h with h | ⟨a, b, xs, ys, h1, h2, h3, h4, h5, h6⟩
    · exact .inl h
    · refine .inr ⟨a, b, xs, ys, h1, h2, ?_, h4, h5, fun i u v p q => (h6 i u v p q).same e⟩
      rcases h3 with ⟨p, q⟩ | ⟨p, q⟩
      · exact .inl ⟨e.seq p, e.seq q⟩
      · exact .inr ⟨seqT e p, seqT e q⟩
theorem ty_list {K : PySem.W.Frag} {H : Hp} {a : Addr} {xs : List V} (h : SqL K H a xs) : TyX K H (.ref a) (.type "list") := by
  rcases h with (h | ⟨o, h⟩) | ⟨o, its, n, h, c, _⟩
  · exact .base (.lst h)
  · exact .base (.frz h)
  · exact .kList h c
theorem ty_tup {K : PySem.W.Frag} {H : Hp} {a : Addr} {xs : List V} (h : SqT K H a xs) : TyX K H (.ref a) (.type "tuple") := by
  rcases h with (h | ⟨o, h⟩) | ⟨o, its, n, h, c, _⟩
  · exact .base (.tup h)
  · exact .fTuple h
  · exact .kTuple h c
theorem walk_zipT {K : PySem.W.Frag} {a b : Addr} {xs ys : List V} (hn : xs.length = ys.length) : Walk (RZ.ItzT K a b) xs.length (fun H => SqT K H a xs ∧ SqT K H b ys) (YPair (fun i => xs[i]?) (fun i => ys[i]?)) :=
  ⟨fun i H hi q => ⟨xs, ys, xs[i], ys[i]'(by omega), q.1, q.2, by simp [hi], by simp [show i < ys.length by omega]⟩, fun H q => ⟨xs, ys, q.1, q.2, .inl (Nat.le_refl _)⟩,
    fun i H x G hi q ⟨T, u, v, e1, e2, e3, e4, e5⟩ => ⟨T, u, v, e1, e2, e3, e4 xs q.1, e5 ys q.2⟩⟩
theorem same_upd {H G : Hp} {p : Addr} {o : HO} (e : Same H G) (h : G p = none) : Same H (upd G p o) := fun b u q => by
  rw [upd_ne (ne_of_none (e b u q) h)]
  exact e b u q
theorem same_updN {H G : Hp} {p : Addr} {o : HO} (e : Same H G) (h : H p = none) : Same H (upd G p o) := fun b u q => by
  rw [upd_ne (ne_of_none q h)]
  exact e b u q
theorem kitLT {K : PySem.W.Frag} {t : String} {r : Bool} (h1 : kitB t "list" = some false) (h2 : kitB t "tuple" = some r) : PySem.W.kitAny K (.type t) [.type "list", .type "tuple"] = some r :=
  kitAny_cons (kit_ty h1) (fun _ => kitAny_cons (kit_ty h2) (fun e => by rw [e]; exact kitAny_nil) (fun e => e)) (fun e => Bool.noConfusion e)
theorem kitL {K : PySem.W.Frag} {t : String} (h1 : kitB t "list" = some true) : PySem.W.kitAny K (.type t) [.type "list", .type "tuple"] = some true :=
  kitAny_cons (kit_ty h1) (fun e => Bool.noConfusion e) (fun _ => rfl)
theorem all_true (n : Nat) : (List.replicate n true).all id = true := by simp
theorem map_rep (n : Nat) : (List.replicate n true).map V.bl = List.replicate n (V.bl true) := by simp
theorem ne_bl (b : Bool) : (!decide (V.bl b = V.bl b)) = false := by simp
theorem paired2 : Paired ClsV [V.ty "list", V.ty "tuple"] [Value.type "list", Value.type "tuple"] := .cons (.ty _) (.cons (.ty _) .nil)
/-! ## an error's field; what its class says stands in the reading -/
@[irreducible] def tXq (K : PySem.W.Frag) (a : Addr) (cls : Value) (d : Option Addr) (f : Str) (te : TE) : TE := fun σ H Q => te σ H fun x G => x = .ref a ∧ ∃ C, cls = .ref C ∧ XfC K C ∧ PySem.W.findIn K (.ref C) f = some none ∧ ∃ (dd : Addr) (fs : List (Str × V)) (v : V), d = some dd ∧ G dd = some (.xd fs) ∧ fs.lookup f = some v ∧ Q v G
theorem pe_xq {X : Cx} {a : Addr} {oe : Obj} {cls : Value} {d : Option Addr} {e : Expr} {te : TE} {pos : Pos} {n : Str} (hz : Zc cls d oe) (hf : ∃ vs, oe.data = .fields vs) (hpn : (a, oe) ∈ X.pn) (he : PE X e te) (hb : attributeBase e n X.env (eval e X.env) = eval e X.env := by rfl) :
    PE X (.Attribute e n pos) (tXq X.K a cls d n te) := by
  refine ⟨fun pins s σ H Q I h => ?_⟩
  unfold tXq at h
  refine attr_of hb (thn (he.run pins s σ H _ I h) fun u z1 ⟨x, G, I1, rx, ex, C, ec, T, hno, dd, fs, v, ed, ea, l, q⟩ => ?_)
  subst ex ec ed
  obtain rfl : u = Value.ref a := rx
  have ha := (I1.pin (a, oe) (List.mem_append_left _ hpn)).1
  obtain ⟨vs, hd⟩ := hf
  obtain ⟨mA, hns, hr⟩ := (show ObjOk X.prog X.w G z1.heap dd (.xd fs) from I1.hok dd _ ea)
  obtain ⟨od, ho, hl⟩ := lookIn_ns hns
  obtain ⟨u, hu, ru⟩ := RelO.some_of (v := v) (o := mA n) (by rw [← l]; exact hr n)
  have J : PySem.W.InstAt z1.heap a oe C (some od) := ⟨ha, hz.1, by unfold PySem.W.notCls; rw [hd] <;> rfl, by rw [hz.2]; exact ho⟩
  exact HandSPX.exc_get I1.kIn J T.ga T.gg T.exC (PySem.W.findObj_own T.hdC hno rfl (by rw [hl, hu])) (handed_of ru) ⟨v, G, I1.tok _, ru, q⟩
/-! ## a def of one parameter, called within an except suite with what is pinned there -/
theorem pe_callP {X : Cx} {k : Nat} {f : Addr} {nm name qual x0 : Str} {params : Arguments} {body : List Stmt} {scope : Scope} {dV kV doc pm cdv ct oc : Value} {an od : Option Addr} {osl : Array (Option Value)} {N : List Str} {sp : V → Hp → VK → Prop} {q pos : Pos} {e : Expr} {te : TE}
    (lk : X.K.lookup f = some ⟨oc, od, .func (PySem.W.fnOf name qual params body scope dV kV doc pm an cdv ct), osl⟩) (hcd : PySem.W.codeIn X.K cdv qual = true) (S : FnScope N [x0] scope) (p : Addr × Obj) (hp : p ∈ X.pn) (hr : L2H.RoomH (k + 1) X.A)
    (hg : Gl X nm) (hm : X.mg nm = some (.ref f)) (hk : PySem.W.keepIn X.K (.ref f) = true) (hb : Binds X.K (PySem.W.fnOf name qual params body scope dV kV doc pm an cdv ct) [x0] [])
    (hbody : ∀ (A : Around) (outer : List Env) (s : Shared) (H : Hp) (v : V) (Q : VK), L2H.RoomH k (A.deeper (envOfC qual scope s.heap.objs.size f cdv)) → sp v H Q → ∃ t, PSs (L2H.cxH CX0 X.prog X.w X.K X.mg X.base N qual scope f cdv A outer s H E0 p) body t ∧ t { nx := fun _ G => Q .non G, rt := Q } (L2.start N [v]) H)
    (he : PE X e te) (hdb : (nm == ("__debug__" : Str)) = false := by decide) (h1 : starEach [e] X.env = (false, eval e X.env) :: starEach [] X.env := by rfl) (h2 : (backTo pos (starEach [] X.env)).any (·.1) = false := by rfl) :
    PE X (.Call (.Name nm q) [e] [] pos) (fun σ H Q => tCons te tNil σ H fun vs G => ∃ v, vs = [v] ∧ sp v G Q) := by
  refine ⟨fun pins s σ H Q I h => ?_⟩
  refine wpAny_Call_Name_kw (ld_glob I hg hm ?_ hdb)
  refine PySem.W.callWith_K (h₀ := X.base) I.ok.mod.kin hk (thn ((pa_cons he pa_nil h1).run pos pins s σ H _ I h) fun us z ⟨vs, G, I1, r, v, ev, hsp⟩ => ⟨I1.kIn, ?_⟩) h1 h2
  subst ev
  obtain ⟨u, rfl, ru⟩ : ∃ u, us = [u] ∧ RelV v u := by
    cases r with
    | cons r1 r2 =>
      cases r2
      exact ⟨_, rfl, r1⟩
  have P1 := I1.pin p (List.mem_append_left _ hp)
  have hpin : L2H.PinOk X.stack G z p := ⟨P1.1, P1.2.1, fun hin => (List.mem_cons.mp (I1.stkSub p.1 hin)).elim P1.2.2.1 P1.2.2.2.1, P1.2.2.2.2⟩
  have run : codeAny (model X.prog X.w) X.A (.call (.ref f) ⟨[u], []⟩) (CR CX0 X.stack X.prog X.w G z Q E0) z := by
    have KX := I1.kIn
    have kinds : ∀ y ∈ [x0].zip [u], scope.names.lookup y.1 = some .local ∨ (scope.names.lookup y.1 = some .cell ∧ ((cellsFrom (z.heap.objs.size + 1) scope.names []).lookup y.1).isSome = true) := fun ⟨n, _⟩ hy => by
      rcases S.par n (List.of_mem_zip hy).1 with w1 | w1
      · exact .inl w1
      · exact .inr ⟨w1, PySem.W.cellsFrom_some _ _ _ (.inl w1)⟩
    have hbs := hb z [u] KX rfl
    refine codeAny_call_function hr.depth (KX _ _ lk) rfl S.co S.gen rfl (PySem.W.codeRec_of KX hcd) (hbs _ _ _ _ ?_)
    refine wpAny_newFunctionEnv_cells S.kind kinds fun env henv z2 x => ?_
    subst henv
    refine ⟨I1.nolimit.keeps x.toInCall.keep, codeAny_func ?_⟩
    obtain ⟨t, ht, hq⟩ := hbody X.A X.stack z G v Q (hr.deeper _) hsp
    have J := L2H.inv_startH (CX := CX0) (E := E0) S hpin I1.env0 (vs := [v]) rfl (.cons ru .nil) x
    refine wpAny_mono (ht.run [] z2 _ G _ J hq) (fun fl z3 hs => ?_) fun e z3 hs => hs
    cases fl with
    | ret u3 =>
      obtain ⟨v3, _, G3, J3, rv, q3⟩ := hs
      exact ⟨v3, G3, J3.os, J3.bare, J3.base, J3.hok, rv, q3⟩
    | next =>
      obtain ⟨_, G3, J3, q3⟩ := hs
      exact ⟨V.non, G3, J3.os, J3.bare, J3.base, J3.hok, rfl, q3⟩
    | brk =>
      obtain ⟨_, _, _, q3⟩ := hs
      exact q3.elim
    | cont =>
      obtain ⟨_, _, _, q3⟩ := hs
      exact q3.elim
  refine wpAny_call (codeAny_mono run fun res z4 hq => ?_)
  cases res with
  | error er => exact (show False from hq).elim
  | ok fl =>
    cases fl with
    | ret u4 => exact I1.after hq
    | next => exact hq.elim
    | brk => exact hq.elim
    | cont => exact hq.elim
/-! ## which field an error has -/
def tags5 : List V := [.str "CircularName", .str "InvalidName", .str "DuplicateName", .str "WrongKind", .str "UndefinedName"]
def tags2 : List V := [.str "InvalidText", .str "InvalidCommand"]
structure NoneTag (t : Str) : Prop where
  h5 : inV (.str t) tags5 = false
  h2 : inV (.str t) tags2 = false
  h3 : t ≠ "InvalidMachine"
  h4 : t ≠ "LimitReached"
  h6 : t ≠ "NameInUse"
  h7 : t ≠ "InvalidDocument"
def ErrAt (K : PySem.W.Frag) (G : Hp) (cls : Value) (d : Option Addr) (t : Str) : Prop := ∃ (C dd : Addr) (fs : List (Str × V)), cls = .ref C ∧ XfC K C ∧ PySem.W.findIn K (.ref C) "tag" = some none ∧ d = some dd ∧ G dd = some (.xd fs) ∧ fs.lookup ("tag" : Str) = some (V.str t)
theorem ErrAt.same {K : PySem.W.Frag} {G G' : Hp} {cls : Value} {d : Option Addr} {t : Str} (e : Same G G') (h : ErrAt K G cls d t) : ErrAt K G' cls d t := by
  obtain ⟨C, dd, fs, h1, h2, h3, h4, h5, h6⟩ := h
  exact ⟨C, dd, fs, h1, h2, h3, h4, e _ _ h5, h6⟩
theorem tag_read {K : PySem.W.Frag} {G : Hp} {cls : Value} {d : Option Addr} {t : Str} {a : Addr} {i : Nat} {σ : L2.St} {Q : VK} (h : ErrAt K G cls d t) (hs : σ[i]? = some (some (.ref a))) (q : Q (.str t) G) : tXq K a cls d "tag" (tVar i) σ G Q := by
  obtain ⟨C, dd, fs, h1, h2, h3, h4, h5, h6⟩ := h
  unfold tXq
  exact ⟨_, hs, rfl, C, h1, h2, h3, dd, fs, _, h4, h5, h6, q⟩
theorem ne_str {x y : Str} (h : x ≠ y) : decide (V.str x = V.str y) = false := by simp [h]
def spField (K : PySem.W.Frag) (a : Addr) (cls : Value) (d : Option Addr) : V → Hp → VK → Prop := fun v H Q => v = .ref a ∧ ∃ t, ErrAt K H cls d t ∧ NoneTag t ∧ ∀ G, Same H G → Q .non G
/-! ## _law_outcome(lambda: ..): what is wanted of the lambda -/
def OutWish (K : PySem.W.Frag) (c1 c2 c3 : Value) (Q : VK) : XK := fun cls d G => PySem.W.exmAny K cls [c1, c2, c3] = some true ∧ ∃ t, ErrAt K G cls d t ∧ NoneTag t ∧ ∀ G' p, Same G G' → G' p = none → Q (.ref p) (upd G' p (.tup [.str t, .non]))
def TTo (K : PySem.W.Frag) (c1 c2 c3 : Value) : (XK → Hp → VK → Prop) → Hp → VK → Prop := fun tl H Q => tl (OutWish K c1 c2 c3 Q) H (fun v G => (2 : Nat) ≤ sizeLine ∧ ∀ p, G p = none → Q (.ref p) (upd G p (.tup [.str "", v])))
theorem pss_ex {X : Cx} {ι : Type} {C : ι → Prop} {b : List Stmt} {t : ι → TS} (h : ∀ i, C i → PSs X b (t i)) : PSs X b (fun D σ H => ∃ i, C i ∧ t i D σ H) :=
  ⟨fun pins s σ H D I ⟨i, hi, w⟩ => (h i hi).run pins s σ H D I w⟩
/-! ## what is no list stays -/
def Keep (G G' : Hp) : Prop := ∀ b o, G b = some o → (∀ xs, o ≠ .lst xs) → G' b = some o
theorem Keep.of {G G' : Hp} (e : Same G G') : Keep G G' := fun b o h _ => e b o h
theorem Keep.trans {G G1 G2 : Hp} (a : Keep G G1) (b : Keep G1 G2) : Keep G G2 := fun c o h n => b c o (a c o h n) n
theorem Keep.put {G : Hp} {p : Addr} {xs : List V} {o : HO} (h : G p = some (.lst xs)) : Keep G (upd G p o) := fun b u q n => by
  rw [upd_ne (fun z => n xs (Option.some.inj (q.symm.trans (by rw [z]; exact h))))]
  exact q
theorem Keep.new {G : Hp} {p : Addr} {o : HO} (h : G p = none) : Keep G (upd G p o) := Keep.of (same_upd (Same.refl G) h)
theorem Keep.tabs {T : List (Addr × Str)} {G G' : Hp} (e : Keep G G') (h : LamX.Tabs T G) : LamX.Tabs T G' := fun p hp => by
  obtain ⟨ps, h1, h2, h3⟩ := h p hp
  refine ⟨ps, e _ _ h1 (fun xs z => nomatch z), h2, fun pos cv hc => ?_⟩
  obtain ⟨c, e1, e2⟩ := h3 pos cv hc
  exact ⟨c, e1, e _ _ e2 (fun xs z => by unfold LamX.CodeO at z; cases z)⟩
theorem RngAt.same {G G' : Hp} {p q : Addr} {ns : List Int} {i v sd : Int} (e : Same G G') (R : RngAt G p q ns i v sd) : RngAt G' p q ns i v sd := ⟨e _ _ R.at_p, e _ _ R.at_q, R.len, R.ok, R.ne⟩
theorem RngAt.extN {G G' : Hp} {p q : Addr} {ns : List Int} {i v sd : Int} (e : LamX.ExtN G G') (R : RngAt G p q ns i v sd) : RngAt G' p q ns i v sd :=
  ⟨e _ _ R.at_p (fun ps z => nomatch z), e _ _ R.at_q (fun ps z => nomatch z), R.len, R.ok, R.ne⟩
theorem not_true_if {A B : Prop} (h : B) : if (!true) = true then A else B := iteF h
theorem big_lt {n : Nat} {a : Int} (h : a.natAbs < 2 ^ n) (hn : n ≤ 8000) : a.natAbs < 2 ^ 8000 := Nat.lt_of_lt_of_le h (Nat.pow_le_pow_right (by decide) hn)
theorem log_small {m : Nat} (h : m ≤ 1000000000000000000000000000000) : m.log2 < 1920 := by
  have z : m < 2 ^ 100 := Nat.lt_of_le_of_lt h (by decide)
  exact Nat.lt_of_lt_of_le (PySem.Flt.log2_lt_of (by decide) z) (by decide)
theorem gcdI_one (a : Int) : gcdI a 1 = 1 := by unfold gcdI; rw [Int.natAbs_one, Nat.gcd_one_right]; rfl
theorem frN_one (a : Int) : frN a 1 = a := by unfold frN; rw [gcdI_one, if_neg (by decide), Int.ediv_one]
theorem frD_one (a : Int) : frD a 1 = 1 := by unfold frD; rw [gcdI_one, if_neg (by decide), Int.ediv_one]
theorem ediv_abs_le (a : Int) {g : Int} (hg : 0 < g) : (a / g).natAbs ≤ a.natAbs := by
  rcases Int.le_total 0 a with h | h
  · have h1 := Int.ediv_nonneg h (Int.le_of_lt hg)
    have h2 := Int.ediv_le_self g h
    omega
  · have h3 := Int.ediv_mul_le a (Int.ne_of_gt hg)
    have h4 : a / g ≤ 0 := by
      have := Int.ediv_le_ediv hg h
      rwa [Int.zero_ediv] at this
    have h5 := Int.lt_ediv_add_one_mul_self a hg
    -- a ≤ a / g
    have h6 : a ≤ a / g := by
      rcases Int.lt_or_le (a / g) a with q | q
      · exfalso
        have h7 : a / g + 1 ≤ a := by omega
        have h8 : (a / g + 1) * g ≤ (a / g + 1) * 1 ∨ (a / g + 1) > 0 := by
          rcases Int.lt_or_le 0 (a / g + 1) with z | z
          · exact .inr z
          · exact .inl (Int.mul_le_mul_of_nonpos_left z (by omega))
        rcases h8 with z | z
        · omega
        · omega
      · exact q
    omega
theorem frN_abs (a b : Int) (hb : b ≠ 0) : (frN a b).natAbs ≤ a.natAbs := by
  unfold frN
  have := ediv_abs_le (if b < 0 then -a else a) (gcdI_pos (a := a) hb)
  split at this <;> split <;> omega
theorem frD_abs (a b : Int) (hb : b ≠ 0) : (frD a b).natAbs ≤ b.natAbs := by
  unfold frD
  have := ediv_abs_le (if b < 0 then -b else b) (gcdI_pos (a := a) hb)
  split at this <;> split <;> omega
/-! ## what the head tells of a def, an error's class, the law's own code object -/
def DefAt (K : PySem.W.Frag) (x qual : Str) (st : Stmt) (f : Addr) : Prop := ∃ fd, Fun K x qual st f fd
theorem def_mk {K : PySem.W.Frag} {x qual : Str} {st : Stmt} {f : Addr} {oc kV doc pm cdv ct : Value} {od an : Option Addr} {osl : Array (Option Value)} (l : K.lookup f = some ⟨oc, od, .func (PySem.W.fnOf x qual (defArgs st) (defBody st) (defScope st) .none kV doc pm an cdv ct), osl⟩)
    (c : PySem.W.codeIn K cdv qual = true) (k : PySem.W.keepIn K (.ref f) = true) : DefAt K x qual st f := ⟨_, fun_mk l c k⟩
def DfltAt (K : PySem.W.Frag) (x : Str) (st : Stmt) (dv : V) (f : Addr) : Prop := ∃ fd, FunD K x x (defArgs st) (defBody st) (defScope st) [dv] [] f fd
theorem dflt_mk {K : PySem.W.Frag} {x : Str} {st : Stmt} {dv : V} {f TD : Addr} {oc kV doc pm cdv ct ot dw : Value} {od an odt : Option Addr} {osl slt : Array (Option Value)} {n : Nat} (l : K.lookup f = some ⟨oc, od, .func (PySem.W.fnOf x x (defArgs st) (defBody st) (defScope st) (.ref TD) kV doc pm an cdv ct), osl⟩)
    (c : PySem.W.codeIn K cdv x = true) (k : PySem.W.keepIn K (.ref f) = true) (t : K.lookup TD = some ⟨ot, odt, .seq #[dw] n, slt⟩) (r : RelV dv dw) : DfltAt K x st dv f :=
  ⟨_, ⟨⟨oc, od, .ref TD, kV, doc, pm, an, cdv, ct, osl, rfl, l, c, .inr ⟨by simp, TD, _, [dw], n, rfl, t, rfl, .cons r .nil⟩, .inl rfl⟩, k⟩⟩
theorem oex_mk {K : PySem.W.Frag} {C : Addr} {nm q : Str} {N : Addr} {bs bm : List Value} {sn : List Str} {sub : List Value} {ab : Bool} {col : Option Bool} {dd : Option Addr} {m0 m1 m2 m3 m5 : Option Value}
    (l : K.lookup C = some (excClassObj nm q C N bs bm true sn sub ab col dd m0 m1 m2 m3 m5 "ValueError.__new__")) (r : PySem.HandSPX.refsVE bm = true) (sa : PySem.W.findIn K (.ref C) "__setattr__" = some (some (.builtin "object.__setattr__")))
    (eC : PySem.W.subIn K (.ref C) (.type "BaseException") = some true) (tC : PySem.W.typeIn K (.ref C) = some (.type "type")) (kC : PySem.W.keepIn K (.ref C) = true) : OexC K C :=
  ⟨⟨nm, q, N, bs, bm, sn, sub, ab, col, dd, m0, m1, m2, m3, m5, l, r⟩, sa, eC, tC, kC⟩
/-- an own class that stands in an except clause, and whether the errors of the class at C are of it -/
structure ExmIn (K : PySem.W.Frag) (C D : Addr) (b : Bool) : Prop where
  e : PySem.W.subIn K (.ref D) (.type "BaseException") = some true
  d : PySem.W.hasDictIn K D = true
  t : PySem.W.typeIn K (.ref D) = some (.type "type")
  s : PySem.W.subIn K (.ref C) (.ref D) = some b
theorem exm_three {K : PySem.W.Frag} {C C1 C2 C3 : Addr} {b1 b2 b3 : Bool} (h1 : ExmIn K C C1 b1) (h2 : ExmIn K C C2 b2) (h3 : ExmIn K C C3 b3) (hb : (b1 || (b2 || (b3 || false))) = true) : PySem.W.exmAny K (.ref C) [.ref C1, .ref C2, .ref C3] = some true := by
  have e1 := PySem.W.exm_ref h1.e h1.d h1.t h1.s
  have e2 := PySem.W.exm_ref h2.e h2.d h2.t h2.s
  have e3 := PySem.W.exm_ref h3.e h3.d h3.t h3.s
  simp only [PySem.W.exmAny, e1, e2, e3, hb]
/-- the law's code object -/
structure CodeAt (K : PySem.W.Frag) (c PP : Addr) (vs : Array Value) (dd : Option Addr) (sl : Array (Option Value)) : Prop where
  l : K.lookup c = some ⟨.type "code", dd, .fields vs, sl⟩
  p : vs[11]? = some (.ref PP)
  g : ∃ file tf flags tg inF text tt, vs.getD 11 .none = .ref PP ∧ vs.getD 18 .none = .str file tf ∧ vs.getD 7 .none = .int flags tg ∧ vs.getD 9 .none = .bool inF ∧ vs.getD 10 .none = .int text tt
  n : K.lookup PP = none
theorem CodeAt.hd {K : PySem.W.Frag} {c PP : Addr} {vs : Array Value} {dd : Option Addr} {sl : Array (Option Value)} {h : Heap} (X : K.In h) (C : CodeAt K c PP vs dd sl) : PySem.W.CodeHd h c PP := by
  obtain ⟨file, tf, flags, tg, inF, text, tt, h1, h2, h3, h4, h5⟩ := C.g
  exact ⟨_, vs, file, tf, flags, tg, inF, text, tt, X _ _ C.l, rfl, rfl, C.p, h1, h2, h3, h4, h5, fun e => by
    have z := C.n
    rw [← e, C.l] at z
    cases z⟩
end Ew
namespace Ew
open PySem PySem.Spec PyProof.Rows L2
/-! ## sorted of a tuple of ints -/
section
variable {prog : Program} {w : World} {A : Around} {E : Value → Shared → Prop} {s : Shared}
theorem collect_tup {l : Addr} {vs : List Value} {o : Obj} {m : Nat} {Q : List Value → Shared → Prop} (ho : s.heap.get? l = some o) (hc : o.cls = .type "tuple") (hd : o.data = .seq vs.toArray m) (hsz : vs.length ≤ sizeLine)
    (h : Q vs { s with heap := (s.heap.push (seqObj "list" #[] 0)).update s.heap.objs.size (Obj.mapSeq (· ++ vs.toArray)) }) : wpAny (model prog w) A (collect (.ref l)) Q E s := by
  unfold collect
  refine wpAny_bind (wpAny_runValue (codeAny_builtin entry_proto_collect' ?_))
  show wpAny _ _ (do again (.builtin "list.__iadd__" ⟨[← newList [], .ref l], []⟩)) _ _ s
  refine wpAny_bind (wpAny_newList (wpAny_pure ⟨Code.quiet_builtin _ (by decide +kernel), codeAny_builtin entry_list_iadd' ?_⟩))
  show wpAny _ _ (Builtin.List.listExtendWith (.ref s.heap.objs.size) (.ref l) (.ref s.heap.objs.size)) _ _ { s with heap := s.heap.push (seqObj "list" #[] 0) }
  unfold Builtin.List.listExtendWith
  have hl : (s.heap.push (seqObj "list" #[] 0)).get? l = some o := Heap.get?_push_of_some _ ho
  refine wpAny_bind (wpAny_typeOf (T := "tuple") ⟨o, hl, hc⟩ ?_)
  rw [if_pos (by rw [show (Value.type "tuple" == Value.type "tuple") = true from rfl, Bool.or_true])]
  refine wpAny_bind (listItems_at hl hd ?_)
  refine wpAny_bind (listItems_at (xs := #[]) (n := 0) (Heap.get?_push_size _ rfl) rfl ?_)
  rw [if_neg (by simp)]
  refine wpAny_bind (listUpdate_at (xs := #[]) (n := 0) (Heap.get?_push_size _ rfl) rfl ?_ (Nat.zero_le _) (by show (#[] ++ vs.toArray).size ≤ sizeLine + 1; rw [Array.empty_append, List.size_toArray]; omega))
  refine wpAny_pure ?_
  refine wpAny_bind (wpAny_load (get?_update_seq (Heap.get?_push_size _ rfl) _) ?_)
  show wpAny _ _ (pure ((#[] : Array Value) ++ vs.toArray).toList) Q E _
  rw [Array.empty_append]
  exact wpAny_pure h
theorem sorted_tup {l : Addr} {vs : List Value} {ns : List Int} {o : Obj} {m : Nat} {Q : Value → Shared → Prop} (ho : s.heap.get? l = some o) (hc : o.cls = .type "tuple") (hd : o.data = .seq vs.toArray m) (hI : IntsAre vs ns) (h64 : vs.length < 64)
    (h : ∀ (out : Array Value) (ms : List Int), IntsAre out.toList ms → ms.Perm ns → ms.Pairwise (· ≤ ·) → Q (.ref (s.heap.objs.size + 1)) { s with heap := sortedAll s.heap vs out }) :
    wpAny (model prog w) A (call (.builtin "sorted") [.ref l]) Q E s := by
  refine Calls.call_function_entry kind_sorted plain_sorted entry_sorted (args_sorted1 _) ?_
  unfold Builtin.«sorted»
  refine wpAny_bind (m := checkCount "sorted" 1 1 _) (wpAny_pure ?_)
  have hz : vs.length ≤ sizeLine := by rw [sizeLine_eq]; omega
  refine wpAny_bind (collect_tup ho hc hd hz ?_)
  refine wpAny_bind (wpAny_newList ?_ hz)
  have e1 : ((s.heap.push (seqObj "list" #[] 0)).update s.heap.objs.size (Obj.mapSeq (· ++ vs.toArray))).objs.size = s.heap.objs.size + 1 := (Heap.size_update ..).trans (size_push' ..)
  have g1 : (((s.heap.push (seqObj "list" #[] 0)).update s.heap.objs.size (Obj.mapSeq (· ++ vs.toArray))).push (seqObj "list" vs.toArray 0)).get? (s.heap.objs.size + 1) = some (seqObj "list" vs.toArray 0) := by
    rw [← e1]
    exact Heap.get?_push_size _ rfl
  show wpAny _ _ _ _ _ { s with heap := ((s.heap.push (seqObj "list" #[] 0)).update s.heap.objs.size (Obj.mapSeq (· ++ vs.toArray))).push (seqObj "list" vs.toArray 0) }
  rw [e1]
  refine wpAny_bind (wpAny_holding (wpAny_call_entry slot_list_sort ⟨_, g1, rfl⟩ entry_list_sort (list_sort_tree g1 hI h64 fun out ms a1 a2 a3 => ⟨_, rfl, ?_⟩) (args_list_sort _)))
  exact wpAny_pure ⟨_, rfl, h out ms a1 a2 a3⟩
end
/-- sorted(x), x a list or a tuple of fewer than 64 ints -/
def rSortA (K : PySem.W.Frag) : List V → Hp → VK → Prop := fun vs H Q => ∃ (a : Addr) (ns : List Int), vs = [V.ref a] ∧ (SqL K H a (ns.map V.int) ∨ SqT K H a (ns.map V.int)) ∧ ns.length < 64 ∧
  ∀ (ms : List Int) (p : Addr), ms.Perm ns → ms.Pairwise (· ≤ ·) → H p = none → Q (.ref p) (upd H p (.lst (ms.map V.int)))
theorem cr_sortA {X : Cx} : CallR X (.builtin "sorted") (rSortA X.K) := by
  intro pins s σ H vs us Q I r h
  obtain ⟨a, ns, rfl, hs, h64, q⟩ := h
  rw [Vals.ref1 r]
  have fin : ∀ (its : List Value) (out : Array Value) (ms : List Int), IntsAre out.toList ms → ms.Perm ns → ms.Pairwise (· ≤ ·) → EP X pins σ Q (.ref (s.heap.objs.size + 1)) { s with heap := sortedAll s.heap its out } := fun its out ms h1 h2 h3 => by
    obtain ⟨ep, he⟩ := PyProof.Rows.sortedAll_at s.heap its out
    have hlen : (ms.map V.int).length ≤ sizeLine := by
      rw [List.length_map, h2.length_eq, sizeLine_eq]
      omega
    exact ⟨.ref _, upd H (s.heap.objs.size + 1) (.lst (ms.map V.int)), I.laid (t' := s.toks) (fun _ _ => PyProof.Rows.sortedAll_old) (Nat.le_succ _) ⟨hlen, out.toList, ep, vals_of_ints h1, he⟩, rfl, q ms _ h2 h3 (I.hok.fresh (Nat.le_succ _))⟩
  rcases hs with hs | hs
  · obtain ⟨its, rv, hl, _⟩ := I.list hs
    have hi := rv.ints
    exact PyProof.Rows.sorted_ints hl.isList hi (by rw [hi.length]; exact h64) fun out ms h1 h2 h3 => fin its out ms h1 h2 h3
  · obtain ⟨its, rv, ⟨o, ho, hc, m, hd⟩, _⟩ := I.tuple hs
    have hi := rv.ints
    exact sorted_tup ho hc hd hi (by rw [hi.length]; exact h64) fun out ms h1 h2 h3 => fin its out ms h1 h2 h3
/-! ## how many different ints -/
theorem nodup_le : ∀ {l m : List Int}, l.Nodup → (∀ k ∈ l, k ∈ m) → l.length ≤ m.length
  | [], _, _, _ => Nat.zero_le _
  | a :: l, m, hn, hs => by
    obtain ⟨h1, h2⟩ := List.nodup_cons.mp hn
    have ha : a ∈ m := hs a List.mem_cons_self
    have ih := nodup_le (l := l) (m := m.erase a) h2 fun k hk => (List.mem_erase_of_ne (fun (e : k = a) => h1 (by rw [← e]; exact hk))).mpr (hs k (List.mem_cons_of_mem _ hk))
    rw [List.length_erase_of_mem ha] at ih
    have := List.length_pos_of_mem ha
    show l.length + 1 ≤ m.length
    omega
theorem dup_cut : ∀ {m : List Int}, ¬ m.Nodup → ∃ r : List Int, r.length < m.length ∧ ∀ k ∈ m, k ∈ r
  | [], h => absurd List.nodup_nil h
  | a :: m, h => by
    by_cases ha : a ∈ m
    · exact ⟨m, Nat.lt_succ_self _, fun k hk => (List.mem_cons.mp hk).elim (fun e => e ▸ ha) id⟩
    · obtain ⟨r, h1, h2⟩ := dup_cut (m := m) fun hm => h (List.nodup_cons.mpr ⟨ha, hm⟩)
      exact ⟨a :: r, Nat.succ_lt_succ h1, fun k hk => (List.mem_cons.mp hk).elim (fun e => e ▸ List.mem_cons_self) fun z => List.mem_cons_of_mem _ (h2 k z)⟩
theorem count_iff {l m : List Int} (hn : l.Nodup) (h : ∀ k, k ∈ l ↔ k ∈ m) : l.length = m.length ↔ m.Nodup := by
  constructor
  · intro e
    by_cases hm : m.Nodup
    · exact hm
    · obtain ⟨r, h1, h2⟩ := dup_cut hm
      have := nodup_le hn fun k hk => h2 k ((h k).mp hk)
      omega
  · intro hm
    have h1 := nodup_le hn fun k hk => (h k).mp hk
    have h2 := nodup_le hm fun k hk => (h k).mpr hk
    omega
theorem dedup_spec : ∀ (xs acc : List Int), acc.Nodup → (xs.foldl step_dedup acc).Nodup ∧ ∀ k, k ∈ xs.foldl step_dedup acc ↔ k ∈ acc ∨ k ∈ xs
  | [], acc, h => ⟨h, fun k => by simp⟩
  | x :: xs, acc, h => by
    have e : step_dedup acc x = if acc.any (· == x) then acc else acc ++ [x] := rfl
    by_cases c : x ∈ acc
    · have e2 : step_dedup acc x = acc := by rw [e, if_pos (by simpa using c)]
      obtain ⟨h1, h2⟩ := dedup_spec xs acc h
      rw [List.foldl_cons, e2]
      refine ⟨h1, fun k => (h2 k).trans ?_⟩
      constructor
      · rintro (z | z)
        · exact .inl z
        · exact .inr (List.mem_cons_of_mem _ z)
      · rintro (z | z)
        · exact .inl z
        · rcases List.mem_cons.mp z with q | q
          · exact .inl (q ▸ c)
          · exact .inr q
    · have e2 : step_dedup acc x = acc ++ [x] := by rw [e, if_neg (by simpa using c)]
      have hn : (acc ++ [x]).Nodup := List.nodup_append.mpr ⟨h, by simp, fun a ha b hb z => c (by rw [← List.mem_singleton.mp hb, ← z]; exact ha)⟩
      obtain ⟨h1, h2⟩ := dedup_spec xs (acc ++ [x]) hn
      rw [List.foldl_cons, e2]
      refine ⟨h1, fun k => (h2 k).trans ?_⟩
      rw [List.mem_append, List.mem_singleton, List.mem_cons, or_assoc]
theorem range_getD (ns : List Int) : (List.range ns.length).map (fun i => ns.getD i 0) = ns := by
  apply List.ext_getElem
  · simp
  · intro i h1 h2
    simp [List.getD_eq_getElem?_getD, List.getElem?_eq_getElem h2]
theorem firstMet_iff (ns : List Int) : (firstMet (fun i => ns.getD i 0) ns.length).length = ns.length ↔ ns.Nodup := by
  unfold firstMet
  rw [range_getD]
  obtain ⟨h1, h2⟩ := dedup_spec ns [] List.nodup_nil
  exact count_iff h1 fun k => (h2 k).trans (by simp)
def tLenSetA (K : PySem.W.Frag) (ta : TE) : TE := fun σ H Q => ta σ H fun x G => ∃ (l : Addr) (ns : List Int), x = .ref l ∧ (SqL K G l (ns.map V.int) ∨ SqT K G l (ns.map V.int)) ∧ ns.length ≤ 4000 ∧ ∀ c : Nat, (c = ns.length ↔ ns.Nodup) → Q (.int (c : Int)) G
theorem pe_lenSetA {X : Cx} {a : Expr} {ta : TE} {p p2 q pos : Pos} (hg : Gl X "len") (hm : X.mg "len" = none) (hg2 : Gl X "set") (hm2 : X.mg "set" = none) (ha : PE X a ta) (hc : X.calm = true := by rfl)
    (na : starEach [a] X.env = (false, eval a X.env) :: starEach [] X.env := by rfl) : PE X (.Call (.Name "len" p) [.Call (.Name "set" p2) [a] [] q] [] pos) (tLenSetA X.K ta) := by
  refine ⟨fun pins s σ H Q I h => ?_⟩
  refine Call_ (ld_blt I hg hm boot_len (PyProof.Rows.callWith_builtin1 (PyProof.Rows.args_cons ?_ rfl) rfl rfl))
  refine Call_ (ld_blt I hg2 hm2 boot_set ?_)
  refine PyProof.Rows.callWith_type1 (PyProof.Rows.args_cons (thn (ha.run pins s σ H _ I h) fun v z ⟨x, G, I1, r1, l, ns, ex, hq, hl, k⟩ => PyProof.Rows.args_nil ?_) na) na rfl
  subst ex
  cases r1
  rcases hq with hq | hq
  · obtain ⟨its, r, pl, _⟩ := I1.list hq
    have hlen : its.toArray.size = ns.length := by rw [List.size_toArray, ← r.length, List.length_map]
    refine call_set_list (I1.ok.hd hc) pl.isList (by simpa using r.ints) (by rw [hlen]; unfold scanBound; omega) fun h2 tk hS hk => PyProof.Rows.args_nil ?_
    rw [hlen] at hS
    obtain ⟨o, es, ep, t, ho, hex, hd, _, _, hb, hf, hn⟩ := hS
    have I2 : Inv X pins σ G { z with heap := h2, toks := tk } := I1.kept fun b o e => hk b o (Heap.lt_size e) e
    exact call_len_set ho hex hd hf (by unfold scanBound at hb; omega) ⟨.int (es.size : Nat), G, I2.tok _, ⟨_, rfl⟩, k _ (by rw [hn]; exact firstMet_iff ns)⟩
  · obtain ⟨its, r, pt, _⟩ := I1.tuple hq
    refine call_set_tupI ns (I1.ok.hd hc) (show z.heap.IsTuple l its.toArray from pt) (by simpa using r.ints) (by unfold scanBound; omega) fun h2 tk c R hcn hk => PyProof.Rows.args_nil ?_
    obtain ⟨o, es, ep, t, ho, hex, hd, _, nd, hm3, hb, hf, hn, _⟩ := R
    have I2 : Inv X pins σ G { z with heap := h2, toks := tk } := I1.kept fun b o e => hk b o e
    refine call_len_set ho hex hd hf (by unfold scanBound at hb; omega) ⟨.int (es.size : Nat), G, I2.tok _, ⟨_, rfl⟩, k _ ?_⟩
    have q1 := count_iff nd (m := ns) fun j => (hm3 j).symm.trans (by simp)
    rw [List.length_map, Array.length_toList] at q1
    exact q1
/-! ## len(o) by an own __len__ -/
@[irreducible] def rLenO (C : Addr) (sp : Sp) : List V → Hp → VK → Prop := fun vs H Q => ∃ (a dx : Addr) (fs : List (Str × V)), vs = [.ref a] ∧ H a = some (.ins C dx fs) ∧ sp [.ref a] H (fun v G => ∃ n : Int, v = .int n ∧ 0 ≤ n ∧ n < 9223372036854775808 ∧ Q (.int n) G) E0
theorem cr_lenO {X : Cx} {C f : Addr} {fd : FuncData} {k : Nat} {ps : List Str} {sp : Sp} (hs : PySem.W.findIn X.K (.ref C) "__len__" = some (some (.ref f))) (hf : PySem.W.isFn X.K (.ref f) = true) (F : FnOk X.prog X.w X.K X.mg X.base CX0 k f fd ps sp) (hr : Room (k + 1) X.A) (hb : Binds X.K fd ps []) :
    CallR X (.builtin "len") (rLenO C sp) := by
  intro pins s σ H vs us Q I r h
  unfold rLenO at h
  obtain ⟨a, dx, fs, rfl, ha, hsp⟩ := h
  rw [Vals.ref1 r]
  obtain ⟨mA, O, _⟩ := ins_get I.hok ha
  obtain ⟨od, J, _⟩ := O.look
  obtain ⟨m, fr⟩ := I.fr
  refine PySem.W.len_K fr I.ok.mod.kin J hs hf ?_
  have hl : [Value.ref a].length = ps.length := F.len _ _ _ _ hsp
  have hbs := hb s [.ref a] I.kIn (by rw [List.append_nil]; exact hl)
  rw [List.append_nil] at hbs
  refine wpAny_call (codeAny_mono (F.run X.A.in1 X.stack s H ⟨[.ref a], []⟩ [.ref a] [.ref a] _ _ hr.in1 I.env0.in1 hbs (.cons rfl .nil) hsp) fun res z hq => ?_)
  cases res with
  | error er => exact (show False from hq).elim
  | ok fl =>
    cases fl with
    | ret u =>
      obtain ⟨v, G, J2, rv, n, ev, n0, n1, q⟩ := I.after hq
      subst ev
      obtain ⟨t, rfl⟩ := rv
      exact ⟨⟨n0, by have : (2 : Int) ^ 63 = 9223372036854775808 := by decide
                     omega⟩, .int n, G, J2.tok _, ⟨_, rfl⟩, q⟩
    | next => exact hq.elim
    | brk => exact hq.elim
    | cont => exact hq.elim
end Ew
namespace Ew
open PySem PySem.Spec PyProof.Rows L2
/-! ## the mathematics of digit sets; s ascends -/
def firstI (s : List Int) : Int := s.getD 0 0
def lastI (s : List Int) : Int := s.getD (s.length - 1) 0
structure AreS (b : Int) (s : List Int) : Prop where
  l2 : 2 ≤ s.length
  l24 : s.length ≤ 24
  nd : s.Nodup
  lo : -99 ≤ firstI s
  hi : lastI s ≤ 99
  gap : ∀ i, i + 1 < s.length → (s.getD (i + 1) 0 - s.getD i 0) * (b - 1) ≤ lastI s - firstI s
open Classical in
noncomputable def areB (b : Int) (s : List Int) : Bool := decide (AreS b s)
open Classical in
theorem areB_t {b : Int} {s : List Int} (h : AreS b s) : areB b s = true := by unfold areB; exact decide_eq_true h
open Classical in
theorem areB_f {b : Int} {s : List Int} (h : ¬ AreS b s) : areB b s = false := by unfold areB; exact decide_eq_false h
open Classical in
theorem areB_of {b : Int} {s : List Int} (h : areB b s = true) : AreS b s := by unfold areB at h; exact of_decide_eq_true h
/-- the ascending list of the same ints -/
def srt (s : List Int) : List Int := s.mergeSort (fun a b => decide (a ≤ b))
theorem srt_perm (s : List Int) : (srt s).Perm s := List.mergeSort_perm s _
theorem srt_asc (s : List Int) : (srt s).Pairwise (· ≤ ·) := by
  have h := List.pairwise_mergeSort (le := fun a b : Int => decide (a ≤ b)) (fun a b c h1 h2 => by simp at *; omega) (fun a b => by simp; omega) s
  exact h.imp fun h => by simpa using h
theorem srt_eq {m s : List Int} (hp : m.Perm s) (ha : m.Pairwise (· ≤ ·)) : m = srt s := PySem.W.ksm_same (hp.trans (srt_perm s).symm) ha (srt_asc s)
theorem srt_same {m s : List Int} (hp : m.Perm s) : srt m = srt s := srt_eq ((srt_perm m).trans hp) (srt_asc m)
theorem srt_len (s : List Int) : (srt s).length = s.length := (srt_perm s).length_eq
theorem getD_at {s : List Int} {i : Nat} (h : i < s.length) : s[i]? = some (s.getD i 0) := by
  rw [List.getD_eq_getElem?_getD, List.getElem?_eq_getElem h]
  rfl
theorem ints_at {s : List Int} {i : Nat} (h : i < s.length) : (s.map V.int)[i]? = some (.int (s.getD i 0)) := by
  rw [List.getElem?_map, getD_at h]
  rfl
theorem at_int {s : List Int} {z : Int} {i : Nat} (e : z = (i : Int)) (h : i < s.length) : atI (s.map V.int) z = some (.int (s.getD i 0)) := at_of e (ints_at h)
theorem at_first {s : List Int} (h : 0 < s.length) : atI (s.map V.int) 0 = some (.int (firstI s)) := at_int (i := 0) rfl h
theorem at_last {s : List Int} (h : 0 < s.length) : atI (s.map V.int) (-1) = some (.int (lastI s)) := by
  unfold atI ixN
  rw [List.length_map, if_neg (by decide), if_pos (by omega)]
  have e : ((-1 : Int) + (s.length : Int)).toNat = s.length - 1 := by omega
  rw [e]
  exact ints_at (by omega)
theorem asc_le {s : List Int} (h : s.Pairwise (· ≤ ·)) {i j : Nat} (hij : i ≤ j) (hj : j < s.length) : s.getD i 0 ≤ s.getD j 0 := PyProof.Rows.sorted_getD_le h hij hj
theorem first_le_last {s : List Int} (h : s.Pairwise (· ≤ ·)) (hl : 0 < s.length) : firstI s ≤ lastI s := asc_le h (Nat.zero_le _) (by omega)
theorem cut_tail (xs : List V) : cutV xs (some 1) none = xs.drop 1 := by
  unfold cutV
  have e := HT.sIx_nat xs.length 0 1
  rw [show (some (1 : Int)) = some ((1 : Nat) : Int) from rfl, e, HT.sIx_none]
  by_cases h : 1 ≤ xs.length
  · rw [Nat.min_eq_left h, List.take_of_length_le (by rw [List.length_drop]; omega)]
  · have z : xs = [] := List.eq_nil_of_length_eq_zero (by omega)
    subst z
    rfl
theorem walk_zipM {K : PySem.W.Frag} {a b : Addr} {xs ys : List V} {n : Nat} (hn : n = min xs.length ys.length) : Walk (RZ.ItzT K a b) n (fun H => SqT K H a xs ∧ SqT K H b ys) (YPair (fun i => xs[i]?) (fun i => ys[i]?)) :=
  ⟨fun i H hi q => ⟨xs, ys, xs[i]'(by omega), ys[i]'(by omega), q.1, q.2, List.getElem?_eq_getElem _, List.getElem?_eq_getElem _⟩, fun H q => ⟨xs, ys, q.1, q.2, by omega⟩,
    fun i H x G hi q ⟨T, u, v, e1, e2, e3, e4, e5⟩ => ⟨T, u, v, e1, e2, e3, e4 xs q.1, e5 ys q.2⟩⟩
/-- the gaps of s -/
def gapL (s : List Int) : List Int := (List.range (s.length - 1)).map fun i => s.getD (i + 1) 0 - s.getD i 0
theorem gapL_mem {s : List Int} {g : Int} : g ∈ gapL s ↔ ∃ i, i + 1 < s.length ∧ g = s.getD (i + 1) 0 - s.getD i 0 := by
  unfold gapL
  rw [List.mem_map]
  constructor
  · rintro ⟨i, hi, rfl⟩
    exact ⟨i, by have := List.mem_range.mp hi; omega, rfl⟩
  · rintro ⟨i, hi, rfl⟩
    exact ⟨i, List.mem_range.mpr (by omega), rfl⟩
theorem gapL_len (s : List Int) : (gapL s).length = s.length - 1 := by unfold gapL; simp
/-- by the widest gap -/
theorem gap_iff {b m : Int} {s : List Int} (hb : 2 ≤ b) (hm : m ∈ gapL s) (hg : ∀ g ∈ gapL s, g ≤ m) : m * (b - 1) ≤ lastI s - firstI s ↔ ∀ i, i + 1 < s.length → (s.getD (i + 1) 0 - s.getD i 0) * (b - 1) ≤ lastI s - firstI s := by
  constructor
  · intro h i hi
    have h1 := hg _ (gapL_mem.mpr ⟨i, hi, rfl⟩)
    exact Int.le_trans (Int.mul_le_mul_of_nonneg_right h1 (by omega)) h
  · intro h
    obtain ⟨i, hi, rfl⟩ := gapL_mem.mp hm
    exact h i hi
theorem mul_smallR {i j : Int} (h0 : -9223372036854775808 < j) (h1 : j < 9223372036854775808) : CMul i j := by
  have e : (2 : Int) ^ 64 = 18446744073709551616 := by decide
  refine .inr ⟨?_, ?_⟩
  · rw [e]; omega
  · rw [e]; omega
/-! ## all but p stays -/
def KeepBut (p : Addr) (H G : Hp) : Prop := ∀ c o, H c = some o → c ≠ p → G c = some o
theorem KeepBut.refl (p : Addr) (H : Hp) : KeepBut p H H := fun _ _ h _ => h
theorem KeepBut.trans {p : Addr} {H G G2 : Hp} (a : KeepBut p H G) (b : KeepBut p G G2) : KeepBut p H G2 := fun c o h n => b c o (a c o h n) n
theorem KeepBut.of {p : Addr} {H G : Hp} (e : Same H G) : KeepBut p H G := fun c o h _ => e c o h
theorem KeepBut.put {p : Addr} {H : Hp} {o : HO} : KeepBut p H (upd H p o) := fun c u h n => by rw [upd_ne n]; exact h
theorem KeepBut.new {p d : Addr} {H : Hp} {o : HO} (h : H d = none) : KeepBut p H (upd H d o) := KeepBut.of (same_upd (Same.refl H) h)
theorem RngAt.free {H : Hp} {p q : Addr} {ns : List Int} {i v sd : Int} (R : RngAt H p q ns i v sd) {d : Addr} (h : H d = none) : d ≠ p := fun e => by
  have z := R.at_p
  rw [← e, h] at z
  cases z
theorem KeepBut.free {p d : Addr} {H G : Hp} (e : KeepBut p H G) (n : d ≠ p) (h : G d = none) : H d = none := by
  cases z : H d with
  | none => rfl
  | some o =>
    have q := e d o z n
    rw [h] at q
    cases q
/-! ## the digits that a law draws -/
structure Dig (b : Int) (ds : List Int) : Prop where
  are : AreS b ds
  asc : ds.Pairwise (· < ·)
theorem asc_le_of {ds : List Int} (h : ds.Pairwise (· < ·)) : ds.Pairwise (· ≤ ·) := h.imp fun h => Int.le_of_lt h
theorem nodup_of {ds : List Int} (h : ds.Pairwise (· < ·)) : ds.Nodup := h.imp fun h => Int.ne_of_lt h
theorem srt_self {ds : List Int} (h : ds.Pairwise (· < ·)) : srt ds = ds := (srt_eq (List.Perm.refl ds) (asc_le_of h)).symm
def runL (front : Int) (n : Nat) : List Int := (List.range n).map fun (i : Nat) => front + (i : Int)
theorem runL_len (front : Int) (n : Nat) : (runL front n).length = n := by unfold runL; simp
theorem runL_at {front : Int} {n i : Nat} (h : i < n) : (runL front n).getD i 0 = front + (i : Int) := by
  unfold runL
  rw [List.getD_eq_getElem?_getD, List.getElem?_map, List.getElem?_range h]
  rfl
theorem runL_asc (front : Int) (n : Nat) : (runL front n).Pairwise (· < ·) := by
  unfold runL
  rw [List.pairwise_map]
  exact List.pairwise_lt_range.imp fun h => by omega
theorem runL_mem {front d : Int} {n : Nat} (h : d ∈ runL front n) : front ≤ d ∧ d < front + (n : Int) := by
  unfold runL at h
  obtain ⟨i, hi, rfl⟩ := List.mem_map.mp h
  have := List.mem_range.mp hi
  omega
theorem runL_dig {b front : Int} {n : Nat} (h2 : 2 ≤ b) (hb : b ≤ (n : Int)) (hn : n ≤ 24) (f0 : -99 ≤ front) (f1 : front + (n : Int) ≤ 100) : Dig b (runL front n) := by
  refine ⟨⟨by rw [runL_len]; omega, by rw [runL_len]; exact hn, nodup_of (runL_asc front n), ?_, ?_, ?_⟩, runL_asc front n⟩
  · unfold firstI
    rw [runL_at (by omega)]
    omega
  · unfold lastI
    rw [runL_len, runL_at (by omega)]
    omega
  · intro i hi
    rw [runL_len] at hi
    unfold lastI firstI
    rw [runL_len, runL_at hi, runL_at (by omega), runL_at (by omega), runL_at (by omega)]
    have e : front + ((i + 1 : Nat) : Int) - (front + (i : Int)) = 1 := by omega
    rw [e, Int.one_mul]
    omega
theorem getD_mem {ds : List Int} {i : Nat} (h : i < ds.length) : ds.getD i 0 ∈ ds := List.mem_of_getElem? (getD_at h)
theorem map_getD {ds : List Int} {f : Int → Int} {i : Nat} (h : i < ds.length) : (ds.map f).getD i 0 = f (ds.getD i 0) := by
  rw [List.getD_eq_getElem?_getD, List.getElem?_map, getD_at h]
  rfl
theorem scale_dig {b u : Int} {ds : List Int} (h : Dig b ds) (hu : u = 1 ∨ u = 2) (hr : ∀ d ∈ ds, -40 ≤ d ∧ d ≤ 40) : Dig b (ds.map (· * u)) := by
  have a := h.are
  have l0 : 0 < ds.length := by have := a.l2; omega
  have m0 := hr _ (getD_mem l0)
  have m1 := hr _ (getD_mem (show ds.length - 1 < ds.length by omega))
  have asc : (ds.map (· * u)).Pairwise (· < ·) := by
    rw [List.pairwise_map]
    exact h.asc.imp fun z => by rcases hu with rfl | rfl <;> omega
  refine ⟨⟨by rw [List.length_map]; exact a.l2, by rw [List.length_map]; exact a.l24, nodup_of asc, ?_, ?_, ?_⟩, asc⟩
  · unfold firstI
    rw [map_getD l0]
    rcases hu with rfl | rfl <;> omega
  · unfold lastI
    rw [List.length_map, map_getD (by omega)]
    rcases hu with rfl | rfl <;> omega
  · intro i hi
    rw [List.length_map] at hi
    have g := a.gap i hi
    unfold lastI firstI at g ⊢
    rw [List.length_map, map_getD hi, map_getD (by omega), map_getD (by omega), map_getD l0]
    rcases hu with rfl | rfl
    · simpa using g
    · have e : (ds.getD (i + 1) 0 * 2 - ds.getD i 0 * 2) * (b - 1) = 2 * ((ds.getD (i + 1) 0 - ds.getD i 0) * (b - 1)) := by
        rw [← Int.sub_mul, Int.mul_comm _ 2, Int.mul_assoc]
      rw [e]
      omega
theorem erase_asc {ds : List Int} (h : ds.Pairwise (· < ·)) (k : Nat) : (ds.eraseIdx k).Pairwise (· < ·) := h.sublist (List.eraseIdx_sublist ds k)
theorem erase_mem {ds : List Int} {d : Int} {k : Nat} (h : d ∈ ds.eraseIdx k) : d ∈ ds := (List.eraseIdx_sublist ds k).subset h
theorem map_erase : ∀ (ds : List Int) (k : Nat), (ds.map V.int).eraseIdx k = (ds.eraseIdx k).map V.int
  | [], _ => rfl
  | _ :: _, 0 => rfl
  | a :: l, k + 1 => by
    show V.int a :: (l.map V.int).eraseIdx k = V.int a :: (l.eraseIdx k).map V.int
    rw [map_erase l k]
theorem seqIx {r : Int} {n : Nat} (h0 : 0 ≤ r) (h1 : r < (n : Int)) : seqIndex? r n = some r.toNat := by
  unfold seqIndex?
  have e : ¬ r < 0 := by omega
  simp only [if_neg e]
  rw [if_pos (by simp [h0, h1])]
theorem erase_perm : ∀ (l : List Int) (k : Nat), k < l.length → (l.getD k 0 :: l.eraseIdx k).Perm l
  | [], k, h => absurd h (Nat.not_lt_zero k)
  | _ :: _, 0, _ => List.Perm.refl _
  | a :: l, k + 1, h => (List.Perm.swap a (l.getD k 0) (l.eraseIdx k)).trans ((erase_perm l k (Nat.lt_of_succ_lt_succ h)).cons a)
/-! ## ints as data -/
theorem layInts : ∀ ds : List Int, PyData.canLayAll0 (ds.map PyData.int) = true
  | [] => by simp [PyData.canLayAll0]
  | d :: ds => by
    have := layInts ds
    simp [PyData.canLayAll0, PyData.canLay0]
    simpa using this
theorem depInts : ∀ ds : List Int, PyData.depthAll (ds.map PyData.int) ≤ 1
  | [] => by simp [PyData.depthAll]
  | d :: ds => by
    have := depInts ds
    simp only [List.map_cons, PyData.depthAll, PyData.depth]
    omega
theorem shapedInts (ds : List Int) : SeqAt.shaped (.list (ds.map PyData.int)) = true := by
  unfold SeqAt.shaped
  have h1 : (PyData.list (ds.map PyData.int)).canLay0 = true := by
    have := layInts ds
    simpa [PyData.canLay0] using this
  have h2 : (PyData.list (ds.map PyData.int)).depth ≤ 64 := by
    have := depInts ds
    simp only [PyData.depth]
    omega
  rw [h1, decide_eq_true h2]
  rfl
theorem eqvInts (ds : List Int) : PyData.eqv (.list (ds.map PyData.int)) (.list (ds.map PyData.int)) = true := SeqAt.eqv_refl _ (SeqAt.canLay_of_shaped (shapedInts ds))
theorem dpInts {K : PySem.W.Frag} {H : Hp} : ∀ ds : List Int, DpAll K H (ds.map V.int) (ds.map PyData.int)
  | [] => .nil
  | d :: ds => .cons (.int d) (dpInts ds)
/-- tuple(x) -/
def rTup (K : PySem.W.Frag) : List V → Hp → VK → Prop := fun xs H Q => ∃ p ys, xs = [.ref p] ∧ ((SqL K H p ys ∧ ∀ l, H l = none → Q (.ref l) (upd H l (.tup ys))) ∨ (SqT K H p ys ∧ Q (.ref p) H))
theorem cr_tup {X : Cx} : CallR X (.type "tuple") (rTup X.K) := call_tuple_of
theorem same_three {K : PySem.W.Frag} {G : Hp} {n : Nat} {s t : Addr} {x0 x1 x2 y0 y1 y2 : V} (hs : G s = some (.lst [x0, x1, x2])) (ht : G t = some (.lst [y0, y1, y2])) (h0 : SameN K G n x0 y0) (h1 : SameN K G n x1 y1) (h2 : SameN K G n x2 y2) : SameN K G (n + 1) (.ref s) (.ref t) := by
  refine .inr ⟨s, t, _, _, rfl, rfl, .inl ⟨SqL.of hs, SqL.of ht⟩, rfl, (by show 3 ≤ 1000; decide), fun i u v hu hv => ?_⟩
  match i, hu, hv with
  | 0, hu, hv => cases hu; cases hv; exact h0
  | 1, hu, hv => cases hu; cases hv; exact h1
  | 2, hu, hv => cases hu; cases hv; exact h2
  | i + 3, hu, hv => cases hu
theorem same_ints {K : PySem.W.Frag} {G : Hp} {n : Nat} {s t : Addr} {ds : List Int} (hs : G s = some (.tup (ds.map V.int))) (ht : G t = some (.tup (ds.map V.int))) (hl : ds.length ≤ 1000) : SameN K G (n + 2) (.ref s) (.ref t) := by
  refine .inr ⟨s, t, _, _, rfl, rfl, .inr ⟨SqT.of hs, SqT.of ht⟩, rfl, by rw [List.length_map]; exact hl, fun i u v hu hv => ?_⟩
  obtain ⟨c, rfl⟩ := map_int_at hu
  rw [hu] at hv
  cases hv
  exact .inl ⟨rfl, rfl⟩
theorem noneBase : NoneTag "InvalidBase" := ⟨by decide +kernel, by decide +kernel, by decide +kernel, by decide +kernel, by decide +kernel, by decide +kernel⟩
theorem noneDigits : NoneTag "InvalidDigits" := ⟨by decide +kernel, by decide +kernel, by decide +kernel, by decide +kernel, by decide +kernel, by decide +kernel⟩
theorem KeepBut.keep {p : Addr} {H G : Hp} {xs : List V} (h : H p = some (.lst xs)) (e : KeepBut p H G) : Keep H G := fun b o hb n => e b o hb fun z => n xs (Option.some.inj (hb.symm.trans (by rw [z]; exact h)))
theorem KeepBut.tabs {T : List (Addr × Str)} {p : Addr} {H G : Hp} {xs : List V} (h : H p = some (.lst xs)) (e : KeepBut p H G) (t : LamX.Tabs T H) : LamX.Tabs T G := (e.keep h).tabs t
end Ew
namespace Ew
open PySem PySem.Spec PyProof.Rows L2
/-! ## fractions in lowest terms -/
structure Low (n d : Int) : Prop where
  cop : Nat.gcd n.natAbs d.natAbs = 1
  pos : 0 < d
theorem gcdI_dvd_left (a b : Int) : ∃ n : Int, a = n * gcdI a b := by
  obtain ⟨k, hk⟩ := Nat.gcd_dvd_left a.natAbs b.natAbs
  unfold gcdI
  rcases Int.natAbs_eq a with e | e
  · exact ⟨(k : Int), by rw [e, Int.natAbs_natCast]; rw [← Int.natCast_mul, Nat.mul_comm, ← hk]⟩
  · refine ⟨-(k : Int), ?_⟩
    have h2 : (a.natAbs : Int) = (k : Int) * ((Nat.gcd a.natAbs b.natAbs : Nat) : Int) := by rw [← Int.natCast_mul, Nat.mul_comm, ← hk]
    rw [Int.neg_mul, ← h2]
    exact e
theorem gcdI_comm (a b : Int) : gcdI a b = gcdI b a := by unfold gcdI; rw [Nat.gcd_comm]
theorem fr_spec (a : Int) {b : Int} (hb : b ≠ 0) : Low (frN a b) (frD a b) ∧ frN a b * b = a * frD a b := by
  have gp := gcdI_pos (a := a) hb
  obtain ⟨n, hn⟩ := gcdI_dvd_left a b
  obtain ⟨d, hd⟩ := gcdI_dvd_left b a
  rw [gcdI_comm b a] at hd
  have g0 : gcdI a b ≠ 0 := by omega
  have cop : Nat.gcd n.natAbs d.natAbs = 1 := by
    have e1 : a.natAbs = n.natAbs * (gcdI a b).natAbs := by rw [← Int.natAbs_mul, ← hn]
    have e2 : b.natAbs = d.natAbs * (gcdI a b).natAbs := by rw [← Int.natAbs_mul, ← hd]
    have e3 : (gcdI a b).natAbs = Nat.gcd a.natAbs b.natAbs := by unfold gcdI; exact Int.natAbs_natCast _
    have e4 : Nat.gcd (n.natAbs * (gcdI a b).natAbs) (d.natAbs * (gcdI a b).natAbs) = Nat.gcd n.natAbs d.natAbs * (gcdI a b).natAbs := Nat.gcd_mul_right _ _ _
    rw [← e1, ← e2, ← e3] at e4
    have e5 : 0 < (gcdI a b).natAbs := by omega
    have e6 : 1 * (gcdI a b).natAbs = Nat.gcd n.natAbs d.natAbs * (gcdI a b).natAbs := by rw [Nat.one_mul]; exact e4
    exact (Nat.eq_of_mul_eq_mul_right e5 e6).symm
  by_cases c : b < 0
  · have e1 : frN a b = -n := by
      unfold frN
      rw [if_pos c]
      have : -a = -n * gcdI a b := by rw [Int.neg_mul, ← hn]
      rw [this, Int.mul_ediv_cancel _ g0]
    have e2 : frD a b = -d := by
      unfold frD
      rw [if_pos c]
      have : -b = -d * gcdI a b := by rw [Int.neg_mul, ← hd]
      rw [this, Int.mul_ediv_cancel _ g0]
    rw [e1, e2]
    refine ⟨⟨by rw [Int.natAbs_neg, Int.natAbs_neg]; exact cop, ?_⟩, ?_⟩
    · rcases Int.lt_or_le 0 (-d) with z | z
      · exact z
      · exfalso
        have : 0 ≤ d * gcdI a b := Int.mul_nonneg (by omega) (by omega)
        omega
    · calc -n * b = -(n * b) := Int.neg_mul n b
        _ = -(n * (d * gcdI a b)) := by rw [← hd]
        _ = -((n * gcdI a b) * d) := by congr 1; ac_rfl
        _ = -(a * d) := by rw [← hn]
        _ = a * -d := (Int.mul_neg a d).symm
  · have e1 : frN a b = n := by
      unfold frN
      rw [if_neg c]
      conv => lhs; lhs; rw [hn]
      exact Int.mul_ediv_cancel _ g0
    have e2 : frD a b = d := by
      unfold frD
      rw [if_neg c]
      conv => lhs; lhs; rw [hd]
      exact Int.mul_ediv_cancel _ g0
    rw [e1, e2]
    refine ⟨⟨cop, ?_⟩, ?_⟩
    · rcases Int.lt_or_le 0 d with z | z
      · exact z
      · exfalso
        have : d * gcdI a b ≤ 0 := Int.mul_nonpos_of_nonpos_of_nonneg z (by omega)
        omega
    · calc n * b = n * (d * gcdI a b) := by rw [← hd]
        _ = (n * gcdI a b) * d := by ac_rfl
        _ = a * d := by rw [← hn]
theorem low_uniq {n d m e : Int} (h1 : Low n d) (h2 : Low m e) (h : n * e = m * d) : n = m ∧ d = e := by
  have hn : n.natAbs * e.natAbs = m.natAbs * d.natAbs := by rw [← Int.natAbs_mul, ← Int.natAbs_mul, h]
  have d1 : d.natAbs ∣ e.natAbs := by
    have : d.natAbs ∣ n.natAbs * e.natAbs := ⟨m.natAbs, by rw [hn, Nat.mul_comm]⟩
    exact Nat.Coprime.dvd_of_dvd_mul_left (Nat.Coprime.symm h1.cop) this
  have d2 : e.natAbs ∣ d.natAbs := by
    have : e.natAbs ∣ m.natAbs * d.natAbs := ⟨n.natAbs, by rw [← hn, Nat.mul_comm]⟩
    exact Nat.Coprime.dvd_of_dvd_mul_left (Nat.Coprime.symm h2.cop) this
  have de := Nat.dvd_antisymm d1 d2
  have p1 := h1.pos
  have p2 := h2.pos
  have e1 : d = e := by omega
  subst e1
  exact ⟨Int.eq_of_mul_eq_mul_right (by omega) h, rfl⟩
theorem fr_eq {a b c d : Int} (hb : b ≠ 0) (hd : d ≠ 0) (h : a * d = c * b) : frN a b = frN c d ∧ frD a b = frD c d := by
  obtain ⟨l1, e1⟩ := fr_spec a hb
  obtain ⟨l2, e2⟩ := fr_spec c hd
  refine low_uniq l1 l2 ?_
  refine Int.eq_of_mul_eq_mul_right (a := b * d) (Int.mul_ne_zero hb hd) ?_
  calc frN a b * frD c d * (b * d) = (frN a b * b) * (frD c d * d) := by ac_rfl
    _ = (a * frD a b) * (frD c d * d) := by rw [e1]
    _ = (a * d) * (frD a b * frD c d) := by ac_rfl
    _ = (c * b) * (frD a b * frD c d) := by rw [h]
    _ = (c * frD c d) * (frD a b * b) := by ac_rfl
    _ = (frN c d * d) * (frD a b * b) := by rw [e2]
    _ = frN c d * frD a b * (b * d) := by ac_rfl
/-! ## rows -/
def rowN (b : Int) (rs : List Int) : Int := rs.foldl (fun t d => t * b + d) 0
theorem rowN_snoc (b : Int) (rs : List Int) (d : Int) : rowN b (rs ++ [d]) = rowN b rs * b + d := by unfold rowN; rw [List.foldl_append]; rfl
theorem take_snoc {rs : List Int} {i : Nat} (h : i < rs.length) : rs.take (i + 1) = rs.take i ++ [rs.getD i 0] := by
  rw [List.take_add_one, Ew.getD_at h]
  rfl
theorem pow_nat (b : Int) (n : Nat) : (b ^ n).natAbs = b.natAbs ^ n := Int.natAbs_pow b n
theorem pow_small {b : Int} {n : Nat} (h2 : 2 ≤ b) (h10 : b ≤ 10) (hn : n ≤ 1000) : (b ^ n).natAbs < 2 ^ 8000 := by
  rw [pow_nat]
  have h1 : b.natAbs ^ n ≤ (2 ^ 4) ^ n := Nat.pow_le_pow_left (by omega) n
  rw [← Nat.pow_mul] at h1
  exact Nat.lt_of_le_of_lt h1 (Nat.pow_lt_pow_right (by decide) (by omega))
theorem pow_pos' {b : Int} (h2 : 2 ≤ b) (n : Nat) : b ^ n ≠ 0 := by
  have : 0 < b ^ n := Int.pow_pos (by omega)
  omega
/-- rs is a row of the digits s -/
structure HasR (s rs : List Int) : Prop where
  len : rs.length ≤ 200
  mem : ∀ d ∈ rs, d ∈ s
open Classical in
noncomputable def hasB (s rs : List Int) : Bool := decide (HasR s rs)
open Classical in
theorem hasB_t {s rs : List Int} (h : HasR s rs) : hasB s rs = true := by unfold hasB; exact decide_eq_true h
open Classical in
theorem hasB_f {s rs : List Int} (h : ¬ HasR s rs) : hasB s rs = false := by unfold hasB; exact decide_eq_false h
theorem flatInts (s : List Int) : (s.map V.int).all flatV = true := by
  rw [List.all_eq_true]
  intro x hx
  obtain ⟨d, _, rfl⟩ := List.mem_map.mp hx
  rfl
theorem inInts (d : Int) (s : List Int) : inV (.int d) (s.map V.int) = decide (d ∈ s) := by
  unfold inV
  by_cases h : d ∈ s
  · rw [decide_eq_true h, List.any_eq_true]
    exact ⟨.int d, List.mem_map.mpr ⟨d, h, rfl⟩, by simp [eqV]⟩
  · rw [decide_eq_false h, Bool.eq_false_iff]
    intro z
    obtain ⟨x, hx, e⟩ := List.any_eq_true.mp z
    obtain ⟨c, hc, rfl⟩ := List.mem_map.mp hx
    have : c = d := by simpa [eqV] using e
    exact h (this ▸ hc)
end Ew
namespace Ew
open PySem PySem.Spec PyProof.Rows L2
theorem pow9 {b : Int} {n : Nat} (h2 : 2 ≤ b) (h10 : b ≤ 10) (hn : n ≤ 9) : 0 < b ^ n ∧ b ^ n ≤ 1000000000 := by
  refine ⟨Int.pow_pos (by omega), ?_⟩
  have h1 : b.natAbs ^ n ≤ 10 ^ n := Nat.pow_le_pow_left (by omega) n
  have h2' : 10 ^ n ≤ 10 ^ 9 := Nat.pow_le_pow_right (by decide) hn
  have h3 : (b ^ n).natAbs ≤ 10 ^ 9 := by rw [Int.natAbs_pow]; omega
  have h4 : (10 : Nat) ^ 9 = 1000000000 := by decide
  omega
theorem rowN_le {b : Int} (h2 : 2 ≤ b) : ∀ (n : Nat) (rs : List Int), rs.length = n → (∀ d ∈ rs, -99 ≤ d ∧ d ≤ 99) → rowN b rs ≤ 100 * (b ^ n - 1) ∧ -(100 * (b ^ n - 1)) ≤ rowN b rs
  | 0, rs, hl, _ => by
    have : rs = [] := List.eq_nil_of_length_eq_zero hl
    subst this
    simp [rowN]
  | n + 1, rs, hl, hd => by
    have e := take_snoc (rs := rs) (i := n) (by omega)
    rw [List.take_of_length_le (by omega)] at e
    have l1 : (rs.take n).length = n := by rw [List.length_take]; omega
    have ih := rowN_le h2 n (rs.take n) l1 fun d h => hd d (List.mem_of_mem_take h)
    have hm : rs.getD n 0 ∈ rs := by
      rw [List.getD_eq_getElem?_getD, List.getElem?_eq_getElem (by omega : n < rs.length)]
      exact List.getElem_mem _
    have hx := hd _ hm
    rw [e, rowN_snoc, Int.pow_succ]
    generalize rowN b (rs.take n) = t at ih
    have eq : 100 * (b ^ n * b - 1) = 100 * (b ^ n - 1) * b + (100 * b - 100) := by rw [Int.mul_sub, Int.mul_sub, Int.sub_mul, Int.mul_assoc]; omega
    generalize 100 * (b ^ n - 1) = c at ih eq
    rw [eq]
    have u1 : t * b ≤ c * b := Int.mul_le_mul_of_nonneg_right ih.1 (by omega)
    have u2 : (-c) * b ≤ t * b := Int.mul_le_mul_of_nonneg_right ih.2 (by omega)
    rw [Int.neg_mul] at u2
    omega
theorem frN_le {a b : Int} (hb : 0 < b) : (frN a b).natAbs ≤ a.natAbs ∧ (frD a b).natAbs ≤ b.natAbs := by
  unfold frN frD
  rw [if_neg (by omega), if_neg (by omega)]
  exact ⟨Int.natAbs_ediv_le_natAbs _ _, Int.natAbs_ediv_le_natAbs _ _⟩
theorem sum_step {b d : Int} {i : Nat} (h2 : 2 ≤ b) (R : Int) :
    frN (frN R (b ^ i) * frD d (b ^ (i + 1)) + frN d (b ^ (i + 1)) * frD R (b ^ i)) (frD R (b ^ i) * frD d (b ^ (i + 1))) = frN (R * b + d) (b ^ (i + 1)) ∧
    frD (frN R (b ^ i) * frD d (b ^ (i + 1)) + frN d (b ^ (i + 1)) * frD R (b ^ i)) (frD R (b ^ i) * frD d (b ^ (i + 1))) = frD (R * b + d) (b ^ (i + 1)) := by
  obtain ⟨l1, e1⟩ := fr_spec R (pow_pos' h2 i)
  obtain ⟨l2, e2⟩ := fr_spec d (pow_pos' h2 (i + 1))
  have p1 := l1.pos
  have p2 := l2.pos
  refine fr_eq (Int.mul_ne_zero (by omega) (by omega)) (pow_pos' h2 _) ?_
  have ep : b ^ (i + 1) = b ^ i * b := Int.pow_succ b i
  generalize frN R (b ^ i) = N at *
  generalize frD R (b ^ i) = D at *
  generalize frN d (b ^ (i + 1)) = N' at *
  generalize frD d (b ^ (i + 1)) = D' at *
  calc (N * D' + N' * D) * b ^ (i + 1) = N * D' * b ^ (i + 1) + (N' * b ^ (i + 1)) * D := by rw [Int.add_mul]; congr 1; ac_rfl
    _ = (N * b ^ i) * (b * D') + (N' * b ^ (i + 1)) * D := by congr 1; rw [ep]; ac_rfl
    _ = (R * D) * (b * D') + (d * D') * D := by rw [e1, e2]
    _ = (R * b + d) * (D * D') := by rw [Int.add_mul]; congr 1 <;> ac_rfl
theorem fr_zero (b : Int) : frN (rowN b []) (b ^ 0) = 0 ∧ frD (rowN b []) (b ^ 0) = 1 := by
  rw [Int.pow_zero, show rowN b [] = 0 from rfl]
  exact ⟨by decide, by decide⟩
theorem shapedTup (ds : List Int) : SeqAt.shaped (.tuple (ds.map PyData.int)) = true := by
  unfold SeqAt.shaped
  have h1 : (PyData.tuple (ds.map PyData.int)).canLay0 = true := by
    have := layInts ds
    simpa [PyData.canLay0] using this
  have h2 : (PyData.tuple (ds.map PyData.int)).depth ≤ 64 := by
    have := depInts ds
    simp only [PyData.depth]
    omega
  rw [h1, decide_eq_true h2]
  rfl
theorem eqvTup (ds : List Int) : PyData.eqv (.tuple (ds.map PyData.int)) (.tuple (ds.map PyData.int)) = true := SeqAt.eqv_refl _ (SeqAt.canLay_of_shaped (shapedTup ds))
theorem dig_le {b : Int} {ds : List Int} (h : Dig b ds) : ∀ d ∈ ds, -99 ≤ d ∧ d ≤ 99 := by
  intro d hd
  obtain ⟨i, hi, rfl⟩ := List.getElem_of_mem hd
  have e : ds[i] = ds.getD i 0 := by rw [List.getD_eq_getElem?_getD, List.getElem?_eq_getElem hi]; rfl
  have a1 := asc_le (asc_le_of h.asc) (Nat.zero_le i) hi
  have a2 := asc_le (asc_le_of h.asc) (i := i) (j := ds.length - 1) (by omega) (by omega)
  have := h.are.lo
  have := h.are.hi
  unfold firstI at *
  unfold lastI at *
  rw [e]
  omega
theorem noneRow : NoneTag "InvalidRow" := ⟨by decide +kernel, by decide +kernel, by decide +kernel, by decide +kernel, by decide +kernel, by decide +kernel⟩
theorem cut9 (xs : List V) : cutV xs none (some 9) = xs.take 9 := by
  unfold cutV
  have e := HT.sIx_nat xs.length xs.length 9
  rw [show (some (9 : Int)) = some ((9 : Nat) : Int) from rfl, e, HT.sIx_none]
  simp
theorem whole9 {xs : List V} (h : HT.sIx xs.length 0 none = 0 ∧ HT.sIx xs.length xs.length (some (9 : Int)) = xs.length) : xs.take 9 = xs := by
  have e := HT.sIx_nat xs.length xs.length 9
  have z := h.2
  rw [show (some (9 : Int)) = some ((9 : Nat) : Int) from rfl, e] at z
  exact List.take_of_length_le (by omega)
end Ew
namespace Ew
open PySem PySem.Spec PyProof.Rows L2
/-! ## repr(o) by an own __repr__ -/
@[irreducible] def rReprO (C : Addr) (sp : Sp) : List V → Hp → VK → Prop := fun vs H Q => ∃ (a dx : Addr) (fs : List (Str × V)), vs = [.ref a] ∧ H a = some (.ins C dx fs) ∧ sp [.ref a] H (fun v G => ∃ z : Str, v = .str z ∧ Q (.str z) G) E0
theorem cr_reprO {X : Cx} {C f : Addr} {fd : FuncData} {k : Nat} {ps : List Str} {sp : Sp} (hs : PySem.W.findIn X.K (.ref C) "__repr__" = some (some (.ref f))) (hf : PySem.W.isFn X.K (.ref f) = true) (F : FnOk X.prog X.w X.K X.mg X.base CX0 k f fd ps sp) (hr : Room (k + 1) X.A) (hb : Binds X.K fd ps []) :
    CallR X (.builtin "repr") (rReprO C sp) := by
  intro pins s σ H vs us Q I r h
  unfold rReprO at h
  obtain ⟨a, dx, fs, rfl, ha, hsp⟩ := h
  rw [Vals.ref1 r]
  obtain ⟨mA, O, _⟩ := ins_get I.hok ha
  obtain ⟨od, J, _⟩ := O.look
  obtain ⟨m, fr⟩ := I.fr
  refine PySem.W.repr_K hr.in1.units0 fr I.ok.mod.kin J hs hf ?_
  have hl : [Value.ref a].length = ps.length := F.len _ _ _ _ hsp
  have hbs := hb s [.ref a] I.kIn (by rw [List.append_nil]; exact hl)
  rw [List.append_nil] at hbs
  refine wpAny_call (codeAny_mono (F.run X.A.in1 X.stack s H ⟨[.ref a], []⟩ [.ref a] [.ref a] _ _ hr.in1 I.env0.in1 hbs (.cons rfl .nil) hsp) fun res z hq => ?_)
  cases res with
  | error er => exact (show False from hq).elim
  | ok fl =>
    cases fl with
    | ret u =>
      obtain ⟨v, G, J2, rv, n, ev, q⟩ := I.after hq
      subst ev
      obtain ⟨t, rfl⟩ := rv
      exact ⟨.str n, G, J2, ⟨_, rfl⟩, q⟩
    | next => exact False.elim hq
    | brk => exact False.elim hq
    | cont => exact False.elim hq
/-! ## == by an own __eq__, both answers -/
/-- what stands right of ==: an instance of the class, or a thing of another type -/
def RightOf (K : PySem.W.Frag) (C : Addr) (H : Hp) (y : V) : Prop := (∃ (b dy : Addr) (gs : List (Str × V)), y = .ref b ∧ H b = some (.ins C dy gs)) ∨ ∃ t, TyX K H y t ∧ PySem.W.notFirst K C t = true
def rEqO (K : PySem.W.Frag) (C : Addr) (sp : Sp) : R2 := fun x y H Q => ∃ (a dx : Addr) (fs : List (Str × V)), x = .ref a ∧ H a = some (.ins C dx fs) ∧ RightOf K C H y ∧ sp [x, y] H (fun v G => ∃ b : Bool, v = .bl b ∧ Q (.bl b) G) E0
theorem op_eqO {X : Cx} {C f : Addr} {fd : FuncData} {k : Nat} {ps : List Str} {sp : Sp} (hs : PySem.W.findIn X.K (.ref C) "__eq__" = some (some (.ref f))) (hf : PySem.W.isFn X.K (.ref f) = true) (F : FnOk X.prog X.w X.K X.mg X.base CX0 k f fd ps sp) (hr : Room k X.A) (hb : Binds X.K fd ps []) :
    OpR X (compareOp .Eq) (rEqO X.K C sp) := by
  intro pins s σ H x y v u Q I rx ry h
  obtain ⟨a, dx, fs, rfl, ha, hy, hsp⟩ := h
  cases rx
  show wpAny (model X.prog X.w) X.A (richCompare .Eq (.ref a) u) (EP X pins σ Q) X.xe s
  obtain ⟨mA, O, _⟩ := ins_get I.hok ha
  obtain ⟨od, J, _⟩ := O.look
  obtain ⟨m, fr⟩ := I.fr
  have hl : [Value.ref a, u].length = ps.length := F.len _ _ _ _ hsp
  have hbs := hb s [.ref a, u] I.kIn (by rw [List.append_nil]; exact hl)
  rw [List.append_nil] at hbs
  have body : wpAny (model X.prog X.w) X.A (call (.ref f) [.ref a, u]) (PySem.W.CmpBack (EP X pins σ Q)) X.xe s := by
    refine wpAny_call (codeAny_mono (F.run X.A X.stack s H ⟨[.ref a, u], []⟩ [.ref a, u] _ _ _ hr I.env0 hbs (.cons (show L2.RelV (.ref a) (.ref a) from rfl) (.cons ry .nil)) hsp) fun res z hq => ?_)
    cases res with
    | error er => exact (show False from hq).elim
    | ok fl =>
      cases fl with
      | ret u =>
        obtain ⟨v, G, J2, rv, b, ev, q⟩ := I.after hq
        subst ev
        cases rv
        exact ⟨.bl b, G, J2, rfl, q⟩
      | next => exact False.elim hq
      | brk => exact False.elim hq
      | cont => exact False.elim hq
  rcases hy with ⟨b, dy, gs, rfl, hy⟩ | ⟨t, ty, hn⟩
  · cases ry
    obtain ⟨mB, O', _⟩ := ins_get I.hok hy
    obtain ⟨od', J', _⟩ := O'.look
    exact PySem.W.cmp_K (op := .Eq) (tb := .ref C) hr.units0 fr I.ok.mod.kin J J'.type (by simp [PySem.W.notFirst]) hs hf body
  · obtain ⟨PP, Z, hp, _⟩ := kit_of I ry ty
    exact PySem.W.cmp_K (op := .Eq) (tb := t) hr.units0 fr I.ok.mod.kin J (Z.ty _ _ I.kIn hp) hn hs hf body
/-! ## != by an own __eq__ -/
def rNeO (C : Addr) (sp : Sp) : R2 := fun x y H Q => ∃ (a dx b dy : Addr) (fs gs : List (Str × V)), x = .ref a ∧ y = .ref b ∧ H a = some (.ins C dx fs) ∧ H b = some (.ins C dy gs) ∧ sp [x, y] H (fun v G => ∃ b : Bool, v = .bl b ∧ Q (.bl (!b)) G) E0
/-- the class's own text, with == and without != -/
structure EqNe (K : PySem.W.Frag) (C f : Addr) (nm q : Str) (N : Addr) (bs sub : List Value) (hdct ab : Bool) (sn : List Str) (col : Option Bool) (dd : Option Addr) (k0 k1 k2 k3 k5 : Option Value) (newId : String) (of : Obj) (oc : Value) (od : Option Addr) (es : Array DictEntry) (ep : Nat) (sl : Array (Option Value)) : Prop where
  c : K.lookup C = some (excClassObj nm q C N bs [.type "object"] hdct sn sub ab col dd k0 k1 k2 k3 k5 newId)
  n : K.lookup N = some ⟨oc, od, .dict es ep, sl⟩
  keys : StrKeys es
  eq : nsFind es "__eq__" = some (.ref f)
  ne : nsFind es "__ne__" = none
  f : K.lookup f = some of
  fc : of.cls = .type "function"
def HasEqNe (K : PySem.W.Frag) (C f : Addr) : Prop := ∃ nm q N bs sub hdct ab sn col dd k0 k1 k2 k3 k5 newId of oc od es ep sl, EqNe K C f nm q N bs sub hdct ab sn col dd k0 k1 k2 k3 k5 newId of oc od es ep sl
theorem eq_lk : ∃ y, typeLookup (.type "object") "__eq__" = pure y := ⟨_, PySem.F.cmp_object.eq.lookup⟩
theorem op_neO {X : Cx} {C f : Addr} {fd : FuncData} {k : Nat} {ps : List Str} {sp : Sp} (hE : HasEqNe X.K C f) (F : FnOk X.prog X.w X.K X.mg X.base CX0 k f fd ps sp) (hr : Room (k + 1) X.A) (hb : Binds X.K fd ps []) :
    OpR X (compareOp .NotEq) (rNeO C sp) := by
  intro pins s σ H x y v u Q I rx ry h
  obtain ⟨a, dx, b, dy, fs, gs, rfl, rfl, ha, hb', hsp⟩ := h
  cases rx
  cases ry
  obtain ⟨nm, q, N, bs, sub, hdct, ab, sn, col, dd, k0, k1, k2, k3, k5, newId, of, oc, od, es, ep, sl, E⟩ := hE
  obtain ⟨mA, O, _⟩ := ins_get I.hok ha
  obtain ⟨od1, J, _⟩ := O.look
  obtain ⟨mB, O', _⟩ := ins_get I.hok hb'
  obtain ⟨od2, J', _⟩ := O'.look
  obtain ⟨y0, hy0⟩ := eq_lk
  have kin := I.kIn
  have own : s.heap.OwnEqNoNe a C f "object" [.type "object"] := ⟨_, of, nm, q, N, bs, hdct, sn, sub, ab, col, dd, k0, k1, k2, k3, k5, newId, nsFind es, y0, J.at_, J.cls, kin _ _ E.c, ⟨_, es, ep, kin _ _ E.n, rfl, E.keys, fun _ => rfl⟩, E.eq, kin _ _ E.f, E.fc, PySem.F.cmp_object.mro, hy0, E.ne⟩
  have hl : [Value.ref a, Value.ref b].length = ps.length := F.len _ _ _ _ hsp
  have hbs := hb s [.ref a, .ref b] I.kIn (by rw [List.append_nil]; exact hl)
  rw [List.append_nil] at hbs
  obtain ⟨hp, g, d, tk, os⟩ := s
  refine compareOp_ne_ownEq PySem.F.cmp_object own J'.at_ J'.cls (by have := hr.units; omega) ?_
  refine wpAny_call (codeAny_mono (F.run X.A.in1 X.stack _ H ⟨[.ref a, .ref b], []⟩ [.ref a, .ref b] [.ref a, .ref b] _ _ hr.in1 I.env0.in1 hbs (.cons rfl (.cons rfl .nil)) hsp) fun res z hq => ?_)
  cases res with
  | error er => exact (show False from hq).elim
  | ok fl =>
    cases fl with
    | ret u =>
      obtain ⟨v, G, J2, rv, c, ev, q⟩ := I.after hq
      subst ev
      cases rv
      exact ⟨c, rfl, .bl (!c), G, J2, rfl, q⟩
    | next => exact False.elim hq
    | brk => exact False.elim hq
    | cont => exact False.elim hq
end Ew
namespace Ew
open PySem PySem.Spec PyProof.Rows L2
theorem eqvAll_ints : ∀ s s' : List Int, PyData.eqvAll (s.map PyData.int) (s'.map PyData.int) = decide (s = s')
  | [], [] => by simp [PyData.eqvAll]
  | [], b :: s' => by simp [PyData.eqvAll]
  | a :: s, [] => by simp [PyData.eqvAll]
  | a :: s, b :: s' => by
    have ih := eqvAll_ints s s'
    simp only [List.map_cons, PyData.eqvAll, PyData.eqv, ih]
    by_cases h : a = b
    · subst h
      by_cases h2 : s = s' <;> simp [h2]
    · simp [h]
theorem eqv_tup2 (s s' : List Int) : PyData.eqv (.tuple (s.map PyData.int)) (.tuple (s'.map PyData.int)) = decide (s = s') := by rw [PyData.eqv]; exact eqvAll_ints s s'
theorem eqv_lst2 (s s' : List Int) : PyData.eqv (.list (s.map PyData.int)) (.list (s'.map PyData.int)) = decide (s = s') := by rw [PyData.eqv]; exact eqvAll_ints s s'
end Ew
namespace Ew
open PySem PySem.Spec PyProof.Rows L2
/-- a comprehension's turn without a test -/
theorem tyes {σ : L2.St} {H : Hp} {A B : Hp → Prop} (h : A H) : tYes σ H (fun b G => if b = true then A G else B G) := by
  show (if true = true then A H else B H)
  rw [if_pos rfl]
  exact h
theorem RngAt.off {G : Hp} {p q d : Addr} {ns : List Int} {i v sd : Int} {o : HO} (R : RngAt G p q ns i v sd) (h1 : d ≠ p) (h2 : d ≠ q) : RngAt (upd G d o) p q ns i v sd :=
  ⟨by rw [upd_ne h1.symm]; exact R.at_p, by rw [upd_ne h2.symm]; exact R.at_q, R.len, R.ok, R.ne⟩
theorem RngAt.freeq {G : Hp} {p q d : Addr} {ns : List Int} {i v sd : Int} (R : RngAt G p q ns i v sd) (h : G d = none) : d ≠ q := fun e => by
  have z := R.at_q
  rw [← e, h] at z
  cases z
end Ew
namespace K14
open PySem PySem.Spec PyProof.Rows L2 Ew
def top (i : Nat) : Stmt := PySem.Challenge.pw_earlywrite_k14_names.main.body.getD i (.Pass ⟨0, 0, 0, 0⟩)
abbrev sIsName : Stmt := top 5
abbrev sBegin : Stmt := top 7
abbrev sDraw : Stmt := top 8
abbrev sPick : Stmt := top 9
abbrev sSame : Stmt := top 10
abbrev sLawLetters : Stmt := top 11
abbrev sLawIsName : Stmt := top 12
abbrev sLaw : Stmt := top 13
section
variable {P : Program} {w : World} {K : PySem.W.Frag} {mg : Str → Option Value} {base : Heap}
structure TxtR (mg : Str → Option Value) : Prop where
  len : mg "len" = none
  list : mg "list" = none
/-! ## _law_begin -/
def spBegin (K : PySem.W.Frag) : Sp := fun vs H Q _ => ∃ (a : Addr) (ns : List Int), vs = [.ref a] ∧ SqL K H a (ns.map V.int) ∧ ns.length ≤ 63 ∧
  ∀ (G : Hp) (p q : Addr) (sd : Int), Same H G → RngAt G p q ns 0 0 sd → H p = none → H q = none → Q (.ref p) G
theorem scBegin : FnScope ["_law_script", "_law_seed", "_law_cell"] ["_law_script"] (defScope sBegin) := ⟨rfl, rfl, rfl, by decide +kernel, rfl, by decide +kernel, by decide +kernel⟩
theorem ok_begin {f : Addr} {fd : FuncData} (F : Fun K "_law_begin" "_law_begin" sBegin f fd) (T : TxtR mg) : FnOk P w K mg base CX0 1 f fd ["_law_script"] (spBegin K) := by
  refine F.ok scBegin (fun vs H Q E h => ?_) (fun cdv A outer s H vs Q E hr h => ?_)
  · obtain ⟨a, ns, rfl, _⟩ := h
    rfl
  · obtain ⟨a, ns, rfl, hS, hl, k⟩ := h
    refine ⟨_, pss_cons (ps_set (i := 1) scBegin.nd rfl (Or.inl rfl) (pe_op op_add pe_int (pe_callB call_len_seq (by rfl) T.len PySem.boot_len (pa_cons (pe_slice sl_list (pv 0) po_none (po_some pe_int)) pa_nil))))
      (pss_cons (ps_for PassesOwn.never rfl (pi_list (pe_slice sl_list (pv 0) po_none (po_some pe_int))) (pg_name (i := 2) scBegin.nd rfl (Or.inl rfl))
        (pss_one (ps_set (i := 1) scBegin.nd rfl (Or.inl rfl) (pe_op op_mod (pe_op op_add (pe_op op_add (pe_op op_mul (pv 1) pe_int) (pe_op op_mod (pv 2) pe_int)) pe_int) pe_int))))
      (pss_one (ps_ret (pe_lst (pa_cons (pe_callTy call_list_of (by rfl) T.list (by decide +kernel) (pa_cons (pe_slice sl_list (pv 0) po_none (po_some pe_int)) pa_nil)) (pa_cons pe_int (pa_cons pe_int (pa_cons (pv 1) pa_nil)))))))), ?_⟩
    refine ⟨_, rfl, _, rfl, a, _, rfl, hS, fun p1 n1 => ?_⟩
    rw [cut63 hl]
    have s1 : Same H (upd H p1 (.lst (ns.map V.int))) := fun b o e => by rw [upd_ne (ne_of_none e n1)]; exact e
    refine ⟨p1, _, rfl, .inl (SqL.of upd_same), _, _, rfl, rfl, ?_⟩
    refine ⟨_, rfl, _, rfl, a, _, rfl, s1.seq hS, fun p2 n2 => ?_⟩
    rw [cut63 hl]
    have s2 : Same H (upd (upd H p1 (.lst (ns.map V.int))) p2 (.lst (ns.map V.int))) := fun b o e => by rw [upd_ne (ne_of_none (s1 b o e) n2)]; exact s1 b o e
    refine ⟨p2, rfl, ⟨_, SqL.of upd_same⟩, for_list (K := K) (a := p2) (xs := ns.map V.int) (fun i σ G => G = upd (upd H p1 (.lst (ns.map V.int))) p2 (.lst (ns.map V.int)) ∧ ∃ (sd : Int) (c : Option V), σ = [some (.ref a), some (.int sd), c] ∧ 0 ≤ sd ∧ sd < 2147483549)
      ⟨rfl, _, none, rfl, ?_, ?_⟩ (fun i σ G _ ⟨e, _⟩ => by rw [e]; exact SqL.of upd_same) ?_ ?_⟩
    · rw [List.length_map]; omega
    · rw [List.length_map]; omega
    · rintro i y σ G hi ⟨rfl, sd, c, rfl, h0, h1⟩
      obtain ⟨z, rfl⟩ := map_int_at hi
      refine ⟨_, rfl, sd, 40009, rfl, rfl, mul_small (by omega) (by omega), _, rfl, z, 2147483549, rfl, rfl, (by show (0 : Int) < 2147483549; decide), _, _, rfl, rfl, _, _, rfl, rfl, _, _, rfl, rfl, (by show (0 : Int) < 2147483549; decide), ?_⟩
      exact ⟨rfl, _, _, rfl, Int.emod_nonneg _ (by decide), Int.emod_lt_of_pos _ (by decide)⟩
    · rintro σ G ⟨rfl, sd, c, rfl, h0, h1⟩
      refine ⟨_, rfl, _, rfl, a, _, rfl, s2.seq hS, fun p3 n3 => ?_⟩
      rw [cut63 hl]
      have s3 := s2.trans (H2 := upd (upd (upd H p1 (.lst (ns.map V.int))) p2 (.lst (ns.map V.int))) p3 (.lst (ns.map V.int))) fun b o e => by rw [upd_ne (ne_of_none e n3)]; exact e
      refine ⟨p3, _, rfl, .inl (SqL.of upd_same), fun q n4 => ?_⟩
      have s4 := s3.trans (H2 := upd (upd (upd (upd H p1 (.lst (ns.map V.int))) p2 (.lst (ns.map V.int))) p3 (.lst (ns.map V.int))) q (.lst (ns.map V.int))) fun b o e => by rw [upd_ne (ne_of_none e n4)]; exact e
      refine ⟨_, rfl, (by show 4 ≤ sizeLine; decide), fun p n5 => ?_⟩
      have nqp : q ≠ p := fun e => by rw [← e, upd_same] at n5; cases n5
      refine k _ p q sd (fun b o e => by rw [upd_ne (ne_of_none (s4 b o e) n5)]; exact s4 b o e) ⟨upd_same, ?_, hl, ⟨by omega, by omega, h0, h1⟩, nqp⟩ (s4.free n5) (s3.free n4)
      rw [upd_ne nqp, upd_same]
/-! ## _law_draw -/
def spDraw : Sp := fun vs H Q _ => ∃ (p q : Addr) (ns : List Int) (i v sd many : Int), vs = [.ref p, .int many] ∧ RngAt H p q ns i v sd ∧ 0 < many ∧ many.natAbs < 2 ^ 8000 ∧
  ∀ r i' v' sd' : Int, 0 ≤ r → r < many → RngOk i' v' sd' → Q (.int r) (upd H p (.lst (rngL q i' v' sd')))
theorem scDraw : FnScope ["_law_rng", "_law_many", "_law_cell", "_law_got", "_law_seed"] ["_law_rng", "_law_many"] (defScope sDraw) := ⟨rfl, rfl, rfl, by decide +kernel, rfl, by decide +kernel, by decide +kernel⟩
theorem ok_draw {f : Addr} {fd : FuncData} (F : Fun K "_law_draw" "_law_draw" sDraw f fd) (T : TxtR mg) : FnOk P w K mg base CX0 1 f fd ["_law_rng", "_law_many"] spDraw := by
  refine F.ok scDraw (fun vs H Q E h => ?_) (fun cdv A outer s H vs Q E hr h => ?_)
  · obtain ⟨p, q, ns, i, v, sd, many, rfl, _⟩ := h
    rfl
  · obtain ⟨p, q, ns, i, v, sd, many, rfl, R, hm, hmz, k⟩ := h
    refine ⟨_, C8.pss_cut (ps_if (PW.pt (pw_and (pt_cmpR op_eq (pe_ix ix_list (pv 0) pe_int (fun _ _ => rfl)) pe_int (nomark _)) (pw_and1 (pt_cmpR op_lt (pe_ix ix_list (pv 0) pe_int (fun _ _ => rfl)) (pe_callB call_len_seq (by rfl) T.len PySem.boot_len (pa_cons (pe_ix ix_list (pv 0) pe_int (fun _ _ => rfl)) pa_nil)) (nomark _)))))
        (pss_cons (ps_set (i := 2) scDraw.nd rfl (Or.inl rfl) (pe_ix ix_list (pe_ix ix_list (pv 0) pe_int (fun _ _ => rfl)) (pe_ix ix_list (pv 0) pe_int (fun _ _ => rfl)) (fun _ _ => rfl)))
        (pss_cons (ps_asg (pe_op op_add (pe_ix ix_list (pv 0) pe_int (fun _ _ => rfl)) pe_int) (pg_sub (pv 0) pe_int set_list))
        (pss_one (ps_if (pt_cmpR op_ge (pv 2) (pe_op op_pow pe_int pe_int) (nomark _)) (pss_one (ps_asg (pv 2) (pg_sub (pv 0) pe_int set_list)))
          (pss_one (ps_asg (pe_op op_mod (pe_op op_add (pe_op op_add (pe_op op_mul (pe_ix ix_list (pv 0) pe_int (fun _ _ => rfl)) pe_int) (pe_op op_mul (pe_op op_mod (pv 2) pe_int) pe_int)) pe_int) pe_int) (pg_sub (pv 0) pe_int set_list)))))))
        pss_nil)
      (pss_cons (ps_if (pt_cmpR op_gt (pe_ix ix_list (pv 0) pe_int (fun _ _ => rfl)) pe_int (nomark _))
        (pss_cons (ps_set (i := 3) scDraw.nd rfl (Or.inl rfl) (pe_op op_mod (pe_ix ix_list (pv 0) pe_int (fun _ _ => rfl)) (pv 1)))
        (pss_cons (ps_asg (pe_op op_fdivW (pe_ix ix_list (pv 0) pe_int (fun _ _ => rfl)) (pv 1)) (pg_sub (pv 0) pe_int set_list))
        (pss_one (ps_ret (pv 3))))) pss_nil)
      (pss_cons (ps_set (i := 4) scDraw.nd rfl (Or.inl rfl) (pe_ix ix_list (pv 0) pe_int (fun _ _ => rfl)))
      (pss_cons (ps_asg (pe_op op_mod (pe_op op_add (pe_op op_add (pe_op op_mul (pv 4) (pe_op op_add (pe_op op_mod (pv 4) pe_int) pe_int)) (pe_op op_mul (pv 4) pe_int)) pe_int) pe_int) (pg_sub (pv 0) pe_int set_list))
      (pss_one (ps_ret (pe_op op_mod (pe_op op_add (pe_op op_fdiv (pe_ix ix_list (pv 0) pe_int (fun _ _ => rfl)) pe_int) (pe_op op_mul (pe_op op_mod (pe_ix ix_list (pv 0) pe_int (fun _ _ => rfl)) pe_int) pe_int)) (pv 1))))))), ?_⟩
    refine ⟨fun σ G => ∃ (c : Option V) (i' v' sd' : Int), σ = [some (.ref p), some (.int many), c, none, none] ∧ RngOk i' v' sd' ∧ G = upd H p (.lst (rngL q i' v' sd')), ?_, ?_⟩
    · obtain ⟨i0, v0, sd0, sd1⟩ := R.ok
      refine ⟨_, rfl, p, _, _, _, rfl, rfl, SqL.of R.at_p, rng_2, rfl, _, rfl, ?_⟩
      by_cases c1 : v = 0
      · subst c1
        refine ifT (decide_eq_true rfl) ?_
        refine ⟨_, rfl, p, _, _, _, rfl, rfl, SqL.of R.at_p, rng_1, _, rfl, p, _, _, _, rfl, rfl, SqL.of R.at_p, rng_0, q, _, rfl, .inl (SqL.of R.at_q), _, _, rfl, rfl, _, rfl, ?_⟩
        rw [List.length_map]
        by_cases c2 : i < (ns.length : Int)
        · refine ifT (decide_eq_true c2) ?_
          obtain ⟨c, hc, hat⟩ := get_int i0 c2
          refine ⟨_, rfl, p, _, _, _, rfl, rfl, SqL.of R.at_p, rng_0, _, rfl, p, _, _, _, rfl, rfl, SqL.of R.at_p, rng_1, q, _, _, _, rfl, rfl, SqL.of R.at_q, hat, ?_⟩
          refine ⟨_, rfl, p, _, _, _, rfl, rfl, SqL.of R.at_p, rng_1, _, _, rfl, rfl, _, rfl, p, _, _, 1, rfl, rfl, R.at_p, rfl, ?_⟩
          refine ⟨_, rfl, _, _, rfl, rfl, (by show (0 : Int) ≤ 18 ∧ (18 : Int) ≤ 1000000 ∧ (10 : Int).natAbs < 2 ^ 64; decide), _, _, rfl, rfl, _, rfl, ?_⟩
          by_cases c3 : (10 : Int) ^ (18 : Int).toNat ≤ c
          · refine ifT (decide_eq_true c3) ?_
            refine ⟨_, rfl, _, rfl, p, _, _, 2, rfl, rfl, upd_same, rfl, ?_⟩
            refine ⟨_, i + 1, c, sd, rfl, ⟨by omega, ?_, sd0, sd1⟩, upd_upd⟩
            exact Int.le_trans (by decide) c3
          · refine ifF (decide_eq_false c3) ?_
            refine ⟨_, rfl, p, _, _, _, rfl, rfl, SqL.of upd_same, rfl, sd, 44111, rfl, rfl, mul_small (by omega) (by omega), _, rfl, c, 2147483549, rfl, rfl, (by show (0 : Int) < 2147483549; decide), c % 2147483549, 70001, rfl, rfl, ?_, _, _, rfl, rfl, _, _, rfl, rfl, _, _, rfl, rfl, (by show (0 : Int) < 2147483549; decide),
              _, rfl, p, _, _, 3, rfl, rfl, upd_same, rfl, ?_⟩
            · have := Int.emod_nonneg c (by decide : (2147483549 : Int) ≠ 0)
              have := Int.emod_lt_of_pos c (by decide : (0 : Int) < 2147483549)
              exact mul_small (by omega) (by omega)
            · exact ⟨_, i + 1, 0, _, rfl, ⟨by omega, by omega, Int.emod_nonneg _ (by decide), Int.emod_lt_of_pos _ (by decide)⟩, upd_upd⟩
        · exact ifF (decide_eq_false c2) ⟨none, i, 0, sd, rfl, R.ok, (upd_id R.at_p).symm⟩
      · exact ifF (eq_int c1) (iteF ⟨none, i, v, sd, rfl, R.ok, (upd_id R.at_p).symm⟩)
    · rintro σ G ⟨c, i', v', sd', rfl, ⟨i0, v0, s0, s1⟩, rfl⟩
      refine ⟨_, rfl, p, _, _, _, rfl, rfl, SqL.of upd_same, rng_2, _, _, rfl, rfl, _, rfl, ?_⟩
      by_cases c1 : 0 < v'
      · refine ifT (decide_eq_true c1) ?_
        refine ⟨_, rfl, p, _, _, _, rfl, rfl, SqL.of upd_same, rng_2, _, rfl, _, _, rfl, rfl, hm, ?_⟩
        refine ⟨_, rfl, p, _, _, _, rfl, rfl, SqL.of upd_same, rng_2, _, rfl, _, _, rfl, rfl, wide_div hm hmz (by decide) (by decide), _, rfl, p, _, _, 2, rfl, rfl, upd_same, rfl, _, rfl, ?_⟩
        rw [upd_upd]
        exact k _ i' _ sd' (Int.emod_nonneg _ (by omega)) (Int.emod_lt_of_pos _ hm) ⟨i0, Int.ediv_nonneg (by omega) (by omega), s0, s1⟩
      · refine ifF (decide_eq_false c1) ?_
        refine ⟨_, rfl, p, _, _, _, rfl, rfl, SqL.of upd_same, rng_3, ?_⟩
        refine ⟨_, rfl, _, rfl, sd', 65479, rfl, rfl, (by show (0 : Int) < 65479; decide), _, _, rfl, rfl, sd', _, rfl, rfl, mul_small (by omega) (by omega), _, rfl, sd', 40699, rfl, rfl, mul_small (by omega) (by omega), _, _, rfl, rfl, _, _, rfl, rfl, _, _, rfl, rfl, (by show (0 : Int) < 2147483549; decide),
          _, rfl, p, _, _, 3, rfl, rfl, upd_same, rfl, ?_⟩
        rw [upd_upd]
        have small : ∀ z : Int, CMul (z % 7919) 211 := fun z => by
          have := Int.emod_nonneg z (by decide : (7919 : Int) ≠ 0)
          have := Int.emod_lt_of_pos z (by decide : (0 : Int) < 7919)
          exact mul_small (by omega) (by omega)
        refine ⟨_, rfl, p, _, _, _, rfl, rfl, SqL.of upd_same, rfl, _, 67, rfl, rfl, ⟨by decide, by decide⟩, _, rfl, p, _, _, _, rfl, rfl, SqL.of upd_same, rfl, _, 7919, rfl, rfl, (by show (0 : Int) < 7919; decide), _, 211, rfl, rfl, small _, _, _, rfl, rfl, _, rfl, _, _, rfl, rfl, hm, ?_⟩
        exact k _ i' v' _ (Int.emod_nonneg _ (by omega)) (Int.emod_lt_of_pos _ hm) ⟨i0, v0, Int.emod_nonneg _ (by decide), Int.emod_lt_of_pos _ (by decide)⟩
/-! ## _law_pick -/
def spPick (K : PySem.W.Frag) : Sp := fun vs H Q _ => ∃ (p q l : Addr) (ns : List Int) (i v sd : Int) (xs : List V), vs = [.ref p, .ref l] ∧ RngAt H p q ns i v sd ∧ H l = some (.lst xs) ∧ l ≠ p ∧ xs ≠ [] ∧ xs.length ≤ 1000 ∧
  ∀ (x : V) (i' v' sd' : Int), x ∈ xs → RngOk i' v' sd' → Q x (upd H p (.lst (rngL q i' v' sd')))
structure TxtP (K : PySem.W.Frag) (mg : Str → Option Value) (fD : Addr) : Prop where
  len : mg "len" = none
  gD : mg "_law_draw" = some (.ref fD)
  kD : PySem.W.keepIn K (.ref fD) = true
theorem scPick : FnScope ["_law_rng", "_law_items"] ["_law_rng", "_law_items"] (defScope sPick) := ⟨rfl, rfl, rfl, by decide +kernel, rfl, by decide +kernel, by decide +kernel⟩
theorem ok_pick {f fD : Addr} {fd fdD : FuncData} (F : Fun K "_law_pick" "_law_pick" sPick f fd) (T : TxtP K mg fD) (FD : FnOk P w K mg base CX0 1 fD fdD ["_law_rng", "_law_many"] spDraw) (bD : Binds K fdD ["_law_rng", "_law_many"] []) :
    FnOk P w K mg base CX0 2 f fd ["_law_rng", "_law_items"] (spPick K) := by
  refine F.ok scPick (fun vs H Q E h => ?_) (fun cdv A outer s H vs Q E hr h => ?_)
  · obtain ⟨p, q, l, ns, i, v, sd, xs, rfl, _⟩ := h
    rfl
  · obtain ⟨p, q, l, ns, i, v, sd, xs, rfl, R, hl, nlp, hne, hlen, k⟩ := h
    refine ⟨_, pss_one (ps_ret (pe_ix ix_list (pv 1) (pe_call FD hr rfl T.gD T.kD bD .nil pass0 (pa_cons (pv 0) (pa_cons (pe_callB call_len_seq (by rfl) T.len PySem.boot_len (pa_cons (pv 1) pa_nil)) pa_nil))) (fun _ _ => rfl))), ?_⟩
    have hpos : 0 < xs.length := List.length_pos_iff.mpr hne
    have hbig : 1000 < 2 ^ 8000 := Nat.lt_of_lt_of_le (by decide : 1000 < 2 ^ 10) (Nat.pow_le_pow_right (by decide) (by decide))
    refine ⟨_, rfl, _, rfl, _, rfl, l, xs, rfl, .inl (SqL.of hl), p, q, ns, i, v, sd, (xs.length : Int), rfl, R, by omega, by omega, fun r i' v' sd' r0 r1 ok => ?_⟩
    obtain ⟨m, rfl⟩ := Int.eq_ofNat_of_zero_le r0
    have hm : m < xs.length := by omega
    exact ⟨l, xs, _, xs[m], rfl, rfl, SqL.of (by rw [upd_ne nlp]; exact hl), atI_nat (List.getElem?_eq_getElem hm), k _ i' v' sd' (List.getElem_mem hm) ok⟩
end
section
variable {P : Program} {w : World} {K : PySem.W.Frag} {mg : Str → Option Value} {base : Heap}
structure TxtS (K : PySem.W.Frag) (mg : Str → Option Value) (f : Addr) : Prop where
  isi : mg "isinstance" = none
  list : mg "list" = none
  tuple : mg "tuple" = none
  len : mg "len" = none
  all : mg "all" = none
  zip : mg "zip" = none
  bool : mg "bool" = none
  int : mg "int" = none
  str : mg "str" = none
  gS : mg "_law_same" = some (.ref f)
  kS : PySem.W.keepIn K (.ref f) = true
def spSame (K : PySem.W.Frag) (n : Nat) : Sp := fun vs H Q _ => ∃ x y : V, vs = [x, y] ∧ SameN K H n x y ∧ ∀ G, Same H G → Q (.bl true) G
theorem scSame : FnScope ["_law_found", "_law_due", "_law_one", "_law_other"] ["_law_found", "_law_due"] (defScope sSame) := ⟨rfl, rfl, rfl, by decide +kernel, rfl, by decide +kernel, by decide +kernel⟩
theorem ok_same {f : Addr} {fd : FuncData} (F : Fun K "_law_same" "_law_same" sSame f fd) (b : Binds K fd ["_law_found", "_law_due"] []) (T : TxtS K mg f) : ∀ n, FnOk P w K mg base CX0 n f fd ["_law_found", "_law_due"] (spSame K n)
  | 0 => ⟨fun _ _ _ _ h => by obtain ⟨_, _, _, h, _⟩ := h; exact h.elim, fun _ _ _ _ _ _ _ _ _ _ _ _ _ h => by obtain ⟨_, _, _, h, _⟩ := h; exact h.elim⟩
  | n + 1 => by
    have IH := ok_same F b T n
    refine F.ok scSame (fun vs H Q E h => ?_) (fun cdv A outer s H vs Q E hr h => ?_)
    · obtain ⟨x, y, rfl, _⟩ := h
      rfl
    · obtain ⟨x, y, rfl, hxy, k⟩ := h
      refine ⟨_, pss_cons (ps_if (PW.pt (pw_or (pt_cmpR op_isN (pv 1) pe_non (nomark _)) (pw_or1 (pt_cmpR op_isN (pv 0) pe_non (nomark _)))))
          (pss_one (ps_ret (pe_and (pe_cmpR op_isN (pv 0) pe_non (nomark _)) (pe_one (pe_cmpR op_isN (pv 1) pe_non (nomark _)))))) pss_nil)
        (pss_cons (ps_if (pt_val (pe_callB call_isiT (by rfl) T.isi (by decide +kernel) (pa_cons (pv 1) (pa_cons (pe_tup (pa_cons (pe_bltn (v := .ty "list") (by rfl) T.list (by decide +kernel) rfl) (pa_cons (pe_bltn (v := .ty "tuple") (by rfl) T.tuple (by decide +kernel) rfl) pa_nil))) pa_nil))))
          (pss_cons (ps_if (PW.pt (pw_or (pt_cmpR op_ne (pe_callB call_isi (by rfl) T.isi (by decide +kernel) (pa_cons (pv 0) (pa_cons (pe_bltn (v := .ty "list") (by rfl) T.list (by decide +kernel) rfl) pa_nil))) (pe_callB call_isi (by rfl) T.isi (by decide +kernel) (pa_cons (pv 1) (pa_cons (pe_bltn (v := .ty "list") (by rfl) T.list (by decide +kernel) rfl) pa_nil))) (nomark _))
              (pw_or1 (pt_cmpR op_ne (pe_callB call_isi (by rfl) T.isi (by decide +kernel) (pa_cons (pv 0) (pa_cons (pe_bltn (v := .ty "tuple") (by rfl) T.tuple (by decide +kernel) rfl) pa_nil))) (pe_callB call_isi (by rfl) T.isi (by decide +kernel) (pa_cons (pv 1) (pa_cons (pe_bltn (v := .ty "tuple") (by rfl) T.tuple (by decide +kernel) rfl) pa_nil))) (nomark _)))))
            (pss_one (ps_ret pe_bl)) pss_nil)
          (pss_one (ps_ret (pe_and (pe_cmpR op_eq (pe_callB call_len_seq (by rfl) T.len PySem.boot_len (pa_cons (pv 0) pa_nil)) (pe_callB call_len_seq (by rfl) T.len PySem.boot_len (pa_cons (pv 1) pa_nil)) (nomark _))
            (pe_one (pe_callB (cr_all rfl) (by rfl) T.all (by decide +kernel) (pa_cons
              (pe_lc (own := [("_law_one", 2), ("_law_other", 3)]) (g := gTup K 2 (gCons (gName 2) (gCons (gName 3) gNil))) (tt := tYes) (te := tCall (spSame K n) [] E0 (tCons (tVar 2) (tCons (tVar 3) tNil))) rfl scSame.nd (RZ.pi_zipA (by rfl) T.zip (pa_cons (pv 0) (pa_cons (pv 1) pa_nil)))
                (blkOk_by (N := ["_law_found", "_law_due", "_law_one", "_law_other"]) (sc := defScope sSame) (by decide +kernel))
                (fun _ _ _ _ _ => by exact pg_tup rfl (by exact pgs_cons (pg_name (i := 2) scSame.nd rfl (Or.inl rfl)) (by exact pgs_cons (pg_name (i := 3) scSame.nd rfl (Or.inl rfl)) pgs_nil)))
                (fun _ _ _ _ _ => pts_nil)
                (fun _ _ _ _ _ => by exact pe_call IH hr rfl T.gS T.kS b .nil pass0 (pa_cons (pv 2) (pa_cons (pv 3) pa_nil)))) pa_nil))))))) pss_nil)
        (pss_cons (ps_if (PW.pt (pw_or (pt_cmpR op_ne (pe_callB call_isi (by rfl) T.isi (by decide +kernel) (pa_cons (pv 0) (pa_cons (pe_bltn (v := .ty "bool") (by rfl) T.bool (by decide +kernel) rfl) pa_nil))) (pe_callB call_isi (by rfl) T.isi (by decide +kernel) (pa_cons (pv 1) (pa_cons (pe_bltn (v := .ty "bool") (by rfl) T.bool (by decide +kernel) rfl) pa_nil))) (nomark _))
              (pw_or1 (pt_cmpR op_ne (pe_callB call_isi (by rfl) T.isi (by decide +kernel) (pa_cons (pv 0) (pa_cons (pe_bltn (v := .ty "int") (by rfl) T.int (by decide +kernel) rfl) pa_nil))) (pe_callB call_isi (by rfl) T.isi (by decide +kernel) (pa_cons (pv 1) (pa_cons (pe_bltn (v := .ty "int") (by rfl) T.int (by decide +kernel) rfl) pa_nil))) (nomark _)))))
            (pss_one (ps_ret pe_bl)) pss_nil)
        (pss_one (ps_ret (pe_and (pe_cmpR op_eq (pe_callB call_isi (by rfl) T.isi (by decide +kernel) (pa_cons (pv 0) (pa_cons (pe_bltn (v := .ty "str") (by rfl) T.str (by decide +kernel) rfl) pa_nil))) (pe_callB call_isi (by rfl) T.isi (by decide +kernel) (pa_cons (pv 1) (pa_cons (pe_bltn (v := .ty "str") (by rfl) T.str (by decide +kernel) rfl) pa_nil))) (nomark _))
          (pe_one (pe_cmpR op_eq (pv 0) (pv 1) (nomark _)))))))), ?_⟩
      rcases hxy with ⟨rfl, hfl⟩ | ⟨a, c, xs, ys, rfl, rfl, hsq, hlen, hmax, hall⟩
      · by_cases hn : x = .non
        · subst hn
          refine ⟨_, rfl, rfl, _, rfl, iteT (iteT ?_)⟩
          exact ⟨_, rfl, rfl, _, rfl, iteT ⟨_, rfl, rfl, k H (Same.refl H)⟩⟩
        · obtain ⟨t, b1, b2, b3, ty, l1, l2, l3, l4, l5, sc⟩ : ∃ (t : String) (b1 b2 b3 : Bool), (∀ G, TyX K G x (.type t)) ∧ kitB t "list" = some false ∧ kitB t "tuple" = some false ∧ kitB t "bool" = some b1 ∧ kitB t "int" = some b2 ∧ kitB t "str" = some b3 ∧ scal x x = true := by
            cases x with
            | non => exact absurd rfl hn
            | bl z => exact ⟨"bool", true, true, false, fun _ => .base (.bl z), by decide +kernel, by decide +kernel, by decide +kernel, by decide +kernel, by decide +kernel, rfl⟩
            | int z => exact ⟨"int", false, true, false, fun _ => .base (.int z), by decide +kernel, by decide +kernel, by decide +kernel, by decide +kernel, by decide +kernel, rfl⟩
            | str z => exact ⟨"str", false, false, true, fun _ => .base (.str z), by decide +kernel, by decide +kernel, by decide +kernel, by decide +kernel, by decide +kernel, rfl⟩
            | byt z => cases hfl
            | flt z => cases hfl
            | ref z => cases hfl
            | ty z => cases hfl
          refine ⟨_, rfl, rfl, _, rfl, ifF (decide_eq_false hn) ⟨_, rfl, rfl, _, rfl, ifF (decide_eq_false hn) ?_⟩⟩
          refine ⟨_, rfl, (by show 2 ≤ sizeLine; decide), fun p hp => ⟨x, p, _, _, _, false, rfl, upd_same, paired2, ty _, kitLT l1 l2, _, rfl, iteF ?_⟩⟩
          refine ⟨_, rfl, x, _, _, _, b1, rfl, .ty _, ty _, kit_ty l3, _, rfl, x, _, _, _, b1, rfl, .ty _, ty _, kit_ty l3, rfl, _, rfl, ifF (ne_bl b1) ?_⟩
          refine ⟨_, rfl, x, _, _, _, b2, rfl, .ty _, ty _, kit_ty l4, _, rfl, x, _, _, _, b2, rfl, .ty _, ty _, kit_ty l4, rfl, _, rfl, ifF (ne_bl b2) ?_⟩
          refine ⟨_, rfl, x, _, _, _, b3, rfl, .ty _, ty _, kit_ty l5, _, rfl, x, _, _, _, b3, rfl, .ty _, ty _, kit_ty l5, rfl, _, rfl, ifT (decide_eq_true rfl) ?_⟩
          refine ⟨_, rfl, _, rfl, sc, ?_⟩
          have e : decide (x = x) = true := decide_eq_true rfl
          show Q (V.bl (decide (x = x))) _
          rw [e]
          exact k _ (same_upd (Same.refl H) hp)
      · have na : V.ref a ≠ V.non := fun z => nomatch z
        have nc : V.ref c ≠ V.non := fun z => nomatch z
        obtain ⟨t, bL, bT, tyA, tyC, hk, l1, l2⟩ : ∃ (t : String) (bL bT : Bool), (∀ G, Same H G → TyX K G (.ref a) (.type t)) ∧ (∀ G, Same H G → TyX K G (.ref c) (.type t)) ∧ PySem.W.kitAny K (.type t) [.type "list", .type "tuple"] = some true ∧ kitB t "list" = some bL ∧ kitB t "tuple" = some bT := by
          rcases hsq with ⟨p, q⟩ | ⟨p, q⟩
          · exact ⟨"list", true, false, fun G e => ty_list (e.seq p), fun G e => ty_list (e.seq q), kitL (by decide +kernel), by decide +kernel, by decide +kernel⟩
          · exact ⟨"tuple", false, true, fun G e => ty_tup (seqT e p), fun G e => ty_tup (seqT e q), kitLT (by decide +kernel) (by decide +kernel), by decide +kernel, by decide +kernel⟩
        have lenA : ∀ G, Same H G → SqL K G a xs ∨ SqT K G a xs := fun G e => hsq.imp (fun q => e.seq q.1) (fun q => seqT e q.1)
        have lenC : ∀ G, Same H G → SqL K G c ys ∨ SqT K G c ys := fun G e => hsq.imp (fun q => e.seq q.2) (fun q => seqT e q.2)
        refine ⟨_, rfl, rfl, _, rfl, ifF (decide_eq_false nc) ⟨_, rfl, rfl, _, rfl, ifF (decide_eq_false na) ?_⟩⟩
        refine ⟨_, rfl, (by show 2 ≤ sizeLine; decide), fun p hp => ?_⟩
        have s1 : Same H (upd H p (.tup [V.ty "list", V.ty "tuple"])) := same_upd (Same.refl H) hp
        refine ⟨_, p, _, _, _, true, rfl, upd_same, paired2, tyC _ s1, hk, _, rfl, iteT ?_⟩
        refine ⟨_, rfl, _, _, _, _, bL, rfl, .ty _, tyA _ s1, kit_ty l1, _, rfl, _, _, _, _, bL, rfl, .ty _, tyC _ s1, kit_ty l1, rfl, _, rfl, ifF (ne_bl bL) ?_⟩
        refine ⟨_, rfl, _, _, _, _, bT, rfl, .ty _, tyA _ s1, kit_ty l2, _, rfl, _, _, _, _, bT, rfl, .ty _, tyC _ s1, kit_ty l2, rfl, _, rfl, ifF (ne_bl bT) ?_⟩
        refine ⟨_, rfl, a, xs, rfl, lenA _ s1, _, rfl, c, ys, rfl, lenC _ s1, rfl, _, rfl, ifT (decide_eq_true (by rw [hlen])) ?_⟩
        have turn : ∀ (D : Addr) (i : Nat) (v : V) (G G' : Hp) (τ : L2.St), (upd H p (.tup [V.ty "list", V.ty "tuple"])) D = none → (Same (upd H p (.tup [V.ty "list", V.ty "tuple"])) G ∧ G D = some (.lst (List.replicate i (V.bl true)))) → i < xs.length →
            YPair (fun i => xs[i]?) (fun i => ys[i]?) i G v G' → τ = [some (V.ref a), some (V.ref c), none, none] →
            gTup K 2 (gCons (gName 2) (gCons (gName 3) gNil)) v τ G' fun σ2 H2 => wipe σ2 [2, 3] = wipe τ [2, 3] ∧ tYes σ2 H2 fun b H3 =>
              if b = true then tCall (spSame K n) [] E0 (tCons (tVar 2) (tCons (tVar 3) tNil)) σ2 H3 fun y H4 => ∃ acc, H4 D = some (.lst acc) ∧ acc.length < sizeLine ∧ (Same (upd H p (.tup [V.ty "list", V.ty "tuple"])) (upd H4 D (.lst (acc ++ [y]))) ∧ (upd H4 D (.lst (acc ++ [y]))) D = some (.lst (List.replicate (i + 1) (V.bl true))))
              else (Same (upd H p (.tup [V.ty "list", V.ty "tuple"])) H3 ∧ H3 D = some (.lst (List.replicate (i + 1) (V.bl true)))) := by
          rintro D i v G G' τ hD ⟨e1, e2⟩ hi ⟨U, u, z, rfl, hU, rfl, hu, hz⟩ rfl
          refine ⟨U, [u, z], rfl, SqT.of upd_same, rfl, _, _, rfl, _, _, rfl, rfl, rfl, ?_⟩
          refine iteT (B := Same (upd H p (.tup [V.ty "list", V.ty "tuple"])) (upd G U (.tup [u, z])) ∧ upd G U (.tup [u, z]) D = some (.lst (List.replicate (i + 1) (V.bl true)))) ⟨_, rfl, _, rfl, u, z, rfl, ?_, fun G2 e3 => ?_⟩
          · exact (hall i u z hu hz).same (s1.trans (same_upd e1 hU))
          · have e4 : G2 D = some (.lst (List.replicate i (V.bl true))) := e3 _ _ (by rw [upd_ne (ne_of_none e2 hU)]; exact e2)
            refine ⟨_, e4, by rw [List.length_replicate, sizeLine_eq]; omega, same_updN ((same_upd e1 hU).trans e3) hD, ?_⟩
            rw [upd_same, List.replicate_succ']
        have last : ∀ (D : Addr) (G : Hp), (Same (upd H p (.tup [V.ty "list", V.ty "tuple"])) G ∧ G D = some (.lst (List.replicate xs.length (V.bl true)))) → rAll K [V.ref D] G Q := fun D G ⟨e1, e2⟩ => by
          refine ⟨D, List.replicate xs.length true, rfl, SqL.of (by rw [map_rep]; exact e2), ?_⟩
          rw [all_true]
          exact k G (s1.trans e1)
        rcases hsq with ⟨hA, hC⟩ | ⟨hA, hC⟩
        · refine ⟨_, rfl, _, rfl, a, c, xs, ys, rfl, .inl ⟨s1.seq hA, s1.seq hC, fun D hD => ?_⟩⟩
          exact lc_it (walk_zip (n := xs.length) (by omega)) (fun i G => Same (upd H p (.tup [V.ty "list", V.ty "tuple"])) G ∧ G D = some (.lst (List.replicate i (V.bl true)))) ⟨same_upd (Same.refl _) hD, upd_same⟩
            (fun i G _ q => ⟨q.1.seq (s1.seq hA), q.1.seq (s1.seq hC)⟩) (fun i v G G' hi q y => turn D i v G G' _ hD q hi y rfl) (fun G q => last D G q)
        · refine ⟨_, rfl, _, rfl, a, c, xs, ys, rfl, .inr ⟨seqT s1 hA, seqT s1 hC, fun D hD => ?_⟩⟩
          exact lc_it (walk_zipT hlen) (fun i G => Same (upd H p (.tup [V.ty "list", V.ty "tuple"])) G ∧ G D = some (.lst (List.replicate i (V.bl true)))) ⟨same_upd (Same.refl _) hD, upd_same⟩
            (fun i G _ q => ⟨seqT q.1 (seqT s1 hA), seqT q.1 (seqT s1 hC)⟩) (fun i v G G' hi q y => turn D i v G G' _ hD q hi y rfl) (fun G q => last D G q)
end
/-- a def that stands at f and is called by its name -/
structure Def (P : Program) (w : World) (K : PySem.W.Frag) (mg : Str → Option Value) (base : Heap) (CX : CXT) (k : Nat) (x : Str) (f : Addr) (fd : FuncData) (ps : List Str) (sp : Sp) : Prop where
  ok : FnOk P w K mg base CX k f fd ps sp
  g : mg x = some (.ref f)
  k : PySem.W.keepIn K (.ref f) = true
  b : Binds K fd ps []

end K14
namespace K14
open PySem PySem.Spec PyProof.Rows L2 Ew
section
variable {P : Program} {w : World} {K : PySem.W.Frag} {mg : Str → Option Value} {base : Heap}
/-! ## _law_pick, of a list or of a text -/
def spPickA (K : PySem.W.Frag) : Sp := fun vs H Q _ => ∃ (p q : Addr) (ns : List Int) (i v sd : Int), RngAt H p q ns i v sd ∧
  ((∃ (l : Addr) (xs : List V), vs = [.ref p, .ref l] ∧ H l = some (.lst xs) ∧ l ≠ p ∧ xs ≠ [] ∧ xs.length ≤ 1000 ∧ ∀ (x : V) (i' v' sd' : Int), x ∈ xs → RngOk i' v' sd' → Q x (upd H p (.lst (rngL q i' v' sd')))) ∨
   (∃ z : Str, vs = [.ref p, .str z] ∧ 0 < z.length ∧ z.length ≤ 1000 ∧ ∀ (c : Nat) (i' v' sd' : Int), c ∈ z.cps.toList → RngOk i' v' sd' → Q (.str ⟨#[c]⟩) (upd H p (.lst (rngL q i' v' sd')))))
theorem ok_pickA {f fD : Addr} {fd fdD : FuncData} (F : Fun K "_law_pick" "_law_pick" sPick f fd) (T : TxtP K mg fD) (FD : FnOk P w K mg base CX0 1 fD fdD ["_law_rng", "_law_many"] spDraw) (bD : Binds K fdD ["_law_rng", "_law_many"] []) :
    FnOk P w K mg base CX0 2 f fd ["_law_rng", "_law_items"] (spPickA K) := by
  refine F.ok scPick (fun vs H Q E h => ?_) (fun cdv A outer s H vs Q E hr h => ?_)
  · obtain ⟨p, q, ns, i, v, sd, _, ⟨l, xs, rfl, _⟩ | ⟨z, rfl, _⟩⟩ := h <;> rfl
  · refine ⟨_, pss_one (ps_ret (pe_ix ix_seq (pv 1) (pe_call FD hr rfl T.gD T.kD bD .nil pass0 (pa_cons (pv 0) (pa_cons (pe_callB call_len (by rfl) T.len PySem.boot_len (pa_cons (pv 1) pa_nil)) pa_nil))) (fun _ _ => rfl))), ?_⟩
    have hbig : 1000 < 2 ^ 8000 := Nat.lt_of_lt_of_le (by decide : 1000 < 2 ^ 10) (Nat.pow_le_pow_right (by decide) (by decide))
    obtain ⟨p, q, ns, i, v, sd, R, ⟨l, xs, rfl, hl, nlp, hne, hlen, k⟩ | ⟨z, rfl, hz0, hz1, k⟩⟩ := h
    · have hpos : 0 < xs.length := List.length_pos_iff.mpr hne
      refine ⟨_, rfl, _, rfl, _, rfl, _, xs.length, rfl, .inl ⟨xs, SqL.of hl, rfl⟩, p, q, ns, i, v, sd, (xs.length : Int), rfl, R, by omega, by omega, fun r i' v' sd' r0 r1 ok => ?_⟩
      obtain ⟨m, rfl⟩ := Int.eq_ofNat_of_zero_le r0
      have hm : m < xs.length := by omega
      exact .inl ⟨l, xs, _, xs[m], rfl, rfl, SqL.of (by rw [upd_ne nlp]; exact hl), atI_nat (List.getElem?_eq_getElem hm), k _ i' v' sd' (List.getElem_mem hm) ok⟩
    · have hsz : z.length ≤ sizeLine := Nat.le_trans hz1 (by decide)
      refine ⟨_, rfl, _, rfl, _, rfl, _, z.length, rfl, ⟨hsz, rfl⟩, p, q, ns, i, v, sd, (z.length : Int), rfl, R, by omega, by omega, fun r i' v' sd' r0 r1 ok => ?_⟩
      obtain ⟨m, rfl⟩ := Int.eq_ofNat_of_zero_le r0
      have hm : m < z.cps.toList.length := by rw [Array.length_toList]; exact Int.ofNat_lt.mp r1
      exact .inr (.inr ⟨z, _, _, rfl, rfl, hsz, atI_nat (List.getElem?_eq_getElem hm), k _ i' v' sd' (List.getElem_mem hm) ok⟩)
end
end K14
namespace K14
open PySem PySem.Spec PyProof.Rows L2 Ew
section
variable {P : Program} {w : World} {K : PySem.W.Frag} {mg : Str → Option Value} {base : Heap}
/-! ## is_name, _law_letters, _law_is_name -/
def alphaT : Str := "abcdefghijklmnopqrstuvwxyz"
def opsV : List V := [.str "abs", .str "max", .str "min"]
def inA (c : Nat) : Bool := decide (c ∈ alphaT.cps.toList)
def nameB (z : Str) : Bool := (decide (2 ≤ (z.length : Int)) && decide ((z.length : Int) ≤ 8)) && (!inV (.str z) opsV && z.cps.toList.all inA)
def spIsName : Sp := fun vs H Q _ => ∃ z : Str, vs = [.str z] ∧ z.length ≤ 1000 ∧ ∀ G, Same H G → Q (.bl (nameB z)) G
structure TxtIN (K : PySem.W.Frag) (mg : Str → Option Value) (aO : Addr) : Prop where
  len : mg "len" = none
  all : mg "all" = none
  gMn : ∃ t, mg "MIN_LETTERS" = some (.int 2 t)
  gMx : ∃ t, mg "MAX_LETTERS" = some (.int 8 t)
  gL : ∃ t, mg "LETTERS" = some (.str alphaT t)
  gO : mg "OPERATIONS" = some (.ref aO)
  sO : ∀ H, SqT K H aO opsV
def isN : List Str := ["text", "letter"]
theorem scIsName : FnScope isN ["text"] (defScope sIsName) := ⟨rfl, rfl, rfl, by decide +kernel, rfl, by decide +kernel, by decide +kernel⟩
/-- the answers of a walk along a text, one by one -/
def inL (z : Str) (i : Nat) : HO := .lst (((z.cps.toList.take i).map inA).map V.bl)
theorem inL_step {z : Str} {i c : Nat} (h : z.cps[i]? = some c) : (((z.cps.toList.take i).map inA).map V.bl) ++ [V.bl (inA c)] = (((z.cps.toList.take (i + 1)).map inA).map V.bl) := by
  rw [List.take_add_one, show z.cps.toList[i]? = some c by rw [Array.getElem?_toList]; exact h]
  simp
theorem inL_end (z : Str) : ((z.cps.toList.take z.cps.size).map inA).all id = z.cps.toList.all inA := by
  rw [List.take_of_length_le (by rw [Array.length_toList]; exact Nat.le_refl _), List.all_map]
  rfl
theorem ok_isName {f aO : Addr} {fd : FuncData} (F : Fun K "is_name" "is_name" sIsName f fd) (T : TxtIN K mg aO) : FnOk P w K mg base CX0 1 f fd ["text"] spIsName := by
  obtain ⟨t1, g1⟩ := T.gMn
  obtain ⟨t2, g2⟩ := T.gMx
  obtain ⟨t3, g3⟩ := T.gL
  refine F.ok scIsName (fun vs H Q E h => ?_) (fun cdv A outer s H vs Q E hr h => ?_)
  · obtain ⟨z, rfl, _⟩ := h
    rfl
  · obtain ⟨z, rfl, hz, k⟩ := h
    have hsz : z.length ≤ sizeLine := Nat.le_trans hz (by decide)
    refine ⟨_, (pss_cons (ps_if (PW.pt (pw_or (pt_not (pt_chain op_le op_le (pe_glob (v := .int 2) rfl g1 ⟨_, rfl⟩) (pe_callB call_len_str (by rfl) T.len PySem.boot_len (pa_cons (pv 0) pa_nil)) (pe_glob (v := .int 8) rfl g2 ⟨_, rfl⟩))) (pw_or1 (pt_cmpR op_in_seq (pv 0) (pe_glob (v := .ref aO) rfl T.gO rfl) (by with_unfolding_all rfl))))) (pss_one (ps_ret pe_bl)) pss_nil)
 (pss_one (ps_ret (pe_callB (cr_all rfl) (by rfl) T.all (by decide +kernel) (pa_cons (pe_lc (own := [("letter", 1)]) (g := (gName 1)) (tt := tYes) rfl scIsName.nd (pi_str (pv 0)) (blkOk_by (N := isN) (sc := defScope sIsName) (by decide +kernel)) (fun _ _ _ _ _ => by exact (pg_name (i := 1) scIsName.nd rfl (Or.inl rfl))) (fun _ _ _ _ _ => pts_nil) (fun _ _ _ _ _ => (pe_cmpR op_in_sign (pv 1) (pe_glob (v := .str alphaT) rfl g3 ⟨_, rfl⟩) (by with_unfolding_all rfl)))) pa_nil))))), ?_⟩
    unfold nameB at k
    refine ⟨_, rfl, _, rfl, hsz, _, _, rfl, rfl, _, rfl, ?_⟩
    by_cases c1 : (2 : Int) ≤ (z.length : Int)
    · refine ifT (decide_eq_true c1) ⟨_, _, rfl, rfl, _, rfl, ?_⟩
      by_cases c2 : (z.length : Int) ≤ 8
      · rw [decide_eq_true c1, decide_eq_true c2] at k
        rw [decide_eq_true c2]
        refine iteF ⟨_, rfl, aO, opsV, rfl, .inr (T.sO H), rfl, rfl, _, rfl, ?_⟩
        by_cases c3 : inV (.str z) opsV = true
        · rw [c3] at k
          exact ifT c3 (k H (Same.refl H))
        · have c3' : inV (.str z) opsV = false := by cases e : inV (.str z) opsV with | true => exact absurd e c3 | false => rfl
          rw [c3'] at k
          refine ifF c3' ⟨_, rfl, z, rfl, fun D hD => ?_⟩
          refine lc_it walk_str (fun i G => Same H G ∧ G D = some (inL z i)) ⟨same_upd (Same.refl H) hD, upd_same⟩ (fun _ _ _ _ => trivial) ?_ ?_
          · rintro i y G G' hi ⟨e1, e2⟩ ⟨rfl, c, hc, rfl⟩
            refine ⟨rfl, tyes ⟨_, rfl, c, alphaT, rfl, rfl, _, e2, ?_, same_updN e1 hD, ?_⟩⟩
            · rw [List.length_map, List.length_map, List.length_take, sizeLine_eq]
              have : z.cps.size = z.length := rfl
              omega
            · rw [upd_same]
              exact congrArg (fun l => some (HO.lst l)) (inL_step hc)
          · rintro G ⟨e1, e2⟩
            refine ⟨D, _, rfl, SqL.of e2, ?_⟩
            rw [inL_end]
            exact k G e1
      · rw [decide_eq_false c2, Bool.and_false, Bool.false_and] at k
        rw [decide_eq_false c2]
        exact iteT (k H (Same.refl H))
    · rw [decide_eq_false c1, Bool.false_and, Bool.false_and] at k
      exact ifF (decide_eq_false c1) ⟨_, rfl, iteT (k H (Same.refl H))⟩
/-! ## _law_letters -/
def spLetters : Sp := fun vs H Q _ => vs = [] ∧ Q (.str alphaT) H
theorem scLetters : FnScope [] [] (defScope sLawLetters) := ⟨rfl, rfl, rfl, by decide +kernel, rfl, by decide +kernel, by decide +kernel⟩
theorem ok_letters {f : Addr} {fd : FuncData} (F : Fun K "_law_letters" "_law_letters" sLawLetters f fd) : FnOk P w K mg base CX0 1 f fd [] spLetters := by
  refine F.ok scLetters (fun vs H Q E h => ?_) (fun cdv A outer s H vs Q E hr h => ?_)
  · obtain ⟨rfl, _⟩ := h
    rfl
  · obtain ⟨rfl, k⟩ := h
    exact ⟨_, pss_one (ps_ret pe_str), k⟩
/-! ## _law_is_name -/
structure TxtLN (mg : Str → Option Value) : Prop where
  len : mg "len" = none
  all : mg "all" = none
def lisN : List Str := ["_law_text", "_law_good", "_law_char"]
theorem scLIsName : FnScope lisN ["_law_text"] (defScope sLawIsName) := ⟨rfl, rfl, rfl, by decide +kernel, rfl, by decide +kernel, by decide +kernel⟩
theorem ok_lisName {f fLe : Addr} {fd fdLe : FuncData} (F : Fun K "_law_is_name" "_law_is_name" sLawIsName f fd) (T : TxtLN mg) (Le : Def P w K mg base CX0 1 "_law_letters" fLe fdLe [] spLetters) : FnOk P w K mg base CX0 2 f fd ["_law_text"] spIsName := by
  refine F.ok scLIsName (fun vs H Q E h => ?_) (fun cdv A outer s H vs Q E hr h => ?_)
  · obtain ⟨z, rfl, _⟩ := h
    rfl
  · obtain ⟨z, rfl, hz, k⟩ := h
    have hsz : z.length ≤ sizeLine := Nat.le_trans hz (by decide)
    refine ⟨_, (C8.pss_cut (ps_set (i := 1) scLIsName.nd rfl (Or.inl rfl) (pe_and (pe_chain op_le op_le pe_int (pe_callB call_len_str (by rfl) T.len PySem.boot_len (pa_cons (pv 0) pa_nil)) pe_int) (pe_one (pe_cmpR op_notIn_seq (pv 0) (pe_tup (pa_cons pe_str (pa_cons pe_str (pa_cons pe_str pa_nil)))) (by with_unfolding_all rfl)))))
 (pss_one (ps_ret (pe_and (pv 1) (pe_one (pe_callB (cr_all rfl) (by rfl) T.all (by decide +kernel) (pa_cons (pe_lc (own := [("_law_char", 2)]) (g := (gName 2)) (tt := tYes) rfl scLIsName.nd (pi_str (pv 0)) (blkOk_by (N := lisN) (sc := defScope sLawIsName) (by decide +kernel)) (fun _ _ _ _ _ => by exact (pg_name (i := 2) scLIsName.nd rfl (Or.inl rfl))) (fun _ _ _ _ _ => pts_nil) (fun _ _ _ _ _ => (pe_cmpR op_in_sign (pv 2) (pe_call0 Le.ok hr rfl Le.g Le.k Le.b .nil pass0) (by with_unfolding_all rfl)))) pa_nil))))))), ?_⟩
    unfold nameB at k
    refine ⟨fun σ G => σ = [some (.str z), some (.bl ((decide (2 ≤ (z.length : Int)) && decide ((z.length : Int) ≤ 8)) && !inV (.str z) opsV)), none] ∧ Same H G, ?_, ?_⟩
    · refine ⟨_, rfl, _, rfl, hsz, _, _, rfl, rfl, _, rfl, ?_⟩
      by_cases c1 : (2 : Int) ≤ (z.length : Int)
      · rw [decide_eq_true c1]
        refine iteT ⟨_, _, rfl, rfl, _, rfl, ?_⟩
        by_cases c2 : (z.length : Int) ≤ 8
        · rw [decide_eq_true c2]
          refine iteT ⟨_, rfl, (by show 3 ≤ sizeLine; decide), fun t hT => ⟨t, opsV, rfl, .inr (SqT.of upd_same), rfl, rfl, rfl, same_upd (Same.refl H) hT⟩⟩
        · rw [decide_eq_false c2]
          exact iteF ⟨rfl, Same.refl H⟩
      · rw [decide_eq_false c1]
        exact iteF ⟨_, rfl, iteF ⟨rfl, Same.refl H⟩⟩
    · rintro σ G ⟨rfl, s0⟩
      refine ⟨_, rfl, _, rfl, ?_⟩
      generalize hb : ((decide (2 ≤ (z.length : Int)) && decide ((z.length : Int) ≤ 8)) && !inV (.str z) opsV) = b
      rw [← Bool.and_assoc, hb] at k
      cases b with
      | false => exact iteF (k G s0)
      | true =>
        refine iteT ⟨_, rfl, z, rfl, fun D hD => ?_⟩
        have nD : H D = none := s0.free hD
        refine lc_it walk_str (fun i G => Same H G ∧ G D = some (inL z i)) ⟨same_upd s0 hD, upd_same⟩ (fun _ _ _ _ => trivial) ?_ ?_
        · rintro i y G G' hi ⟨e1, e2⟩ ⟨rfl, c, hc, rfl⟩
          refine ⟨rfl, tyes ⟨_, rfl, rfl, c, alphaT, rfl, rfl, _, e2, ?_, same_updN e1 nD, ?_⟩⟩
          · rw [List.length_map, List.length_map, List.length_take, sizeLine_eq]
            have : z.cps.size = z.length := rfl
            omega
          · rw [upd_same]
            exact congrArg (fun l => some (HO.lst l)) (inL_step hc)
        · rintro G ⟨e1, e2⟩
          refine ⟨D, _, rfl, SqL.of e2, ?_⟩
          rw [inL_end]
          exact k G e1
end
end K14
namespace K14
open PySem PySem.Spec PyProof.Rows L2 Ew
def lawN : List Str := ["_law_script", "_law_rng", "_law_turn", "_law_text", "_law_at", "_law_k"]
theorem scLaw : FnScope lawN ["_law_script"] (defScope sLaw) := ⟨rfl, rfl, rfl, by decide +kernel, rfl, by decide +kernel, by decide +kernel⟩
def spLaw (K : PySem.W.Frag) : Sp := fun vs H Q _ => ∃ (a : Addr) (ns : List Int), vs = [.ref a] ∧ SqL K H a (ns.map V.int) ∧ ns.length ≤ 63 ∧ ∀ G, Q (.bl true) G
structure TxtL (K : PySem.W.Frag) (mg : Str → Option Value) : Prop where
  range : mg "range" = none
  len : mg "len" = none
theorem joinL_len : ∀ ps : List (List Nat), (TL.joinL [] ps).length = (ps.map List.length).sum
  | [] => rfl
  | [p] => by simp [TL.joinL]
  | p :: q :: r => by
    have h := joinL_len (q :: r)
    simp only [TL.joinL, List.length_append, List.map_cons, List.sum_cons, List.nil_append] at h ⊢
    rw [h]
theorem slen (x : Str) : x.length = (TL.tl x).length := by show x.cps.size = x.cps.toList.length; rw [Array.length_toList]
theorem join_len (ys : List Str) : (Txt.join ("" : Str) ys).length = (ys.map Str.length).sum := by
  rw [TL.join_eq, slen, TL.tl_join]
  have e : TL.tl ("" : Str) = [] := rfl
  rw [e, joinL_len, List.map_map]
  rfl
theorem app_len (x y : Str) : (x ++ y).length = x.length + y.length := by rw [slen, TL.tl_append, List.length_append, ← slen, ← slen]
theorem sum_ones : ∀ ys : List Str, (∀ y ∈ ys, y.length = 1) → (ys.map Str.length).sum = ys.length
  | [], _ => rfl
  | y :: ys, h => by
    rw [List.map_cons, List.sum_cons, sum_ones ys (fun z hz => h z (List.mem_cons_of_mem _ hz)), h y List.mem_cons_self, List.length_cons]
    omega
theorem ok_law {P : Program} {w : World} {K : PySem.W.Frag} {mg : Str → Option Value} {base : Heap} {f fB fD fP fS fLe fLN fIN : Addr} {fd fdB fdD fdP fdS fdLe fdLN fdIN : FuncData}
    (F : Fun K "law" "law" sLaw f fd) (T : TxtL K mg)
    (B : Def P w K mg base CX0 1 "_law_begin" fB fdB ["_law_script"] (spBegin K)) (D : Def P w K mg base CX0 1 "_law_draw" fD fdD ["_law_rng", "_law_many"] spDraw) (Pk : Def P w K mg base CX0 2 "_law_pick" fP fdP ["_law_rng", "_law_items"] (spPickA K))
    (S : Def P w K mg base CX0 3 "_law_same" fS fdS ["_law_found", "_law_due"] (spSame K 3)) (Le : Def P w K mg base CX0 1 "_law_letters" fLe fdLe [] spLetters)
    (LN : Def P w K mg base CX0 2 "_law_is_name" fLN fdLN ["_law_text"] spIsName) (IN : Def P w K mg base CX0 1 "is_name" fIN fdIN ["text"] spIsName) :
    FnOk P w K mg base CX0 4 f fd ["_law_script"] (spLaw K) := by
  refine F.ok scLaw (fun vs H Q E h => ?_) (fun cdv A outer s H vs Q E hr h => ?_)
  · obtain ⟨a, ns, rfl, _⟩ := h
    rfl
  · obtain ⟨a, ns, rfl, hS, hl, k⟩ := h
    have r1' : Room 1 _ := hr.mono (by decide)
    have r2' : Room 2 _ := hr.mono (by decide)
    have r3' : Room 3 _ := hr.mono (by decide)
    refine ⟨_, (pss_cons (ps_set (i := 1) scLaw.nd rfl (Or.inr rfl) (pe_call B.ok r1' rfl B.g B.k B.b .nil pass0 (pa_cons (pv 0) pa_nil)))
 (pss_cons (ps_for PassesOwn.never rfl (pi_range1 rfl T.range (pa_cons pe_int pa_nil)) (pg_name (i := 2) scLaw.nd rfl (Or.inl rfl))
 (pss_cons (ps_set (i := 3) scLaw.nd rfl (Or.inl rfl) (pe_join pe_str (pe_lc (own := [("_law_k", 5)]) (g := (gName 5)) (tt := tYes) rfl scLaw.nd (pi_range1 rfl T.range (pa_cons (pe_call D.ok r1' rfl D.g D.k D.b .nil pass0 (pa_cons (pv 1) (pa_cons pe_int pa_nil))) pa_nil)) (blkOk_by (N := lawN) (sc := defScope sLaw) (by decide +kernel)) (fun _ _ _ _ _ => by exact (pg_name (i := 5) scLaw.nd rfl (Or.inl rfl))) (fun _ _ _ _ _ => pts_nil) (fun _ _ _ _ _ => (pe_call Pk.ok r2' rfl Pk.g Pk.k Pk.b .nil pass0 (pa_cons (pv 1) (pa_cons (pe_call0 Le.ok r1' rfl Le.g Le.k Le.b .nil pass0) pa_nil)))))))
 (pss_cons (ps_set (i := 3) scLaw.nd rfl (Or.inl rfl) (pe_call Pk.ok r2' rfl Pk.g Pk.k Pk.b .nil pass0 (pa_cons (pv 1) (pa_cons (pe_lst (pa_cons (pv 3) (pa_cons (pv 3) (pa_cons (pv 3) (pa_cons pe_str (pa_cons pe_str (pa_cons pe_str (pa_cons pe_str (pa_cons pe_str (pa_cons pe_str (pa_cons pe_str pa_nil))))))))))) pa_nil))))
 (C8.pss_cut (ps_if (pt_cmpR op_eq (pe_call D.ok r1' rfl D.g D.k D.b .nil pass0 (pa_cons (pv 1) (pa_cons pe_int pa_nil))) pe_int (nomark _)) (pss_cons (ps_set (i := 4) scLaw.nd rfl (Or.inl rfl) (pe_call D.ok r1' rfl D.g D.k D.b .nil pass0 (pa_cons (pv 1) (pa_cons (pe_op op_add (pe_callB call_len_str (by rfl) T.len PySem.boot_len (pa_cons (pv 3) pa_nil)) pe_int) pa_nil))))
 (pss_one (ps_set (i := 3) scLaw.nd rfl (Or.inl rfl) (pe_op op_add_str (pe_op op_add_str (pe_slice sl_str (pv 3) po_none (po_some (pv 4))) (pe_call Pk.ok r2' rfl Pk.g Pk.k Pk.b .nil pass0 (pa_cons (pv 1) (pa_cons (pe_lst (pa_cons pe_str (pa_cons pe_str (pa_cons pe_str (pa_cons pe_str (pa_cons pe_str (pa_cons pe_str pa_nil))))))) pa_nil)))) (pe_slice sl_str (pv 3) (po_some (pe_op op_add (pv 4) pe_int)) po_none))))) pss_nil)
 (pss_one (ps_if (pt_not (pt_val (pe_call S.ok r3' rfl S.g S.k S.b .nil pass0 (pa_cons (pe_call IN.ok r1' rfl IN.g IN.k IN.b .nil pass0 (pa_cons (pv 3) pa_nil)) (pa_cons (pe_call LN.ok r2' rfl LN.g LN.k LN.b .nil pass0 (pa_cons (pv 3) pa_nil)) pa_nil))))) (pss_one (ps_ret pe_bl)) pss_nil))))))
 (pss_one (ps_ret (pe_call S.ok r3' rfl S.g S.k S.b .nil pass0 (pa_cons (pe_lst (pa_cons (pe_call IN.ok r1' rfl IN.g IN.k IN.b .nil pass0 (pa_cons pe_str pa_nil)) (pa_cons (pe_call IN.ok r1' rfl IN.g IN.k IN.b .nil pass0 (pa_cons pe_str pa_nil)) (pa_cons (pe_call IN.ok r1' rfl IN.g IN.k IN.b .nil pass0 (pa_cons pe_str pa_nil)) (pa_cons (pe_call IN.ok r1' rfl IN.g IN.k IN.b .nil pass0 (pa_cons pe_str pa_nil)) pa_nil))))) (pa_cons (pe_op op_cat (pe_lst (pa_cons pe_bl pa_nil)) (pe_op op_rep (pe_lst (pa_cons pe_bl pa_nil)) pe_int)) pa_nil))))))), ?_⟩
    have small : ∀ z : Int, 0 ≤ z → z ≤ 1000 → z.natAbs < 2 ^ 8000 := fun z h0 h1 => big_lt (n := 10) (Nat.lt_of_le_of_lt (by omega : z.natAbs ≤ 1000) (by decide)) (by decide)
    have p62 : (2 : Int) ^ 62 = 4611686018427387904 := by decide
    refine ⟨_, rfl, a, ns, rfl, hS, hl, fun G0 p q sd s0 R0 np nq => ?_⟩
    clear s0 np nq hS hl
    refine ⟨10, rfl, by decide, by decide, for_range (lo := 0) (n := 10) (fun _ σ G => ∃ (i v sd : Int) (o2 o3 o4 : Option V), σ = [some (.ref a), some (.ref p), o2, o3, o4, none] ∧ RngAt G p q ns i v sd)
      ⟨0, 0, sd, none, none, none, rfl, R0⟩ ?_ ?_⟩
    · rintro j σ G _ ⟨i, v, sd, o2, o3, o4, rfl, R⟩
      refine ⟨⟨_, rfl⟩, _, rfl, p, q, ns, i, v, sd, 11, rfl, R, by decide, small _ (by decide) (by decide), fun x1 i1 v1 sd1 x10 x11 ok1 => ?_⟩
      have R1 := R.next ok1
      generalize upd G p (.lst (rngL q i1 v1 sd1)) = G1 at R1
      refine ⟨x1, rfl, by omega, by omega, fun D hD => ?_⟩
      have nDp := R1.free hD
      have nDq := R1.freeq hD
      refine lc_range (lo := 0) (n := x1.toNat) (fun i G => ∃ (ys : List Str) (i' v' sd' : Int), RngAt G p q ns i' v' sd' ∧ G D = some (.lst (ys.map V.str)) ∧ ys.length = i ∧ ∀ y ∈ ys, y.length = 1)
        ⟨[], i1, v1, sd1, R1.same (same_upd (Same.refl _) hD), upd_same, rfl, fun y hy => nomatch hy⟩ ?_ ?_
      · rintro n G2 hn ⟨ys, i2, v2, sd2, R2, hD2, hl2, hy2⟩
        refine ⟨rfl, tyes ⟨_, rfl, rfl, p, q, ns, i2, v2, sd2, R2, .inr ⟨alphaT, rfl, by decide +kernel, by decide +kernel, fun c i3 v3 sd3 hc ok3 => ?_⟩⟩⟩
        have R3 := R2.next ok3
        refine ⟨_, by rw [upd_ne nDp]; exact hD2, by rw [List.length_map, hl2, sizeLine_eq]; omega, ys ++ [⟨#[c]⟩], i3, v3, sd3, R3.off nDp nDq, ?_, ?_, ?_⟩
        · rw [upd_same, List.map_append]
          rfl
        · rw [List.length_append, hl2]
          rfl
        · intro y hy
          rcases List.mem_append.mp hy with hy | hy
          · exact hy2 y hy
          · rw [List.mem_singleton.mp hy]
            rfl
      · rintro G2 ⟨ys, i2, v2, sd2, R2, hD2, hl2, hy2⟩
        have hs := sum_ones ys hy2
        refine ⟨("" : Str), D, ys, rfl, rfl, .inl (SqL.of hD2), ?_, ?_⟩
        · show (ys.map Str.length).sum + ys.length * 0 ≤ 16777216
          rw [hs]
          omega
        have hz : (Txt.join ("" : Str) ys).length ≤ 10 := by rw [join_len, hs]; omega
        generalize Txt.join ("" : Str) ys = z at hz
        clear hs hy2 hl2 hD2 ys nDp nDq hD R1 R G1 G
        -- the list of choices
        refine ⟨_, rfl, _, rfl, _, rfl, _, rfl, (by show 10 ≤ sizeLine; decide), fun l hl => ?_⟩
        have R3 := R2.same (same_upd (o := .lst [.str z, .str z, .str z, .str "abs", .str "max", .str "min", .str "x", .str "mina", .str "xx", .str "maxmin"]) (Same.refl _) hl)
        refine ⟨p, q, ns, i2, v2, sd2, R3, .inl ⟨l, _, rfl, upd_same, R2.free hl, by simp, by show 10 ≤ 1000; decide, fun x i4 v4 sd4 hx ok4 => ?_⟩⟩
        obtain ⟨y, rfl, hy⟩ : ∃ y : Str, x = .str y ∧ y.length ≤ 10 := by
          simp only [List.mem_cons, List.not_mem_nil, or_false] at hx
          rcases hx with rfl | rfl | rfl | rfl | rfl | rfl | rfl | rfl | rfl | rfl
          · exact ⟨_, rfl, hz⟩
          · exact ⟨_, rfl, hz⟩
          · exact ⟨_, rfl, hz⟩
          all_goals exact ⟨_, rfl, by decide +kernel⟩
        have R4 := R3.next ok4
        generalize upd (upd G2 l _) p (.lst (rngL q i4 v4 sd4)) = G4 at R4
        clear R3 hl R2 hx hz
        have hsz : y.length ≤ sizeLine := Nat.le_trans hy (by decide)
        refine ⟨fun σ G => ∃ (z : Str) (o4 : Option V) (i v sd : Int), σ = [some (.ref a), some (.ref p), some (.int (0 + (j : Int))), some (.str z), o4, none] ∧ z.length ≤ 30 ∧ RngAt G p q ns i v sd, ?_, ?_⟩
        · refine ⟨_, rfl, p, q, ns, i4, v4, sd4, 3, rfl, R4, by decide, small _ (by decide) (by decide), fun x5 i5 v5 sd5 x50 x51 ok5 => ?_⟩
          have R5 := R4.next ok5
          generalize upd G4 p (.lst (rngL q i5 v5 sd5)) = G5 at R5
          refine ⟨rfl, _, rfl, ?_⟩
          by_cases c : x5 = 0
          · subst c
            refine ifT (decide_eq_true rfl) ?_
            refine ⟨_, rfl, _, rfl, _, rfl, hsz, _, _, rfl, rfl, p, q, ns, i5, v5, sd5, (y.length : Int) + 1, rfl, R5, by omega, small _ (by omega) (by omega), fun x6 i6 v6 sd6 x60 x61 ok6 => ?_⟩
            have R6 := R5.next ok6
            generalize upd G5 p (.lst (rngL q i6 v6 sd6)) = G6 at R6
            refine ⟨_, rfl, _, rfl, x6, rfl, y, rfl, hsz, _, rfl, (by show 6 ≤ sizeLine; decide), fun l hl => ?_⟩
            have R7 := R6.same (same_upd (o := .lst [.str "A", .str "1", .str " ", .str "_", .str "-", .str ""]) (Same.refl _) hl)
            refine ⟨p, q, ns, i6, v6, sd6, R7, .inl ⟨l, _, rfl, upd_same, R6.free hl, by simp, by show 6 ≤ 1000; decide, fun x i8 v8 sd8 hx ok8 => ?_⟩⟩
            obtain ⟨u, rfl, hu⟩ : ∃ u : Str, x = .str u ∧ u.length ≤ 1 := by
              simp only [List.mem_cons, List.not_mem_nil, or_false] at hx
              rcases hx with rfl | rfl | rfl | rfl | rfl | rfl
              all_goals exact ⟨_, rfl, by decide +kernel⟩
            have R8 := R7.next ok8
            generalize upd (upd G6 l _) p (.lst (rngL q i8 v8 sd8)) = G8 at R8
            have l1 := cutS_length y none (some x6)
            have l2 := cutS_length y (some (x6 + 1)) none
            have e1 := app_len (cutS y none (some x6)) u
            have e2 := app_len (cutS y none (some x6) ++ u) (cutS y (some (x6 + 1)) none)
            have sl : (30 : Nat) ≤ sizeLine := by decide
            refine ⟨_, _, rfl, rfl, by omega, _, rfl, _, rfl, _, _, rfl, rfl, x6 + 1, rfl, y, rfl, hsz, _, _, rfl, rfl, by omega, ?_⟩
            exact ⟨_, _, i8, v8, sd8, rfl, by omega, R8⟩
          · exact ifF (eq_int c) ⟨y, _, i5, v5, sd5, rfl, by omega, R5⟩
        · rintro σ G5 ⟨z, o4', i5, v5, sd5, rfl, hz, R5⟩
          refine ⟨_, rfl, z, rfl, by omega, fun G6 s6 => ⟨_, rfl, z, rfl, by omega, fun G7 s7 => ⟨_, _, rfl, .inl ⟨rfl, rfl⟩, fun G8 s8 => ⟨true, rfl, iteF ?_⟩⟩⟩⟩
          exact ⟨i5, v5, sd5, _, _, _, rfl, R5.same (s6.trans (s7.trans s8))⟩
    · rintro σ G ⟨i, v, sd, o2, o3, o4, rfl, R⟩
      have n1 : nameB "abcdefgh" = true := by decide +kernel
      have n2 : nameB "abcdefghi" = false := by decide +kernel
      have n3 : nameB "x" = false := by decide +kernel
      have n4 : nameB "" = false := by decide +kernel
      refine ⟨"abcdefgh", rfl, by decide +kernel, fun G1 s1 => ⟨"abcdefghi", rfl, by decide +kernel, fun G2 s2 => ⟨"x", rfl, by decide +kernel, fun G3 s3 => ⟨"", rfl, by decide +kernel, fun G4 s4 => ?_⟩⟩⟩⟩
      rw [n1, n2, n3, n4]
      refine ⟨(by show 4 ≤ sizeLine; decide), fun l hl => ?_⟩
      refine ⟨(by show 1 ≤ sizeLine; decide), fun l2 h2 => ⟨(by show 1 ≤ sizeLine; decide), fun l3 h3 => ?_⟩⟩
      refine ⟨l3, 3, _, rfl, rfl, upd_same, by decide, by decide, by decide, fun l4 h4 => ?_⟩
      have n32 : l2 ≠ l3 := fun e => by rw [← e, upd_same] at h3; cases h3
      have n42 : l2 ≠ l4 := fun e => by rw [← e, upd_ne n32, upd_same] at h4; cases h4
      have n3l : l ≠ l3 := fun e => by rw [← e, upd_ne (fun z => by rw [← z, upd_same] at h2; cases h2), upd_same] at h3; cases h3
      have n2l : l ≠ l2 := fun z => by rw [← z, upd_same] at h2; cases h2
      have n4l : l ≠ l4 := fun e => by rw [← e, upd_ne n3l, upd_ne n2l, upd_same] at h4; cases h4
      refine ⟨l2, l4, _, _, rfl, rfl, by rw [upd_ne n42, upd_ne n32, upd_same], upd_same, by decide, fun l5 h5 => ?_⟩
      have n5l : l ≠ l5 := fun e => by rw [← e, upd_ne n4l, upd_ne n3l, upd_ne n2l, upd_same] at h5; cases h5
      refine ⟨_, _, rfl, .inr ⟨l, l5, [.bl true, .bl false, .bl false, .bl false], [.bl true, .bl false, .bl false, .bl false], rfl, rfl, .inl ⟨SqL.of (by rw [upd_ne n5l, upd_ne n4l, upd_ne n3l, upd_ne n2l, upd_same]), SqL.of upd_same⟩, rfl, by decide, fun n u v hu hv => ?_⟩, fun G5 _ => k G5⟩
      match n, hu, hv with
      | 0, hu, hv => cases hu; cases hv; exact .inl ⟨rfl, rfl⟩
      | 1, hu, hv => cases hu; cases hv; exact .inl ⟨rfl, rfl⟩
      | 2, hu, hv => cases hu; cases hv; exact .inl ⟨rfl, rfl⟩
      | 3, hu, hv => cases hu; cases hv; exact .inl ⟨rfl, rfl⟩
      | n + 4, hu, hv => cases hu
end K14
namespace K14
open PySem PySem.Spec PyProof.Rows L2 Ew
theorem all_mk {l : PySem.W.OpenLaw} {w : World} {K : PySem.W.Frag} {h : Heap} {mg : Str → Option Value} {fa fIN fB fD fP fS fLe fLN aO fLaw : Addr} (X : K.In h) (G : h.Ns mainGlobals mg) (hfa : mg "law" = some (.ref fa)) 
    {tk0 tk1 tks0 : Tok} {od_aO : Option Addr} {its_aO : Array Value} {cap_aO : Nat} {sl_aO : Array (Option Value)} 
    (n_fIN : PySem.W.nsIn K mainGlobals "is_name" = some (some (.ref fIN)))
    (d_fIN : DefAt K "is_name" "is_name" sIsName fIN)
    (n_fB : PySem.W.nsIn K mainGlobals "_law_begin" = some (some (.ref fB)))
    (d_fB : DefAt K "_law_begin" "_law_begin" sBegin fB)
    (n_fD : PySem.W.nsIn K mainGlobals "_law_draw" = some (some (.ref fD)))
    (d_fD : DefAt K "_law_draw" "_law_draw" sDraw fD)
    (n_fP : PySem.W.nsIn K mainGlobals "_law_pick" = some (some (.ref fP)))
    (d_fP : DefAt K "_law_pick" "_law_pick" sPick fP)
    (n_fS : PySem.W.nsIn K mainGlobals "_law_same" = some (some (.ref fS)))
    (d_fS : DefAt K "_law_same" "_law_same" sSame fS)
    (n_fLe : PySem.W.nsIn K mainGlobals "_law_letters" = some (some (.ref fLe)))
    (d_fLe : DefAt K "_law_letters" "_law_letters" sLawLetters fLe)
    (n_fLN : PySem.W.nsIn K mainGlobals "_law_is_name" = some (some (.ref fLN)))
    (d_fLN : DefAt K "_law_is_name" "_law_is_name" sLawIsName fLN)
    (n_fLaw : PySem.W.nsIn K mainGlobals "law" = some (some (.ref fLaw)))
    (d_fLaw : DefAt K "law" "law" sLaw fLaw)
    (cst0 : PySem.W.nsIn K mainGlobals "MIN_LETTERS" = some (some (.int 2 tk0)))
    (cst1 : PySem.W.nsIn K mainGlobals "MAX_LETTERS" = some (some (.int 8 tk1)))
    (cs0 : PySem.W.nsIn K mainGlobals "LETTERS" = some (some (.str "abcdefghijklmnopqrstuvwxyz" tks0)))
    (n_aO : PySem.W.nsIn K mainGlobals "OPERATIONS" = some (some (.ref aO)))
    (l_aO : K.lookup aO = some ⟨.type "tuple", od_aO, .seq its_aO cap_aO, sl_aO⟩)
    (v_aO : Vals opsV its_aO.toList)
    (zlen : PySem.W.nsIn K mainGlobals "len" = some none)
    (zlist : PySem.W.nsIn K mainGlobals "list" = some none)
    (zisinstance : PySem.W.nsIn K mainGlobals "isinstance" = some none)
    (ztuple : PySem.W.nsIn K mainGlobals "tuple" = some none)
    (zall : PySem.W.nsIn K mainGlobals "all" = some none)
    (zzip : PySem.W.nsIn K mainGlobals "zip" = some none)
    (zbool : PySem.W.nsIn K mainGlobals "bool" = some none)
    (zint : PySem.W.nsIn K mainGlobals "int" = some none)
    (zstr : PySem.W.nsIn K mainGlobals "str" = some none)
    (zrange : PySem.W.nsIn K mainGlobals "range" = some none) :
    ∃ fd : FuncData, (∀ (s : Shared) (u : Value), BindsTo s fd ⟨[u], []⟩ [("_law_script", u)]) ∧ ∀ base : Heap, K.In base → base.Ns mainGlobals mg → FnOk l.prog w K mg base CX0 4 fa fd ["_law_script"] (spLaw K) := by
  have e := hfa.symm.trans (PySem.W.mg_of X G n_fLaw)
  cases e
  obtain ⟨fd_fIN, F_fIN⟩ := d_fIN
  obtain ⟨fd_fB, F_fB⟩ := d_fB
  obtain ⟨fd_fD, F_fD⟩ := d_fD
  obtain ⟨fd_fP, F_fP⟩ := d_fP
  obtain ⟨fd_fS, F_fS⟩ := d_fS
  obtain ⟨fd_fLe, F_fLe⟩ := d_fLe
  obtain ⟨fd_fLN, F_fLN⟩ := d_fLN
  obtain ⟨fd_fLaw, F_fLaw⟩ := d_fLaw
  have b_fIN := F_fIN.binds (ps := ["text"]) fun _ _ _ _ _ _ us hl => match us, hl with | [_], _ => rfl
  have b_fB := F_fB.binds (ps := ["_law_script"]) fun _ _ _ _ _ _ us hl => match us, hl with | [_], _ => rfl
  have b_fD := F_fD.binds (ps := ["_law_rng", "_law_many"]) fun _ _ _ _ _ _ us hl => match us, hl with | [_, _], _ => rfl
  have b_fP := F_fP.binds (ps := ["_law_rng", "_law_items"]) fun _ _ _ _ _ _ us hl => match us, hl with | [_, _], _ => rfl
  have b_fS := F_fS.binds (ps := ["_law_found", "_law_due"]) fun _ _ _ _ _ _ us hl => match us, hl with | [_, _], _ => rfl
  have b_fLe := F_fLe.binds (ps := []) fun _ _ _ _ _ _ us hl => match us, hl with | [], _ => rfl
  have b_fLN := F_fLN.binds (ps := ["_law_text"]) fun _ _ _ _ _ _ us hl => match us, hl with | [_], _ => rfl
  have no : ∀ {x : Str}, PySem.W.nsIn K mainGlobals x = some none → mg x = none := fun z => PySem.W.mg_none_of X G z
  have at_ : ∀ {x : Str} {v : Value}, PySem.W.nsIn K mainGlobals x = some (some v) → mg x = some v := fun z => PySem.W.mg_of X G z
  have S_aO : ∀ H, SqT K H aO opsV := fun H => .inr ⟨_, its_aO, cap_aO, l_aO, rfl, rfl, (by have e := v_aO.length; rw [← Array.length_toList, ← e]; decide), v_aO⟩
  refine ⟨fd_fLaw, fun s u => ?_, fun base _ _ => ?_⟩
  · obtain ⟨oc, od, kV, doc, pm, an, cd, ct, sl, rfl, lk, hc⟩ := F_fLaw.ex
    exact .of_eq rfl
  have TR : TxtR mg := ⟨no zlen, no zlist⟩
  have okD : FnOk l.prog w K mg base CX0 1 fD fd_fD ["_law_rng", "_law_many"] spDraw := ok_draw F_fD TR
  have dD : Def l.prog w K mg base CX0 1 "_law_draw" fD fd_fD ["_law_rng", "_law_many"] spDraw := ⟨okD, at_ n_fD, F_fD.kp, b_fD⟩
  have dP : Def l.prog w K mg base CX0 2 "_law_pick" fP fd_fP ["_law_rng", "_law_items"] (spPickA K) := ⟨ok_pickA F_fP ⟨no zlen, at_ n_fD, F_fD.kp⟩ okD b_fD, at_ n_fP, F_fP.kp, b_fP⟩
  have dLe : Def l.prog w K mg base CX0 1 "_law_letters" fLe fd_fLe [] spLetters := ⟨ok_letters F_fLe, at_ n_fLe, F_fLe.kp, b_fLe⟩
  have dLN : Def l.prog w K mg base CX0 2 "_law_is_name" fLN fd_fLN ["_law_text"] spIsName := ⟨ok_lisName F_fLN ⟨no zlen, no zall⟩ dLe, at_ n_fLN, F_fLN.kp, b_fLN⟩
  have dIN : Def l.prog w K mg base CX0 1 "is_name" fIN fd_fIN ["text"] spIsName := ⟨ok_isName F_fIN ⟨no zlen, no zall, ⟨_, at_ cst0⟩, ⟨_, at_ cst1⟩, ⟨_, at_ cs0⟩, at_ n_aO, S_aO⟩, at_ n_fIN, F_fIN.kp, b_fIN⟩
  exact ok_law F_fLaw ⟨no zrange, no zlen⟩ ⟨ok_begin F_fB TR, at_ n_fB, F_fB.kp, b_fB⟩ dD dP ⟨ok_same F_fS b_fS ⟨no zisinstance, no zlist, no ztuple, no zlen, no zall, no zzip, no zbool, no zint, no zstr, at_ n_fS, F_fS.kp⟩ 3, at_ n_fS, F_fS.kp, b_fS⟩ dLe dLN dIN
theorem walk {l : PySem.W.OpenLaw} {q : Program} {loose : List Str} {XP : (Str → Option Value) → Heap → Prop} {YP : World → Heap → Prop} {d : DefRec} {K : Params → PySem.W.Frag} (hn : l.most = some 63) (hdf : d.params.defaults = [])
    (hY : ∀ (w : World) (h : Heap), YP w h → (K w.params).In h)
    (F : ∀ (w : World) (mg : Str → Option Value) (fa : Addr) (h : Heap), (K w.params).In h → h.Ns mainGlobals mg → mg d.name = some (.ref fa) →
      ∃ fd : FuncData, (∀ (s : Shared) (u : Value), BindsTo s fd ⟨[u], []⟩ [("_law_script", u)]) ∧ ∀ base : Heap, (K w.params).In base → base.Ns mainGlobals mg → FnOk l.prog w (K w.params) mg base CX0 4 fa fd ["_law_script"] (spLaw (K w.params))) :
    PySem.W.WalkO q loose XP YP l.row.toRowW d [] (fun f vs => PySem.call f vs) :=
  walk_ofK (n := 63) (k := 4) (x := "_law_script") (CX := CX0) (sp := spLaw) hn (by decide) hdf ⟨rfl, by decide, by decide⟩ hY F (fun K H a ns h1 _ h3 => ⟨a, ns, rfl, h3, h1, fun _ => rfl⟩) fun _ _ _ _ z => z
end K14
open PySem PySem.W PyProof.Rows in
set_option maxRecDepth 100000 in
set_option maxHeartbeats 0 in
theorem PySem.Challenge.cw_earlywrite_k14_names_holds : PySem.Challenge.rw_earlywrite_k14_names.Holds := by
  w_on; o_law; k_head; (case hw => w_witness2)
  k_fill
  refine K14.walk (l := PySem.Challenge.rw_earlywrite_k14_names) rfl rfl (fun w h Y => PySem.W.kIn_of Y) ?F
  case F =>
    intro w mg fa h KX G hmg
    refine' K14.all_mk KX G hmg ?n_fIN ?d_fIN ?n_fB ?d_fB ?n_fD ?d_fD ?n_fP ?d_fP ?n_fS ?d_fS ?n_fLe ?d_fLe ?n_fLN ?d_fLN ?n_fLaw ?d_fLaw ?cst0 ?cst1 ?cs0 ?n_aO ?l_aO ?v_aO ?zlen ?zlist ?zisinstance ?ztuple ?zall ?zzip ?zbool ?zint ?zstr ?zrange
    (case n_fIN => k_is)
    (case d_fIN => (refine' Ew.def_mk ?l ?c ?k; (case l => k_is); (case c => k_is); (case k => k_is)))
    (case n_fB => k_is)
    (case d_fB => (refine' Ew.def_mk ?l ?c ?k; (case l => k_is); (case c => k_is); (case k => k_is)))
    (case n_fD => k_is)
    (case d_fD => (refine' Ew.def_mk ?l ?c ?k; (case l => k_is); (case c => k_is); (case k => k_is)))
    (case n_fP => k_is)
    (case d_fP => (refine' Ew.def_mk ?l ?c ?k; (case l => k_is); (case c => k_is); (case k => k_is)))
    (case n_fS => k_is)
    (case d_fS => (refine' Ew.def_mk ?l ?c ?k; (case l => k_is); (case c => k_is); (case k => k_is)))
    (case n_fLe => k_is)
    (case d_fLe => (refine' Ew.def_mk ?l ?c ?k; (case l => k_is); (case c => k_is); (case k => k_is)))
    (case n_fLN => k_is)
    (case d_fLN => (refine' Ew.def_mk ?l ?c ?k; (case l => k_is); (case c => k_is); (case k => k_is)))
    (case n_fLaw => k_is)
    (case d_fLaw => (refine' Ew.def_mk ?l ?c ?k; (case l => k_is); (case c => k_is); (case k => k_is)))
    (case cst0 => k_is)
    (case cst1 => k_is)
    (case cs0 => k_is)
    (case n_aO => k_is)
    (case l_aO => k_is)
    (case v_aO => exact .cons ⟨_, rfl⟩ (.cons ⟨_, rfl⟩ (.cons ⟨_, rfl⟩ .nil)))
    (case zlen => k_is)
    (case zlist => k_is)
    (case zisinstance => k_is)
    (case ztuple => k_is)
    (case zall => k_is)
    (case zzip => k_is)
    (case zbool => k_is)
    (case zint => k_is)
    (case zstr => k_is)
    (case zrange => k_is)
