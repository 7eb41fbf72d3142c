import PyProof.Rows.All
import Wide.All
import OpenK.AllK
import Wide.FinOn
import HandS.ForMost
import HandS.ForExc
import HandS.ExcInit
import HandS.ExcField
import HandS.HotCalls
import HandS.Lambda
import HandS.EndTab
import HandS.Wide
import HandS.FStr
import HandS.IsInst
import HandS.Defaults
import HandS.Zip
import HandS.Walk
import HandS.ExcIs
import HandS.EndOwn
import HandS.SetFor
import HandS.SortInts
import KE.KSortedM
import HandS.Conv
import HandS.TupMul
import HandS.More
import HandS.TupAny
import PyProof.InstNe
import PySem.Challenge.RW_earlywrite_k05_rows_of_numbers
set_option Elab.async false
set_option linter.all false
set_option maxRecDepth 100000
set_option maxHeartbeats 4000000
namespace Ew
open PySem PySem.Spec PyProof.Rows L2
/-! ## an error made without arguments by its own __init__ -/
def tMk0 (C : Addr) (sp : Sp) : L2.St → Hp → XK → Prop := fun _ H Q => ∀ a, H a = none → sp [.ref a] (upd H a (exo a C none))
  (fun v G => v = .non ∧ ∃ (d : Addr) (fs : List (Str × V)), G a = some (exo a C (some d)) ∧ G d = some (exd d fs) ∧ H d = none ∧ Q (.ref C) (some d) (upd (del G a) d (.xd fs))) (fun _ _ _ => False)
theorem pmk0 {X : Cx} {CX : CXT} {x : Str} {C fI : Addr} {k : Nat} {fd : FuncData} {ps : List Str} {sp : Sp} {p pos : Pos} (T : OexC X.K C)
    (iC : PySem.W.findIn X.K (.ref C) "__init__" = some (some (.ref fI))) (tI : PySem.W.typeIn X.K (.ref fI) = some (.type "function"))
    (F1 : FnOk X.prog X.w X.K X.mg X.base CX k fI fd ps sp) (hr : Room (k + 1) X.A) (hb : Binds X.K fd ps []) (hx : Passes CX X (fun _ _ _ => False))
    (hg : Gl X x) (hm : X.mg x = some (.ref C)) (hdb : (x == ("__debug__" : Str)) = false := by decide) : PMk X (.Call (.Name x p) [] [] pos) (tMk0 C sp) := by
  intro pins s σ H Q I h
  obtain ⟨_, _, _, _, bm, _, _, _, _, _, _, _, _, _, _, hC, hbm⟩ := T.cls
  refine wpAny_Call_Name_kw (ld_glob I hg hm ?_ hdb)
  refine PySem.W.callWith_K0 I.kIn T.kC ?_
  obtain ⟨hp, g, dr, tk, os⟩ := s
  have sz1 : hp.objs.size ≤ hp.objs.size + 1 := Nat.le_succ _
  have fr : H (hp.objs.size + 1) = none := I.hok.fresh sz1
  have hq := h (hp.objs.size + 1) fr
  have kept : ∀ b o, hp.get? b = some o → ((hp.push (PySem.W.kdv_tup [])).push (PySem.HandSPX.excO C hp.objs.size)).get? b = some o :=
    fun b o e => Heap.get?_push_of_some _ (Heap.get?_push_of_some _ e)
  have got : ((hp.push (PySem.W.kdv_tup [])).push (PySem.HandSPX.excO C hp.objs.size)).get? (hp.objs.size + 1) = some (PySem.HandSPX.excO C hp.objs.size) := by heap_get
  have I2 := I.laid (t' := tk) (o := exo (hp.objs.size + 1) C none) kept sz1 (exo_ok got)
  have r2 : Vals [V.ref (hp.objs.size + 1)] [Value.ref (hp.objs.size + 1)] := .cons rfl .nil
  have hl : ([Value.ref (hp.objs.size + 1)] ++ []).length = ps.length := by
    have e := r2.length
    rw [F1.len _ _ _ _ hq] at e
    exact e.symm
  have run := F1.run _ X.stack _ _ ⟨[Value.ref (hp.objs.size + 1)], []⟩ [Value.ref (hp.objs.size + 1)] _ _ (fun _ _ _ => False) (hr.make C [] []) (I2.env0.make C [] [])
    (by have z := hb _ [Value.ref (hp.objs.size + 1)] I2.kIn hl; rw [List.append_nil] at z; exact z) r2 hq
  refine wpAny_call (PySem.HandSPX.call_own F.excBase_ValueError (fun Y => PySem.HandSPX.refsVE_contains Y bm hbm) (I.kIn _ _ hC) (PySem.W.looks_findIn I.kIn iC)
    (fun self => PySem.W.bind_fn I.kIn self tI) (Nat.zero_le _) (codeAny_mono run fun r t hq' => ?_))
  cases r with
  | error er => exact hx pins σ _ _ er t I2 hq'
  | ok fl =>
    cases fl with
    | ret u =>
      obtain ⟨v, G, os2, bare2, un2, hok2, rv, ev, d, fs, ea, ed, hd1, q2⟩ := hq'
      subst ev
      obtain ⟨h2, g2, d2, t2, os'⟩ := t
      exact ⟨rv, mk_end (raises_own T.exC T.tyC) I sz1 kept un2 hok2 os2 bare2 ea ed hd1 q2⟩
    | next => exact hq'.elim
    | brk => exact hq'.elim
    | cont => exact hq'.elim
/-! ## what lies in flight when more is laid on the heap -/
theorem flying_kept {B h h' : Heap} {l : List Env} {e : Addr} {Z : Obj → Prop} (x : HandSPX.FlyingZ B l e Z h) (k : ∀ b o, h.get? b = some o → h'.get? b = some o) : HandSPX.FlyingZ B l e Z h' := by
  obtain ⟨x1, x2, x3, oe, vs, T, oT, ts, a1, a2, a3, a4, a5, a6, a7, a8, a9⟩ := x
  exact ⟨fun b o q => k b o (x1 b o q), x2, x3.of_keeps fun b o q _ => ⟨o, k b o q, rfl⟩, oe, vs, T, oT, ts, k _ _ a1, a2, a3, a4, a5, a6, k _ _ a7, a8, a9⟩
theorem upTo_kept {h h' h'' : Heap} (x : h.UpToSlots h') (k : ∀ b o, h'.get? b = some o → h''.get? b = some o) : h.UpToSlots h'' := fun b o e n => by
  obtain ⟨sl, q⟩ := x b o e n
  exact ⟨sl, k _ _ q⟩
/-! ## except (A, B, C) as n -/
def wAs3 (K : PySem.W.Frag) (c1 c2 c3 : Value) (m i : Nat) (ts : Addr → Value → Option Addr → TS) (D : Ends) : WX := fun cls d σ H =>
  PySem.W.exmAny K cls [c1, c2, c3] = some true ∧ ∀ a, H a = none → σ.length = m → ts a cls d { nx := fun τ G => D.nx (τ.set i none) G, rt := D.rt, bk := fun τ G => D.bk (τ.set i none) G, ct := fun τ G => D.ct (τ.set i none) G } (σ.set i (some (.ref a))) H
theorem ld_name {X : Cx} {pins : List (Addr × Obj)} {σ : L2.St} {H : Hp} {s : Shared} {x : Str} {c : Value} {p : Pos} {A : Around} {Q : Value → Shared → Prop} {E : Value → Shared → Prop} (I : Inv X pins σ H s) (hc : Names X x c) (q : Q c s) (hA : A = X.A) :
    wpAny (model X.prog X.w) A (eval (.Name x p) X.env) Q E s := by
  subst hA
  obtain ⟨hg, hdbg, hm | ⟨hm, hv, hnn⟩⟩ := hc
  · exact ld_glob I hg hm q hdbg
  · exact ld_blt I hg hm hv q hnn hdbg
theorem ps_try_as3 {X : Cx} {n x1 x2 x3 : Str} {c1 c2 c3 : Value} {i : Nat} {body suite : List Stmt} {b0 : Stmt} {p1 p2 p3 pt pos pos' : Pos} {kt} {tb : WX → TS} {ts : Addr → Value → Option Addr → TS}
    (hs : X.stack = X.env :: X.outer) (hf : X.env.frame = some X.env.locals) (hN : X.N.Nodup) (hi : X.N[i]? = some n) (hln : X.env.kindOf n = some .local)
    (n1 : Names X x1 c1) (n2 : Names X x2 c2) (n3 : Names X x3 c3)
    (hb : ∀ (W : WX) (pn : List (Addr × Obj)) (xe : Value → Shared → Prop), Takes (X.tr pn xe) W → PSs (X.tr pn xe) body (tb W))
    (hsu : ∀ (a : Addr) (oe : Obj) (cls : Value) (d : Option Addr) (pn : List (Addr × Obj)), Zc cls d oe → (∃ vs, oe.data = .fields vs) → PSs (X.suite a ((a, oe) :: pn)) (b0 :: suite) (ts a cls d))
    (st3 : starEach [.Name x1 p1, .Name x2 p2, .Name x3 p3] X.env = [(false, eval (.Name x1 p1) X.env), (false, eval (.Name x2 p2) X.env), (false, eval (.Name x3 p3) X.env)] := by rfl) :
    PS X (.Try body [.ExceptHandler (some (.Tuple [.Name x1 p1, .Name x2 p2, .Name x3 p3] kt pt)) (some n) (b0 :: suite) pos'] [] [] pos) (fun D σ H => tb (wAs3 X.K c1 c2 c3 X.N.length i ts D) D σ H) := by
  refine ⟨fun pins s σ H D I hwant => ?_⟩
  have xok := I.ok
  have frs1 : X.A.frames = some (X.env :: X.outer) := xok.frames.trans (congrArg some hs)
  have locn : Loc X.env.scope n := .inl hln
  refine wpAny_Try_except ?_
  refine wpAny_mono ((hb (wAs3 X.K c1 c2 c3 X.N.length i ts D) (X.pn ++ pins) (fun e z1 => wpAny (model X.prog X.w) X.A (noteFrame e X.env) (fun _ z2 => wpAny (model X.prog X.w) X.A (setFlight e none) (fun _ z3 =>
    wpAny (model X.prog X.w) X.A (handleBy e X.env [.ExceptHandler (some (.Tuple [.Name x1 p1, .Name x2 p2, .Name x3 p3] kt pt)) (some n) (b0 :: suite) pos']) (SP X pins D) X.xe z3) X.xe z2) X.xe z1) (fun u t xx => ?_)).run [] s σ H D (I.toTry _) hwant)
    (fun f z1 hsp => ?_) (fun e z1 he => he)
  · obtain ⟨a, B, sI, qs, τ, G, cls, d, rfl, J0, nb, up, sky, na, os, ag, hyes1, hyes⟩ := xx
    have J : Inv X pins τ G sI := J0.ofTry xok
    have sky1 : Sky B (X.env :: X.outer) a (Zc cls d) X.env.locals t.heap := by rw [← hs]; exact sky
    show wpAny (model X.prog X.w) X.A (noteFrame (.ref a) X.env) _ _ _
    refine Sky.land Zc.steady frs1 hf sky1 fun g3 fz up3 => ?_
    have up4 := up.trans up3
    have J3 : Inv X pins τ G { t with heap := g3 } := J.landed nb fz.1 up4 os ag
    obtain ⟨oe3, vs3, he3, hz3, hd3⟩ := fz.there
    have nfr : a ∉ frs (X.env :: X.outer) := fun hm => by
      obtain ⟨_, ob, eb, nfl⟩ := fz.2.2.1.mem hm
      rw [he3] at eb
      cases eb
      exact nfl _ hd3
    have nL : a ≠ X.env.locals := fun z => nfr (List.mem_filterMap.mpr ⟨X.env, List.mem_cons_self, by rw [hf, z]⟩)
    have nF : a ∉ X.fs := fun hm => by
      obtain ⟨ev, hev, q⟩ := List.mem_filterMap.mp hm
      exact nfr (List.mem_filterMap.mpr ⟨ev, List.mem_cons_of_mem _ hev, q⟩)
    have S3 := J3.suite he3 hd3 na nL nF
    refine wpAny_handleBy_cons (codeAny_handlers_test ?_) (by intro q; cases q)
    refine wpAny_Tuple_spliced ?_
    rw [st3]
    refine Calls.spliced_cons (ld_name (X := X.suite a ((a, oe3) :: (X.pn ++ pins))) S3 n1 ?_ rfl)
    refine Calls.spliced_cons (ld_name (X := X.suite a ((a, oe3) :: (X.pn ++ pins))) S3 n2 ?_ rfl)
    refine Calls.spliced_cons (ld_name (X := X.suite a ((a, oe3) :: (X.pn ++ pins))) S3 n3 ?_ rfl)
    refine Calls.spliced_nil ⟨(by show 3 ≤ sizeLine; decide), ?_⟩
    have kp : ∀ b o, g3.get? b = some o → (g3.push { cls := .type "tuple", data := .seq [c1, c2, c3].toArray }).get? b = some o := fun b o q => Heap.get?_push_of_some _ q
    have fz4 := flying_kept fz kp
    have up5 := upTo_kept up4 kp
    have J4 : Inv X pins τ G { t with heap := g3.push { cls := .type "tuple", data := .seq [c1, c2, c3].toArray } } := J.landed nb fz4.1 up5 os ag
    have LT : PySem.W.Looks (model X.prog X.w) (g3.push { cls := .type "tuple", data := .seq [c1, c2, c3].toArray }) (typeOf (.ref a)) cls := fun A Q E s k q => wpAny_typeOf_ref (k _ _ (kp _ _ he3)) (by rw [hz3.1]; exact q)
    have LM := PySem.W.exm_tup3 (M := model X.prog X.w) (tp := g3.objs.size) J4.kIn LT (Heap.get?_push_size _ rfl) hyes1
    refine LM.here ?_
    refine codeAny_handlers_suite_as ?_
    refine HandSPX.lands_againZ fz4 fun g5 fz5 up6 => ?_
    have J5 : Inv X pins τ G { t with heap := g5 } := J.landed nb fz5.1 (up5.trans up6) os ag
    obtain ⟨oe5, vs5, he5, hz5, hd5⟩ := fz5.there
    have S5 := J5.suite he5 hd5 na nL nF
    refine store_ok (X := X.suite a ((a, oe5) :: (X.pn ++ pins))) (v := .ref a) S5 hN hi locn rfl (fun z5 S6 => ?_) (.inr hln)
    refine wpAny_mono ((hsu a oe5 cls d (X.pn ++ pins) hz5 ⟨_, hd5⟩).run [] z5 _ G _ S6 (hyes a na J.len)) (fun f z6 hsp => ?_) (fun _ _ z => z.elim)
    have fin : ∀ {τ6 : L2.St} {G6 : Hp} {Q : Shared → Prop}, Inv (X.suite a ((a, oe5) :: (X.pn ++ pins))) [] τ6 G6 z6 → (∀ z7, Inv X pins (τ6.set i none) G6 z7 → Q z7) →
        wpAny (model X.prog X.w) X.A (do bindName X.env n .none; unbindBehindTheSuite X.env n pos') (fun _ z7 => Q z7) X.xe z6 := fun S7 hq => gone_ok (S7.unsuite xok) hN hi hln hq
    cases f with
    | next =>
      obtain ⟨_, _, S7, q7⟩ := hsp
      exact fin S7 fun _ J8 => ⟨_, _, J8, q7⟩
    | brk =>
      obtain ⟨_, _, S7, q7⟩ := hsp
      exact fin S7 fun _ J8 => ⟨_, _, J8, q7⟩
    | cont =>
      obtain ⟨_, _, S7, q7⟩ := hsp
      exact fin S7 fun _ J8 => ⟨_, _, J8, q7⟩
    | ret u =>
      obtain ⟨_, _, _, S7, r7, q7⟩ := hsp
      exact fin S7 fun _ J8 => ⟨_, _, _, J8, r7, q7⟩
  · cases f with
    | next =>
      obtain ⟨τ, G, J0, q⟩ := hsp
      exact wpAny_execs_nil ⟨τ, G, J0.ofTry xok, q⟩
    | brk =>
      obtain ⟨τ, G, J0, q⟩ := hsp
      exact ⟨τ, G, J0.ofTry xok, q⟩
    | cont =>
      obtain ⟨τ, G, J0, q⟩ := hsp
      exact ⟨τ, G, J0.ofTry xok, q⟩
    | ret u =>
      obtain ⟨v, τ, G, J0, r, q⟩ := hsp
      exact ⟨v, τ, G, J0.ofTry xok, r, q⟩
/-! ## an error's field, wherever the error is pinned -/
theorem pe_xfp {X : Cx} {a C : Addr} {oe : Obj} {cls : Value} {d : Option Addr} {e : Expr} {te : TE} {pos : Pos} {n : Str} (T : XfC X.K C) (hno : PySem.W.findIn X.K (.ref C) n = some none)
    (hz : Zc cls d oe) (hf : ∃ vs, oe.data = .fields vs) (hpn : (a, oe) ∈ X.pn) (he : PE X e te) (hb : attributeBase e n X.env (eval e X.env) = eval e X.env := by rfl) :
    PE X (.Attribute e n pos) (tXf a cls d C n te) := by
  refine ⟨fun pins s σ H Q I h => ?_⟩
  refine attr_of hb (thn (he.run pins s σ H _ I h) fun u z1 ⟨x, G, I1, rx, ex, ec, dd, fs, v, ed, ea, l, q⟩ => ?_)
  subst ex ec ed
  obtain rfl : u = Value.ref a := rx
  have ha := (I1.pin (a, oe) (List.mem_append_left _ hpn)).1
  obtain ⟨vs, hd⟩ := hf
  obtain ⟨mA, hns, hr⟩ := (show ObjOk X.prog X.w G z1.heap dd (.xd fs) from I1.hok dd _ ea)
  obtain ⟨od, ho, hl⟩ := lookIn_ns hns
  obtain ⟨u, hu, ru⟩ := RelO.some_of (v := v) (o := mA n) (by rw [← l]; exact hr n)
  have J : PySem.W.InstAt z1.heap a oe C (some od) := ⟨ha, hz.1, by unfold PySem.W.notCls; rw [hd] <;> rfl, by rw [hz.2]; exact ho⟩
  exact HandSPX.exc_get I1.kIn J T.ga T.gg T.exC (PySem.W.findObj_own T.hdC hno rfl (by rw [hl, hu])) (handed_of ru) ⟨v, G, I1.tok _, ru, q⟩
/-! ## // by any divisor that is not zero -/
def CDivZ (_ j : Int) : Prop := j ≠ 0 ∧ j.natAbs.log2 < 9000
theorem op_fdivZ {X : Cx} : OpR X (binaryOp .FloorDiv) (rI CDivZ fun i j => .int (i.fdiv j)) := opI fun _ _ _ _ _ _ _ hc q => floordiv_int hc.1 q (.inl (PyProof.noPylong_of_log2 hc.2))
/-! ## the mathematics of fractions -/
def gcdI (a b : Int) : Int := ((Nat.gcd a.natAbs b.natAbs : Nat) : Int)
theorem gcdI_step {x y : Int} (hx : 0 ≤ x) (hy : 0 < y) : gcdI y (x % y) = gcdI x y := by
  obtain ⟨m, rfl⟩ := Int.eq_ofNat_of_zero_le hx
  obtain ⟨n, rfl⟩ := Int.eq_ofNat_of_zero_le (Int.le_of_lt hy)
  unfold gcdI
  rw [← Int.natCast_emod, Int.natAbs_natCast, Int.natAbs_natCast, Int.natAbs_natCast, Nat.gcd_comm n (m % n), ← Nat.gcd_rec n m, Nat.gcd_comm]
theorem gcdI_zero {x : Int} (hx : 0 ≤ x) : gcdI x 0 = x := by
  unfold gcdI
  rw [Int.natAbs_zero, Nat.gcd_zero_right]
  omega
theorem gcdI_nn (a b : Int) : 0 ≤ gcdI a b := Int.natCast_nonneg _
theorem gcdI_pos {a b : Int} (h : b ≠ 0) : 0 < gcdI a b := by
  have := Nat.gcd_pos_of_pos_right a.natAbs (show 0 < b.natAbs by omega)
  unfold gcdI
  omega
theorem gcdI_le {a b : Int} (h : b ≠ 0) : gcdI a b ≤ (b.natAbs : Int) := by
  have := Nat.gcd_le_right a.natAbs (show 0 < b.natAbs by omega)
  unfold gcdI
  omega
def absI (i : Int) : Int := if i < 0 then -i else i
theorem absI_nn (i : Int) : 0 ≤ absI i := by unfold absI; split <;> omega
theorem absI_natAbs (i : Int) : (absI i).natAbs = i.natAbs := by unfold absI; split <;> omega
theorem gcdI_abs (a b : Int) : gcdI (absI a) (absI b) = gcdI a b := by unfold gcdI; rw [absI_natAbs, absI_natAbs]
theorem gcdI_abs1 (a b : Int) : gcdI (absI a) b = gcdI a b := by unfold gcdI; rw [absI_natAbs]
theorem gcdI_neg (a b : Int) : gcdI (-a) (-b) = gcdI a b := by unfold gcdI; rw [Int.natAbs_neg, Int.natAbs_neg]
/-- the fraction of a and b, b not zero -/
def frN (a b : Int) : Int := (if b < 0 then -a else a) / gcdI a b
def frD (a b : Int) : Int := (if b < 0 then -b else b) / gcdI a b
theorem wide_of {j : Int} {n : Nat} (h : j ≠ 0) (hb : j.natAbs < 2 ^ n) (h0 : 0 < n) (h9 : n ≤ 9000) : CDivZ i j := ⟨h, Nat.lt_of_lt_of_le (PySem.Flt.log2_lt_of h0 hb) h9⟩
theorem fdiv_flip (a : Int) {g : Int} (hg : 0 < g) : a.fdiv (-g) = (-a) / g := by
  have e : a.fdiv (-g) = (-(-a)).fdiv (-g) := by rw [Int.neg_neg]
  rw [e, Int.neg_fdiv_neg, Int.fdiv_eq_ediv_of_nonneg _ (by omega)]
theorem ifT {c : Bool} {A B : Prop} (hc : c = true) (h : A) : if c = true then A else B := by
  rw [if_pos hc]
  exact h
theorem ifF {c : Bool} {A B : Prop} (hc : c = false) (h : B) : if c = true then A else B := by
  rw [hc]
  exact iteF h
theorem ne_int {x y : Int} (h : x ≠ y) : (!decide (V.int x = V.int y)) = true := by simp [h]
theorem eq_int {x y : Int} (h : x ≠ y) : decide (V.int x = V.int y) = false := by simp [h]
/-! ## errors: what the written part says of a class over ValueError with self.tag = t in its __init__ -/
structure ErrT (K : PySem.W.Frag) (mg : Str → Option Value) (x : Str) (C fI : Addr) : Prop where
  gC : mg x = some (.ref C)
  oex : OexC K C
  iC : PySem.W.findIn K (.ref C) "__init__" = some (some (.ref fI))
  tI : PySem.W.typeIn K (.ref fI) = some (.type "function")
  nT : PySem.W.findIn K (.ref C) "tag" = some none
  xf : XfC K C
def spInitTag (K : PySem.W.Frag) (C : Addr) (t : Str) : Sp := fun vs H Q _ => ∃ a, vs = [.ref a] ∧ H a = some (exo a C none) ∧ ∀ dx, H dx = none → dx ≠ a → Q .non (upd (upd H dx (exd dx [("tag", .str t)])) a (exo a C (some dx)))
theorem raise_heap {H : Hp} {a dx : Addr} {o1 o2 o3 u : HO} (ha : H a = none) (hd : upd H a o1 dx = none) (ne : dx ≠ a) : upd (del (upd (upd (upd H a o1) dx o2) a o3) a) dx u = upd H dx u := by
  funext b
  by_cases h1 : b = dx
  · rw [h1, upd_same, upd_same]
  · rw [upd_ne h1, upd_ne h1]
    by_cases h2 : b = a
    · rw [h2, del_same, ha]
    · rw [del_ne h2, upd_ne h2, upd_ne h1, upd_ne h2]
/-- the text of a fraction -/
def frText (n d : Int) : Str := if d = 1 then Str.ofString (toString n) else Str.ofString (toString n) ++ "/" ++ Str.ofString (toString d)
/-! ## the numbers that a law draws -/
def RngOk (i v sd : Int) : Prop := 0 ≤ i ∧ 0 ≤ v ∧ 0 ≤ sd ∧ sd < 2147483549
def rngL (q : Addr) (i v sd : Int) : List V := [.ref q, .int i, .int v, .int sd]
structure RngAt (H : Hp) (p q : Addr) (ns : List Int) (i v sd : Int) : Prop where
  at_p : H p = some (.lst (rngL q i v sd))
  at_q : H q = some (.lst (ns.map V.int))
  len : ns.length ≤ 63
  ok : RngOk i v sd
  ne : q ≠ p
theorem RngAt.next {H : Hp} {p q : Addr} {ns : List Int} {i v sd i' v' sd' : Int} (R : RngAt H p q ns i v sd) (h : RngOk i' v' sd') : RngAt (upd H p (.lst (rngL q i' v' sd'))) p q ns i' v' sd' :=
  ⟨upd_same, by rw [upd_ne R.ne]; exact R.at_q, R.len, h, R.ne⟩
theorem mul_small {i j : Int} (h0 : -9223372036854775808 < i) (h1 : i < 9223372036854775808) : CMul i j := by
  have e : (2 : Int) ^ 64 = 18446744073709551616 := by decide
  refine .inl ⟨?_, ?_⟩
  · rw [e]; omega
  · rw [e]; omega
theorem cut63 {ns : List Int} (h : ns.length ≤ 63) : cutV (ns.map V.int) none (some 63) = ns.map V.int := by
  unfold cutV
  rw [HT.sIx_none, List.drop_zero]
  have e := HT.sIx_nat (ns.map V.int).length (ns.map V.int).length 63
  rw [show (some (63 : Int)) = some ((63 : Nat) : Int) from rfl, e, Nat.sub_zero, List.take_of_length_le]
  rw [List.length_map]
  omega
def seedStep (sd c : Int) : Int := (sd * 40009 + c % 2147483549 + 31) % 2147483549
theorem upd_id {H : Hp} {a : Addr} {o : HO} (h : H a = some o) : upd H a o = H := by
  funext b
  by_cases e : b = a
  · rw [e, upd_same, h]
  · rw [upd_ne e]
theorem rng_0 {q : Addr} {i v sd : Int} : atI (rngL q i v sd) 0 = some (.ref q) := rfl
theorem rng_1 {q : Addr} {i v sd : Int} : atI (rngL q i v sd) 1 = some (.int i) := rfl
theorem rng_2 {q : Addr} {i v sd : Int} : atI (rngL q i v sd) 2 = some (.int v) := rfl
theorem rng_3 {q : Addr} {i v sd : Int} : atI (rngL q i v sd) 3 = some (.int sd) := rfl
theorem get_int {ns : List Int} {i : Int} (h0 : 0 ≤ i) (h1 : i < (ns.length : Int)) : ∃ c, c ∈ ns ∧ atI (ns.map V.int) i = some (.int c) := by
  obtain ⟨m, rfl⟩ := Int.eq_ofNat_of_zero_le h0
  have hm : m < ns.length := by omega
  refine ⟨ns[m], List.getElem_mem hm, atI_nat ?_⟩
  rw [List.getElem?_map, List.getElem?_eq_getElem hm]
  rfl
theorem map_int_at {ns : List Int} {i : Nat} {y : V} (h : (ns.map V.int)[i]? = some y) : ∃ c, y = .int c := by
  rw [List.getElem?_map] at h
  cases e : ns[i]? with
  | none =>
    rw [e] at h
    cases h
  | some c =>
    rw [e] at h
    exact ⟨c, (Option.some.inj h).symm⟩
/-! ## two values that hold the same data, at most n deep -/
def flatS : V → Bool
  | .non => true | .bl _ => true | .int _ => true | .str _ => true | _ => false
def SameN (K : PySem.W.Frag) (H : Hp) : Nat → V → V → Prop
  | 0, _, _ => False
  | n + 1, x, y => (x = y ∧ flatS x = true) ∨ ∃ (a b : Addr) (xs ys : List V), x = .ref a ∧ y = .ref b ∧ ((SqL K H a xs ∧ SqL K H b ys) ∨ (SqT K H a xs ∧ SqT K H b ys)) ∧ xs.length = ys.length ∧ xs.length ≤ 1000 ∧
      ∀ (i : Nat) (u v : V), xs[i]? = some u → ys[i]? = some v → SameN K H n u v
theorem seqT {K : PySem.W.Frag} {H G : Hp} {a : Addr} {xs : List V} (e : Same H G) (h : SqT K H a xs) : SqT K G a xs := by
  rcases h with (h | ⟨o, h⟩) | h
  · exact .inl (.inl (e _ _ h))
  · exact .inl (.inr ⟨o, e _ _ h⟩)
  · exact .inr h
theorem SameN.same {K : PySem.W.Frag} {H G : Hp} (e : Same H G) : ∀ {n : Nat} {x y : V}, SameN K H n x y → SameN K G n x y
  | 0, _, _, h => h
  | n + 1, x, y, h => by
    rcases h with h | ⟨a, b, xs, ys, h1, h2, h3, h4, h5, h6⟩
    · exact .inl h
    · refine .inr ⟨a, b, xs, ys, h1, h2, ?_, h4, h5, fun i u v p q => (h6 i u v p q).same e⟩
      rcases h3 with ⟨p, q⟩ | ⟨p, q⟩
      · exact .inl ⟨e.seq p, e.seq q⟩
      · exact .inr ⟨seqT e p, seqT e q⟩
theorem ty_list {K : PySem.W.Frag} {H : Hp} {a : Addr} {xs : List V} (h : SqL K H a xs) : TyX K H (.ref a) (.type "list") := by
  rcases h with (h | ⟨o, h⟩) | ⟨o, its, n, h, c, _⟩
  · exact .base (.lst h)
  · exact .base (.frz h)
  · exact .kList h c
theorem ty_tup {K : PySem.W.Frag} {H : Hp} {a : Addr} {xs : List V} (h : SqT K H a xs) : TyX K H (.ref a) (.type "tuple") := by
  rcases h with (h | ⟨o, h⟩) | ⟨o, its, n, h, c, _⟩
  · exact .base (.tup h)
  · exact .fTuple h
  · exact .kTuple h c
theorem walk_zipT {K : PySem.W.Frag} {a b : Addr} {xs ys : List V} (hn : xs.length = ys.length) : Walk (RZ.ItzT K a b) xs.length (fun H => SqT K H a xs ∧ SqT K H b ys) (YPair (fun i => xs[i]?) (fun i => ys[i]?)) :=
  ⟨fun i H hi q => ⟨xs, ys, xs[i], ys[i]'(by omega), q.1, q.2, by simp [hi], by simp [show i < ys.length by omega]⟩, fun H q => ⟨xs, ys, q.1, q.2, .inl (Nat.le_refl _)⟩,
    fun i H x G hi q ⟨T, u, v, e1, e2, e3, e4, e5⟩ => ⟨T, u, v, e1, e2, e3, e4 xs q.1, e5 ys q.2⟩⟩
theorem same_upd {H G : Hp} {p : Addr} {o : HO} (e : Same H G) (h : G p = none) : Same H (upd G p o) := fun b u q => by
  rw [upd_ne (ne_of_none (e b u q) h)]
  exact e b u q
theorem same_updN {H G : Hp} {p : Addr} {o : HO} (e : Same H G) (h : H p = none) : Same H (upd G p o) := fun b u q => by
  rw [upd_ne (ne_of_none q h)]
  exact e b u q
theorem kitLT {K : PySem.W.Frag} {t : String} {r : Bool} (h1 : kitB t "list" = some false) (h2 : kitB t "tuple" = some r) : PySem.W.kitAny K (.type t) [.type "list", .type "tuple"] = some r :=
  kitAny_cons (kit_ty h1) (fun _ => kitAny_cons (kit_ty h2) (fun e => by rw [e]; exact kitAny_nil) (fun e => e)) (fun e => Bool.noConfusion e)
theorem kitL {K : PySem.W.Frag} {t : String} (h1 : kitB t "list" = some true) : PySem.W.kitAny K (.type t) [.type "list", .type "tuple"] = some true :=
  kitAny_cons (kit_ty h1) (fun e => Bool.noConfusion e) (fun _ => rfl)
theorem all_true (n : Nat) : (List.replicate n true).all id = true := by simp
theorem map_rep (n : Nat) : (List.replicate n true).map V.bl = List.replicate n (V.bl true) := by simp
theorem ne_bl (b : Bool) : (!decide (V.bl b = V.bl b)) = false := by simp
theorem paired2 : Paired ClsV [V.ty "list", V.ty "tuple"] [Value.type "list", Value.type "tuple"] := .cons (.ty _) (.cons (.ty _) .nil)
/-! ## an error's field; what its class says stands in the reading -/
@[irreducible] def tXq (K : PySem.W.Frag) (a : Addr) (cls : Value) (d : Option Addr) (f : Str) (te : TE) : TE := fun σ H Q => te σ H fun x G => x = .ref a ∧ ∃ C, cls = .ref C ∧ XfC K C ∧ PySem.W.findIn K (.ref C) f = some none ∧ ∃ (dd : Addr) (fs : List (Str × V)) (v : V), d = some dd ∧ G dd = some (.xd fs) ∧ fs.lookup f = some v ∧ Q v G
theorem pe_xq {X : Cx} {a : Addr} {oe : Obj} {cls : Value} {d : Option Addr} {e : Expr} {te : TE} {pos : Pos} {n : Str} (hz : Zc cls d oe) (hf : ∃ vs, oe.data = .fields vs) (hpn : (a, oe) ∈ X.pn) (he : PE X e te) (hb : attributeBase e n X.env (eval e X.env) = eval e X.env := by rfl) :
    PE X (.Attribute e n pos) (tXq X.K a cls d n te) := by
  refine ⟨fun pins s σ H Q I h => ?_⟩
  unfold tXq at h
  refine attr_of hb (thn (he.run pins s σ H _ I h) fun u z1 ⟨x, G, I1, rx, ex, C, ec, T, hno, dd, fs, v, ed, ea, l, q⟩ => ?_)
  subst ex ec ed
  obtain rfl : u = Value.ref a := rx
  have ha := (I1.pin (a, oe) (List.mem_append_left _ hpn)).1
  obtain ⟨vs, hd⟩ := hf
  obtain ⟨mA, hns, hr⟩ := (show ObjOk X.prog X.w G z1.heap dd (.xd fs) from I1.hok dd _ ea)
  obtain ⟨od, ho, hl⟩ := lookIn_ns hns
  obtain ⟨u, hu, ru⟩ := RelO.some_of (v := v) (o := mA n) (by rw [← l]; exact hr n)
  have J : PySem.W.InstAt z1.heap a oe C (some od) := ⟨ha, hz.1, by unfold PySem.W.notCls; rw [hd] <;> rfl, by rw [hz.2]; exact ho⟩
  exact HandSPX.exc_get I1.kIn J T.ga T.gg T.exC (PySem.W.findObj_own T.hdC hno rfl (by rw [hl, hu])) (handed_of ru) ⟨v, G, I1.tok _, ru, q⟩
/-! ## a def of one parameter, called within an except suite with what is pinned there -/
theorem pe_callP {X : Cx} {k : Nat} {f : Addr} {nm name qual x0 : Str} {params : Arguments} {body : List Stmt} {scope : Scope} {dV kV doc pm cdv ct oc : Value} {an od : Option Addr} {osl : Array (Option Value)} {N : List Str} {sp : V → Hp → VK → Prop} {q pos : Pos} {e : Expr} {te : TE}
    (lk : X.K.lookup f = some ⟨oc, od, .func (PySem.W.fnOf name qual params body scope dV kV doc pm an cdv ct), osl⟩) (hcd : PySem.W.codeIn X.K cdv qual = true) (S : FnScope N [x0] scope) (p : Addr × Obj) (hp : p ∈ X.pn) (hr : L2H.RoomH (k + 1) X.A)
    (hg : Gl X nm) (hm : X.mg nm = some (.ref f)) (hk : PySem.W.keepIn X.K (.ref f) = true) (hb : Binds X.K (PySem.W.fnOf name qual params body scope dV kV doc pm an cdv ct) [x0] [])
    (hbody : ∀ (A : Around) (outer : List Env) (s : Shared) (H : Hp) (v : V) (Q : VK), L2H.RoomH k (A.deeper (envOfC qual scope s.heap.objs.size f cdv)) → sp v H Q → ∃ t, PSs (L2H.cxH CX0 X.prog X.w X.K X.mg X.base N qual scope f cdv A outer s H E0 p) body t ∧ t { nx := fun _ G => Q .non G, rt := Q } (L2.start N [v]) H)
    (he : PE X e te) (hdb : (nm == ("__debug__" : Str)) = false := by decide) (h1 : starEach [e] X.env = (false, eval e X.env) :: starEach [] X.env := by rfl) (h2 : (backTo pos (starEach [] X.env)).any (·.1) = false := by rfl) :
    PE X (.Call (.Name nm q) [e] [] pos) (fun σ H Q => tCons te tNil σ H fun vs G => ∃ v, vs = [v] ∧ sp v G Q) := by
  refine ⟨fun pins s σ H Q I h => ?_⟩
  refine wpAny_Call_Name_kw (ld_glob I hg hm ?_ hdb)
  refine PySem.W.callWith_K (h₀ := X.base) I.ok.mod.kin hk (thn ((pa_cons he pa_nil h1).run pos pins s σ H _ I h) fun us z ⟨vs, G, I1, r, v, ev, hsp⟩ => ⟨I1.kIn, ?_⟩) h1 h2
  subst ev
  obtain ⟨u, rfl, ru⟩ : ∃ u, us = [u] ∧ RelV v u := by
    cases r with
    | cons r1 r2 =>
      cases r2
      exact ⟨_, rfl, r1⟩
  have P1 := I1.pin p (List.mem_append_left _ hp)
  have hpin : L2H.PinOk X.stack G z p := ⟨P1.1, P1.2.1, fun hin => (List.mem_cons.mp (I1.stkSub p.1 hin)).elim P1.2.2.1 P1.2.2.2.1, P1.2.2.2.2⟩
  have run : codeAny (model X.prog X.w) X.A (.call (.ref f) ⟨[u], []⟩) (CR CX0 X.stack X.prog X.w G z Q E0) z := by
    have KX := I1.kIn
    have kinds : ∀ y ∈ [x0].zip [u], scope.names.lookup y.1 = some .local ∨ (scope.names.lookup y.1 = some .cell ∧ ((cellsFrom (z.heap.objs.size + 1) scope.names []).lookup y.1).isSome = true) := fun ⟨n, _⟩ hy => by
      rcases S.par n (List.of_mem_zip hy).1 with w1 | w1
      · exact .inl w1
      · exact .inr ⟨w1, PySem.W.cellsFrom_some _ _ _ (.inl w1)⟩
    have hbs := hb z [u] KX rfl
    refine codeAny_call_function hr.depth (KX _ _ lk) rfl S.co S.gen rfl (PySem.W.codeRec_of KX hcd) (hbs _ _ _ _ ?_)
    refine wpAny_newFunctionEnv_cells S.kind kinds fun env henv z2 x => ?_
    subst henv
    refine ⟨I1.nolimit.keeps x.toInCall.keep, codeAny_func ?_⟩
    obtain ⟨t, ht, hq⟩ := hbody X.A X.stack z G v Q (hr.deeper _) hsp
    have J := L2H.inv_startH (CX := CX0) (E := E0) S hpin I1.env0 (vs := [v]) rfl (.cons ru .nil) x
    refine wpAny_mono (ht.run [] z2 _ G _ J hq) (fun fl z3 hs => ?_) fun e z3 hs => hs
    cases fl with
    | ret u3 =>
      obtain ⟨v3, _, G3, J3, rv, q3⟩ := hs
      exact ⟨v3, G3, J3.os, J3.bare, J3.base, J3.hok, rv, q3⟩
    | next =>
      obtain ⟨_, G3, J3, q3⟩ := hs
      exact ⟨V.non, G3, J3.os, J3.bare, J3.base, J3.hok, rfl, q3⟩
    | brk =>
      obtain ⟨_, _, _, q3⟩ := hs
      exact q3.elim
    | cont =>
      obtain ⟨_, _, _, q3⟩ := hs
      exact q3.elim
  refine wpAny_call (codeAny_mono run fun res z4 hq => ?_)
  cases res with
  | error er => exact (show False from hq).elim
  | ok fl =>
    cases fl with
    | ret u4 => exact I1.after hq
    | next => exact hq.elim
    | brk => exact hq.elim
    | cont => exact hq.elim
/-! ## which field an error has -/
def tags5 : List V := [.str "CircularName", .str "InvalidName", .str "DuplicateName", .str "WrongKind", .str "UndefinedName"]
def tags2 : List V := [.str "InvalidText", .str "InvalidCommand"]
structure NoneTag (t : Str) : Prop where
  h5 : inV (.str t) tags5 = false
  h2 : inV (.str t) tags2 = false
  h3 : t ≠ "InvalidMachine"
  h4 : t ≠ "LimitReached"
  h6 : t ≠ "NameInUse"
  h7 : t ≠ "InvalidDocument"
def ErrAt (K : PySem.W.Frag) (G : Hp) (cls : Value) (d : Option Addr) (t : Str) : Prop := ∃ (C dd : Addr) (fs : List (Str × V)), cls = .ref C ∧ XfC K C ∧ PySem.W.findIn K (.ref C) "tag" = some none ∧ d = some dd ∧ G dd = some (.xd fs) ∧ fs.lookup ("tag" : Str) = some (V.str t)
theorem ErrAt.same {K : PySem.W.Frag} {G G' : Hp} {cls : Value} {d : Option Addr} {t : Str} (e : Same G G') (h : ErrAt K G cls d t) : ErrAt K G' cls d t := by
  obtain ⟨C, dd, fs, h1, h2, h3, h4, h5, h6⟩ := h
  exact ⟨C, dd, fs, h1, h2, h3, h4, e _ _ h5, h6⟩
theorem tag_read {K : PySem.W.Frag} {G : Hp} {cls : Value} {d : Option Addr} {t : Str} {a : Addr} {i : Nat} {σ : L2.St} {Q : VK} (h : ErrAt K G cls d t) (hs : σ[i]? = some (some (.ref a))) (q : Q (.str t) G) : tXq K a cls d "tag" (tVar i) σ G Q := by
  obtain ⟨C, dd, fs, h1, h2, h3, h4, h5, h6⟩ := h
  unfold tXq
  exact ⟨_, hs, rfl, C, h1, h2, h3, dd, fs, _, h4, h5, h6, q⟩
theorem ne_str {x y : Str} (h : x ≠ y) : decide (V.str x = V.str y) = false := by simp [h]
def spField (K : PySem.W.Frag) (a : Addr) (cls : Value) (d : Option Addr) : V → Hp → VK → Prop := fun v H Q => v = .ref a ∧ ∃ t, ErrAt K H cls d t ∧ NoneTag t ∧ ∀ G, Same H G → Q .non G
/-! ## _law_outcome(lambda: ..): what is wanted of the lambda -/
def OutWish (K : PySem.W.Frag) (c1 c2 c3 : Value) (Q : VK) : XK := fun cls d G => PySem.W.exmAny K cls [c1, c2, c3] = some true ∧ ∃ t, ErrAt K G cls d t ∧ NoneTag t ∧ ∀ G' p, Same G G' → G' p = none → Q (.ref p) (upd G' p (.tup [.str t, .non]))
def TTo (K : PySem.W.Frag) (c1 c2 c3 : Value) : (XK → Hp → VK → Prop) → Hp → VK → Prop := fun tl H Q => tl (OutWish K c1 c2 c3 Q) H (fun v G => (2 : Nat) ≤ sizeLine ∧ ∀ p, G p = none → Q (.ref p) (upd G p (.tup [.str "", v])))
theorem pss_ex {X : Cx} {ι : Type} {C : ι → Prop} {b : List Stmt} {t : ι → TS} (h : ∀ i, C i → PSs X b (t i)) : PSs X b (fun D σ H => ∃ i, C i ∧ t i D σ H) :=
  ⟨fun pins s σ H D I ⟨i, hi, w⟩ => (h i hi).run pins s σ H D I w⟩
/-! ## what is no list stays -/
def Keep (G G' : Hp) : Prop := ∀ b o, G b = some o → (∀ xs, o ≠ .lst xs) → G' b = some o
theorem Keep.of {G G' : Hp} (e : Same G G') : Keep G G' := fun b o h _ => e b o h
theorem Keep.trans {G G1 G2 : Hp} (a : Keep G G1) (b : Keep G1 G2) : Keep G G2 := fun c o h n => b c o (a c o h n) n
theorem Keep.put {G : Hp} {p : Addr} {xs : List V} {o : HO} (h : G p = some (.lst xs)) : Keep G (upd G p o) := fun b u q n => by
  rw [upd_ne (fun z => n xs (Option.some.inj (q.symm.trans (by rw [z]; exact h))))]
  exact q
theorem Keep.new {G : Hp} {p : Addr} {o : HO} (h : G p = none) : Keep G (upd G p o) := Keep.of (same_upd (Same.refl G) h)
theorem Keep.tabs {T : List (Addr × Str)} {G G' : Hp} (e : Keep G G') (h : LamX.Tabs T G) : LamX.Tabs T G' := fun p hp => by
  obtain ⟨ps, h1, h2, h3⟩ := h p hp
  refine ⟨ps, e _ _ h1 (fun xs z => nomatch z), h2, fun pos cv hc => ?_⟩
  obtain ⟨c, e1, e2⟩ := h3 pos cv hc
  exact ⟨c, e1, e _ _ e2 (fun xs z => by unfold LamX.CodeO at z; cases z)⟩
theorem RngAt.same {G G' : Hp} {p q : Addr} {ns : List Int} {i v sd : Int} (e : Same G G') (R : RngAt G p q ns i v sd) : RngAt G' p q ns i v sd := ⟨e _ _ R.at_p, e _ _ R.at_q, R.len, R.ok, R.ne⟩
theorem RngAt.extN {G G' : Hp} {p q : Addr} {ns : List Int} {i v sd : Int} (e : LamX.ExtN G G') (R : RngAt G p q ns i v sd) : RngAt G' p q ns i v sd :=
  ⟨e _ _ R.at_p (fun ps z => nomatch z), e _ _ R.at_q (fun ps z => nomatch z), R.len, R.ok, R.ne⟩
theorem not_true_if {A B : Prop} (h : B) : if (!true) = true then A else B := iteF h
theorem big_lt {n : Nat} {a : Int} (h : a.natAbs < 2 ^ n) (hn : n ≤ 8000) : a.natAbs < 2 ^ 8000 := Nat.lt_of_lt_of_le h (Nat.pow_le_pow_right (by decide) hn)
theorem log_small {m : Nat} (h : m ≤ 1000000000000000000000000000000) : m.log2 < 1920 := by
  have z : m < 2 ^ 100 := Nat.lt_of_le_of_lt h (by decide)
  exact Nat.lt_of_lt_of_le (PySem.Flt.log2_lt_of (by decide) z) (by decide)
theorem gcdI_one (a : Int) : gcdI a 1 = 1 := by unfold gcdI; rw [Int.natAbs_one, Nat.gcd_one_right]; rfl
theorem frN_one (a : Int) : frN a 1 = a := by unfold frN; rw [gcdI_one, if_neg (by decide), Int.ediv_one]
theorem frD_one (a : Int) : frD a 1 = 1 := by unfold frD; rw [gcdI_one, if_neg (by decide), Int.ediv_one]
theorem ediv_abs_le (a : Int) {g : Int} (hg : 0 < g) : (a / g).natAbs ≤ a.natAbs := by
  rcases Int.le_total 0 a with h | h
  · have h1 := Int.ediv_nonneg h (Int.le_of_lt hg)
    have h2 := Int.ediv_le_self g h
    omega
  · have h3 := Int.ediv_mul_le a (Int.ne_of_gt hg)
    have h4 : a / g ≤ 0 := by
      have := Int.ediv_le_ediv hg h
      rwa [Int.zero_ediv] at this
    have h5 := Int.lt_ediv_add_one_mul_self a hg
    -- a ≤ a / g
    have h6 : a ≤ a / g := by
      rcases Int.lt_or_le (a / g) a with q | q
      · exfalso
        have h7 : a / g + 1 ≤ a := by omega
        have h8 : (a / g + 1) * g ≤ (a / g + 1) * 1 ∨ (a / g + 1) > 0 := by
          rcases Int.lt_or_le 0 (a / g + 1) with z | z
          · exact .inr z
          · exact .inl (Int.mul_le_mul_of_nonpos_left z (by omega))
        rcases h8 with z | z
        · omega
        · omega
      · exact q
    omega
theorem frN_abs (a b : Int) (hb : b ≠ 0) : (frN a b).natAbs ≤ a.natAbs := by
  unfold frN
  have := ediv_abs_le (if b < 0 then -a else a) (gcdI_pos (a := a) hb)
  split at this <;> split <;> omega
theorem frD_abs (a b : Int) (hb : b ≠ 0) : (frD a b).natAbs ≤ b.natAbs := by
  unfold frD
  have := ediv_abs_le (if b < 0 then -b else b) (gcdI_pos (a := a) hb)
  split at this <;> split <;> omega
/-! ## what the head tells of a def, an error's class, the law's own code object -/
def DefAt (K : PySem.W.Frag) (x qual : Str) (st : Stmt) (f : Addr) : Prop := ∃ fd, Fun K x qual st f fd
theorem def_mk {K : PySem.W.Frag} {x qual : Str} {st : Stmt} {f : Addr} {oc kV doc pm cdv ct : Value} {od an : Option Addr} {osl : Array (Option Value)} (l : K.lookup f = some ⟨oc, od, .func (PySem.W.fnOf x qual (defArgs st) (defBody st) (defScope st) .none kV doc pm an cdv ct), osl⟩)
    (c : PySem.W.codeIn K cdv qual = true) (k : PySem.W.keepIn K (.ref f) = true) : DefAt K x qual st f := ⟨_, fun_mk l c k⟩
def DfltAt (K : PySem.W.Frag) (x : Str) (st : Stmt) (dv : V) (f : Addr) : Prop := ∃ fd, FunD K x x (defArgs st) (defBody st) (defScope st) [dv] [] f fd
theorem dflt_mk {K : PySem.W.Frag} {x : Str} {st : Stmt} {dv : V} {f TD : Addr} {oc kV doc pm cdv ct ot dw : Value} {od an odt : Option Addr} {osl slt : Array (Option Value)} {n : Nat} (l : K.lookup f = some ⟨oc, od, .func (PySem.W.fnOf x x (defArgs st) (defBody st) (defScope st) (.ref TD) kV doc pm an cdv ct), osl⟩)
    (c : PySem.W.codeIn K cdv x = true) (k : PySem.W.keepIn K (.ref f) = true) (t : K.lookup TD = some ⟨ot, odt, .seq #[dw] n, slt⟩) (r : RelV dv dw) : DfltAt K x st dv f :=
  ⟨_, ⟨⟨oc, od, .ref TD, kV, doc, pm, an, cdv, ct, osl, rfl, l, c, .inr ⟨by simp, TD, _, [dw], n, rfl, t, rfl, .cons r .nil⟩, .inl rfl⟩, k⟩⟩
theorem oex_mk {K : PySem.W.Frag} {C : Addr} {nm q : Str} {N : Addr} {bs bm : List Value} {sn : List Str} {sub : List Value} {ab : Bool} {col : Option Bool} {dd : Option Addr} {m0 m1 m2 m3 m5 : Option Value}
    (l : K.lookup C = some (excClassObj nm q C N bs bm true sn sub ab col dd m0 m1 m2 m3 m5 "ValueError.__new__")) (r : PySem.HandSPX.refsVE bm = true) (sa : PySem.W.findIn K (.ref C) "__setattr__" = some (some (.builtin "object.__setattr__")))
    (eC : PySem.W.subIn K (.ref C) (.type "BaseException") = some true) (tC : PySem.W.typeIn K (.ref C) = some (.type "type")) (kC : PySem.W.keepIn K (.ref C) = true) : OexC K C :=
  ⟨⟨nm, q, N, bs, bm, sn, sub, ab, col, dd, m0, m1, m2, m3, m5, l, r⟩, sa, eC, tC, kC⟩
/-- an own class that stands in an except clause, and whether the errors of the class at C are of it -/
structure ExmIn (K : PySem.W.Frag) (C D : Addr) (b : Bool) : Prop where
  e : PySem.W.subIn K (.ref D) (.type "BaseException") = some true
  d : PySem.W.hasDictIn K D = true
  t : PySem.W.typeIn K (.ref D) = some (.type "type")
  s : PySem.W.subIn K (.ref C) (.ref D) = some b
theorem exm_three {K : PySem.W.Frag} {C C1 C2 C3 : Addr} {b1 b2 b3 : Bool} (h1 : ExmIn K C C1 b1) (h2 : ExmIn K C C2 b2) (h3 : ExmIn K C C3 b3) (hb : (b1 || (b2 || (b3 || false))) = true) : PySem.W.exmAny K (.ref C) [.ref C1, .ref C2, .ref C3] = some true := by
  have e1 := PySem.W.exm_ref h1.e h1.d h1.t h1.s
  have e2 := PySem.W.exm_ref h2.e h2.d h2.t h2.s
  have e3 := PySem.W.exm_ref h3.e h3.d h3.t h3.s
  simp only [PySem.W.exmAny, e1, e2, e3, hb]
/-- the law's code object -/
structure CodeAt (K : PySem.W.Frag) (c PP : Addr) (vs : Array Value) (dd : Option Addr) (sl : Array (Option Value)) : Prop where
  l : K.lookup c = some ⟨.type "code", dd, .fields vs, sl⟩
  p : vs[11]? = some (.ref PP)
  g : ∃ file tf flags tg inF text tt, vs.getD 11 .none = .ref PP ∧ vs.getD 18 .none = .str file tf ∧ vs.getD 7 .none = .int flags tg ∧ vs.getD 9 .none = .bool inF ∧ vs.getD 10 .none = .int text tt
  n : K.lookup PP = none
theorem CodeAt.hd {K : PySem.W.Frag} {c PP : Addr} {vs : Array Value} {dd : Option Addr} {sl : Array (Option Value)} {h : Heap} (X : K.In h) (C : CodeAt K c PP vs dd sl) : PySem.W.CodeHd h c PP := by
  obtain ⟨file, tf, flags, tg, inF, text, tt, h1, h2, h3, h4, h5⟩ := C.g
  exact ⟨_, vs, file, tf, flags, tg, inF, text, tt, X _ _ C.l, rfl, rfl, C.p, h1, h2, h3, h4, h5, fun e => by
    have z := C.n
    rw [← e, C.l] at z
    cases z⟩
end Ew
namespace Ew
open PySem PySem.Spec PyProof.Rows L2
/-! ## sorted of a tuple of ints -/
section
variable {prog : Program} {w : World} {A : Around} {E : Value → Shared → Prop} {s : Shared}
theorem collect_tup {l : Addr} {vs : List Value} {o : Obj} {m : Nat} {Q : List Value → Shared → Prop} (ho : s.heap.get? l = some o) (hc : o.cls = .type "tuple") (hd : o.data = .seq vs.toArray m) (hsz : vs.length ≤ sizeLine)
    (h : Q vs { s with heap := (s.heap.push (seqObj "list" #[] 0)).update s.heap.objs.size (Obj.mapSeq (· ++ vs.toArray)) }) : wpAny (model prog w) A (collect (.ref l)) Q E s := by
  unfold collect
  refine wpAny_bind (wpAny_runValue (codeAny_builtin entry_proto_collect' ?_))
  show wpAny _ _ (do again (.builtin "list.__iadd__" ⟨[← newList [], .ref l], []⟩)) _ _ s
  refine wpAny_bind (wpAny_newList (wpAny_pure ⟨Code.quiet_builtin _ (by decide +kernel), codeAny_builtin entry_list_iadd' ?_⟩))
  show wpAny _ _ (Builtin.List.listExtendWith (.ref s.heap.objs.size) (.ref l) (.ref s.heap.objs.size)) _ _ { s with heap := s.heap.push (seqObj "list" #[] 0) }
  unfold Builtin.List.listExtendWith
  have hl : (s.heap.push (seqObj "list" #[] 0)).get? l = some o := Heap.get?_push_of_some _ ho
  refine wpAny_bind (wpAny_typeOf (T := "tuple") ⟨o, hl, hc⟩ ?_)
  rw [if_pos (by rw [show (Value.type "tuple" == Value.type "tuple") = true from rfl, Bool.or_true])]
  refine wpAny_bind (listItems_at hl hd ?_)
  refine wpAny_bind (listItems_at (xs := #[]) (n := 0) (Heap.get?_push_size _ rfl) rfl ?_)
  rw [if_neg (by simp)]
  refine wpAny_bind (listUpdate_at (xs := #[]) (n := 0) (Heap.get?_push_size _ rfl) rfl ?_ (Nat.zero_le _) (by show (#[] ++ vs.toArray).size ≤ sizeLine + 1; rw [Array.empty_append, List.size_toArray]; omega))
  refine wpAny_pure ?_
  refine wpAny_bind (wpAny_load (get?_update_seq (Heap.get?_push_size _ rfl) _) ?_)
  show wpAny _ _ (pure ((#[] : Array Value) ++ vs.toArray).toList) Q E _
  rw [Array.empty_append]
  exact wpAny_pure h
theorem sorted_tup {l : Addr} {vs : List Value} {ns : List Int} {o : Obj} {m : Nat} {Q : Value → Shared → Prop} (ho : s.heap.get? l = some o) (hc : o.cls = .type "tuple") (hd : o.data = .seq vs.toArray m) (hI : IntsAre vs ns) (h64 : vs.length < 64)
    (h : ∀ (out : Array Value) (ms : List Int), IntsAre out.toList ms → ms.Perm ns → ms.Pairwise (· ≤ ·) → Q (.ref (s.heap.objs.size + 1)) { s with heap := sortedAll s.heap vs out }) :
    wpAny (model prog w) A (call (.builtin "sorted") [.ref l]) Q E s := by
  refine Calls.call_function_entry kind_sorted plain_sorted entry_sorted (args_sorted1 _) ?_
  unfold Builtin.«sorted»
  refine wpAny_bind (m := checkCount "sorted" 1 1 _) (wpAny_pure ?_)
  have hz : vs.length ≤ sizeLine := by rw [sizeLine_eq]; omega
  refine wpAny_bind (collect_tup ho hc hd hz ?_)
  refine wpAny_bind (wpAny_newList ?_ hz)
  have e1 : ((s.heap.push (seqObj "list" #[] 0)).update s.heap.objs.size (Obj.mapSeq (· ++ vs.toArray))).objs.size = s.heap.objs.size + 1 := (Heap.size_update ..).trans (size_push' ..)
  have g1 : (((s.heap.push (seqObj "list" #[] 0)).update s.heap.objs.size (Obj.mapSeq (· ++ vs.toArray))).push (seqObj "list" vs.toArray 0)).get? (s.heap.objs.size + 1) = some (seqObj "list" vs.toArray 0) := by
    rw [← e1]
    exact Heap.get?_push_size _ rfl
  show wpAny _ _ _ _ _ { s with heap := ((s.heap.push (seqObj "list" #[] 0)).update s.heap.objs.size (Obj.mapSeq (· ++ vs.toArray))).push (seqObj "list" vs.toArray 0) }
  rw [e1]
  refine wpAny_bind (wpAny_holding (wpAny_call_entry slot_list_sort ⟨_, g1, rfl⟩ entry_list_sort (list_sort_tree g1 hI h64 fun out ms a1 a2 a3 => ⟨_, rfl, ?_⟩) (args_list_sort _)))
  exact wpAny_pure ⟨_, rfl, h out ms a1 a2 a3⟩
end
/-- sorted(x), x a list or a tuple of fewer than 64 ints -/
def rSortA (K : PySem.W.Frag) : List V → Hp → VK → Prop := fun vs H Q => ∃ (a : Addr) (ns : List Int), vs = [V.ref a] ∧ (SqL K H a (ns.map V.int) ∨ SqT K H a (ns.map V.int)) ∧ ns.length < 64 ∧
  ∀ (ms : List Int) (p : Addr), ms.Perm ns → ms.Pairwise (· ≤ ·) → H p = none → Q (.ref p) (upd H p (.lst (ms.map V.int)))
theorem cr_sortA {X : Cx} : CallR X (.builtin "sorted") (rSortA X.K) := by
  intro pins s σ H vs us Q I r h
  obtain ⟨a, ns, rfl, hs, h64, q⟩ := h
  rw [Vals.ref1 r]
  have fin : ∀ (its : List Value) (out : Array Value) (ms : List Int), IntsAre out.toList ms → ms.Perm ns → ms.Pairwise (· ≤ ·) → EP X pins σ Q (.ref (s.heap.objs.size + 1)) { s with heap := sortedAll s.heap its out } := fun its out ms h1 h2 h3 => by
    obtain ⟨ep, he⟩ := PyProof.Rows.sortedAll_at s.heap its out
    have hlen : (ms.map V.int).length ≤ sizeLine := by
      rw [List.length_map, h2.length_eq, sizeLine_eq]
      omega
    exact ⟨.ref _, upd H (s.heap.objs.size + 1) (.lst (ms.map V.int)), I.laid (t' := s.toks) (fun _ _ => PyProof.Rows.sortedAll_old) (Nat.le_succ _) ⟨hlen, out.toList, ep, vals_of_ints h1, he⟩, rfl, q ms _ h2 h3 (I.hok.fresh (Nat.le_succ _))⟩
  rcases hs with hs | hs
  · obtain ⟨its, rv, hl, _⟩ := I.list hs
    have hi := rv.ints
    exact PyProof.Rows.sorted_ints hl.isList hi (by rw [hi.length]; exact h64) fun out ms h1 h2 h3 => fin its out ms h1 h2 h3
  · obtain ⟨its, rv, ⟨o, ho, hc, m, hd⟩, _⟩ := I.tuple hs
    have hi := rv.ints
    exact sorted_tup ho hc hd hi (by rw [hi.length]; exact h64) fun out ms h1 h2 h3 => fin its out ms h1 h2 h3
/-! ## how many different ints -/
theorem nodup_le : ∀ {l m : List Int}, l.Nodup → (∀ k ∈ l, k ∈ m) → l.length ≤ m.length
  | [], _, _, _ => Nat.zero_le _
  | a :: l, m, hn, hs => by
    obtain ⟨h1, h2⟩ := List.nodup_cons.mp hn
    have ha : a ∈ m := hs a List.mem_cons_self
    have ih := nodup_le (l := l) (m := m.erase a) h2 fun k hk => (List.mem_erase_of_ne (fun (e : k = a) => h1 (by rw [← e]; exact hk))).mpr (hs k (List.mem_cons_of_mem _ hk))
    rw [List.length_erase_of_mem ha] at ih
    have := List.length_pos_of_mem ha
    show l.length + 1 ≤ m.length
    omega
theorem dup_cut : ∀ {m : List Int}, ¬ m.Nodup → ∃ r : List Int, r.length < m.length ∧ ∀ k ∈ m, k ∈ r
  | [], h => absurd List.nodup_nil h
  | a :: m, h => by
    by_cases ha : a ∈ m
    · exact ⟨m, Nat.lt_succ_self _, fun k hk => (List.mem_cons.mp hk).elim (fun e => e ▸ ha) id⟩
    · obtain ⟨r, h1, h2⟩ := dup_cut (m := m) fun hm => h (List.nodup_cons.mpr ⟨ha, hm⟩)
      exact ⟨a :: r, Nat.succ_lt_succ h1, fun k hk => (List.mem_cons.mp hk).elim (fun e => e ▸ List.mem_cons_self) fun z => List.mem_cons_of_mem _ (h2 k z)⟩
theorem count_iff {l m : List Int} (hn : l.Nodup) (h : ∀ k, k ∈ l ↔ k ∈ m) : l.length = m.length ↔ m.Nodup := by
  constructor
  · intro e
    by_cases hm : m.Nodup
    · exact hm
    · obtain ⟨r, h1, h2⟩ := dup_cut hm
      have := nodup_le hn fun k hk => h2 k ((h k).mp hk)
      omega
  · intro hm
    have h1 := nodup_le hn fun k hk => (h k).mp hk
    have h2 := nodup_le hm fun k hk => (h k).mpr hk
    omega
theorem dedup_spec : ∀ (xs acc : List Int), acc.Nodup → (xs.foldl step_dedup acc).Nodup ∧ ∀ k, k ∈ xs.foldl step_dedup acc ↔ k ∈ acc ∨ k ∈ xs
  | [], acc, h => ⟨h, fun k => by simp⟩
  | x :: xs, acc, h => by
    have e : step_dedup acc x = if acc.any (· == x) then acc else acc ++ [x] := rfl
    by_cases c : x ∈ acc
    · have e2 : step_dedup acc x = acc := by rw [e, if_pos (by simpa using c)]
      obtain ⟨h1, h2⟩ := dedup_spec xs acc h
      rw [List.foldl_cons, e2]
      refine ⟨h1, fun k => (h2 k).trans ?_⟩
      constructor
      · rintro (z | z)
        · exact .inl z
        · exact .inr (List.mem_cons_of_mem _ z)
      · rintro (z | z)
        · exact .inl z
        · rcases List.mem_cons.mp z with q | q
          · exact .inl (q ▸ c)
          · exact .inr q
    · have e2 : step_dedup acc x = acc ++ [x] := by rw [e, if_neg (by simpa using c)]
      have hn : (acc ++ [x]).Nodup := List.nodup_append.mpr ⟨h, by simp, fun a ha b hb z => c (by rw [← List.mem_singleton.mp hb, ← z]; exact ha)⟩
      obtain ⟨h1, h2⟩ := dedup_spec xs (acc ++ [x]) hn
      rw [List.foldl_cons, e2]
      refine ⟨h1, fun k => (h2 k).trans ?_⟩
      rw [List.mem_append, List.mem_singleton, List.mem_cons, or_assoc]
theorem range_getD (ns : List Int) : (List.range ns.length).map (fun i => ns.getD i 0) = ns := by
  apply List.ext_getElem
  · simp
  · intro i h1 h2
    simp [List.getD_eq_getElem?_getD, List.getElem?_eq_getElem h2]
theorem firstMet_iff (ns : List Int) : (firstMet (fun i => ns.getD i 0) ns.length).length = ns.length ↔ ns.Nodup := by
  unfold firstMet
  rw [range_getD]
  obtain ⟨h1, h2⟩ := dedup_spec ns [] List.nodup_nil
  exact count_iff h1 fun k => (h2 k).trans (by simp)
def tLenSetA (K : PySem.W.Frag) (ta : TE) : TE := fun σ H Q => ta σ H fun x G => ∃ (l : Addr) (ns : List Int), x = .ref l ∧ (SqL K G l (ns.map V.int) ∨ SqT K G l (ns.map V.int)) ∧ ns.length ≤ 4000 ∧ ∀ c : Nat, (c = ns.length ↔ ns.Nodup) → Q (.int (c : Int)) G
theorem pe_lenSetA {X : Cx} {a : Expr} {ta : TE} {p p2 q pos : Pos} (hg : Gl X "len") (hm : X.mg "len" = none) (hg2 : Gl X "set") (hm2 : X.mg "set" = none) (ha : PE X a ta) (hc : X.calm = true := by rfl)
    (na : starEach [a] X.env = (false, eval a X.env) :: starEach [] X.env := by rfl) : PE X (.Call (.Name "len" p) [.Call (.Name "set" p2) [a] [] q] [] pos) (tLenSetA X.K ta) := by
  refine ⟨fun pins s σ H Q I h => ?_⟩
  refine Call_ (ld_blt I hg hm boot_len (PyProof.Rows.callWith_builtin1 (PyProof.Rows.args_cons ?_ rfl) rfl rfl))
  refine Call_ (ld_blt I hg2 hm2 boot_set ?_)
  refine PyProof.Rows.callWith_type1 (PyProof.Rows.args_cons (thn (ha.run pins s σ H _ I h) fun v z ⟨x, G, I1, r1, l, ns, ex, hq, hl, k⟩ => PyProof.Rows.args_nil ?_) na) na rfl
  subst ex
  cases r1
  rcases hq with hq | hq
  · obtain ⟨its, r, pl, _⟩ := I1.list hq
    have hlen : its.toArray.size = ns.length := by rw [List.size_toArray, ← r.length, List.length_map]
    refine call_set_list (I1.ok.hd hc) pl.isList (by simpa using r.ints) (by rw [hlen]; unfold scanBound; omega) fun h2 tk hS hk => PyProof.Rows.args_nil ?_
    rw [hlen] at hS
    obtain ⟨o, es, ep, t, ho, hex, hd, _, _, hb, hf, hn⟩ := hS
    have I2 : Inv X pins σ G { z with heap := h2, toks := tk } := I1.kept fun b o e => hk b o (Heap.lt_size e) e
    exact call_len_set ho hex hd hf (by unfold scanBound at hb; omega) ⟨.int (es.size : Nat), G, I2.tok _, ⟨_, rfl⟩, k _ (by rw [hn]; exact firstMet_iff ns)⟩
  · obtain ⟨its, r, pt, _⟩ := I1.tuple hq
    refine call_set_tupI ns (I1.ok.hd hc) (show z.heap.IsTuple l its.toArray from pt) (by simpa using r.ints) (by unfold scanBound; omega) fun h2 tk c R hcn hk => PyProof.Rows.args_nil ?_
    obtain ⟨o, es, ep, t, ho, hex, hd, _, nd, hm3, hb, hf, hn, _⟩ := R
    have I2 : Inv X pins σ G { z with heap := h2, toks := tk } := I1.kept fun b o e => hk b o e
    refine call_len_set ho hex hd hf (by unfold scanBound at hb; omega) ⟨.int (es.size : Nat), G, I2.tok _, ⟨_, rfl⟩, k _ ?_⟩
    have q1 := count_iff nd (m := ns) fun j => (hm3 j).symm.trans (by simp)
    rw [List.length_map, Array.length_toList] at q1
    exact q1
/-! ## len(o) by an own __len__ -/
@[irreducible] def rLenO (C : Addr) (sp : Sp) : List V → Hp → VK → Prop := fun vs H Q => ∃ (a dx : Addr) (fs : List (Str × V)), vs = [.ref a] ∧ H a = some (.ins C dx fs) ∧ sp [.ref a] H (fun v G => ∃ n : Int, v = .int n ∧ 0 ≤ n ∧ n < 9223372036854775808 ∧ Q (.int n) G) E0
theorem cr_lenO {X : Cx} {C f : Addr} {fd : FuncData} {k : Nat} {ps : List Str} {sp : Sp} (hs : PySem.W.findIn X.K (.ref C) "__len__" = some (some (.ref f))) (hf : PySem.W.isFn X.K (.ref f) = true) (F : FnOk X.prog X.w X.K X.mg X.base CX0 k f fd ps sp) (hr : Room (k + 1) X.A) (hb : Binds X.K fd ps []) :
    CallR X (.builtin "len") (rLenO C sp) := by
  intro pins s σ H vs us Q I r h
  unfold rLenO at h
  obtain ⟨a, dx, fs, rfl, ha, hsp⟩ := h
  rw [Vals.ref1 r]
  obtain ⟨mA, O, _⟩ := ins_get I.hok ha
  obtain ⟨od, J, _⟩ := O.look
  obtain ⟨m, fr⟩ := I.fr
  refine PySem.W.len_K fr I.ok.mod.kin J hs hf ?_
  have hl : [Value.ref a].length = ps.length := F.len _ _ _ _ hsp
  have hbs := hb s [.ref a] I.kIn (by rw [List.append_nil]; exact hl)
  rw [List.append_nil] at hbs
  refine wpAny_call (codeAny_mono (F.run X.A.in1 X.stack s H ⟨[.ref a], []⟩ [.ref a] [.ref a] _ _ hr.in1 I.env0.in1 hbs (.cons rfl .nil) hsp) fun res z hq => ?_)
  cases res with
  | error er => exact (show False from hq).elim
  | ok fl =>
    cases fl with
    | ret u =>
      obtain ⟨v, G, J2, rv, n, ev, n0, n1, q⟩ := I.after hq
      subst ev
      obtain ⟨t, rfl⟩ := rv
      exact ⟨⟨n0, by have : (2 : Int) ^ 63 = 9223372036854775808 := by decide
                     omega⟩, .int n, G, J2.tok _, ⟨_, rfl⟩, q⟩
    | next => exact hq.elim
    | brk => exact hq.elim
    | cont => exact hq.elim
end Ew
namespace Ew
open PySem PySem.Spec PyProof.Rows L2
/-! ## the mathematics of digit sets; s ascends -/
def firstI (s : List Int) : Int := s.getD 0 0
def lastI (s : List Int) : Int := s.getD (s.length - 1) 0
structure AreS (b : Int) (s : List Int) : Prop where
  l2 : 2 ≤ s.length
  l24 : s.length ≤ 24
  nd : s.Nodup
  lo : -99 ≤ firstI s
  hi : lastI s ≤ 99
  gap : ∀ i, i + 1 < s.length → (s.getD (i + 1) 0 - s.getD i 0) * (b - 1) ≤ lastI s - firstI s
open Classical in
noncomputable def areB (b : Int) (s : List Int) : Bool := decide (AreS b s)
open Classical in
theorem areB_t {b : Int} {s : List Int} (h : AreS b s) : areB b s = true := by unfold areB; exact decide_eq_true h
open Classical in
theorem areB_f {b : Int} {s : List Int} (h : ¬ AreS b s) : areB b s = false := by unfold areB; exact decide_eq_false h
open Classical in
theorem areB_of {b : Int} {s : List Int} (h : areB b s = true) : AreS b s := by unfold areB at h; exact of_decide_eq_true h
/-- the ascending list of the same ints -/
def srt (s : List Int) : List Int := s.mergeSort (fun a b => decide (a ≤ b))
theorem srt_perm (s : List Int) : (srt s).Perm s := List.mergeSort_perm s _
theorem srt_asc (s : List Int) : (srt s).Pairwise (· ≤ ·) := by
  have h := List.pairwise_mergeSort (le := fun a b : Int => decide (a ≤ b)) (fun a b c h1 h2 => by simp at *; omega) (fun a b => by simp; omega) s
  exact h.imp fun h => by simpa using h
theorem srt_eq {m s : List Int} (hp : m.Perm s) (ha : m.Pairwise (· ≤ ·)) : m = srt s := PySem.W.ksm_same (hp.trans (srt_perm s).symm) ha (srt_asc s)
theorem srt_same {m s : List Int} (hp : m.Perm s) : srt m = srt s := srt_eq ((srt_perm m).trans hp) (srt_asc m)
theorem srt_len (s : List Int) : (srt s).length = s.length := (srt_perm s).length_eq
theorem getD_at {s : List Int} {i : Nat} (h : i < s.length) : s[i]? = some (s.getD i 0) := by
  rw [List.getD_eq_getElem?_getD, List.getElem?_eq_getElem h]
  rfl
theorem ints_at {s : List Int} {i : Nat} (h : i < s.length) : (s.map V.int)[i]? = some (.int (s.getD i 0)) := by
  rw [List.getElem?_map, getD_at h]
  rfl
theorem at_int {s : List Int} {z : Int} {i : Nat} (e : z = (i : Int)) (h : i < s.length) : atI (s.map V.int) z = some (.int (s.getD i 0)) := at_of e (ints_at h)
theorem at_first {s : List Int} (h : 0 < s.length) : atI (s.map V.int) 0 = some (.int (firstI s)) := at_int (i := 0) rfl h
theorem at_last {s : List Int} (h : 0 < s.length) : atI (s.map V.int) (-1) = some (.int (lastI s)) := by
  unfold atI ixN
  rw [List.length_map, if_neg (by decide), if_pos (by omega)]
  have e : ((-1 : Int) + (s.length : Int)).toNat = s.length - 1 := by omega
  rw [e]
  exact ints_at (by omega)
theorem asc_le {s : List Int} (h : s.Pairwise (· ≤ ·)) {i j : Nat} (hij : i ≤ j) (hj : j < s.length) : s.getD i 0 ≤ s.getD j 0 := PyProof.Rows.sorted_getD_le h hij hj
theorem first_le_last {s : List Int} (h : s.Pairwise (· ≤ ·)) (hl : 0 < s.length) : firstI s ≤ lastI s := asc_le h (Nat.zero_le _) (by omega)
theorem cut_tail (xs : List V) : cutV xs (some 1) none = xs.drop 1 := by
  unfold cutV
  have e := HT.sIx_nat xs.length 0 1
  rw [show (some (1 : Int)) = some ((1 : Nat) : Int) from rfl, e, HT.sIx_none]
  by_cases h : 1 ≤ xs.length
  · rw [Nat.min_eq_left h, List.take_of_length_le (by rw [List.length_drop]; omega)]
  · have z : xs = [] := List.eq_nil_of_length_eq_zero (by omega)
    subst z
    rfl
theorem walk_zipM {K : PySem.W.Frag} {a b : Addr} {xs ys : List V} {n : Nat} (hn : n = min xs.length ys.length) : Walk (RZ.ItzT K a b) n (fun H => SqT K H a xs ∧ SqT K H b ys) (YPair (fun i => xs[i]?) (fun i => ys[i]?)) :=
  ⟨fun i H hi q => ⟨xs, ys, xs[i]'(by omega), ys[i]'(by omega), q.1, q.2, List.getElem?_eq_getElem _, List.getElem?_eq_getElem _⟩, fun H q => ⟨xs, ys, q.1, q.2, by omega⟩,
    fun i H x G hi q ⟨T, u, v, e1, e2, e3, e4, e5⟩ => ⟨T, u, v, e1, e2, e3, e4 xs q.1, e5 ys q.2⟩⟩
/-- the gaps of s -/
def gapL (s : List Int) : List Int := (List.range (s.length - 1)).map fun i => s.getD (i + 1) 0 - s.getD i 0
theorem gapL_mem {s : List Int} {g : Int} : g ∈ gapL s ↔ ∃ i, i + 1 < s.length ∧ g = s.getD (i + 1) 0 - s.getD i 0 := by
  unfold gapL
  rw [List.mem_map]
  constructor
  · rintro ⟨i, hi, rfl⟩
    exact ⟨i, by have := List.mem_range.mp hi; omega, rfl⟩
  · rintro ⟨i, hi, rfl⟩
    exact ⟨i, List.mem_range.mpr (by omega), rfl⟩
theorem gapL_len (s : List Int) : (gapL s).length = s.length - 1 := by unfold gapL; simp
/-- by the widest gap -/
theorem gap_iff {b m : Int} {s : List Int} (hb : 2 ≤ b) (hm : m ∈ gapL s) (hg : ∀ g ∈ gapL s, g ≤ m) : m * (b - 1) ≤ lastI s - firstI s ↔ ∀ i, i + 1 < s.length → (s.getD (i + 1) 0 - s.getD i 0) * (b - 1) ≤ lastI s - firstI s := by
  constructor
  · intro h i hi
    have h1 := hg _ (gapL_mem.mpr ⟨i, hi, rfl⟩)
    exact Int.le_trans (Int.mul_le_mul_of_nonneg_right h1 (by omega)) h
  · intro h
    obtain ⟨i, hi, rfl⟩ := gapL_mem.mp hm
    exact h i hi
theorem mul_smallR {i j : Int} (h0 : -9223372036854775808 < j) (h1 : j < 9223372036854775808) : CMul i j := by
  have e : (2 : Int) ^ 64 = 18446744073709551616 := by decide
  refine .inr ⟨?_, ?_⟩
  · rw [e]; omega
  · rw [e]; omega
/-! ## all but p stays -/
def KeepBut (p : Addr) (H G : Hp) : Prop := ∀ c o, H c = some o → c ≠ p → G c = some o
theorem KeepBut.refl (p : Addr) (H : Hp) : KeepBut p H H := fun _ _ h _ => h
theorem KeepBut.trans {p : Addr} {H G G2 : Hp} (a : KeepBut p H G) (b : KeepBut p G G2) : KeepBut p H G2 := fun c o h n => b c o (a c o h n) n
theorem KeepBut.of {p : Addr} {H G : Hp} (e : Same H G) : KeepBut p H G := fun c o h _ => e c o h
theorem KeepBut.put {p : Addr} {H : Hp} {o : HO} : KeepBut p H (upd H p o) := fun c u h n => by rw [upd_ne n]; exact h
theorem KeepBut.new {p d : Addr} {H : Hp} {o : HO} (h : H d = none) : KeepBut p H (upd H d o) := KeepBut.of (same_upd (Same.refl H) h)
theorem RngAt.free {H : Hp} {p q : Addr} {ns : List Int} {i v sd : Int} (R : RngAt H p q ns i v sd) {d : Addr} (h : H d = none) : d ≠ p := fun e => by
  have z := R.at_p
  rw [← e, h] at z
  cases z
theorem KeepBut.free {p d : Addr} {H G : Hp} (e : KeepBut p H G) (n : d ≠ p) (h : G d = none) : H d = none := by
  cases z : H d with
  | none => rfl
  | some o =>
    have q := e d o z n
    rw [h] at q
    cases q
/-! ## the digits that a law draws -/
structure Dig (b : Int) (ds : List Int) : Prop where
  are : AreS b ds
  asc : ds.Pairwise (· < ·)
theorem asc_le_of {ds : List Int} (h : ds.Pairwise (· < ·)) : ds.Pairwise (· ≤ ·) := h.imp fun h => Int.le_of_lt h
theorem nodup_of {ds : List Int} (h : ds.Pairwise (· < ·)) : ds.Nodup := h.imp fun h => Int.ne_of_lt h
theorem srt_self {ds : List Int} (h : ds.Pairwise (· < ·)) : srt ds = ds := (srt_eq (List.Perm.refl ds) (asc_le_of h)).symm
def runL (front : Int) (n : Nat) : List Int := (List.range n).map fun (i : Nat) => front + (i : Int)
theorem runL_len (front : Int) (n : Nat) : (runL front n).length = n := by unfold runL; simp
theorem runL_at {front : Int} {n i : Nat} (h : i < n) : (runL front n).getD i 0 = front + (i : Int) := by
  unfold runL
  rw [List.getD_eq_getElem?_getD, List.getElem?_map, List.getElem?_range h]
  rfl
theorem runL_asc (front : Int) (n : Nat) : (runL front n).Pairwise (· < ·) := by
  unfold runL
  rw [List.pairwise_map]
  exact List.pairwise_lt_range.imp fun h => by omega
theorem runL_mem {front d : Int} {n : Nat} (h : d ∈ runL front n) : front ≤ d ∧ d < front + (n : Int) := by
  unfold runL at h
  obtain ⟨i, hi, rfl⟩ := List.mem_map.mp h
  have := List.mem_range.mp hi
  omega
theorem runL_dig {b front : Int} {n : Nat} (h2 : 2 ≤ b) (hb : b ≤ (n : Int)) (hn : n ≤ 24) (f0 : -99 ≤ front) (f1 : front + (n : Int) ≤ 100) : Dig b (runL front n) := by
  refine ⟨⟨by rw [runL_len]; omega, by rw [runL_len]; exact hn, nodup_of (runL_asc front n), ?_, ?_, ?_⟩, runL_asc front n⟩
  · unfold firstI
    rw [runL_at (by omega)]
    omega
  · unfold lastI
    rw [runL_len, runL_at (by omega)]
    omega
  · intro i hi
    rw [runL_len] at hi
    unfold lastI firstI
    rw [runL_len, runL_at hi, runL_at (by omega), runL_at (by omega), runL_at (by omega)]
    have e : front + ((i + 1 : Nat) : Int) - (front + (i : Int)) = 1 := by omega
    rw [e, Int.one_mul]
    omega
theorem getD_mem {ds : List Int} {i : Nat} (h : i < ds.length) : ds.getD i 0 ∈ ds := List.mem_of_getElem? (getD_at h)
theorem map_getD {ds : List Int} {f : Int → Int} {i : Nat} (h : i < ds.length) : (ds.map f).getD i 0 = f (ds.getD i 0) := by
  rw [List.getD_eq_getElem?_getD, List.getElem?_map, getD_at h]
  rfl
theorem scale_dig {b u : Int} {ds : List Int} (h : Dig b ds) (hu : u = 1 ∨ u = 2) (hr : ∀ d ∈ ds, -40 ≤ d ∧ d ≤ 40) : Dig b (ds.map (· * u)) := by
  have a := h.are
  have l0 : 0 < ds.length := by have := a.l2; omega
  have m0 := hr _ (getD_mem l0)
  have m1 := hr _ (getD_mem (show ds.length - 1 < ds.length by omega))
  have asc : (ds.map (· * u)).Pairwise (· < ·) := by
    rw [List.pairwise_map]
    exact h.asc.imp fun z => by rcases hu with rfl | rfl <;> omega
  refine ⟨⟨by rw [List.length_map]; exact a.l2, by rw [List.length_map]; exact a.l24, nodup_of asc, ?_, ?_, ?_⟩, asc⟩
  · unfold firstI
    rw [map_getD l0]
    rcases hu with rfl | rfl <;> omega
  · unfold lastI
    rw [List.length_map, map_getD (by omega)]
    rcases hu with rfl | rfl <;> omega
  · intro i hi
    rw [List.length_map] at hi
    have g := a.gap i hi
    unfold lastI firstI at g ⊢
    rw [List.length_map, map_getD hi, map_getD (by omega), map_getD (by omega), map_getD l0]
    rcases hu with rfl | rfl
    · simpa using g
    · have e : (ds.getD (i + 1) 0 * 2 - ds.getD i 0 * 2) * (b - 1) = 2 * ((ds.getD (i + 1) 0 - ds.getD i 0) * (b - 1)) := by
        rw [← Int.sub_mul, Int.mul_comm _ 2, Int.mul_assoc]
      rw [e]
      omega
theorem erase_asc {ds : List Int} (h : ds.Pairwise (· < ·)) (k : Nat) : (ds.eraseIdx k).Pairwise (· < ·) := h.sublist (List.eraseIdx_sublist ds k)
theorem erase_mem {ds : List Int} {d : Int} {k : Nat} (h : d ∈ ds.eraseIdx k) : d ∈ ds := (List.eraseIdx_sublist ds k).subset h
theorem map_erase : ∀ (ds : List Int) (k : Nat), (ds.map V.int).eraseIdx k = (ds.eraseIdx k).map V.int
  | [], _ => rfl
  | _ :: _, 0 => rfl
  | a :: l, k + 1 => by
    show V.int a :: (l.map V.int).eraseIdx k = V.int a :: (l.eraseIdx k).map V.int
    rw [map_erase l k]
theorem seqIx {r : Int} {n : Nat} (h0 : 0 ≤ r) (h1 : r < (n : Int)) : seqIndex? r n = some r.toNat := by
  unfold seqIndex?
  have e : ¬ r < 0 := by omega
  simp only [if_neg e]
  rw [if_pos (by simp [h0, h1])]
theorem erase_perm : ∀ (l : List Int) (k : Nat), k < l.length → (l.getD k 0 :: l.eraseIdx k).Perm l
  | [], k, h => absurd h (Nat.not_lt_zero k)
  | _ :: _, 0, _ => List.Perm.refl _
  | a :: l, k + 1, h => (List.Perm.swap a (l.getD k 0) (l.eraseIdx k)).trans ((erase_perm l k (Nat.lt_of_succ_lt_succ h)).cons a)
/-! ## ints as data -/
theorem layInts : ∀ ds : List Int, PyData.canLayAll0 (ds.map PyData.int) = true
  | [] => by simp [PyData.canLayAll0]
  | d :: ds => by
    have := layInts ds
    simp [PyData.canLayAll0, PyData.canLay0]
    simpa using this
theorem depInts : ∀ ds : List Int, PyData.depthAll (ds.map PyData.int) ≤ 1
  | [] => by simp [PyData.depthAll]
  | d :: ds => by
    have := depInts ds
    simp only [List.map_cons, PyData.depthAll, PyData.depth]
    omega
theorem shapedInts (ds : List Int) : SeqAt.shaped (.list (ds.map PyData.int)) = true := by
  unfold SeqAt.shaped
  have h1 : (PyData.list (ds.map PyData.int)).canLay0 = true := by
    have := layInts ds
    simpa [PyData.canLay0] using this
  have h2 : (PyData.list (ds.map PyData.int)).depth ≤ 64 := by
    have := depInts ds
    simp only [PyData.depth]
    omega
  rw [h1, decide_eq_true h2]
  rfl
theorem eqvInts (ds : List Int) : PyData.eqv (.list (ds.map PyData.int)) (.list (ds.map PyData.int)) = true := SeqAt.eqv_refl _ (SeqAt.canLay_of_shaped (shapedInts ds))
theorem dpInts {K : PySem.W.Frag} {H : Hp} : ∀ ds : List Int, DpAll K H (ds.map V.int) (ds.map PyData.int)
  | [] => .nil
  | d :: ds => .cons (.int d) (dpInts ds)
/-- tuple(x) -/
def rTup (K : PySem.W.Frag) : List V → Hp → VK → Prop := fun xs H Q => ∃ p ys, xs = [.ref p] ∧ ((SqL K H p ys ∧ ∀ l, H l = none → Q (.ref l) (upd H l (.tup ys))) ∨ (SqT K H p ys ∧ Q (.ref p) H))
theorem cr_tup {X : Cx} : CallR X (.type "tuple") (rTup X.K) := call_tuple_of
theorem same_three {K : PySem.W.Frag} {G : Hp} {n : Nat} {s t : Addr} {x0 x1 x2 y0 y1 y2 : V} (hs : G s = some (.lst [x0, x1, x2])) (ht : G t = some (.lst [y0, y1, y2])) (h0 : SameN K G n x0 y0) (h1 : SameN K G n x1 y1) (h2 : SameN K G n x2 y2) : SameN K G (n + 1) (.ref s) (.ref t) := by
  refine .inr ⟨s, t, _, _, rfl, rfl, .inl ⟨SqL.of hs, SqL.of ht⟩, rfl, (by show 3 ≤ 1000; decide), fun i u v hu hv => ?_⟩
  match i, hu, hv with
  | 0, hu, hv => cases hu; cases hv; exact h0
  | 1, hu, hv => cases hu; cases hv; exact h1
  | 2, hu, hv => cases hu; cases hv; exact h2
  | i + 3, hu, hv => cases hu
theorem same_ints {K : PySem.W.Frag} {G : Hp} {n : Nat} {s t : Addr} {ds : List Int} (hs : G s = some (.tup (ds.map V.int))) (ht : G t = some (.tup (ds.map V.int))) (hl : ds.length ≤ 1000) : SameN K G (n + 2) (.ref s) (.ref t) := by
  refine .inr ⟨s, t, _, _, rfl, rfl, .inr ⟨SqT.of hs, SqT.of ht⟩, rfl, by rw [List.length_map]; exact hl, fun i u v hu hv => ?_⟩
  obtain ⟨c, rfl⟩ := map_int_at hu
  rw [hu] at hv
  cases hv
  exact .inl ⟨rfl, rfl⟩
theorem noneBase : NoneTag "InvalidBase" := ⟨by decide +kernel, by decide +kernel, by decide +kernel, by decide +kernel, by decide +kernel, by decide +kernel⟩
theorem noneDigits : NoneTag "InvalidDigits" := ⟨by decide +kernel, by decide +kernel, by decide +kernel, by decide +kernel, by decide +kernel, by decide +kernel⟩
theorem KeepBut.keep {p : Addr} {H G : Hp} {xs : List V} (h : H p = some (.lst xs)) (e : KeepBut p H G) : Keep H G := fun b o hb n => e b o hb fun z => n xs (Option.some.inj (hb.symm.trans (by rw [z]; exact h)))
theorem KeepBut.tabs {T : List (Addr × Str)} {p : Addr} {H G : Hp} {xs : List V} (h : H p = some (.lst xs)) (e : KeepBut p H G) (t : LamX.Tabs T H) : LamX.Tabs T G := (e.keep h).tabs t
end Ew
namespace Ew
open PySem PySem.Spec PyProof.Rows L2
/-! ## fractions in lowest terms -/
structure Low (n d : Int) : Prop where
  cop : Nat.gcd n.natAbs d.natAbs = 1
  pos : 0 < d
theorem gcdI_dvd_left (a b : Int) : ∃ n : Int, a = n * gcdI a b := by
  obtain ⟨k, hk⟩ := Nat.gcd_dvd_left a.natAbs b.natAbs
  unfold gcdI
  rcases Int.natAbs_eq a with e | e
  · exact ⟨(k : Int), by rw [e, Int.natAbs_natCast]; rw [← Int.natCast_mul, Nat.mul_comm, ← hk]⟩
  · refine ⟨-(k : Int), ?_⟩
    have h2 : (a.natAbs : Int) = (k : Int) * ((Nat.gcd a.natAbs b.natAbs : Nat) : Int) := by rw [← Int.natCast_mul, Nat.mul_comm, ← hk]
    rw [Int.neg_mul, ← h2]
    exact e
theorem gcdI_comm (a b : Int) : gcdI a b = gcdI b a := by unfold gcdI; rw [Nat.gcd_comm]
theorem fr_spec (a : Int) {b : Int} (hb : b ≠ 0) : Low (frN a b) (frD a b) ∧ frN a b * b = a * frD a b := by
  have gp := gcdI_pos (a := a) hb
  obtain ⟨n, hn⟩ := gcdI_dvd_left a b
  obtain ⟨d, hd⟩ := gcdI_dvd_left b a
  rw [gcdI_comm b a] at hd
  have g0 : gcdI a b ≠ 0 := by omega
  have cop : Nat.gcd n.natAbs d.natAbs = 1 := by
    have e1 : a.natAbs = n.natAbs * (gcdI a b).natAbs := by rw [← Int.natAbs_mul, ← hn]
    have e2 : b.natAbs = d.natAbs * (gcdI a b).natAbs := by rw [← Int.natAbs_mul, ← hd]
    have e3 : (gcdI a b).natAbs = Nat.gcd a.natAbs b.natAbs := by unfold gcdI; exact Int.natAbs_natCast _
    have e4 : Nat.gcd (n.natAbs * (gcdI a b).natAbs) (d.natAbs * (gcdI a b).natAbs) = Nat.gcd n.natAbs d.natAbs * (gcdI a b).natAbs := Nat.gcd_mul_right _ _ _
    rw [← e1, ← e2, ← e3] at e4
    have e5 : 0 < (gcdI a b).natAbs := by omega
    have e6 : 1 * (gcdI a b).natAbs = Nat.gcd n.natAbs d.natAbs * (gcdI a b).natAbs := by rw [Nat.one_mul]; exact e4
    exact (Nat.eq_of_mul_eq_mul_right e5 e6).symm
  by_cases c : b < 0
  · have e1 : frN a b = -n := by
      unfold frN
      rw [if_pos c]
      have : -a = -n * gcdI a b := by rw [Int.neg_mul, ← hn]
      rw [this, Int.mul_ediv_cancel _ g0]
    have e2 : frD a b = -d := by
      unfold frD
      rw [if_pos c]
      have : -b = -d * gcdI a b := by rw [Int.neg_mul, ← hd]
      rw [this, Int.mul_ediv_cancel _ g0]
    rw [e1, e2]
    refine ⟨⟨by rw [Int.natAbs_neg, Int.natAbs_neg]; exact cop, ?_⟩, ?_⟩
    · rcases Int.lt_or_le 0 (-d) with z | z
      · exact z
      · exfalso
        have : 0 ≤ d * gcdI a b := Int.mul_nonneg (by omega) (by omega)
        omega
    · calc -n * b = -(n * b) := Int.neg_mul n b
        _ = -(n * (d * gcdI a b)) := by rw [← hd]
        _ = -((n * gcdI a b) * d) := by congr 1; ac_rfl
        _ = -(a * d) := by rw [← hn]
        _ = a * -d := (Int.mul_neg a d).symm
  · have e1 : frN a b = n := by
      unfold frN
      rw [if_neg c]
      conv => lhs; lhs; rw [hn]
      exact Int.mul_ediv_cancel _ g0
    have e2 : frD a b = d := by
      unfold frD
      rw [if_neg c]
      conv => lhs; lhs; rw [hd]
      exact Int.mul_ediv_cancel _ g0
    rw [e1, e2]
    refine ⟨⟨cop, ?_⟩, ?_⟩
    · rcases Int.lt_or_le 0 d with z | z
      · exact z
      · exfalso
        have : d * gcdI a b ≤ 0 := Int.mul_nonpos_of_nonpos_of_nonneg z (by omega)
        omega
    · calc n * b = n * (d * gcdI a b) := by rw [← hd]
        _ = (n * gcdI a b) * d := by ac_rfl
        _ = a * d := by rw [← hn]
theorem low_uniq {n d m e : Int} (h1 : Low n d) (h2 : Low m e) (h : n * e = m * d) : n = m ∧ d = e := by
  have hn : n.natAbs * e.natAbs = m.natAbs * d.natAbs := by rw [← Int.natAbs_mul, ← Int.natAbs_mul, h]
  have d1 : d.natAbs ∣ e.natAbs := by
    have : d.natAbs ∣ n.natAbs * e.natAbs := ⟨m.natAbs, by rw [hn, Nat.mul_comm]⟩
    exact Nat.Coprime.dvd_of_dvd_mul_left (Nat.Coprime.symm h1.cop) this
  have d2 : e.natAbs ∣ d.natAbs := by
    have : e.natAbs ∣ m.natAbs * d.natAbs := ⟨n.natAbs, by rw [← hn, Nat.mul_comm]⟩
    exact Nat.Coprime.dvd_of_dvd_mul_left (Nat.Coprime.symm h2.cop) this
  have de := Nat.dvd_antisymm d1 d2
  have p1 := h1.pos
  have p2 := h2.pos
  have e1 : d = e := by omega
  subst e1
  exact ⟨Int.eq_of_mul_eq_mul_right (by omega) h, rfl⟩
theorem fr_eq {a b c d : Int} (hb : b ≠ 0) (hd : d ≠ 0) (h : a * d = c * b) : frN a b = frN c d ∧ frD a b = frD c d := by
  obtain ⟨l1, e1⟩ := fr_spec a hb
  obtain ⟨l2, e2⟩ := fr_spec c hd
  refine low_uniq l1 l2 ?_
  refine Int.eq_of_mul_eq_mul_right (a := b * d) (Int.mul_ne_zero hb hd) ?_
  calc frN a b * frD c d * (b * d) = (frN a b * b) * (frD c d * d) := by ac_rfl
    _ = (a * frD a b) * (frD c d * d) := by rw [e1]
    _ = (a * d) * (frD a b * frD c d) := by ac_rfl
    _ = (c * b) * (frD a b * frD c d) := by rw [h]
    _ = (c * frD c d) * (frD a b * b) := by ac_rfl
    _ = (frN c d * d) * (frD a b * b) := by rw [e2]
    _ = frN c d * frD a b * (b * d) := by ac_rfl
/-! ## rows -/
def rowN (b : Int) (rs : List Int) : Int := rs.foldl (fun t d => t * b + d) 0
theorem rowN_snoc (b : Int) (rs : List Int) (d : Int) : rowN b (rs ++ [d]) = rowN b rs * b + d := by unfold rowN; rw [List.foldl_append]; rfl
theorem take_snoc {rs : List Int} {i : Nat} (h : i < rs.length) : rs.take (i + 1) = rs.take i ++ [rs.getD i 0] := by
  rw [List.take_add_one, Ew.getD_at h]
  rfl
theorem pow_nat (b : Int) (n : Nat) : (b ^ n).natAbs = b.natAbs ^ n := Int.natAbs_pow b n
theorem pow_small {b : Int} {n : Nat} (h2 : 2 ≤ b) (h10 : b ≤ 10) (hn : n ≤ 1000) : (b ^ n).natAbs < 2 ^ 8000 := by
  rw [pow_nat]
  have h1 : b.natAbs ^ n ≤ (2 ^ 4) ^ n := Nat.pow_le_pow_left (by omega) n
  rw [← Nat.pow_mul] at h1
  exact Nat.lt_of_le_of_lt h1 (Nat.pow_lt_pow_right (by decide) (by omega))
theorem pow_pos' {b : Int} (h2 : 2 ≤ b) (n : Nat) : b ^ n ≠ 0 := by
  have : 0 < b ^ n := Int.pow_pos (by omega)
  omega
/-- rs is a row of the digits s -/
structure HasR (s rs : List Int) : Prop where
  len : rs.length ≤ 200
  mem : ∀ d ∈ rs, d ∈ s
open Classical in
noncomputable def hasB (s rs : List Int) : Bool := decide (HasR s rs)
open Classical in
theorem hasB_t {s rs : List Int} (h : HasR s rs) : hasB s rs = true := by unfold hasB; exact decide_eq_true h
open Classical in
theorem hasB_f {s rs : List Int} (h : ¬ HasR s rs) : hasB s rs = false := by unfold hasB; exact decide_eq_false h
theorem flatInts (s : List Int) : (s.map V.int).all flatV = true := by
  rw [List.all_eq_true]
  intro x hx
  obtain ⟨d, _, rfl⟩ := List.mem_map.mp hx
  rfl
theorem inInts (d : Int) (s : List Int) : inV (.int d) (s.map V.int) = decide (d ∈ s) := by
  unfold inV
  by_cases h : d ∈ s
  · rw [decide_eq_true h, List.any_eq_true]
    exact ⟨.int d, List.mem_map.mpr ⟨d, h, rfl⟩, by simp [eqV]⟩
  · rw [decide_eq_false h, Bool.eq_false_iff]
    intro z
    obtain ⟨x, hx, e⟩ := List.any_eq_true.mp z
    obtain ⟨c, hc, rfl⟩ := List.mem_map.mp hx
    have : c = d := by simpa [eqV] using e
    exact h (this ▸ hc)
end Ew
namespace Ew
open PySem PySem.Spec PyProof.Rows L2
theorem pow9 {b : Int} {n : Nat} (h2 : 2 ≤ b) (h10 : b ≤ 10) (hn : n ≤ 9) : 0 < b ^ n ∧ b ^ n ≤ 1000000000 := by
  refine ⟨Int.pow_pos (by omega), ?_⟩
  have h1 : b.natAbs ^ n ≤ 10 ^ n := Nat.pow_le_pow_left (by omega) n
  have h2' : 10 ^ n ≤ 10 ^ 9 := Nat.pow_le_pow_right (by decide) hn
  have h3 : (b ^ n).natAbs ≤ 10 ^ 9 := by rw [Int.natAbs_pow]; omega
  have h4 : (10 : Nat) ^ 9 = 1000000000 := by decide
  omega
theorem rowN_le {b : Int} (h2 : 2 ≤ b) : ∀ (n : Nat) (rs : List Int), rs.length = n → (∀ d ∈ rs, -99 ≤ d ∧ d ≤ 99) → rowN b rs ≤ 100 * (b ^ n - 1) ∧ -(100 * (b ^ n - 1)) ≤ rowN b rs
  | 0, rs, hl, _ => by
    have : rs = [] := List.eq_nil_of_length_eq_zero hl
    subst this
    simp [rowN]
  | n + 1, rs, hl, hd => by
    have e := take_snoc (rs := rs) (i := n) (by omega)
    rw [List.take_of_length_le (by omega)] at e
    have l1 : (rs.take n).length = n := by rw [List.length_take]; omega
    have ih := rowN_le h2 n (rs.take n) l1 fun d h => hd d (List.mem_of_mem_take h)
    have hm : rs.getD n 0 ∈ rs := by
      rw [List.getD_eq_getElem?_getD, List.getElem?_eq_getElem (by omega : n < rs.length)]
      exact List.getElem_mem _
    have hx := hd _ hm
    rw [e, rowN_snoc, Int.pow_succ]
    generalize rowN b (rs.take n) = t at ih
    have eq : 100 * (b ^ n * b - 1) = 100 * (b ^ n - 1) * b + (100 * b - 100) := by rw [Int.mul_sub, Int.mul_sub, Int.sub_mul, Int.mul_assoc]; omega
    generalize 100 * (b ^ n - 1) = c at ih eq
    rw [eq]
    have u1 : t * b ≤ c * b := Int.mul_le_mul_of_nonneg_right ih.1 (by omega)
    have u2 : (-c) * b ≤ t * b := Int.mul_le_mul_of_nonneg_right ih.2 (by omega)
    rw [Int.neg_mul] at u2
    omega
theorem frN_le {a b : Int} (hb : 0 < b) : (frN a b).natAbs ≤ a.natAbs ∧ (frD a b).natAbs ≤ b.natAbs := by
  unfold frN frD
  rw [if_neg (by omega), if_neg (by omega)]
  exact ⟨Int.natAbs_ediv_le_natAbs _ _, Int.natAbs_ediv_le_natAbs _ _⟩
theorem sum_step {b d : Int} {i : Nat} (h2 : 2 ≤ b) (R : Int) :
    frN (frN R (b ^ i) * frD d (b ^ (i + 1)) + frN d (b ^ (i + 1)) * frD R (b ^ i)) (frD R (b ^ i) * frD d (b ^ (i + 1))) = frN (R * b + d) (b ^ (i + 1)) ∧
    frD (frN R (b ^ i) * frD d (b ^ (i + 1)) + frN d (b ^ (i + 1)) * frD R (b ^ i)) (frD R (b ^ i) * frD d (b ^ (i + 1))) = frD (R * b + d) (b ^ (i + 1)) := by
  obtain ⟨l1, e1⟩ := fr_spec R (pow_pos' h2 i)
  obtain ⟨l2, e2⟩ := fr_spec d (pow_pos' h2 (i + 1))
  have p1 := l1.pos
  have p2 := l2.pos
  refine fr_eq (Int.mul_ne_zero (by omega) (by omega)) (pow_pos' h2 _) ?_
  have ep : b ^ (i + 1) = b ^ i * b := Int.pow_succ b i
  generalize frN R (b ^ i) = N at *
  generalize frD R (b ^ i) = D at *
  generalize frN d (b ^ (i + 1)) = N' at *
  generalize frD d (b ^ (i + 1)) = D' at *
  calc (N * D' + N' * D) * b ^ (i + 1) = N * D' * b ^ (i + 1) + (N' * b ^ (i + 1)) * D := by rw [Int.add_mul]; congr 1; ac_rfl
    _ = (N * b ^ i) * (b * D') + (N' * b ^ (i + 1)) * D := by congr 1; rw [ep]; ac_rfl
    _ = (R * D) * (b * D') + (d * D') * D := by rw [e1, e2]
    _ = (R * b + d) * (D * D') := by rw [Int.add_mul]; congr 1 <;> ac_rfl
theorem fr_zero (b : Int) : frN (rowN b []) (b ^ 0) = 0 ∧ frD (rowN b []) (b ^ 0) = 1 := by
  rw [Int.pow_zero, show rowN b [] = 0 from rfl]
  exact ⟨by decide, by decide⟩
theorem shapedTup (ds : List Int) : SeqAt.shaped (.tuple (ds.map PyData.int)) = true := by
  unfold SeqAt.shaped
  have h1 : (PyData.tuple (ds.map PyData.int)).canLay0 = true := by
    have := layInts ds
    simpa [PyData.canLay0] using this
  have h2 : (PyData.tuple (ds.map PyData.int)).depth ≤ 64 := by
    have := depInts ds
    simp only [PyData.depth]
    omega
  rw [h1, decide_eq_true h2]
  rfl
theorem eqvTup (ds : List Int) : PyData.eqv (.tuple (ds.map PyData.int)) (.tuple (ds.map PyData.int)) = true := SeqAt.eqv_refl _ (SeqAt.canLay_of_shaped (shapedTup ds))
theorem dig_le {b : Int} {ds : List Int} (h : Dig b ds) : ∀ d ∈ ds, -99 ≤ d ∧ d ≤ 99 := by
  intro d hd
  obtain ⟨i, hi, rfl⟩ := List.getElem_of_mem hd
  have e : ds[i] = ds.getD i 0 := by rw [List.getD_eq_getElem?_getD, List.getElem?_eq_getElem hi]; rfl
  have a1 := asc_le (asc_le_of h.asc) (Nat.zero_le i) hi
  have a2 := asc_le (asc_le_of h.asc) (i := i) (j := ds.length - 1) (by omega) (by omega)
  have := h.are.lo
  have := h.are.hi
  unfold firstI at *
  unfold lastI at *
  rw [e]
  omega
theorem noneRow : NoneTag "InvalidRow" := ⟨by decide +kernel, by decide +kernel, by decide +kernel, by decide +kernel, by decide +kernel, by decide +kernel⟩
theorem cut9 (xs : List V) : cutV xs none (some 9) = xs.take 9 := by
  unfold cutV
  have e := HT.sIx_nat xs.length xs.length 9
  rw [show (some (9 : Int)) = some ((9 : Nat) : Int) from rfl, e, HT.sIx_none]
  simp
theorem whole9 {xs : List V} (h : HT.sIx xs.length 0 none = 0 ∧ HT.sIx xs.length xs.length (some (9 : Int)) = xs.length) : xs.take 9 = xs := by
  have e := HT.sIx_nat xs.length xs.length 9
  have z := h.2
  rw [show (some (9 : Int)) = some ((9 : Nat) : Int) from rfl, e] at z
  exact List.take_of_length_le (by omega)
end Ew
namespace Ew
open PySem PySem.Spec PyProof.Rows L2
/-! ## repr(o) by an own __repr__ -/
@[irreducible] def rReprO (C : Addr) (sp : Sp) : List V → Hp → VK → Prop := fun vs H Q => ∃ (a dx : Addr) (fs : List (Str × V)), vs = [.ref a] ∧ H a = some (.ins C dx fs) ∧ sp [.ref a] H (fun v G => ∃ z : Str, v = .str z ∧ Q (.str z) G) E0
theorem cr_reprO {X : Cx} {C f : Addr} {fd : FuncData} {k : Nat} {ps : List Str} {sp : Sp} (hs : PySem.W.findIn X.K (.ref C) "__repr__" = some (some (.ref f))) (hf : PySem.W.isFn X.K (.ref f) = true) (F : FnOk X.prog X.w X.K X.mg X.base CX0 k f fd ps sp) (hr : Room (k + 1) X.A) (hb : Binds X.K fd ps []) :
    CallR X (.builtin "repr") (rReprO C sp) := by
  intro pins s σ H vs us Q I r h
  unfold rReprO at h
  obtain ⟨a, dx, fs, rfl, ha, hsp⟩ := h
  rw [Vals.ref1 r]
  obtain ⟨mA, O, _⟩ := ins_get I.hok ha
  obtain ⟨od, J, _⟩ := O.look
  obtain ⟨m, fr⟩ := I.fr
  refine PySem.W.repr_K hr.in1.units0 fr I.ok.mod.kin J hs hf ?_
  have hl : [Value.ref a].length = ps.length := F.len _ _ _ _ hsp
  have hbs := hb s [.ref a] I.kIn (by rw [List.append_nil]; exact hl)
  rw [List.append_nil] at hbs
  refine wpAny_call (codeAny_mono (F.run X.A.in1 X.stack s H ⟨[.ref a], []⟩ [.ref a] [.ref a] _ _ hr.in1 I.env0.in1 hbs (.cons rfl .nil) hsp) fun res z hq => ?_)
  cases res with
  | error er => exact (show False from hq).elim
  | ok fl =>
    cases fl with
    | ret u =>
      obtain ⟨v, G, J2, rv, n, ev, q⟩ := I.after hq
      subst ev
      obtain ⟨t, rfl⟩ := rv
      exact ⟨.str n, G, J2, ⟨_, rfl⟩, q⟩
    | next => exact False.elim hq
    | brk => exact False.elim hq
    | cont => exact False.elim hq
/-! ## == by an own __eq__, both answers -/
/-- what stands right of ==: an instance of the class, or a thing of another type -/
def RightOf (K : PySem.W.Frag) (C : Addr) (H : Hp) (y : V) : Prop := (∃ (b dy : Addr) (gs : List (Str × V)), y = .ref b ∧ H b = some (.ins C dy gs)) ∨ ∃ t, TyX K H y t ∧ PySem.W.notFirst K C t = true
def rEqO (K : PySem.W.Frag) (C : Addr) (sp : Sp) : R2 := fun x y H Q => ∃ (a dx : Addr) (fs : List (Str × V)), x = .ref a ∧ H a = some (.ins C dx fs) ∧ RightOf K C H y ∧ sp [x, y] H (fun v G => ∃ b : Bool, v = .bl b ∧ Q (.bl b) G) E0
theorem op_eqO {X : Cx} {C f : Addr} {fd : FuncData} {k : Nat} {ps : List Str} {sp : Sp} (hs : PySem.W.findIn X.K (.ref C) "__eq__" = some (some (.ref f))) (hf : PySem.W.isFn X.K (.ref f) = true) (F : FnOk X.prog X.w X.K X.mg X.base CX0 k f fd ps sp) (hr : Room k X.A) (hb : Binds X.K fd ps []) :
    OpR X (compareOp .Eq) (rEqO X.K C sp) := by
  intro pins s σ H x y v u Q I rx ry h
  obtain ⟨a, dx, fs, rfl, ha, hy, hsp⟩ := h
  cases rx
  show wpAny (model X.prog X.w) X.A (richCompare .Eq (.ref a) u) (EP X pins σ Q) X.xe s
  obtain ⟨mA, O, _⟩ := ins_get I.hok ha
  obtain ⟨od, J, _⟩ := O.look
  obtain ⟨m, fr⟩ := I.fr
  have hl : [Value.ref a, u].length = ps.length := F.len _ _ _ _ hsp
  have hbs := hb s [.ref a, u] I.kIn (by rw [List.append_nil]; exact hl)
  rw [List.append_nil] at hbs
  have body : wpAny (model X.prog X.w) X.A (call (.ref f) [.ref a, u]) (PySem.W.CmpBack (EP X pins σ Q)) X.xe s := by
    refine wpAny_call (codeAny_mono (F.run X.A X.stack s H ⟨[.ref a, u], []⟩ [.ref a, u] _ _ _ hr I.env0 hbs (.cons (show L2.RelV (.ref a) (.ref a) from rfl) (.cons ry .nil)) hsp) fun res z hq => ?_)
    cases res with
    | error er => exact (show False from hq).elim
    | ok fl =>
      cases fl with
      | ret u =>
        obtain ⟨v, G, J2, rv, b, ev, q⟩ := I.after hq
        subst ev
        cases rv
        exact ⟨.bl b, G, J2, rfl, q⟩
      | next => exact False.elim hq
      | brk => exact False.elim hq
      | cont => exact False.elim hq
  rcases hy with ⟨b, dy, gs, rfl, hy⟩ | ⟨t, ty, hn⟩
  · cases ry
    obtain ⟨mB, O', _⟩ := ins_get I.hok hy
    obtain ⟨od', J', _⟩ := O'.look
    exact PySem.W.cmp_K (op := .Eq) (tb := .ref C) hr.units0 fr I.ok.mod.kin J J'.type (by simp [PySem.W.notFirst]) hs hf body
  · obtain ⟨PP, Z, hp, _⟩ := kit_of I ry ty
    exact PySem.W.cmp_K (op := .Eq) (tb := t) hr.units0 fr I.ok.mod.kin J (Z.ty _ _ I.kIn hp) hn hs hf body
/-! ## != by an own __eq__ -/
def rNeO (C : Addr) (sp : Sp) : R2 := fun x y H Q => ∃ (a dx b dy : Addr) (fs gs : List (Str × V)), x = .ref a ∧ y = .ref b ∧ H a = some (.ins C dx fs) ∧ H b = some (.ins C dy gs) ∧ sp [x, y] H (fun v G => ∃ b : Bool, v = .bl b ∧ Q (.bl (!b)) G) E0
/-- the class's own text, with == and without != -/
structure EqNe (K : PySem.W.Frag) (C f : Addr) (nm q : Str) (N : Addr) (bs sub : List Value) (hdct ab : Bool) (sn : List Str) (col : Option Bool) (dd : Option Addr) (k0 k1 k2 k3 k5 : Option Value) (newId : String) (of : Obj) (oc : Value) (od : Option Addr) (es : Array DictEntry) (ep : Nat) (sl : Array (Option Value)) : Prop where
  c : K.lookup C = some (excClassObj nm q C N bs [.type "object"] hdct sn sub ab col dd k0 k1 k2 k3 k5 newId)
  n : K.lookup N = some ⟨oc, od, .dict es ep, sl⟩
  keys : StrKeys es
  eq : nsFind es "__eq__" = some (.ref f)
  ne : nsFind es "__ne__" = none
  f : K.lookup f = some of
  fc : of.cls = .type "function"
def HasEqNe (K : PySem.W.Frag) (C f : Addr) : Prop := ∃ nm q N bs sub hdct ab sn col dd k0 k1 k2 k3 k5 newId of oc od es ep sl, EqNe K C f nm q N bs sub hdct ab sn col dd k0 k1 k2 k3 k5 newId of oc od es ep sl
theorem eq_lk : ∃ y, typeLookup (.type "object") "__eq__" = pure y := ⟨_, PySem.F.cmp_object.eq.lookup⟩
theorem op_neO {X : Cx} {C f : Addr} {fd : FuncData} {k : Nat} {ps : List Str} {sp : Sp} (hE : HasEqNe X.K C f) (F : FnOk X.prog X.w X.K X.mg X.base CX0 k f fd ps sp) (hr : Room (k + 1) X.A) (hb : Binds X.K fd ps []) :
    OpR X (compareOp .NotEq) (rNeO C sp) := by
  intro pins s σ H x y v u Q I rx ry h
  obtain ⟨a, dx, b, dy, fs, gs, rfl, rfl, ha, hb', hsp⟩ := h
  cases rx
  cases ry
  obtain ⟨nm, q, N, bs, sub, hdct, ab, sn, col, dd, k0, k1, k2, k3, k5, newId, of, oc, od, es, ep, sl, E⟩ := hE
  obtain ⟨mA, O, _⟩ := ins_get I.hok ha
  obtain ⟨od1, J, _⟩ := O.look
  obtain ⟨mB, O', _⟩ := ins_get I.hok hb'
  obtain ⟨od2, J', _⟩ := O'.look
  obtain ⟨y0, hy0⟩ := eq_lk
  have kin := I.kIn
  have own : s.heap.OwnEqNoNe a C f "object" [.type "object"] := ⟨_, of, nm, q, N, bs, hdct, sn, sub, ab, col, dd, k0, k1, k2, k3, k5, newId, nsFind es, y0, J.at_, J.cls, kin _ _ E.c, ⟨_, es, ep, kin _ _ E.n, rfl, E.keys, fun _ => rfl⟩, E.eq, kin _ _ E.f, E.fc, PySem.F.cmp_object.mro, hy0, E.ne⟩
  have hl : [Value.ref a, Value.ref b].length = ps.length := F.len _ _ _ _ hsp
  have hbs := hb s [.ref a, .ref b] I.kIn (by rw [List.append_nil]; exact hl)
  rw [List.append_nil] at hbs
  obtain ⟨hp, g, d, tk, os⟩ := s
  refine compareOp_ne_ownEq PySem.F.cmp_object own J'.at_ J'.cls (by have := hr.units; omega) ?_
  refine wpAny_call (codeAny_mono (F.run X.A.in1 X.stack _ H ⟨[.ref a, .ref b], []⟩ [.ref a, .ref b] [.ref a, .ref b] _ _ hr.in1 I.env0.in1 hbs (.cons rfl (.cons rfl .nil)) hsp) fun res z hq => ?_)
  cases res with
  | error er => exact (show False from hq).elim
  | ok fl =>
    cases fl with
    | ret u =>
      obtain ⟨v, G, J2, rv, c, ev, q⟩ := I.after hq
      subst ev
      cases rv
      exact ⟨c, rfl, .bl (!c), G, J2, rfl, q⟩
    | next => exact False.elim hq
    | brk => exact False.elim hq
    | cont => exact False.elim hq
end Ew
namespace Ew
open PySem PySem.Spec PyProof.Rows L2
theorem eqvAll_ints : ∀ s s' : List Int, PyData.eqvAll (s.map PyData.int) (s'.map PyData.int) = decide (s = s')
  | [], [] => by simp [PyData.eqvAll]
  | [], b :: s' => by simp [PyData.eqvAll]
  | a :: s, [] => by simp [PyData.eqvAll]
  | a :: s, b :: s' => by
    have ih := eqvAll_ints s s'
    simp only [List.map_cons, PyData.eqvAll, PyData.eqv, ih]
    by_cases h : a = b
    · subst h
      by_cases h2 : s = s' <;> simp [h2]
    · simp [h]
theorem eqv_tup2 (s s' : List Int) : PyData.eqv (.tuple (s.map PyData.int)) (.tuple (s'.map PyData.int)) = decide (s = s') := by rw [PyData.eqv]; exact eqvAll_ints s s'
theorem eqv_lst2 (s s' : List Int) : PyData.eqv (.list (s.map PyData.int)) (.list (s'.map PyData.int)) = decide (s = s') := by rw [PyData.eqv]; exact eqvAll_ints s s'
end Ew
namespace Ew
open PySem PySem.Spec PyProof.Rows L2
/-- a comprehension's turn without a test -/
theorem tyes {σ : L2.St} {H : Hp} {A B : Hp → Prop} (h : A H) : tYes σ H (fun b G => if b = true then A G else B G) := by
  show (if true = true then A H else B H)
  rw [if_pos rfl]
  exact h
theorem RngAt.off {G : Hp} {p q d : Addr} {ns : List Int} {i v sd : Int} {o : HO} (R : RngAt G p q ns i v sd) (h1 : d ≠ p) (h2 : d ≠ q) : RngAt (upd G d o) p q ns i v sd :=
  ⟨by rw [upd_ne h1.symm]; exact R.at_p, by rw [upd_ne h2.symm]; exact R.at_q, R.len, R.ok, R.ne⟩
theorem RngAt.freeq {G : Hp} {p q d : Addr} {ns : List Int} {i v sd : Int} (R : RngAt G p q ns i v sd) (h : G d = none) : d ≠ q := fun e => by
  have z := R.at_q
  rw [← e, h] at z
  cases z
end Ew
/-! lambdas: one with a default, and one that a def hands on to another def -/
namespace Ew
open PySem PySem.Spec PyProof.Rows L2 PySem.W
/-- the lambda's function, with the defaults at dV -/
abbrev lamFn (q : Str) (pr : Arguments) (bd : Expr) (sc : Scope) (cl : List (Str × Addr)) (dV pm cdv ctv : Value) : FuncData :=
  { name := "<lambda>", qualname := q, params := pr, body := .expr bd, scope := sc, globals := mainGlobals, closure := cl, defaults := dV, kwdefaults := .none, doc := .none, pyModule := pm, annotations := none, code := cdv, closureTuple := ctv, builtins := builtinsNs }
abbrev lamObj (q : Str) (pr : Arguments) (bd : Expr) (sc : Scope) (cl : List (Str × Addr)) (dV pm cdv ctv : Value) : Obj := { cls := .type "function", data := .func (lamFn q pr bd sc cl dV pm cdv ctv) }
section
variable {M : Model} {A : Around} {E : Value → Shared → Prop} {s : Shared} {q : Str} {pr : Arguments} {bd : Expr} {sc : Scope} {env : Env} {c P : Addr} {ps : Array Value} {pos : Pos} {ln : Nat} {mg : Str → Option Value} {cl : List (Str × Addr)} {Q : Value → Shared → Prop} {dV : Value}
theorem tail_new (h1 : closureFor sc env = pure cl) (h2 : env.globals = mainGlobals) (h3 : s.heap.Ns mainGlobals mg) (h4 : env.code = .ref c) (C : CodeHd s.heap c P) (h5 : s.heap.get? P = some { cls := .none, data := .fields ps }) (h6 : TriplesOk ps.toList)
    (h7 : codeAmong pos ps.toList = none) (h8 : mainGlobals ≠ P) (hb : s.heap.BuiltinsAt mg P)
    (k : ∀ c' ctv h' tk, Heap.ExtBut P s.heap h' → s.heap.objs.size ≤ c' → c' < h'.objs.size → h'.CodeRec (.ref c') q → h'.get? P = some { cls := .none, data := .fields (ps ++ #[rawInt pos.line, rawInt pos.col, .ref c']) } →
      Q (.ref h'.objs.size) { s with heap := h'.push (lamObj q pr bd sc cl dV ((mg "__name__").getD .none) (.ref c') ctv), toks := tk }) :
    wpAny M A (makeTail "<lambda>" q pr (.expr bd) sc env dV .none none pos ln) Q E s := by
  obtain ⟨bm, ob, b1, b2, _, b3, b4, b5, b6, b7⟩ := hb
  unfold makeTail; rw [h1, h2]
  refine wpAny_bind (wpAny_pure ?_)
  cases cl with
  | nil =>
    simp only [List.isEmpty_nil, if_true]
    refine wpAny_bind (wpAny_pure (wpAny_bind (wpAny_functionCodeX h4 (C.code h5 h6) (C.tab h5) h7 fun c' h' tk x1 x2 x3 _ x4 x5 _ => ?_)))
    have g' := h3.extBut x1 h8
    exact wpAny_bind (wpAny_builtinsFor g' b1 b2 (x1 _ _ b3 b4) b5 b6 b7 (wpAny_bind (wpAny_nsGet g' (wpAny_bind (wpAny_pure (wpAny_newObj_type (k c' .none h' tk x1 x2 x3 x4 x5.2) (by size_fits)))))))
  | cons y r =>
    simp only [List.isEmpty_cons, Bool.false_eq_true, if_false]
    refine wpAny_bind (wpAny_newTextTuple (wpAny_bind (wpAny_functionCodeX h4 ((C.keeps fun b o e => Heap.get?_push_of_some _ e).code (Heap.get?_push_of_some _ h5) h6) ((C.keeps fun b o e => Heap.get?_push_of_some _ e).tab (Heap.get?_push_of_some _ h5)) h7 fun c' h' tk x1 x2 x3 _ x4 x5 _ => ?_)))
    have g' := (h3.push _).extBut x1 h8
    have x1' : Heap.ExtBut P s.heap h' := fun b o n e => x1 b o n (Heap.get?_push_of_some _ e)
    have x2' : s.heap.objs.size ≤ c' := Nat.le_trans (by rw [Heap.size_push]; omega) x2
    exact wpAny_bind (wpAny_builtinsFor g' b1 b2 (x1' _ _ b3 b4) b5 b6 b7 (wpAny_bind (wpAny_nsGet g' (wpAny_bind (wpAny_pure (wpAny_newObj_type (k c' _ h' tk x1' x2' x3 x4 x5.2) (by size_fits)))))))
theorem tail_hit {cv : Value} (h1 : closureFor sc env = pure cl) (h2 : env.globals = mainGlobals) (h3 : s.heap.Ns mainGlobals mg) (h4 : env.code = .ref c) (C : CodeHd s.heap c P) (h5 : s.heap.get? P = some { cls := .none, data := .fields ps }) (h6 : TriplesOk ps.toList)
    (h7 : codeAmong pos ps.toList = some cv) (hb : s.heap.BuiltinsAt mg P)
    (k : ∀ (ctv : Value) (h' : Heap) (tk : Tok), (∀ b o, s.heap.get? b = some o → h'.get? b = some o) → s.heap.objs.size ≤ h'.objs.size →
      Q (.ref h'.objs.size) { s with heap := h'.push (lamObj q pr bd sc cl dV ((mg "__name__").getD .none) cv ctv), toks := tk }) :
    wpAny M A (makeTail "<lambda>" q pr (.expr bd) sc env dV .none none pos ln) Q E s := by
  obtain ⟨bm, ob, b1, b2, _, b3, b4, b5, b6, b7⟩ := hb
  unfold makeTail; rw [h1, h2]
  refine wpAny_bind (wpAny_pure ?_)
  cases cl with
  | nil =>
    simp only [List.isEmpty_nil, if_true]
    exact wpAny_bind (wpAny_pure (wpAny_bind (wpAny_functionCode_hit h4 (C.code h5 h6) h7 (wpAny_bind (wpAny_builtinsFor h3 b1 b2 b4 b5 b6 b7 (wpAny_bind (wpAny_nsGet h3 (wpAny_bind (wpAny_pure (wpAny_newObj_type (k .none s.heap s.toks (fun _ _ e => e) (Nat.le_refl _)) (by size_fits)))))))))))
  | cons y r =>
    simp only [List.isEmpty_cons, Bool.false_eq_true, if_false]
    have z : ∀ oT : Obj, s.heap.objs.size ≤ (s.heap.push oT).objs.size := fun oT => by rw [Heap.size_push]; omega
    exact wpAny_bind (wpAny_newTextTuple (wpAny_bind (wpAny_functionCode_hit h4 ((C.keeps fun b o e => Heap.get?_push_of_some _ e).code (Heap.get?_push_of_some _ h5) h6) h7 (wpAny_bind (wpAny_builtinsFor (h3.push _) b1 b2 (Heap.get?_push_of_some _ b4) b5 b6 b7 (wpAny_bind (wpAny_nsGet (h3.push _) (wpAny_bind (wpAny_pure (wpAny_newObj_type (k _ _ s.toks (fun b o e => Heap.get?_push_of_some _ e) (z _)) (by size_fits)))))))))))
end
/-- how the defaults are made: dV afterwards, and what the heap then holds of them -/
inductive DefV (X : Cx) (pr : Arguments) : (Value → Heap → Prop) → Prop where
  | no : defaultsOf pr X.env = ([], []) → DefV X pr (fun dV _ => dV = .none)
  | one {e : Expr} {v : V} : defaultsOf pr X.env = ([eval e X.env], []) → PE X e (tC v) → DefV X pr (fun dV h => ∃ (T : Addr) (u : Value) (n : Nat), dV = .ref T ∧ RelV v u ∧ h.get? T = some { cls := .type "tuple", data := .seq #[u] n })
section
variable {X : Cx} {pins : List (Addr × Obj)} {σ : L2.St} {H : Hp} {s : Shared}
open LamX in
theorem lam_tail {T : List (Addr × Str)} {c P : Addr} {pr : Arguments} {bd : Expr} {sc : Scope} {pos : Pos} {dV : Value} {E : Value → Shared → Prop} {Q : Value → Shared → Prop} (I : Inv X pins σ H s) (TB : TabB X.base X.mg c P) (hcode : X.env.code = .ref c)
    (hm : (P, X.env.qual ++ "<lambda>") ∈ T) (hu : ∀ p ∈ T, p.1 = P → p.2 = X.env.qual ++ "<lambda>") (hT : Tabs T H) (hfree : ∀ y ∈ sc.names, y.2 = .free → ∃ c, X.env.cells.lookup y.1 = some c)
    (k : ∀ (f c' : Addr) (pm ctv : Value) (H1 : Hp) (s' : Shared), Inv X pins σ H1 s' → ExtN H H1 → Tabs T H1 → (∀ b o, b ≠ P → s.heap.get? b = some o → s'.heap.get? b = some o) → (∀ b, b ≠ P → b < s.heap.objs.size → H1 b = H b) →
      s'.heap.get? f = some (lamObj (X.env.qual ++ "<lambda>") pr bd sc (cloFrom X.env.cells sc.names []) dV pm (.ref c') ctv) → H1 f = none → f ∉ frs X.stack → H1 c' = some (CodeO c' (X.env.qual ++ "<lambda>")) → Q (.ref f) s') :
    wpAny (model X.prog X.w) X.A (makeTail "<lambda>" (X.env.qual ++ "<lambda>") pr (.expr bd) sc X.env dV .none none pos pos.line) Q E s := by
  obtain ⟨ps, hP, ht, ha⟩ := hT _ hm
  have bP : s.heap.BuiltinsAt X.mg P := TB.bm.keeps I.bk
  have hP' : s.heap.get? P = some { cls := .none, data := .fields ps } := I.hok P _ hP
  have nofr : ∀ f, s.heap.objs.size ≤ f → f ∉ frs X.stack := fun f hf z => by
    rcases List.mem_cons.mp (I.stkSub _ z) with e | e
    · have h1 := I.lt; rw [← e] at h1; exact Nat.lt_irrefl _ (Nat.lt_of_lt_of_le h1 hf)
    · exact I.nofs hf e
  cases hc : codeAmong pos ps.toList with
  | none =>
    refine tail_new (mg := X.mg) (c := c) (P := P) (ps := ps) (closure_ok hfree) I.ok.glob (I.mod.glob.keeps I.bk) hcode (TB.code.keeps I.bk) hP' ht hc TB.gP bP fun c' ctv h' tk x1 x2 x3 x4 x5 => ?_
    obtain ⟨c2, oc, vs, t, e2, y1, y2, y3⟩ := x4
    cases e2
    have hsz : s.heap.objs.size ≤ h'.objs.size := Nat.le_trans x2 (Nat.le_of_lt x3)
    have nC : H c' = none := I.hok.fresh x2
    have I1 := inv_table (t' := tk) (more := #[rawInt pos.line, rawInt pos.col, .ref c']) (h' := h'.push (lamObj (X.env.qual ++ "<lambda>") pr bd sc (cloFrom X.env.cells sc.names []) dV ((X.mg "__name__").getD .none) (.ref c') ctv)) I hP
      (fun b o hb e => Heap.get?_push_of_some _ (x1 b o hb e)) (Heap.get?_push_of_some _ x5) x2 ⟨oc, vs, t, Heap.get?_push_of_some _ y1, y2, y3⟩
    have hE : ExtN H (upd (upd H P (.tbl (ps ++ #[rawInt pos.line, rawInt pos.col, .ref c']))) c' (CodeO c' (X.env.qual ++ "<lambda>"))) := fun b o e n => by
      rw [upd_ne (ne_of_none e nC), upd_ne (fun z => n ps (Option.some.inj (e.symm.trans (by rw [z]; exact hP))))]; exact e
    have eL : (ps ++ #[rawInt pos.line, rawInt pos.col, .ref c']).toList = ps.toList ++ [rawInt pos.line, rawInt pos.col, .ref c'] := by simp
    refine k h'.objs.size c' ((X.mg "__name__").getD .none) ctv _ _ I1 hE (fun p hp => ?_) (fun b o hb e => Heap.get?_push_of_some _ (x1 b o hb e)) (fun b hb hlt => by rw [upd_ne (Nat.ne_of_lt (Nat.lt_of_lt_of_le hlt x2)), upd_ne hb]) (Heap.get?_push_size _ rfl) ?_ (nofr _ hsz) upd_same
    · by_cases hb : p.1 = P
      · rw [hu p hp hb, hb]
        refine ⟨_, by rw [upd_ne (ne_of_none hP nC), upd_same], by rw [eL]; exact PySem.TriplesOk_snoc _ _ _ _ ht, fun p' cv hcv => ?_⟩
        rw [eL] at hcv
        rcases among_app _ ht hcv with z | z
        · obtain ⟨c0, e1, e2⟩ := ha p' cv z; exact ⟨c0, e1, hE _ _ e2 codeO_ne⟩
        · exact ⟨c', z, upd_same⟩
      · obtain ⟨ps', a1, a2, a3⟩ := hT p hp
        refine ⟨ps', by rw [upd_ne (ne_of_none a1 nC), upd_ne hb]; exact a1, a2, fun p' cv hcv => ?_⟩
        obtain ⟨c0, e1, e2⟩ := a3 p' cv hcv; exact ⟨c0, e1, hE _ _ e2 codeO_ne⟩
    · rw [upd_ne (Nat.ne_of_gt x3), upd_ne (Nat.ne_of_gt (Nat.lt_of_lt_of_le (Heap.lt_size hP') hsz))]; exact I.hok.fresh hsz
  | some cv =>
    obtain ⟨c', e, hco⟩ := ha pos cv hc
    subst e
    refine tail_hit (mg := X.mg) (c := c) (P := P) (ps := ps) (closure_ok hfree) I.ok.glob (I.mod.glob.keeps I.bk) hcode (TB.code.keeps I.bk) hP' ht hc bP fun ctv h' tk hx hsz => ?_
    have I1 : Inv X pins σ H { s with heap := h'.push (lamObj (X.env.qual ++ "<lambda>") pr bd sc (cloFrom X.env.cells sc.names []) dV ((X.mg "__name__").getD .none) (.ref c') ctv), toks := tk } := I.kept fun b o e => Heap.get?_push_of_some _ (hx b o e)
    exact k h'.objs.size c' ((X.mg "__name__").getD .none) ctv H _ I1 (ExtN.refl H) hT (fun b o _ e => Heap.get?_push_of_some _ (hx b o e)) (fun _ _ _ => rfl) (Heap.get?_push_size _ rfl) (I.hok.fresh hsz) (nofr _ hsz) hco
end
end Ew
namespace Ew
open PySem PySem.Spec PyProof.Rows L2 PySem.W LamX
/-- what is known of the defaults' value behind their making -/
inductive DefK (X : Cx) (pr : Arguments) : (Shared → Hp → Value → Prop) → Prop where
  | no : defaultsOf pr X.env = ([], []) → DefK X pr (fun _ _ dV => dV = .none)
  | one {e : Expr} {v : V} : defaultsOf pr X.env = ([eval e X.env], []) → PE X e (tC v) → DefK X pr (fun s H dV => ∃ (T : Addr) (u : Value) (n : Nat), dV = .ref T ∧ s.heap.get? T = some { cls := .type "tuple", data := .seq #[u] n } ∧ H T = none ∧ T ∉ frs X.stack)
section
variable {X : Cx} {pins : List (Addr × Obj)} {σ : L2.St} {H HZ : Hp} {s s1 : Shared}
theorem lam_makeG {T : List (Addr × Str)} {c P : Addr} {pr : Arguments} {bd : Expr} {sc : Scope} {pos : Pos} {Q : Value → Shared → Prop} {Kd : Shared → Hp → Value → Prop} (I : Inv X pins σ H s) (TB : TabB X.base X.mg c P) (hcode : X.env.code = .ref c)
    (hm : (P, X.env.qual ++ "<lambda>") ∈ T) (hu : ∀ p ∈ T, p.1 = P → p.2 = X.env.qual ++ "<lambda>") (hT : Tabs T H) (D : DefK X pr Kd) (hfree : ∀ y ∈ sc.names, y.2 = .free → ∃ c, X.env.cells.lookup y.1 = some c)
    (k : ∀ (f c' : Addr) (dV pm ctv : Value) (H1 : Hp) (s' : Shared), Inv X pins σ H1 s' → ExtN H H1 → Tabs T H1 → Kd s' H1 dV →
      s'.heap.get? f = some (lamObj (X.env.qual ++ "<lambda>") pr bd sc (cloFrom X.env.cells sc.names []) dV pm (.ref c') ctv) → H1 f = none → f ∉ frs X.stack → H1 c' = some (CodeO c' (X.env.qual ++ "<lambda>")) → Q (.ref f) s') :
    wpAny (model X.prog X.w) X.A (eval (.Lambda pr bd sc pos) X.env) Q X.xe s := by
  rw [arm_eval_Lambda]
  cases D with
  | no hd =>
    rw [hd]
    show wpAny _ _ (do let dv ← evalAll []; let kdv ← holding dv (evalAllOpt []); makeFunction "<lambda>" (X.env.qual ++ "<lambda>") pr (.expr bd) sc X.env dv kdv [] pos pos.line) Q X.xe s
    refine wpAny_bind (wpAny_pure (wpAny_bind (wpAny_holding (wpAny_pure ?_))))
    rw [makeFunction_eq]
    simp only [List.zip_nil_right, List.filterMap_nil, List.isEmpty_nil, if_true, pure_bind]
    exact lam_tail I TB hcode hm hu hT hfree fun f c' pm ctv H1 s' a1 a2 a3 _ _ a4 a5 a6 a7 => k f c' .none pm ctv H1 s' a1 a2 a3 rfl a4 a5 a6 a7
  | @one e v hd pe =>
    rw [hd]
    show wpAny _ _ (do let dv ← evalAll [eval e X.env]; let kdv ← holding dv (evalAllOpt []); makeFunction "<lambda>" (X.env.qual ++ "<lambda>") pr (.expr bd) sc X.env dv kdv [] pos pos.line) Q X.xe s
    refine wpAny_bind ?_
    show wpAny _ _ (do let v ← eval e X.env; return v :: (← holding [v] (evalAll []))) _ _ s
    refine wpAny_bind (wpAny_mono (pe.run pins s σ H (fun v' H' => v' = v ∧ H' = H) I ⟨rfl, rfl⟩) (fun u s1 hq => ?_) fun e s' z => ?_)
    · obtain ⟨v', H', I1, r1, rfl, rfl⟩ := hq
      refine wpAny_bind (wpAny_holding (wpAny_pure (wpAny_pure (wpAny_bind (wpAny_holding (wpAny_pure ?_))))))
      rw [makeFunction_eq]
      simp only [List.zip_nil_right, List.filterMap_nil, List.isEmpty_nil, List.isEmpty_cons, Bool.false_eq_true, if_true, if_false, pure_bind]
      refine wpAny_bind (wpAny_newTextTuple ?_)
      have hz : s1.heap.objs.size < (s1.heap.push { cls := .type "tuple", data := .seq [u].toArray }).objs.size := by rw [Heap.size_push]; omega
      have I2 : Inv X pins σ H' { s1 with heap := s1.heap.push { cls := .type "tuple", data := .seq [u].toArray } } := I1.kept (t' := s1.toks) fun b o e => Heap.get?_push_of_some _ e
      have nP : s1.heap.objs.size ≠ P := fun z => by
        obtain ⟨ps, hP, _⟩ := hT _ hm
        have hlt := Heap.lt_size (I1.hok P _ hP)
        rw [← z] at hlt
        exact Nat.lt_irrefl _ hlt
      have nofr : s1.heap.objs.size ∉ frs X.stack := fun z => by
        rcases List.mem_cons.mp (I1.stkSub _ z) with e | e
        · have h1 := I1.lt; rw [← e] at h1; exact Nat.lt_irrefl _ h1
        · exact I1.nofs (Nat.le_refl _) e
      exact lam_tail I2 TB hcode hm hu hT hfree fun f c' pm ctv H1 s' a1 a2 a3 a8 a9 a4 a5 a6 a7 => k f c' _ pm ctv H1 s' a1 a2 a3 ⟨_, u, _, rfl, a8 _ _ nP (Heap.get?_push_size _ rfl), by rw [a9 _ nP hz]; exact I1.hok.fresh (Nat.le_refl _), nofr⟩ a4 a5 a6 a7
    · exact z
/-! ### the lambda's names: captured ones, globals, and parameters that the def does not know -/
structure LamN (N : List Str) (s0 sc : Scope) : Prop where
  kind : sc.kind = .function
  co : sc.isCoroutine = false
  gen : sc.isGenerator = false
  own : ∀ y ∈ sc.names, y.2 ≠ .cell ∧ (y.2 = .local → y.1 ∉ N)
  free : ∀ y ∈ sc.names, y.2 = .free → s0.names.lookup y.1 = some .cell ∨ s0.names.lookup y.1 = some .free
def lamNB (N : List Str) (s0 sc : Scope) : Bool :=
  decide (sc.kind = .function) && (!sc.isCoroutine && (!sc.isGenerator && sc.names.all fun y => (!decide (y.2 = .cell)) && ((!decide (y.2 = .local) || !N.contains y.1) && (!decide (y.2 = .free) || (decide (s0.names.lookup y.1 = some .cell) || decide (s0.names.lookup y.1 = some .free))))))
theorem lamN_by {N : List Str} {s0 sc : Scope} (h : lamNB N s0 sc = true) : LamN N s0 sc := by
  unfold lamNB at h
  simp only [Bool.and_eq_true, Bool.or_eq_true, Bool.not_eq_true', decide_eq_true_eq, decide_eq_false_iff_not, List.all_eq_true] at h
  obtain ⟨a1, a2, a3, a4⟩ := h
  refine ⟨a1, a2, a3, fun y hy => ⟨(a4 y hy).1, fun e hN => ?_⟩, fun y hy e => ?_⟩
  · rcases (a4 y hy).2.1 with z | z
    · exact z e
    · rw [List.contains_iff_mem.mpr hN] at z; cases z
  · rcases (a4 y hy).2.2 with z | z
    · exact absurd e z
    · exact z
theorem LamN.has {N : List Str} {sc : Scope} (L : LamN N X.env.scope sc) (ok : X.Ok) : ∀ y ∈ sc.names, y.2 = .free → ∃ c, X.env.cells.lookup y.1 = some c := fun y hy e => (L.free y hy e).elim (fun k => ok.has _ (.inl k)) (fun k => ok.has _ (.inr k))
theorem lam_startN {A : Around} {outer : List Env} {E : XK} {sc : Scope} {f c' : Addr} {g : Heap} {tk : Nat} {bs : List (Str × Value)} (I : Inv X pins σ H s) (L : LamN X.N X.env.scope sc) (e0 : Env0 X.prog X.w X.K X.mg X.base A outer s1 HZ) (hd : A.handled = none)
    (un : Un (frs X.stack) [] H HZ s.heap s1.heap) (hns : g.Ns s1.heap.objs.size fun y => bs.reverse.lookup y) (kp : ∀ b o, s1.heap.get? b = some o → g.get? b = some o) :
    Inv (lamCx X A outer s1 HZ E sc f c') [] σ HZ { s1 with heap := g, toks := tk } := by
  have hfree := L.has I.ok
  have cm : ∀ {y c}, (cloFrom X.env.cells sc.names []).lookup y = some c → X.env.cells.lookup y = some c := fun {y c} e => by
    rcases cloFrom_mem (PySem.mem_of_lookup e) with hm | ⟨h1, h2⟩
    · cases hm
    · obtain ⟨c1, hc⟩ := hfree _ h1 rfl
      have hc : X.env.cells.lookup y = some c1 := hc
      have e2 : c = c1 := by rw [h2, hc] <;> rfl
      rw [e2]; exact hc
  have look : ∀ {y}, sc.names.lookup y = some .free → ∃ c, (cloFrom X.env.cells sc.names []).lookup y = some c := fun {y} hl => mem_lookup (cloFrom_has (cells := X.env.cells) (acc := []) (PySem.mem_of_lookup hl))
  have cellK : ∀ {c : Addr} {v : Option Value}, H c = none → s.heap.IsCell c v → g.IsCell c v := fun {c v} n ⟨o, ho, hd⟩ => by
    obtain ⟨sl, q⟩ := un.any ho n (by simp)
    exact ⟨_, kp _ _ q, hd⟩
  have noA : ∀ b : Addr, b ∉ (lamCx X A outer s1 HZ E sc f c').ex := fun b z => absurd (show b ∈ ([] : List Addr) from z) (by simp)
  refine ⟨⟨e0.mod, L.kind, rfl, rfl, Nat.le_refl _, fun y z c e1 e2 => I.ok.inj y z c (cm e1) (cm e2), fun y hy => ?_, fun y c z _ => ?_, fun _ => hd, Around.frames_deeper e0.frames, .inr ⟨rfl, rfl⟩, fun b z => absurd z (noA b), e0.bs, e0.bsz, fun b _ _ => noA b,
      fun b z => absurd z (noA b), e0.funs, e0.frf⟩,
    rfl, e0.bare, Un.kept kp, ⟨_, hns, fun i y v e1 e2 e3 => ?_⟩, fun y c e => ?_, e0.hok.fresh (Nat.le_refl _), fun y c e => ?_, fun q hq => absurd (show q ∈ ([] : List (Addr × Obj)) ++ [] from hq) (by simp), e0.hok.kept kp, I.len⟩
  · have hy : sc.names.lookup y = some .cell ∨ sc.names.lookup y = some .free := hy
    rcases hy with hy | hy
    · exact absurd rfl (L.own _ (PySem.mem_of_lookup hy)).1
    · exact look hy
  · have z : false = true := z
    cases z
  · have e3 : Vis sc y := e3
    rcases e3 with k | k | k
    · exact absurd (List.mem_of_getElem? (show X.N[i]? = some y from e1)) ((L.own _ (PySem.mem_of_lookup k)).2 rfl)
    · exact absurd rfl (L.own _ (PySem.mem_of_lookup k)).1
    · obtain ⟨m, hn, hl⟩ := I.loc
      have hvis : Vis X.env.scope y := (L.free _ (PySem.mem_of_lookup k) rfl).elim (fun k => .inr (.inl k)) (fun k => .inr (.inr k))
      obtain ⟨w', r, q⟩ := hl i y v e1 e2 hvis
      obtain ⟨c2, h2⟩ := look k
      refine ⟨w', r, .inr ⟨.inr k, c2, h2, ?_⟩⟩
      have c1 := cm h2
      rcases q with ⟨k', _⟩ | ⟨_, c3, e', z⟩
      · have k' : X.env.scope.names.lookup y = some .local := k'
        rcases L.free _ (PySem.mem_of_lookup k) rfl with k2 | k2 <;> rw [show X.env.scope.names.lookup y = _ from k2] at k' <;> cases k'
      · rw [c1] at e'; cases e'; exact cellK (I.freeC y _ c1) z
  · obtain ⟨w', z⟩ := I.cell y c (cm e)
    exact ⟨w', cellK (I.freeC y c (cm e)) z⟩
  · obtain ⟨v, o, ho, hd⟩ := I.cell y c (cm e)
    exact un.free c o ho (I.freeC y c (cm e)) (by simp)
end
/-- what the call of the lambda binds -/
def HB (X : Cx) (pr : Arguments) (bd : Expr) (sc : Scope) (Kd : Shared → Hp → Value → Prop) : Prop := ∀ (q : Str) (cl : List (Str × Addr)) (pm cdv ctv dV : Value) (s : Shared) (H : Hp), Kd s H dV →
  ∃ bs : List (Str × Value), (∀ y ∈ bs, sc.names.lookup y.1 = some .local) ∧ ∀ (s2 : Shared) (HZ : Hp), Un (frs X.stack) [] H HZ s.heap s2.heap → BindsTo s2 (lamFn q pr bd sc cl dV pm cdv ctv) ⟨[], []⟩ bs
theorem hb_no {X : Cx} {pr : Arguments} {bd : Expr} {sc : Scope} (h : ∀ (q : Str) (cl : List (Str × Addr)) (pm cdv ctv : Value), bindArgs (lamFn q pr bd sc cl .none pm cdv ctv) ⟨[], []⟩ = pure []) : HB X pr bd sc (fun _ _ dV => dV = .none) :=
  fun q cl pm cdv ctv dV s H e => ⟨[], (fun y hy => by cases hy), fun s2 HZ _ => by
    cases (show dV = .none from e)
    exact .of_eq (h q cl pm cdv ctv)⟩
theorem hb_one {X : Cx} {pr : Arguments} {bd : Expr} {sc : Scope} {a : Str} (hl : sc.names.lookup a = some .local)
    (h : ∀ (q : Str) (cl : List (Str × Addr)) (T : Addr) (pm cdv ctv u : Value), ∃ k, bindArgs (lamFn q pr bd sc cl (.ref T) pm cdv ctv) ⟨[], []⟩ = seqItems? (.ref T) >>= k ∧ k (some #[u]) = pure [(a, u)]) :
    HB X pr bd sc (fun s H dV => ∃ (T : Addr) (u : Value) (n : Nat), dV = .ref T ∧ s.heap.get? T = some { cls := .type "tuple", data := .seq #[u] n } ∧ H T = none ∧ T ∉ frs X.stack) := by
  rintro q cl pm cdv ctv dV s H ⟨T, u, n, rfl, hT, nT, fT⟩
  obtain ⟨k, e1, e2⟩ := h q cl T pm cdv ctv u
  refine ⟨[(a, u)], fun y hy => by rw [List.mem_singleton.mp hy]; exact hl, fun s2 HZ un => ?_⟩
  refine BindsTo.of_looks fun M => ?_
  rw [e1]
  exact fun A Q E s3 kp z => wpAny_bind (wpAny_seqItems (kp _ _ (un.keep T _ hT nT fT (by simp))) rfl (by rw [e2]; exact wpAny_pure z))
end Ew
namespace Ew
open PySem PySem.Spec PyProof.Rows L2 PySem.W LamX
theorem un_comp {fs fs' : List Addr} {H H1 H2 : Hp} {h h1 h2 : Heap} (a : Un fs [] H H1 h h1) (b : Un fs' [] H1 H2 h1 h2) (e : ∀ c o, h.get? c = some o → (c ∈ fs' ↔ c ∈ fs)) : Un fs [] H H2 h h2 where
  keep := fun c ob q n hc hx => b.keep c ob (a.keep c ob q n hc hx) (a.free c ob q n hx) (fun z => hc ((e c ob q).mp z)) hx
  slot := fun c ob q n hc hx => by
    obtain ⟨sl, e1⟩ := a.slot c ob q n hc hx
    obtain ⟨sl', e2⟩ := b.slot c _ e1 (a.free c ob q n hx) ((e c ob q).mpr hc) hx
    exact ⟨sl', e2⟩
  free := fun c ob q n hx => by
    obtain ⟨o', e1⟩ := a.there c ob q hx
    exact b.free c o' e1 (a.free c ob q n hx) hx
  there := fun c ob q hx => by
    obtain ⟨o', e1⟩ := a.there c ob q hx
    exact b.there c o' e1 hx
  tups := fun c xs q => b.tups c xs (a.tups c xs q)
  frzs := fun c o u q => b.frzs c o u (a.frzs c o u q)
  tbls := fun c ps q => by
    obtain ⟨m, e1⟩ := a.tbls c ps q
    obtain ⟨m2, e2⟩ := b.tbls c _ e1
    exact ⟨m ++ m2, by rw [e2, Array.append_assoc]⟩
section
variable {X : Cx} {pins : List (Addr × Obj)} {σ : L2.St} {H : Hp} {s : Shared}
/-- a(), in a def that has the lambda, however it came there -/
theorem pe_actG {CXg : CXT} {Eg : XK} {Ng : List Str} {qg : Str} {sg : Scope} {g f c' : Addr} {cdg dV pm ctv : Value} {pr : Arguments} {bd : Expr} {sc : Scope} {k i : Nat} {a : Str} {pn : List (Addr × Obj)} {xe : Value → Shared → Prop} {W : WX} {E : XK} {tb : TE} {p1 p2 : Pos}
    {AY : Around} {stY : List Env} {sY : Shared} {HY : Hp} {Kd : Shared → Hp → Value → Prop}
    (I : Inv X pins σ H s) (L : LamN X.N X.env.scope sc) (hf : s.heap.get? f = some (lamObj (X.env.qual ++ "<lambda>") pr bd sc (cloFrom X.env.cells sc.names []) dV pm (.ref c') ctv)) (hfn : H f = none) (hfr : f ∉ frs X.stack) (hK : Kd s H dV) (hB : HB X pr bd sc Kd)
    (tk : Takes ((cxOf CXg X.prog X.w X.K X.mg X.base Ng qg sg g cdg AY stY sY HY Eg).tr pn xe) W) (hW : ∀ cls d σ' H', E cls d H' → W cls d σ' H') (hr : Room (k + 1) (AY.deeper (envOfC qg sg sY.heap.objs.size g cdg)))
    (hun : ∀ (pz : List (Addr × Obj)) (sz : Shared) (τ : L2.St) (HZ : Hp), Inv ((cxOf CXg X.prog X.w X.K X.mg X.base Ng qg sg g cdg AY stY sY HY Eg).tr pn xe) pz τ HZ sz → Un (frs X.stack) [] H HZ s.heap sz.heap)
    (hbody : ∀ (A : Around) (outer : List Env) (s : Shared) (H : Hp), Room k (A.deeper (lamEnv X sc s.heap.objs.size f c')) → PE (lamCx X A outer s H E sc f c') bd tb)
    (hN : Ng[i]? = some a) (hv : Vis sg a) (hd : (a == ("__debug__" : Str)) = false := by decide) (hcd : (a == ("__classdict__" : Str)) = false := by decide) :
    PE ((cxOf CXg X.prog X.w X.K X.mg X.base Ng qg sg g cdg AY stY sY HY Eg).tr pn xe) (.Call (.Name a p1) [] [] p2)
      (fun τ HZ Q => τ[i]? = some (some (.ref f)) ∧ HZ c' = some (CodeO c' (X.env.qual ++ "<lambda>")) ∧ tb σ HZ Q) := by
  obtain ⟨bs, hbl, hbt⟩ := hB (X.env.qual ++ "<lambda>") (cloFrom X.env.cells sc.names []) pm (.ref c') ctv dV s H hK
  refine ⟨fun pz sz τ HZ Q IZ h => ?_⟩
  obtain ⟨hs, hc, ht⟩ := h
  refine wpAny_Call_Name_kw (thn ((pe_var (pos := p1) (i := i) hN hv hd hcd).run pz sz τ HZ (fun v H1 => v = .ref f ∧ H1 = HZ) IZ ⟨.ref f, hs, rfl, rfl⟩) fun u s1 ⟨v, H1, I1, r1, q1⟩ => ?_)
  obtain ⟨ev, eH⟩ := q1
  subst ev; rw [eH] at I1
  obtain rfl : u = Value.ref f := r1
  have un := hun _ _ _ _ I1
  have of1 := un.keep f _ hf hfn hfr (by simp)
  refine PySem.W.callWith_F0 ⟨_, _, _, _, of1⟩ ?_
  obtain ⟨⟨oc, vs, t, y1, y2, y3⟩, _, _⟩ := I1.hok c' _ hc
  have rc : codeAny (model X.prog X.w) (AY.deeper (envOfC qg sg sY.heap.objs.size g cdg)) (.call (.ref f) ⟨[], []⟩) (CR (L2.CX X.prog X.w) (envOfC qg sg sY.heap.objs.size g cdg :: stY) X.prog X.w HZ s1 Q E) s1 := by
    refine PySem.W.kla_callFunE hr.depth of1 rfl L.co L.gen rfl ⟨c', oc, vs, t, rfl, y1, y2, y3⟩ (hbt s1 HZ un _ _ _ _ ?_)
    refine wpAny_newFunctionEnv (fun y hy => (L.own y hy).1) hbl (fun g1 hns hsb => ⟨I1.nolimit.fresh _ hsb, ?_⟩) L.kind
    show codeAny _ _ (.expr bd (lamEnv X sc s1.heap.objs.size f c')) _ _
    have kp : ∀ b o, s1.heap.get? b = some o → g1.get? b = some o := fun b o e => hsb.extBut b o (Nat.ne_of_lt (Heap.lt_size e)) (Heap.get?_push_of_some _ e)
    have J : Inv (lamCx X (AY.deeper (envOfC qg sg sY.heap.objs.size g cdg)) (envOfC qg sg sY.heap.objs.size g cdg :: stY) s1 HZ E sc f c') [] σ HZ { s1 with heap := g1, toks := s1.toks + bs.length } := lam_startN I L I1.env0 hr.hd un hns kp
    refine PySem.W.kla_codeExpr (wpAny_mono ((hbody _ _ s1 HZ (hr.deeper _)).run [] _ _ HZ Q J ht) (fun v s' hq => ?_) fun e s' hq => hq)
    obtain ⟨w', H', J', rv, q⟩ := hq
    exact ⟨w', H', J'.os, J'.bare, J'.base, J'.hok, rv, q⟩
  have hx : Passes (L2.CX X.prog X.w) ((cxOf CXg X.prog X.w X.K X.mg X.base Ng qg sg g cdg AY stY sY HY Eg).tr pn xe) E := passes_call tk hW
  refine wpAny_call (codeAny_mono rc fun r s' hq => ?_)
  cases r with
  | error e => exact hx pz τ HZ s1 e s' I1 hq
  | ok fl =>
    cases fl with
    | ret u => exact I1.after hq
    | next => exact False.elim hq
    | brk => exact False.elim hq
    | cont => exact False.elim hq
end
section
variable {X : Cx}
/-- what stands of the def x that gets the lambda -/
structure GetsL (K : PySem.W.Frag) (mg : Str → Option Value) (x a : Str) (g : Addr) (Ng : List Str) (sg : Scope) (bg : List Stmt) (cdv : Value) : Prop where
  m : mg x = some (.ref g)
  k : PySem.W.keepIn K (.ref g) = true
  lk : ∃ (pg : Arguments) (dV kV doc pm ct oc : Value) (an od : Option Addr) (osl : Array (Option Value)), K.lookup g = some ⟨oc, od, .func (PySem.W.fnOf x x pg bg sg dV kV doc pm an cdv ct), osl⟩ ∧ L2.Binds K (PySem.W.fnOf x x pg bg sg dV kV doc pm an cdv ct) [a] []
  c : PySem.W.codeIn K cdv x = true
  s : FnScope Ng [a] sg
  n : Ng[0]? = some a
  v : Vis sg a
theorem gets_of {K : PySem.W.Frag} {mg : Str → Option Value} {x a : Str} {st : Stmt} {f : Addr} {fd : FuncData} {Ng : List Str} (F : Fun K x x st f fd) (g : mg x = some (.ref f)) (b : Binds K fd [a] []) (S : FnScope Ng [a] (defScope st)) (n : Ng[0]? = some a) (v : Vis (defScope st) a) :
    ∃ cdv, GetsL K mg x a f Ng (defScope st) (defBody st) cdv := by
  obtain ⟨oc, od, kV, doc, pm, an, cd, ct, sl, rfl, lk, hc⟩ := F.ex
  exact ⟨cd, g, F.kp, ⟨_, _, _, _, _, _, _, _, _, _, lk, b⟩, hc, S, n, v⟩
/-- x(lambda a=d: body), the default or not -/
theorem pe_lamG {T : List (Addr × Str)} {TT : (XK → Hp → VK → Prop) → Hp → VK → Prop} {x a : Str} {g c P : Addr} {k : Nat} {bg : List Stmt} {sg : Scope} {cdv : Value} {Ng : List Str} {pr : Arguments} {bd : Expr} {sc : Scope} {t : XK → TE} {p lpos pos : Pos} {Kd : Shared → Hp → Value → Prop}
    (hg : Gl X x) (S : GetsL X.K X.mg x a g Ng sg bg cdv) (hG : GivesTo X Ng x sg g cdv bg a (X.env.qual ++ "<lambda>") TT)
    (TB : TabB X.base X.mg c P) (hcode : X.env.code = .ref c) (hmT : (P, X.env.qual ++ "<lambda>") ∈ T) (hu : ∀ p ∈ T, p.1 = P → p.2 = X.env.qual ++ "<lambda>") (hr : Room (k + 2) X.A) (L : LamN X.N X.env.scope sc) (D : DefK X pr Kd) (hB : HB X pr bd sc Kd)
    (hbody : ∀ (A : Around) (outer : List Env) (s : Shared) (H : Hp) (E : XK) (f c' : Addr), Room k (A.deeper (lamEnv X sc s.heap.objs.size f c')) → PE (lamCx X A outer s H E sc f c') bd (t E))
    (hdb : (x == ("__debug__" : Str)) = false := by decide) (hd : (a == ("__debug__" : Str)) = false := by decide) (hcd : (a == ("__classdict__" : Str)) = false := by decide) :
    PE X (.Call (.Name x p) [.Lambda pr bd sc lpos] [] pos) (tLam T TT t) := by
  obtain ⟨pg, dV, kV, doc, pm, ct, oc, an, od, osl, lk, hb⟩ := S.lk
  refine ⟨fun pins s σ H Q I h => ?_⟩
  obtain ⟨hT, h⟩ := h
  refine wpAny_Call_Name_kw (ld_glob I hg S.m (PySem.W.callWith_K (h₀ := X.base) I.ok.mod.kin S.k ?_ (by rfl) (by rfl)) hdb)
  show wpAny _ _ (spliced ((false, eval (.Lambda pr bd sc lpos) X.env) :: backTo pos (starEach [] X.env))) _ _ s
  refine Calls.spliced_cons (lam_makeG I TB hcode hmT hu hT D (L.has I.ok) fun f c' dV' pm' ctv H1 s' I1 eN T1 hK hf hfn hfr hco => Calls.spliced_nil ⟨I1.kIn, ?_⟩)
  have rc : codeAny (model X.prog X.w) X.A (.call (.ref g) ⟨[.ref f], []⟩) (CR C8.CX0 X.stack X.prog X.w H1 s' Q C8.E0) s' := by
    refine run_ofS (N := Ng) (ps := [a]) (us := [.ref f]) (vs := [.ref f]) lk S.c S.s hr I1.env0 (hb s' [.ref f] I1.kIn rfl) (.cons rfl .nil) rfl fun hr' => ?_
    obtain ⟨t', ht', hq'⟩ := hG f c' s' H1 Q (fun E H' Q' => t E σ H' Q') (fun W pn xe E p1 p2 tk hW => pe_actG (i := 0) I1 L hf hfn hfr hK hB tk hW hr' (fun _ _ _ _ IZ => IZ.base) (fun A outer s H hr2 => hbody A outer s H E f c' hr2) S.n S.v hd hcd) hco (h H1 eN T1)
    exact ⟨t', ht'.nox, hq'⟩
  refine wpAny_call (codeAny_mono rc fun r s2 hq => ?_)
  cases r with
  | error e => exact (show False from hq).elim
  | ok fl =>
    cases fl with
    | ret u => exact I1.after hq
    | next => exact False.elim hq
    | brk => exact False.elim hq
    | cont => exact False.elim hq
/-- x(a2), in the def y that got the lambda and hands it on -/
theorem pe_pass {pins : List (Addr × Obj)} {σ : L2.St} {H : Hp} {s : Shared} {TT : (XK → Hp → VK → Prop) → Hp → VK → Prop} {x y a a2 : Str} {g gy f c' : Addr} {k i : Nat} {bg : List Stmt} {sg sy : Scope} {cdv cdy dV pm ctv : Value} {Ng Ny : List Str} {pr : Arguments} {bd : Expr} {sc : Scope} {t : XK → TE} {Kd : Shared → Hp → Value → Prop} {q1 q2 q3 : Pos}
    (I : Inv X pins σ H s) (L : LamN X.N X.env.scope sc) (hf : s.heap.get? f = some (lamObj (X.env.qual ++ "<lambda>") pr bd sc (cloFrom X.env.cells sc.names []) dV pm (.ref c') ctv)) (hfn : H f = none) (hfr : f ∉ frs X.stack) (hK : Kd s H dV) (hB : HB X pr bd sc Kd)
    (S : GetsL X.K X.mg x a g Ng sg bg cdv) (hgx : Gl (cxOf C8.CX0 X.prog X.w X.K X.mg X.base Ny y sy gy cdy X.A X.stack s H C8.E0) x) (hNy : Ny[i]? = some a2) (hvy : Vis sy a2)
    (hG : GivesTo (cxOf C8.CX0 X.prog X.w X.K X.mg X.base Ny y sy gy cdy X.A X.stack s H C8.E0) Ng x sg g cdv bg a (X.env.qual ++ "<lambda>") TT)
    (hr : Room (k + 2) (X.A.deeper (envOfC y sy s.heap.objs.size gy cdy)))
    (hbody : ∀ (A : Around) (outer : List Env) (s : Shared) (H : Hp) (E : XK), Room k (A.deeper (lamEnv X sc s.heap.objs.size f c')) → PE (lamCx X A outer s H E sc f c') bd (t E))
    (hdb : (x == ("__debug__" : Str)) = false := by decide) (hd : (a == ("__debug__" : Str)) = false := by decide) (hcd : (a == ("__classdict__" : Str)) = false := by decide) (hd2 : (a2 == ("__debug__" : Str)) = false := by decide) (hcd2 : (a2 == ("__classdict__" : Str)) = false := by decide) :
    PE (cxOf C8.CX0 X.prog X.w X.K X.mg X.base Ny y sy gy cdy X.A X.stack s H C8.E0) (.Call (.Name x q1) [.Name a2 q2] [] q3)
      (fun τ HY Q => τ[i]? = some (some (.ref f)) ∧ HY c' = some (CodeO c' (X.env.qual ++ "<lambda>")) ∧ TT (fun E H' Q' => t E σ H' Q') HY Q) := by
  obtain ⟨pg, dV0, kV, doc, pm0, ct, oc, an, od, osl, lk, hb⟩ := S.lk
  refine ⟨fun py sy' τ HY Q IY h => ?_⟩
  obtain ⟨hs, hc, ht⟩ := h
  refine wpAny_Call_Name_kw (ld_glob IY hgx S.m (PySem.W.callWith_K (h₀ := X.base) IY.ok.mod.kin S.k ?_ (by rfl) (by rfl)) hdb)
  show wpAny _ _ (spliced ((false, eval (.Name a2 q2) (envOfC y sy s.heap.objs.size gy cdy)) :: backTo q3 (starEach [] (envOfC y sy s.heap.objs.size gy cdy)))) _ _ sy'
  refine Calls.spliced_cons (thn ((pe_var (pos := q2) (i := i) hNy hvy hd2 hcd2).run py sy' τ HY (fun v H1 => v = .ref f ∧ H1 = HY) IY ⟨.ref f, hs, rfl, rfl⟩) fun u s1 ⟨v, H1, I1, r1, z1⟩ => ?_)
  obtain ⟨ev, eH⟩ := z1
  subst ev; rw [eH] at I1
  obtain rfl : u = Value.ref f := r1
  refine Calls.spliced_nil ⟨I1.kIn, ?_⟩
  have inY : ∀ (c : Addr) (o : Obj), s.heap.get? c = some o → (c ∈ frs (envOfC y sy s.heap.objs.size gy cdy :: X.stack) ↔ c ∈ frs X.stack) := fun c o e => by
    have hc' := Heap.lt_size e
    refine ⟨fun z => ?_, fun z => ?_⟩
    · obtain ⟨ev, hev, q⟩ := List.mem_filterMap.mp z
      rcases List.mem_cons.mp hev with e1 | e1
      · rw [e1] at q
        have q' : some s.heap.objs.size = some c := q
        cases q'
        exact absurd hc' (Nat.lt_irrefl _)
      · exact List.mem_filterMap.mpr ⟨ev, e1, q⟩
    · obtain ⟨ev, hev, q⟩ := List.mem_filterMap.mp z
      exact List.mem_filterMap.mpr ⟨ev, List.mem_cons_of_mem _ hev, q⟩
  have b1 : Un (frs X.stack) [] H HY s.heap s1.heap := I1.base
  have rc : codeAny (model X.prog X.w) (X.A.deeper (envOfC y sy s.heap.objs.size gy cdy)) (.call (.ref g) ⟨[.ref f], []⟩) (CR C8.CX0 (envOfC y sy s.heap.objs.size gy cdy :: X.stack) X.prog X.w HY s1 Q C8.E0) s1 := by
    refine run_ofS (N := Ng) (ps := [a]) (us := [.ref f]) (vs := [.ref f]) lk S.c S.s hr I1.env0 (hb s1 [.ref f] I1.kIn rfl) (.cons rfl .nil) rfl fun hr' => ?_
    have act : ∀ (W : WX) (pn : List (Addr × Obj)) (xe : Value → Shared → Prop) (E : XK) (p1 p2 : Pos), Takes ((cxOf C8.CX0 X.prog X.w X.K X.mg X.base Ng x sg g cdv (X.A.deeper (envOfC y sy s.heap.objs.size gy cdy)) (envOfC y sy s.heap.objs.size gy cdy :: X.stack) s1 HY C8.E0).tr pn xe) W → (∀ cls d σ' H', E cls d H' → W cls d σ' H') →
        PE ((cxOf C8.CX0 X.prog X.w X.K X.mg X.base Ng x sg g cdv (X.A.deeper (envOfC y sy s.heap.objs.size gy cdy)) (envOfC y sy s.heap.objs.size gy cdy :: X.stack) s1 HY C8.E0).tr pn xe) (.Call (.Name a p1) [] [] p2) (fun τ HZ Q => τ[0]? = some (some (.ref f)) ∧ HZ c' = some (CodeO c' (X.env.qual ++ "<lambda>")) ∧ t E σ HZ Q) :=
      fun W pn xe E p1 p2 tk hW => pe_actG (i := 0) (tb := t E) I L hf hfn hfr hK hB tk hW hr' (fun _ sz _ HZ IZ => un_comp b1 (show Un (frs (envOfC y sy s.heap.objs.size gy cdy :: X.stack)) [] HY HZ s1.heap sz.heap from IZ.base) inY) (fun A outer s H hr2 => hbody A outer s H E hr2) S.n S.v hd hcd
    obtain ⟨t', ht', hq'⟩ := hG f c' s1 HY Q (fun E H' Q' => t E σ H' Q') act hc ht
    exact ⟨t', ht'.nox, hq'⟩
  refine wpAny_call (codeAny_mono rc fun r s2 hq => ?_)
  cases r with
  | error e => exact (show False from hq).elim
  | ok fl =>
    cases fl with
    | ret u => exact I1.after hq
    | next => exact False.elim hq
    | brk => exact False.elim hq
    | cont => exact False.elim hq
/-- y(lambda ..), where y is a def that ends by x(a2)[0], and x the def that calls what it gets -/
theorem pe_lamT {T : List (Addr × Str)} {TT : (XK → Hp → VK → Prop) → Hp → VK → Prop} {x y a a2 : Str} {g gy c P : Addr} {k : Nat} {bg bgy : List Stmt} {sg sy : Scope} {cdv cdy : Value} {Ng : List Str} {pr : Arguments} {bd : Expr} {sc : Scope} {t : XK → TE} {p lpos pos : Pos} {Kd : Shared → Hp → Value → Prop}
    (hg : Gl X y) (Sy : GetsL X.K X.mg y a2 gy [a2] sy bgy cdy) (S : GetsL X.K X.mg x a g Ng sg bg cdv)
    (hgx : ∀ s H, Gl (cxOf C8.CX0 X.prog X.w X.K X.mg X.base [a2] y sy gy cdy X.A X.stack s H C8.E0) x)
    (hG : ∀ s H, Room (k + 2) (cxOf C8.CX0 X.prog X.w X.K X.mg X.base [a2] y sy gy cdy X.A X.stack s H C8.E0).A → GivesTo (cxOf C8.CX0 X.prog X.w X.K X.mg X.base [a2] y sy gy cdy X.A X.stack s H C8.E0) Ng x sg g cdv bg a (X.env.qual ++ "<lambda>") TT)
    (hGy : ∀ (Y : Cx) (tp : TE), (∀ p1 p2 p3, PE Y (.Call (.Name x p1) [.Name a2 p2] [] p3) tp) → PSs Y bgy (tRet (tOp (rIxT Y.K) tp (tC (.int 0)))))
    (TB : TabB X.base X.mg c P) (hcode : X.env.code = .ref c) (hmT : (P, X.env.qual ++ "<lambda>") ∈ T) (hu : ∀ p ∈ T, p.1 = P → p.2 = X.env.qual ++ "<lambda>") (hr : Room (k + 3) X.A) (L : LamN X.N X.env.scope sc) (D : DefK X pr Kd) (hB : HB X pr bd sc Kd)
    (hbody : ∀ (A : Around) (outer : List Env) (s : Shared) (H : Hp) (E : XK) (f c' : Addr), Room k (A.deeper (lamEnv X sc s.heap.objs.size f c')) → PE (lamCx X A outer s H E sc f c') bd (t E))
    (hdy : (y == ("__debug__" : Str)) = false := by decide) (hdb : (x == ("__debug__" : Str)) = false := by decide) (hd : (a == ("__debug__" : Str)) = false := by decide) (hcd : (a == ("__classdict__" : Str)) = false := by decide) (hd2 : (a2 == ("__debug__" : Str)) = false := by decide) (hcd2 : (a2 == ("__classdict__" : Str)) = false := by decide) :
    PE X (.Call (.Name y p) [.Lambda pr bd sc lpos] [] pos) (tLam T (fun tl H Q => TT tl H fun v G => rIxT X.K v (.int 0) G Q) t) := by
  obtain ⟨pg, dV, kV, doc, pm, ct, oc, an, od, osl, lk, hb⟩ := Sy.lk
  refine ⟨fun pins s σ H Q I h => ?_⟩
  obtain ⟨hT, h⟩ := h
  refine wpAny_Call_Name_kw (ld_glob I hg Sy.m (PySem.W.callWith_K (h₀ := X.base) I.ok.mod.kin Sy.k ?_ (by rfl) (by rfl)) hdy)
  show wpAny _ _ (spliced ((false, eval (.Lambda pr bd sc lpos) X.env) :: backTo pos (starEach [] X.env))) _ _ s
  refine Calls.spliced_cons (lam_makeG I TB hcode hmT hu hT D (L.has I.ok) fun f c' dV' pm' ctv H1 s' I1 eN T1 hK hf hfn hfr hco => Calls.spliced_nil ⟨I1.kIn, ?_⟩)
  have rc : codeAny (model X.prog X.w) X.A (.call (.ref gy) ⟨[.ref f], []⟩) (CR C8.CX0 X.stack X.prog X.w H1 s' Q C8.E0) s' := by
    refine run_ofS (N := [a2]) (ps := [a2]) (us := [.ref f]) (vs := [.ref f]) lk Sy.c Sy.s hr I1.env0 (hb s' [.ref f] I1.kIn rfl) (.cons rfl .nil) rfl fun hr' => ?_
    refine ⟨_, hGy _ _ fun p1 p2 p3 => pe_pass (i := 0) I1 L hf hfn hfr hK hB S (hgx s' H1) rfl Sy.v (hG s' H1 hr') hr' (fun A outer s H E hr2 => hbody A outer s H E f c' hr2) hdb hd hcd hd2 hcd2, ?_⟩
    exact ⟨rfl, hco, h H1 eN T1⟩
  refine wpAny_call (codeAny_mono rc fun r s2 hq => ?_)
  cases r with
  | error e => exact (show False from hq).elim
  | ok fl =>
    cases fl with
    | ret u => exact I1.after hq
    | next => exact False.elim hq
    | brk => exact False.elim hq
    | cont => exact False.elim hq
end
end Ew
namespace Ew
open PySem PySem.Spec PyProof.Rows L2
/-- a number that is not too long to be multiplied and divided -/
def Sw (z : Int) : Prop := z.natAbs < 2 ^ 2000
theorem sw_mul {i j : Int} (hi : Sw i) (hj : Sw j) : CMulW i j := wide_mul hi hj (by decide) (by decide) (by decide)
theorem sw_lt {i j : Int} (hi : Sw i) (hj : Sw j) : (i * j).natAbs < 2 ^ 8000 := Nat.lt_of_lt_of_le (wide_lt hi hj) (Nat.pow_le_pow_right (by decide) (by decide))
theorem sw_big {i : Int} (hi : Sw i) : i.natAbs < 2 ^ 8000 := Nat.lt_of_lt_of_le hi (Nat.pow_le_pow_right (by decide) (by decide))
theorem sw_le {m : Nat} {i : Int} (h : i.natAbs ≤ m) (hm : m < 2 ^ 1000) : Sw i := Nat.lt_of_le_of_lt h (Nat.lt_of_lt_of_le hm (Nat.pow_le_pow_right (by decide) (by decide)))
theorem sw_of {z : Int} (h0 : -9223372036854775808 ≤ z) (h1 : z ≤ 9223372036854775808) : Sw z := sw_le (m := 9223372036854775808) (by omega) (Nat.lt_of_lt_of_le (by decide : 9223372036854775808 < 2 ^ 64) (Nat.pow_le_pow_right (by decide) (by decide)))
/-- n / d lies between a / b and e / f -/
def inQ (n d a b e f : Int) : Bool := !decide (n * b < a * d) && !decide (e * d < n * f)
theorem inQ_iff {n d a b e f : Int} : inQ n d a b e f = true ↔ a * d ≤ n * b ∧ n * f ≤ e * d := by
  unfold inQ
  rw [Bool.and_eq_true, Bool.not_eq_true', Bool.not_eq_true', decide_eq_false_iff_not, decide_eq_false_iff_not, Int.not_lt, Int.not_lt]
/-- a fraction that stands for x / m, compared -/
theorem fr_le_left {x m n d : Int} (hm : 0 < m) (hd : 0 < d) : frN x m * d ≤ n * frD x m ↔ x * d ≤ n * m := by
  obtain ⟨l, e⟩ := fr_spec x (b := m) (by omega)
  have p := l.pos
  constructor
  · intro h
    have h1 : frN x m * d * m ≤ n * frD x m * m := Int.mul_le_mul_of_nonneg_right h (by omega)
    have e1 : frN x m * d * m = frD x m * (x * d) := by rw [Int.mul_assoc, Int.mul_comm d m, ← Int.mul_assoc, e, Int.mul_comm x, Int.mul_assoc]
    have e2 : n * frD x m * m = frD x m * (n * m) := by rw [Int.mul_comm n, Int.mul_assoc]
    rw [e1, e2] at h1
    exact Int.le_of_mul_le_mul_left h1 p
  · intro h
    have h1 : frD x m * (x * d) ≤ frD x m * (n * m) := Int.mul_le_mul_of_nonneg_left h (by omega)
    have e1 : frN x m * d * m = frD x m * (x * d) := by rw [Int.mul_assoc, Int.mul_comm d m, ← Int.mul_assoc, e, Int.mul_comm x, Int.mul_assoc]
    have e2 : n * frD x m * m = frD x m * (n * m) := by rw [Int.mul_comm n, Int.mul_assoc]
    rw [← e1, ← e2] at h1
    exact Int.le_of_mul_le_mul_right h1 hm
theorem fr_le_right {x m n d : Int} (hm : 0 < m) (hd : 0 < d) : n * frD x m ≤ frN x m * d ↔ n * m ≤ x * d := by
  obtain ⟨l, e⟩ := fr_spec x (b := m) (by omega)
  have p := l.pos
  have e1 : frN x m * d * m = frD x m * (x * d) := by rw [Int.mul_assoc, Int.mul_comm d m, ← Int.mul_assoc, e, Int.mul_comm x, Int.mul_assoc]
  have e2 : n * frD x m * m = frD x m * (n * m) := by rw [Int.mul_comm n, Int.mul_assoc]
  constructor
  · intro h
    have h1 : n * frD x m * m ≤ frN x m * d * m := Int.mul_le_mul_of_nonneg_right h (by omega)
    rw [e1, e2] at h1
    exact Int.le_of_mul_le_mul_left h1 p
  · intro h
    have h1 : frD x m * (n * m) ≤ frD x m * (x * d) := Int.mul_le_mul_of_nonneg_left h (by omega)
    rw [← e1, ← e2] at h1
    exact Int.le_of_mul_le_mul_right h1 hm
end Ew
namespace Ew
open PySem PySem.Spec PyProof.Rows L2
/-! ## numbers and their digits -/
def hasN (b : Int) (s : List Int) (n d : Int) : Bool := inQ n d (frN (firstI s) (b - 1)) (frD (firstI s) (b - 1)) (frN (lastI s) (b - 1)) (frD (lastI s) (b - 1))
theorem hasN_iff {b : Int} {s : List Int} {n d : Int} (b2 : 2 ≤ b) (hd : 0 < d) : hasN b s n d = true ↔ firstI s * d ≤ n * (b - 1) ∧ n * (b - 1) ≤ lastI s * d := by
  unfold hasN
  rw [inQ_iff, fr_le_left (by omega) hd, fr_le_right (by omega) hd]
def rsN (b g n d : Int) : Int := frN (b * n - g * d) d
def rsD (b g n d : Int) : Int := frD (b * n - g * d) d
theorem rs_low {b g n d : Int} (hd : 0 < d) : Low (rsN b g n d) (rsD b g n d) := (fr_spec _ (by omega)).1
theorem rs_has {b g n d : Int} {s : List Int} (b2 : 2 ≤ b) (hd : 0 < d) : hasN b s (rsN b g n d) (rsD b g n d) = true ↔ firstI s * d ≤ (b * n - g * d) * (b - 1) ∧ (b * n - g * d) * (b - 1) ≤ lastI s * d := by
  rw [hasN_iff b2 (rs_low hd).pos]
  unfold rsN rsD
  rw [fr_le_right hd (by omega), fr_le_left hd (by omega)]
def possL (b : Int) (s : List Int) (n d : Int) : List Int := s.filter fun g => hasN b s (rsN b g n d) (rsD b g n d)
def lfd (b : Int) (s : List Int) (n d : Int) : Int := (possL b s n d).getD 0 0
theorem mem_getD {s : List Int} {g : Int} (h : g ∈ s) : ∃ i, i < s.length ∧ s.getD i 0 = g := by
  obtain ⟨i, hi, rfl⟩ := List.getElem_of_mem h
  exact ⟨i, hi, by rw [List.getD_eq_getElem?_getD, List.getElem?_eq_getElem hi]; rfl⟩
theorem last_such {p : Nat → Prop} : ∀ n, p 0 → (∃ i, i ≤ n ∧ p i ∧ (i = n ∨ ¬ p (i + 1)))
  | 0, h => ⟨0, Nat.le_refl _, h, .inl rfl⟩
  | n + 1, h => by
    obtain ⟨i, h1, h2, h3⟩ := last_such n h
    rcases h3 with e | e
    · subst e
      by_cases c : p (i + 1)
      · exact ⟨i + 1, Nat.le_refl _, c, .inl rfl⟩
      · exact ⟨i, by omega, h2, .inr c⟩
    · exact ⟨i, by omega, h2, .inr e⟩
/-- a number of the interval has a first digit -/
theorem digit_for {b : Int} {s : List Int} {n d : Int} (h : AreS b s) (b2 : 2 ≤ b) (hd : 0 < d) (hn : hasN b s n d = true) : ∃ g ∈ s, hasN b s (rsN b g n d) (rsD b g n d) = true := by
  obtain ⟨h1, h2⟩ := (hasN_iff b2 hd).mp hn
  have l2 := h.l2
  have hb : 0 ≤ b := by omega
  -- the bounds of b * n * (b - 1)
  have u1 : b * (firstI s * d) ≤ b * (n * (b - 1)) := Int.mul_le_mul_of_nonneg_left h1 hb
  have u2 : b * (n * (b - 1)) ≤ b * (lastI s * d) := Int.mul_le_mul_of_nonneg_left h2 hb
  have ex : ∀ g : Int, (b * n - g * d) * (b - 1) = b * (n * (b - 1)) - g * d * (b - 1) := fun g => by rw [Int.sub_mul, Int.mul_assoc]
  have e0 : firstI s * d * (b - 1) = b * (firstI s * d) - firstI s * d := by rw [Int.mul_sub, Int.mul_one, Int.mul_comm (firstI s * d)]
  have e9 : lastI s * d * (b - 1) = b * (lastI s * d) - lastI s * d := by rw [Int.mul_sub, Int.mul_one, Int.mul_comm (lastI s * d)]
  obtain ⟨i, hi, p1, p2⟩ := last_such (p := fun i => firstI s * d ≤ b * (n * (b - 1)) - s.getD i 0 * d * (b - 1)) (s.length - 1) (by show firstI s * d ≤ b * (n * (b - 1)) - firstI s * d * (b - 1); omega)
  refine ⟨s.getD i 0, Ew.getD_mem (by omega), (rs_has b2 hd).mpr ⟨by rw [ex]; exact p1, ?_⟩⟩
  rw [ex]
  by_cases c : i = s.length - 1
  · have : s.getD i 0 = lastI s := by rw [c]; rfl
    rw [this]
    omega
  · have p3 := p2.resolve_left c
    have g := h.gap i (by omega)
    have g2 : (s.getD (i + 1) 0 - s.getD i 0) * (b - 1) * d ≤ (lastI s - firstI s) * d := Int.mul_le_mul_of_nonneg_right g (by omega)
    have e3 : (s.getD (i + 1) 0 - s.getD i 0) * (b - 1) * d = s.getD (i + 1) 0 * d * (b - 1) - s.getD i 0 * d * (b - 1) := by
      rw [Int.sub_mul, Int.sub_mul, Int.mul_assoc, Int.mul_comm (b - 1) d, ← Int.mul_assoc, Int.mul_assoc (s.getD i 0), Int.mul_comm (b - 1) d, ← Int.mul_assoc]
    rw [e3, Int.sub_mul] at g2
    have p3' : b * (n * (b - 1)) - s.getD (i + 1) 0 * d * (b - 1) < firstI s * d := Int.not_le.mp p3
    omega
theorem poss_ne {b : Int} {s : List Int} {n d : Int} (h : AreS b s) (b2 : 2 ≤ b) (hd : 0 < d) (hn : hasN b s n d = true) : possL b s n d ≠ [] := by
  obtain ⟨g, hg, h2⟩ := digit_for h b2 hd hn
  intro z
  have : g ∈ possL b s n d := List.mem_filter.mpr ⟨hg, h2⟩
  rw [z] at this
  cases this
theorem lfd_mem {b : Int} {s : List Int} {n d : Int} (h : possL b s n d ≠ []) : lfd b s n d ∈ s ∧ hasN b s (rsN b (lfd b s n d) n d) (rsD b (lfd b s n d) n d) = true := by
  have : lfd b s n d ∈ possL b s n d := by
    unfold lfd
    exact Ew.getD_mem (List.length_pos_iff.mpr h)
  exact List.mem_filter.mp this
/-- the numbers that are met: in lowest terms, of a denominator of at most M, in the interval -/
structure OkQ (b : Int) (s : List Int) (M : Int) (q : Int × Int) : Prop where
  low : Low q.1 q.2
  le : q.2 ≤ M
  has : hasN b s q.1 q.2 = true
def rsQ (b : Int) (s : List Int) (q : Int × Int) : Int × Int := (rsN b (lfd b s q.1 q.2) q.1 q.2, rsD b (lfd b s q.1 q.2) q.1 q.2)
theorem OkQ.step {b : Int} {s : List Int} {M : Int} {q : Int × Int} (h : AreS b s) (b2 : 2 ≤ b) (o : OkQ b s M q) : OkQ b s M (rsQ b s q) := by
  have p := o.low.pos
  have m := lfd_mem (poss_ne h b2 p o.has)
  refine ⟨rs_low p, ?_, m.2⟩
  have a := frD_abs (b * q.1 - lfd b s q.1 q.2 * q.2) q.2 (by omega)
  have l := (rs_low (b := b) (g := lfd b s q.1 q.2) (n := q.1) p).pos
  have e := o.le
  show rsD b (lfd b s q.1 q.2) q.1 q.2 ≤ M
  unfold rsD at l ⊢
  omega
def restQ (b : Int) (s : List Int) (q : Int × Int) : Nat → Int × Int
  | 0 => q
  | i + 1 => rsQ b s (restQ b s q i)
def digQ (b : Int) (s : List Int) (q : Int × Int) (i : Nat) : Int := lfd b s (restQ b s q i).1 (restQ b s q i).2
def rowQ (b : Int) (s : List Int) (q : Int × Int) (m : Nat) : List Int := (List.range m).map (digQ b s q)
theorem rowQ_succ (b : Int) (s : List Int) (q : Int × Int) (m : Nat) : rowQ b s q (m + 1) = rowQ b s q m ++ [digQ b s q m] := by
  unfold rowQ
  rw [List.range_succ, List.map_append]
  rfl
theorem rowQ_len (b : Int) (s : List Int) (q : Int × Int) (m : Nat) : (rowQ b s q m).length = m := by unfold rowQ; simp
theorem OkQ.rest {b : Int} {s : List Int} {M : Int} {q : Int × Int} (h : AreS b s) (b2 : 2 ≤ b) (o : OkQ b s M q) : ∀ i, OkQ b s M (restQ b s q i)
  | 0 => o
  | i + 1 => (OkQ.rest h b2 o i).step h b2
/-- how great they are -/
theorem OkQ.small {b : Int} {s : List Int} {M : Int} {q : Int × Int} (h : AreS b s) (b2 : 2 ≤ b) (o : OkQ b s M q) : -(99 * M) ≤ q.1 ∧ q.1 ≤ 99 * M ∧ 0 < q.2 ∧ q.2 ≤ M := by
  have p := o.low.pos
  obtain ⟨h1, h2⟩ := (hasN_iff b2 p).mp o.has
  have e := o.le
  have a1 : lastI s * q.2 ≤ 99 * q.2 := Int.mul_le_mul_of_nonneg_right h.hi (by omega)
  have a2 : -99 * q.2 ≤ firstI s * q.2 := Int.mul_le_mul_of_nonneg_right h.lo (by omega)
  have c1 : q.1 ≤ 99 * q.2 := by
    rcases Int.le_total q.1 0 with z | z
    · omega
    · have : q.1 * 1 ≤ q.1 * (b - 1) := Int.mul_le_mul_of_nonneg_left (by omega) z
      omega
  have c2 : -(99 * q.2) ≤ q.1 := by
    rcases Int.le_total 0 q.1 with z | z
    · omega
    · have : q.1 * (b - 1) ≤ q.1 * 1 := Int.mul_le_mul_of_nonpos_left z (by omega)
      omega
  omega
/-- the rest as the law reckons it: b * n / d in lowest terms, then less g -/
theorem rs_eq {b g n d : Int} (hd : 0 < d) : frN (frN (b * n) (1 * d) * 1 - g * frD (b * n) (1 * d)) (frD (b * n) (1 * d) * 1) = rsN b g n d ∧ frD (frN (b * n) (1 * d) * 1 - g * frD (b * n) (1 * d)) (frD (b * n) (1 * d) * 1) = rsD b g n d := by
  rw [Int.one_mul, Int.mul_one, Int.mul_one]
  obtain ⟨l, e⟩ := fr_spec (b * n) (b := d) (by omega)
  have p := l.pos
  refine fr_eq (by omega) (by omega) ?_
  rw [Int.sub_mul, Int.sub_mul, e, Int.mul_assoc g, Int.mul_comm (frD (b * n) d) d, ← Int.mul_assoc g]
end Ew
namespace Ew
open PySem PySem.Spec PyProof.Rows L2
theorem le_of_mul {a b c : Int} (h : a * c ≤ b * c) (hc : 0 < c) : a ≤ b := Int.le_of_mul_le_mul_right h hc
theorem interval_core {a b c d x y X Y E F S T n k : Int} (hb : 0 < b) (hd : 0 < d) (hy : 0 < y) (hac : a * d ≤ c * b) (hx : 0 ≤ x) (hxy : x ≤ y) (e1 : X * y = x * Y) (Yp : 0 < Y) (e2 : E * (d * b) = (c * b - a * d) * F) (Fp : 0 < F)
    (e3 : S * (Y * F) = X * E * T) (Tp : 0 < T) (e4 : n * (b * T) = (a * T + S * b) * k) (kp : 0 < k) : a * k ≤ n * b ∧ n * d ≤ c * k := by
  have db : 0 < d * b := Int.mul_pos hd hb
  have YF : 0 < Y * F := Int.mul_pos Yp Fp
  have bT : 0 < b * T := Int.mul_pos hb Tp
  have X0 : 0 ≤ X := le_of_mul (c := y) (by rw [e1, Int.zero_mul]; exact Int.mul_nonneg hx (Int.le_of_lt Yp)) hy
  have XY : X ≤ Y := le_of_mul (c := y) (by
    have := Int.mul_le_mul_of_nonneg_right hxy (Int.le_of_lt Yp)
    rw [e1, Int.mul_comm Y y]; exact this) hy
  have D0 : 0 ≤ c * b - a * d := by omega
  have E0 : 0 ≤ E := le_of_mul (c := d * b) (by rw [e2, Int.zero_mul]; exact Int.mul_nonneg D0 (Int.le_of_lt Fp)) db
  have S0 : 0 ≤ S := le_of_mul (c := Y * F) (by rw [e3, Int.zero_mul]; exact Int.mul_nonneg (Int.mul_nonneg X0 E0) (Int.le_of_lt Tp)) YF
  constructor
  · refine le_of_mul (c := T) ?_ Tp
    have z : 0 ≤ S * b * k := Int.mul_nonneg (Int.mul_nonneg S0 (Int.le_of_lt hb)) (Int.le_of_lt kp)
    have w : n * b * T = a * k * T + S * b * k := by grind
    omega
  · have q0 : 0 ≤ T * (c * b - a * d) * F := Int.mul_nonneg (Int.mul_nonneg (Int.le_of_lt Tp) D0) (Int.le_of_lt Fp)
    have q := Int.mul_le_mul_of_nonneg_right XY q0
    have key : S * (d * b) ≤ (c * b - a * d) * T := by
      refine le_of_mul (c := Y * F) ?_ YF
      have z1 : S * (d * b) * (Y * F) = X * (T * (c * b - a * d) * F) := by
        have : S * (d * b) * (Y * F) = S * (Y * F) * (d * b) := by grind
        rw [this, e3]
        have : X * E * T * (d * b) = X * T * (E * (d * b)) := by grind
        rw [this, e2]
        grind
      have z2 : (c * b - a * d) * T * (Y * F) = Y * (T * (c * b - a * d) * F) := by grind
      rw [z1, z2]; exact q
    refine le_of_mul (c := b * T) ?_ bT
    have w1 : n * d * (b * T) = a * d * T * k + S * (d * b) * k := by
      have : n * d * (b * T) = n * (b * T) * d := by grind
      rw [this, e4]; grind
    have w2 : c * k * (b * T) = a * d * T * k + (c * b - a * d) * T * k := by grind
    have w3 := Int.mul_le_mul_of_nonneg_right key (Int.le_of_lt kp)
    omega
theorem frD_le {x m : Int} (hm : 0 < m) : 0 < frD x m ∧ frD x m ≤ m := by
  have l := (fr_spec x (b := m) (by omega)).1.pos
  have a := frD_abs x m (by omega)
  omega
theorem pw {z : Int} {n m : Nat} (h : z.natAbs < 2 ^ n) (hm : n ≤ m) : z.natAbs < 2 ^ m := Nat.lt_of_lt_of_le h (Nat.pow_le_pow_right (by decide) hm)
theorem sw_pw {z : Int} {n : Nat} (h : z.natAbs < 2 ^ n) (hm : n ≤ 2000 := by decide) : Sw z := pw h hm
theorem pw_add {x y : Int} {n : Nat} (h1 : x.natAbs < 2 ^ n) (h2 : y.natAbs < 2 ^ n) : (x + y).natAbs < 2 ^ (n + 1) := by
  have := Int.natAbs_add_le x y
  rw [Nat.pow_succ]; omega
theorem pw_sub {x y : Int} {n : Nat} (h1 : x.natAbs < 2 ^ n) (h2 : y.natAbs < 2 ^ n) : (x - y).natAbs < 2 ^ (n + 1) := by
  have := Int.natAbs_sub_le x y
  rw [Nat.pow_succ]; omega
theorem frN_pw {x m : Int} {n : Nat} (h : x.natAbs < 2 ^ n) (hm : m ≠ 0) : (frN x m).natAbs < 2 ^ n := Nat.lt_of_le_of_lt (frN_abs x m hm) h
theorem frD_pw {x m : Int} {n : Nat} (h : m.natAbs < 2 ^ n) (hm : m ≠ 0) : (frD x m).natAbs < 2 ^ n := Nat.lt_of_le_of_lt (frD_abs x m hm) h
theorem pw_small {z : Int} (h0 : -1048576 < z) (h1 : z < 1048576) : z.natAbs < 2 ^ 20 := by
  have : (2 : Nat) ^ 20 = 1048576 := by decide
  omega
end Ew
namespace Ew
open PySem PySem.Spec PyProof.Rows L2
/-- all stays but the list at p and the tables -/
def Ev (p : Addr) (G G' : Hp) : Prop := ∀ c o, G c = some o → c ≠ p → (∀ ps, o ≠ .tbl ps) → G' c = some o
theorem Ev.refl (p : Addr) (G : Hp) : Ev p G G := fun _ _ h _ _ => h
theorem Ev.trans {p : Addr} {G G1 G2 : Hp} (a : Ev p G G1) (b : Ev p G1 G2) : Ev p G G2 := fun c o h n t => b c o (a c o h n t) n t
theorem Ev.of {p : Addr} {G G1 : Hp} (e : Same G G1) : Ev p G G1 := fun c o h _ _ => e c o h
theorem Ev.keep {p : Addr} {G G1 : Hp} (e : KeepBut p G G1) : Ev p G G1 := fun c o h n _ => e c o h n
theorem Ev.extN {p : Addr} {G G1 : Hp} (e : LamX.ExtN G G1) : Ev p G G1 := fun c o h _ t => e c o h t
theorem Ev.new {p d : Addr} {G : Hp} {o : HO} (h : G d = none) : Ev p G (upd G d o) := Ev.of (same_upd (Same.refl G) h)
theorem Ev.put {p : Addr} {G : Hp} {o : HO} : Ev p G (upd G p o) := Ev.keep KeepBut.put
theorem Ev.tup {p c : Addr} {G G' : Hp} {xs : List V} (e : Ev p G G') (h : G c = some (.tup xs)) (n : c ≠ p) : G' c = some (.tup xs) := e _ _ h n fun _ z => nomatch z
theorem Ev.lst {p c : Addr} {G G' : Hp} {xs : List V} (e : Ev p G G') (h : G c = some (.lst xs)) (n : c ≠ p) : G' c = some (.lst xs) := e _ _ h n fun _ z => nomatch z
theorem Ev.ins {p c C dx : Addr} {G G' : Hp} {fs : List (Str × V)} (e : Ev p G G') (h : G c = some (.ins C dx fs)) (n : c ≠ p) : G' c = some (.ins C dx fs) := e _ _ h n fun _ z => nomatch z
theorem RngAt.nt {G : Hp} {p q c : Addr} {ns : List Int} {i v sd : Int} {xs : List V} (R : RngAt G p q ns i v sd) (h : G c = some (.tup xs)) : c ≠ p := fun e => by
  have z := R.at_p
  rw [← e, h] at z
  cases z
theorem RngAt.ni {G : Hp} {p q c C dx : Addr} {ns : List Int} {i v sd : Int} {fs : List (Str × V)} (R : RngAt G p q ns i v sd) (h : G c = some (.ins C dx fs)) : c ≠ p := fun e => by
  have z := R.at_p
  rw [← e, h] at z
  cases z
/-- what every part of a law's turn leaves: the drawer at p, the tables -/
structure Wd (T : List (Addr × Str)) (p q : Addr) (ns : List Int) (G : Hp) : Prop where
  r : ∃ i v sd, RngAt G p q ns i v sd
  t : LamX.Tabs T G
theorem Wd.same {T : List (Addr × Str)} {p q : Addr} {ns : List Int} {G G' : Hp} (w : Wd T p q ns G) (e : Same G G') : Wd T p q ns G' := by
  obtain ⟨⟨i, v, sd, R⟩, t⟩ := w
  exact ⟨⟨i, v, sd, R.same e⟩, (Keep.of e).tabs t⟩
theorem Wd.keep {T : List (Addr × Str)} {p q : Addr} {ns : List Int} {G G' : Hp} {i v sd : Int} (w : Wd T p q ns G) (e : KeepBut p G G') (R : RngAt G' p q ns i v sd) : Wd T p q ns G' := by
  obtain ⟨⟨i, v, sd, R0⟩, t⟩ := w
  exact ⟨⟨_, _, _, R⟩, (e.keep R0.at_p).tabs t⟩
theorem Wd.extN {T : List (Addr × Str)} {p q : Addr} {ns : List Int} {G G' : Hp} (w : Wd T p q ns G) (e : LamX.ExtN G G') (t : LamX.Tabs T G') : Wd T p q ns G' := by
  obtain ⟨⟨i, v, sd, R⟩, _⟩ := w
  exact ⟨⟨i, v, sd, R.extN e⟩, t⟩
theorem Wd.put {T : List (Addr × Str)} {p q : Addr} {ns : List Int} {G : Hp} {i v sd : Int} (w : Wd T p q ns G) (ok : RngOk i v sd) : Wd T p q ns (upd G p (.lst (rngL q i v sd))) := by
  obtain ⟨⟨i, v, sd, R⟩, t⟩ := w
  exact ⟨⟨_, _, _, R.next ok⟩, (Keep.put R.at_p).tabs t⟩
theorem Wd.nt {T : List (Addr × Str)} {p q c : Addr} {ns : List Int} {G : Hp} {xs : List V} (w : Wd T p q ns G) (h : G c = some (.tup xs)) : c ≠ p := by
  obtain ⟨⟨i, v, sd, R⟩, _⟩ := w
  exact R.nt h
theorem Wd.ni {T : List (Addr × Str)} {p q c C dx : Addr} {ns : List Int} {G : Hp} {fs : List (Str × V)} (w : Wd T p q ns G) (h : G c = some (.ins C dx fs)) : c ≠ p := by
  obtain ⟨⟨i, v, sd, R⟩, _⟩ := w
  exact R.ni h
theorem Wd.nn {T : List (Addr × Str)} {p q c : Addr} {ns : List Int} {G : Hp} (w : Wd T p q ns G) (h : G c = none) : c ≠ p := by
  obtain ⟨⟨i, v, sd, R⟩, _⟩ := w
  exact R.free h
theorem Wd.nq {T : List (Addr × Str)} {p q c : Addr} {ns : List Int} {G : Hp} (w : Wd T p q ns G) (h : G c = none) : c ≠ q := by
  obtain ⟨⟨i, v, sd, R⟩, _⟩ := w
  exact R.freeq h
/-- a list of our own, another than the drawer's two, is written -/
theorem Wd.off {T : List (Addr × Str)} {p q d : Addr} {ns : List Int} {G : Hp} {o : HO} {xs : List V} (w : Wd T p q ns G) (h : G d = some (.lst xs)) (h1 : d ≠ p) (h2 : d ≠ q) : Wd T p q ns (upd G d o) := by
  obtain ⟨⟨i, v, sd, R⟩, t⟩ := w
  exact ⟨⟨_, _, _, R.off h1 h2⟩, (Keep.put h).tabs t⟩
end Ew
namespace K05
open PySem PySem.Spec PyProof.Rows L2 Ew
def top (i : Nat) : Stmt := PySem.Challenge.pw_earlywrite_k05_rows_of_numbers.main.body.getD i (.Pass ⟨0, 0, 0, 0⟩)
abbrev sWall : Stmt := top 0
abbrev sEarlyError_init : Stmt := inClass (top 2) 0
abbrev sInvalidBase_init : Stmt := inClass (top 3) 0
abbrev sInvalidDigits_init : Stmt := inClass (top 4) 0
abbrev sOutOfRange_init : Stmt := inClass (top 5) 0
abbrev sUndefinedName_init : Stmt := inClass (top 6) 0
abbrev sEmptyHistory_init : Stmt := inClass (top 7) 0
abbrev sFraction : Stmt := top 9
abbrev sGcd : Stmt := top 10
abbrev sIsLess : Stmt := top 11
abbrev sIsWithin : Stmt := top 12
abbrev sDigitSet_init : Stmt := inClass (top 20) 0
abbrev sDigitSet_len : Stmt := inClass (top 20) 1
abbrev sDigitSet_eq : Stmt := inClass (top 20) 2
abbrev sDigitSet_repr : Stmt := inClass (top 20) 3
abbrev sDigitSet_low : Stmt := inClass (top 20) 4
abbrev sDigitSet_high : Stmt := inClass (top 20) 5
abbrev sDigitSet_is_redundant : Stmt := inClass (top 20) 6
abbrev sDigitSet_value : Stmt := inClass (top 20) 7
abbrev sDigitSet_row_of : Stmt := inClass (top 20) 8
abbrev sDigitSet_has_row : Stmt := inClass (top 20) 9
abbrev sDigitSet_has_number : Stmt := inClass (top 20) 10
abbrev sDigitSet_rest_behind : Stmt := inClass (top 20) 11
abbrev sDigitSet_least_first_digit : Stmt := inClass (top 20) 12
abbrev sAreDigits : Stmt := top 21
abbrev sWidestGap : Stmt := top 22
abbrev sSpread : Stmt := top 23
abbrev sBegin : Stmt := top 25
abbrev sDraw : Stmt := top 26
abbrev sPick : Stmt := top 27
abbrev sSame : Stmt := top 28
abbrev sField : Stmt := top 29
abbrev sOutcome : Stmt := top 30
abbrev sLawTag : Stmt := top 31
abbrev sLowest : Stmt := top 32
abbrev sLawPlus : Stmt := top 33
abbrev sLawMinus : Stmt := top 34
abbrev sLawTimes : Stmt := top 35
abbrev sLawLess : Stmt := top 36
abbrev sLawInside : Stmt := top 37
abbrev sLawEnds : Stmt := top 38
abbrev sLawAreDigits : Stmt := top 39
abbrev sLawDigits : Stmt := top 40
abbrev sLawInInterval : Stmt := top 41
abbrev sLawSet : Stmt := top 42
abbrev sLaw : Stmt := top 43
section
variable {P : Program} {w : World} {K : PySem.W.Frag} {mg : Str → Option Value} {base : Heap}
structure TxtR (mg : Str → Option Value) : Prop where
  len : mg "len" = none
  list : mg "list" = none
/-! ## _law_begin -/
def spBegin (K : PySem.W.Frag) : Sp := fun vs H Q _ => ∃ (a : Addr) (ns : List Int), vs = [.ref a] ∧ SqL K H a (ns.map V.int) ∧ ns.length ≤ 63 ∧
  ∀ (G : Hp) (p q : Addr) (sd : Int), Same H G → RngAt G p q ns 0 0 sd → H p = none → H q = none → Q (.ref p) G
theorem scBegin : FnScope ["_law_script", "_law_seed", "_law_cell"] ["_law_script"] (defScope sBegin) := ⟨rfl, rfl, rfl, by decide +kernel, rfl, by decide +kernel, by decide +kernel⟩
theorem ok_begin {f : Addr} {fd : FuncData} (F : Fun K "_law_begin" "_law_begin" sBegin f fd) (T : TxtR mg) : FnOk P w K mg base CX0 1 f fd ["_law_script"] (spBegin K) := by
  refine F.ok scBegin (fun vs H Q E h => ?_) (fun cdv A outer s H vs Q E hr h => ?_)
  · obtain ⟨a, ns, rfl, _⟩ := h
    rfl
  · obtain ⟨a, ns, rfl, hS, hl, k⟩ := h
    refine ⟨_, pss_cons (ps_set (i := 1) scBegin.nd rfl (Or.inl rfl) (pe_op op_add pe_int (pe_callB call_len_seq (by rfl) T.len PySem.boot_len (pa_cons (pe_slice sl_list (pv 0) po_none (po_some pe_int)) pa_nil))))
      (pss_cons (ps_for PassesOwn.never rfl (pi_list (pe_slice sl_list (pv 0) po_none (po_some pe_int))) (pg_name (i := 2) scBegin.nd rfl (Or.inl rfl))
        (pss_one (ps_set (i := 1) scBegin.nd rfl (Or.inl rfl) (pe_op op_mod (pe_op op_add (pe_op op_add (pe_op op_mul (pv 1) pe_int) (pe_op op_mod (pv 2) pe_int)) pe_int) pe_int))))
      (pss_one (ps_ret (pe_lst (pa_cons (pe_callTy call_list_of (by rfl) T.list (by decide +kernel) (pa_cons (pe_slice sl_list (pv 0) po_none (po_some pe_int)) pa_nil)) (pa_cons pe_int (pa_cons pe_int (pa_cons (pv 1) pa_nil)))))))), ?_⟩
    refine ⟨_, rfl, _, rfl, a, _, rfl, hS, fun p1 n1 => ?_⟩
    rw [cut63 hl]
    have s1 : Same H (upd H p1 (.lst (ns.map V.int))) := fun b o e => by rw [upd_ne (ne_of_none e n1)]; exact e
    refine ⟨p1, _, rfl, .inl (SqL.of upd_same), _, _, rfl, rfl, ?_⟩
    refine ⟨_, rfl, _, rfl, a, _, rfl, s1.seq hS, fun p2 n2 => ?_⟩
    rw [cut63 hl]
    have s2 : Same H (upd (upd H p1 (.lst (ns.map V.int))) p2 (.lst (ns.map V.int))) := fun b o e => by rw [upd_ne (ne_of_none (s1 b o e) n2)]; exact s1 b o e
    refine ⟨p2, rfl, ⟨_, SqL.of upd_same⟩, for_list (K := K) (a := p2) (xs := ns.map V.int) (fun i σ G => G = upd (upd H p1 (.lst (ns.map V.int))) p2 (.lst (ns.map V.int)) ∧ ∃ (sd : Int) (c : Option V), σ = [some (.ref a), some (.int sd), c] ∧ 0 ≤ sd ∧ sd < 2147483549)
      ⟨rfl, _, none, rfl, ?_, ?_⟩ (fun i σ G _ ⟨e, _⟩ => by rw [e]; exact SqL.of upd_same) ?_ ?_⟩
    · rw [List.length_map]; omega
    · rw [List.length_map]; omega
    · rintro i y σ G hi ⟨rfl, sd, c, rfl, h0, h1⟩
      obtain ⟨z, rfl⟩ := map_int_at hi
      refine ⟨_, rfl, sd, 40009, rfl, rfl, mul_small (by omega) (by omega), _, rfl, z, 2147483549, rfl, rfl, (by show (0 : Int) < 2147483549; decide), _, _, rfl, rfl, _, _, rfl, rfl, _, _, rfl, rfl, (by show (0 : Int) < 2147483549; decide), ?_⟩
      exact ⟨rfl, _, _, rfl, Int.emod_nonneg _ (by decide), Int.emod_lt_of_pos _ (by decide)⟩
    · rintro σ G ⟨rfl, sd, c, rfl, h0, h1⟩
      refine ⟨_, rfl, _, rfl, a, _, rfl, s2.seq hS, fun p3 n3 => ?_⟩
      rw [cut63 hl]
      have s3 := s2.trans (H2 := upd (upd (upd H p1 (.lst (ns.map V.int))) p2 (.lst (ns.map V.int))) p3 (.lst (ns.map V.int))) fun b o e => by rw [upd_ne (ne_of_none e n3)]; exact e
      refine ⟨p3, _, rfl, .inl (SqL.of upd_same), fun q n4 => ?_⟩
      have s4 := s3.trans (H2 := upd (upd (upd (upd H p1 (.lst (ns.map V.int))) p2 (.lst (ns.map V.int))) p3 (.lst (ns.map V.int))) q (.lst (ns.map V.int))) fun b o e => by rw [upd_ne (ne_of_none e n4)]; exact e
      refine ⟨_, rfl, (by show 4 ≤ sizeLine; decide), fun p n5 => ?_⟩
      have nqp : q ≠ p := fun e => by rw [← e, upd_same] at n5; cases n5
      refine k _ p q sd (fun b o e => by rw [upd_ne (ne_of_none (s4 b o e) n5)]; exact s4 b o e) ⟨upd_same, ?_, hl, ⟨by omega, by omega, h0, h1⟩, nqp⟩ (s4.free n5) (s3.free n4)
      rw [upd_ne nqp, upd_same]
/-! ## _law_draw -/
def spDraw : Sp := fun vs H Q _ => ∃ (p q : Addr) (ns : List Int) (i v sd many : Int), vs = [.ref p, .int many] ∧ RngAt H p q ns i v sd ∧ 0 < many ∧ many.natAbs < 2 ^ 8000 ∧
  ∀ r i' v' sd' : Int, 0 ≤ r → r < many → RngOk i' v' sd' → Q (.int r) (upd H p (.lst (rngL q i' v' sd')))
theorem scDraw : FnScope ["_law_rng", "_law_many", "_law_cell", "_law_got", "_law_seed"] ["_law_rng", "_law_many"] (defScope sDraw) := ⟨rfl, rfl, rfl, by decide +kernel, rfl, by decide +kernel, by decide +kernel⟩
theorem ok_draw {f : Addr} {fd : FuncData} (F : Fun K "_law_draw" "_law_draw" sDraw f fd) (T : TxtR mg) : FnOk P w K mg base CX0 1 f fd ["_law_rng", "_law_many"] spDraw := by
  refine F.ok scDraw (fun vs H Q E h => ?_) (fun cdv A outer s H vs Q E hr h => ?_)
  · obtain ⟨p, q, ns, i, v, sd, many, rfl, _⟩ := h
    rfl
  · obtain ⟨p, q, ns, i, v, sd, many, rfl, R, hm, hmz, k⟩ := h
    refine ⟨_, C8.pss_cut (ps_if (PW.pt (pw_and (pt_cmpR op_eq (pe_ix ix_list (pv 0) pe_int (fun _ _ => rfl)) pe_int (nomark _)) (pw_and1 (pt_cmpR op_lt (pe_ix ix_list (pv 0) pe_int (fun _ _ => rfl)) (pe_callB call_len_seq (by rfl) T.len PySem.boot_len (pa_cons (pe_ix ix_list (pv 0) pe_int (fun _ _ => rfl)) pa_nil)) (nomark _)))))
        (pss_cons (ps_set (i := 2) scDraw.nd rfl (Or.inl rfl) (pe_ix ix_list (pe_ix ix_list (pv 0) pe_int (fun _ _ => rfl)) (pe_ix ix_list (pv 0) pe_int (fun _ _ => rfl)) (fun _ _ => rfl)))
        (pss_cons (ps_asg (pe_op op_add (pe_ix ix_list (pv 0) pe_int (fun _ _ => rfl)) pe_int) (pg_sub (pv 0) pe_int set_list))
        (pss_one (ps_if (pt_cmpR op_ge (pv 2) (pe_op op_pow pe_int pe_int) (nomark _)) (pss_one (ps_asg (pv 2) (pg_sub (pv 0) pe_int set_list)))
          (pss_one (ps_asg (pe_op op_mod (pe_op op_add (pe_op op_add (pe_op op_mul (pe_ix ix_list (pv 0) pe_int (fun _ _ => rfl)) pe_int) (pe_op op_mul (pe_op op_mod (pv 2) pe_int) pe_int)) pe_int) pe_int) (pg_sub (pv 0) pe_int set_list)))))))
        pss_nil)
      (pss_cons (ps_if (pt_cmpR op_gt (pe_ix ix_list (pv 0) pe_int (fun _ _ => rfl)) pe_int (nomark _))
        (pss_cons (ps_set (i := 3) scDraw.nd rfl (Or.inl rfl) (pe_op op_mod (pe_ix ix_list (pv 0) pe_int (fun _ _ => rfl)) (pv 1)))
        (pss_cons (ps_asg (pe_op op_fdivW (pe_ix ix_list (pv 0) pe_int (fun _ _ => rfl)) (pv 1)) (pg_sub (pv 0) pe_int set_list))
        (pss_one (ps_ret (pv 3))))) pss_nil)
      (pss_cons (ps_set (i := 4) scDraw.nd rfl (Or.inl rfl) (pe_ix ix_list (pv 0) pe_int (fun _ _ => rfl)))
      (pss_cons (ps_asg (pe_op op_mod (pe_op op_add (pe_op op_add (pe_op op_mul (pv 4) (pe_op op_add (pe_op op_mod (pv 4) pe_int) pe_int)) (pe_op op_mul (pv 4) pe_int)) pe_int) pe_int) (pg_sub (pv 0) pe_int set_list))
      (pss_one (ps_ret (pe_op op_mod (pe_op op_add (pe_op op_fdiv (pe_ix ix_list (pv 0) pe_int (fun _ _ => rfl)) pe_int) (pe_op op_mul (pe_op op_mod (pe_ix ix_list (pv 0) pe_int (fun _ _ => rfl)) pe_int) pe_int)) (pv 1))))))), ?_⟩
    refine ⟨fun σ G => ∃ (c : Option V) (i' v' sd' : Int), σ = [some (.ref p), some (.int many), c, none, none] ∧ RngOk i' v' sd' ∧ G = upd H p (.lst (rngL q i' v' sd')), ?_, ?_⟩
    · obtain ⟨i0, v0, sd0, sd1⟩ := R.ok
      refine ⟨_, rfl, p, _, _, _, rfl, rfl, SqL.of R.at_p, rng_2, rfl, _, rfl, ?_⟩
      by_cases c1 : v = 0
      · subst c1
        refine ifT (decide_eq_true rfl) ?_
        refine ⟨_, rfl, p, _, _, _, rfl, rfl, SqL.of R.at_p, rng_1, _, rfl, p, _, _, _, rfl, rfl, SqL.of R.at_p, rng_0, q, _, rfl, .inl (SqL.of R.at_q), _, _, rfl, rfl, _, rfl, ?_⟩
        rw [List.length_map]
        by_cases c2 : i < (ns.length : Int)
        · refine ifT (decide_eq_true c2) ?_
          obtain ⟨c, hc, hat⟩ := get_int i0 c2
          refine ⟨_, rfl, p, _, _, _, rfl, rfl, SqL.of R.at_p, rng_0, _, rfl, p, _, _, _, rfl, rfl, SqL.of R.at_p, rng_1, q, _, _, _, rfl, rfl, SqL.of R.at_q, hat, ?_⟩
          refine ⟨_, rfl, p, _, _, _, rfl, rfl, SqL.of R.at_p, rng_1, _, _, rfl, rfl, _, rfl, p, _, _, 1, rfl, rfl, R.at_p, rfl, ?_⟩
          refine ⟨_, rfl, _, _, rfl, rfl, (by show (0 : Int) ≤ 18 ∧ (18 : Int) ≤ 1000000 ∧ (10 : Int).natAbs < 2 ^ 64; decide), _, _, rfl, rfl, _, rfl, ?_⟩
          by_cases c3 : (10 : Int) ^ (18 : Int).toNat ≤ c
          · refine ifT (decide_eq_true c3) ?_
            refine ⟨_, rfl, _, rfl, p, _, _, 2, rfl, rfl, upd_same, rfl, ?_⟩
            refine ⟨_, i + 1, c, sd, rfl, ⟨by omega, ?_, sd0, sd1⟩, upd_upd⟩
            exact Int.le_trans (by decide) c3
          · refine ifF (decide_eq_false c3) ?_
            refine ⟨_, rfl, p, _, _, _, rfl, rfl, SqL.of upd_same, rfl, sd, 44111, rfl, rfl, mul_small (by omega) (by omega), _, rfl, c, 2147483549, rfl, rfl, (by show (0 : Int) < 2147483549; decide), c % 2147483549, 70001, rfl, rfl, ?_, _, _, rfl, rfl, _, _, rfl, rfl, _, _, rfl, rfl, (by show (0 : Int) < 2147483549; decide),
              _, rfl, p, _, _, 3, rfl, rfl, upd_same, rfl, ?_⟩
            · have := Int.emod_nonneg c (by decide : (2147483549 : Int) ≠ 0)
              have := Int.emod_lt_of_pos c (by decide : (0 : Int) < 2147483549)
              exact mul_small (by omega) (by omega)
            · exact ⟨_, i + 1, 0, _, rfl, ⟨by omega, by omega, Int.emod_nonneg _ (by decide), Int.emod_lt_of_pos _ (by decide)⟩, upd_upd⟩
        · exact ifF (decide_eq_false c2) ⟨none, i, 0, sd, rfl, R.ok, (upd_id R.at_p).symm⟩
      · exact ifF (eq_int c1) (iteF ⟨none, i, v, sd, rfl, R.ok, (upd_id R.at_p).symm⟩)
    · rintro σ G ⟨c, i', v', sd', rfl, ⟨i0, v0, s0, s1⟩, rfl⟩
      refine ⟨_, rfl, p, _, _, _, rfl, rfl, SqL.of upd_same, rng_2, _, _, rfl, rfl, _, rfl, ?_⟩
      by_cases c1 : 0 < v'
      · refine ifT (decide_eq_true c1) ?_
        refine ⟨_, rfl, p, _, _, _, rfl, rfl, SqL.of upd_same, rng_2, _, rfl, _, _, rfl, rfl, hm, ?_⟩
        refine ⟨_, rfl, p, _, _, _, rfl, rfl, SqL.of upd_same, rng_2, _, rfl, _, _, rfl, rfl, wide_div hm hmz (by decide) (by decide), _, rfl, p, _, _, 2, rfl, rfl, upd_same, rfl, _, rfl, ?_⟩
        rw [upd_upd]
        exact k _ i' _ sd' (Int.emod_nonneg _ (by omega)) (Int.emod_lt_of_pos _ hm) ⟨i0, Int.ediv_nonneg (by omega) (by omega), s0, s1⟩
      · refine ifF (decide_eq_false c1) ?_
        refine ⟨_, rfl, p, _, _, _, rfl, rfl, SqL.of upd_same, rng_3, ?_⟩
        refine ⟨_, rfl, _, rfl, sd', 65479, rfl, rfl, (by show (0 : Int) < 65479; decide), _, _, rfl, rfl, sd', _, rfl, rfl, mul_small (by omega) (by omega), _, rfl, sd', 40699, rfl, rfl, mul_small (by omega) (by omega), _, _, rfl, rfl, _, _, rfl, rfl, _, _, rfl, rfl, (by show (0 : Int) < 2147483549; decide),
          _, rfl, p, _, _, 3, rfl, rfl, upd_same, rfl, ?_⟩
        rw [upd_upd]
        have small : ∀ z : Int, CMul (z % 7919) 211 := fun z => by
          have := Int.emod_nonneg z (by decide : (7919 : Int) ≠ 0)
          have := Int.emod_lt_of_pos z (by decide : (0 : Int) < 7919)
          exact mul_small (by omega) (by omega)
        refine ⟨_, rfl, p, _, _, _, rfl, rfl, SqL.of upd_same, rfl, _, 67, rfl, rfl, ⟨by decide, by decide⟩, _, rfl, p, _, _, _, rfl, rfl, SqL.of upd_same, rfl, _, 7919, rfl, rfl, (by show (0 : Int) < 7919; decide), _, 211, rfl, rfl, small _, _, _, rfl, rfl, _, rfl, _, _, rfl, rfl, hm, ?_⟩
        exact k _ i' v' _ (Int.emod_nonneg _ (by omega)) (Int.emod_lt_of_pos _ hm) ⟨i0, v0, Int.emod_nonneg _ (by decide), Int.emod_lt_of_pos _ (by decide)⟩
/-! ## _law_pick -/
def spPick (K : PySem.W.Frag) : Sp := fun vs H Q _ => ∃ (p q l : Addr) (ns : List Int) (i v sd : Int) (xs : List V), vs = [.ref p, .ref l] ∧ RngAt H p q ns i v sd ∧ H l = some (.lst xs) ∧ l ≠ p ∧ xs ≠ [] ∧ xs.length ≤ 1000 ∧
  ∀ (x : V) (i' v' sd' : Int), x ∈ xs → RngOk i' v' sd' → Q x (upd H p (.lst (rngL q i' v' sd')))
structure TxtP (K : PySem.W.Frag) (mg : Str → Option Value) (fD : Addr) : Prop where
  len : mg "len" = none
  gD : mg "_law_draw" = some (.ref fD)
  kD : PySem.W.keepIn K (.ref fD) = true
theorem scPick : FnScope ["_law_rng", "_law_items"] ["_law_rng", "_law_items"] (defScope sPick) := ⟨rfl, rfl, rfl, by decide +kernel, rfl, by decide +kernel, by decide +kernel⟩
theorem ok_pick {f fD : Addr} {fd fdD : FuncData} (F : Fun K "_law_pick" "_law_pick" sPick f fd) (T : TxtP K mg fD) (FD : FnOk P w K mg base CX0 1 fD fdD ["_law_rng", "_law_many"] spDraw) (bD : Binds K fdD ["_law_rng", "_law_many"] []) :
    FnOk P w K mg base CX0 2 f fd ["_law_rng", "_law_items"] (spPick K) := by
  refine F.ok scPick (fun vs H Q E h => ?_) (fun cdv A outer s H vs Q E hr h => ?_)
  · obtain ⟨p, q, l, ns, i, v, sd, xs, rfl, _⟩ := h
    rfl
  · obtain ⟨p, q, l, ns, i, v, sd, xs, rfl, R, hl, nlp, hne, hlen, k⟩ := h
    refine ⟨_, pss_one (ps_ret (pe_ix ix_list (pv 1) (pe_call FD hr rfl T.gD T.kD bD .nil pass0 (pa_cons (pv 0) (pa_cons (pe_callB call_len_seq (by rfl) T.len PySem.boot_len (pa_cons (pv 1) pa_nil)) pa_nil))) (fun _ _ => rfl))), ?_⟩
    have hpos : 0 < xs.length := List.length_pos_iff.mpr hne
    have hbig : 1000 < 2 ^ 8000 := Nat.lt_of_lt_of_le (by decide : 1000 < 2 ^ 10) (Nat.pow_le_pow_right (by decide) (by decide))
    refine ⟨_, rfl, _, rfl, _, rfl, l, xs, rfl, .inl (SqL.of hl), p, q, ns, i, v, sd, (xs.length : Int), rfl, R, by omega, by omega, fun r i' v' sd' r0 r1 ok => ?_⟩
    obtain ⟨m, rfl⟩ := Int.eq_ofNat_of_zero_le r0
    have hm : m < xs.length := by omega
    exact ⟨l, xs, _, xs[m], rfl, rfl, SqL.of (by rw [upd_ne nlp]; exact hl), atI_nat (List.getElem?_eq_getElem hm), k _ i' v' sd' (List.getElem_mem hm) ok⟩
end
section
variable {P : Program} {w : World} {K : PySem.W.Frag} {mg : Str → Option Value} {base : Heap}
structure TxtS (K : PySem.W.Frag) (mg : Str → Option Value) (f : Addr) : Prop where
  isi : mg "isinstance" = none
  list : mg "list" = none
  tuple : mg "tuple" = none
  len : mg "len" = none
  all : mg "all" = none
  zip : mg "zip" = none
  bool : mg "bool" = none
  int : mg "int" = none
  str : mg "str" = none
  gS : mg "_law_same" = some (.ref f)
  kS : PySem.W.keepIn K (.ref f) = true
def spSame (K : PySem.W.Frag) (n : Nat) : Sp := fun vs H Q _ => ∃ x y : V, vs = [x, y] ∧ SameN K H n x y ∧ ∀ G, Same H G → Q (.bl true) G
theorem scSame : FnScope ["_law_found", "_law_due", "_law_one", "_law_other"] ["_law_found", "_law_due"] (defScope sSame) := ⟨rfl, rfl, rfl, by decide +kernel, rfl, by decide +kernel, by decide +kernel⟩
theorem ok_same {f : Addr} {fd : FuncData} (F : Fun K "_law_same" "_law_same" sSame f fd) (b : Binds K fd ["_law_found", "_law_due"] []) (T : TxtS K mg f) : ∀ n, FnOk P w K mg base CX0 n f fd ["_law_found", "_law_due"] (spSame K n)
  | 0 => ⟨fun _ _ _ _ h => by obtain ⟨_, _, _, h, _⟩ := h; exact h.elim, fun _ _ _ _ _ _ _ _ _ _ _ _ _ h => by obtain ⟨_, _, _, h, _⟩ := h; exact h.elim⟩
  | n + 1 => by
    have IH := ok_same F b T n
    refine F.ok scSame (fun vs H Q E h => ?_) (fun cdv A outer s H vs Q E hr h => ?_)
    · obtain ⟨x, y, rfl, _⟩ := h
      rfl
    · obtain ⟨x, y, rfl, hxy, k⟩ := h
      refine ⟨_, pss_cons (ps_if (PW.pt (pw_or (pt_cmpR op_isN (pv 1) pe_non (nomark _)) (pw_or1 (pt_cmpR op_isN (pv 0) pe_non (nomark _)))))
          (pss_one (ps_ret (pe_and (pe_cmpR op_isN (pv 0) pe_non (nomark _)) (pe_one (pe_cmpR op_isN (pv 1) pe_non (nomark _)))))) pss_nil)
        (pss_cons (ps_if (pt_val (pe_callB call_isiT (by rfl) T.isi (by decide +kernel) (pa_cons (pv 1) (pa_cons (pe_tup (pa_cons (pe_bltn (v := .ty "list") (by rfl) T.list (by decide +kernel) rfl) (pa_cons (pe_bltn (v := .ty "tuple") (by rfl) T.tuple (by decide +kernel) rfl) pa_nil))) pa_nil))))
          (pss_cons (ps_if (PW.pt (pw_or (pt_cmpR op_ne (pe_callB call_isi (by rfl) T.isi (by decide +kernel) (pa_cons (pv 0) (pa_cons (pe_bltn (v := .ty "list") (by rfl) T.list (by decide +kernel) rfl) pa_nil))) (pe_callB call_isi (by rfl) T.isi (by decide +kernel) (pa_cons (pv 1) (pa_cons (pe_bltn (v := .ty "list") (by rfl) T.list (by decide +kernel) rfl) pa_nil))) (nomark _))
              (pw_or1 (pt_cmpR op_ne (pe_callB call_isi (by rfl) T.isi (by decide +kernel) (pa_cons (pv 0) (pa_cons (pe_bltn (v := .ty "tuple") (by rfl) T.tuple (by decide +kernel) rfl) pa_nil))) (pe_callB call_isi (by rfl) T.isi (by decide +kernel) (pa_cons (pv 1) (pa_cons (pe_bltn (v := .ty "tuple") (by rfl) T.tuple (by decide +kernel) rfl) pa_nil))) (nomark _)))))
            (pss_one (ps_ret pe_bl)) pss_nil)
          (pss_one (ps_ret (pe_and (pe_cmpR op_eq (pe_callB call_len_seq (by rfl) T.len PySem.boot_len (pa_cons (pv 0) pa_nil)) (pe_callB call_len_seq (by rfl) T.len PySem.boot_len (pa_cons (pv 1) pa_nil)) (nomark _))
            (pe_one (pe_callB (cr_all rfl) (by rfl) T.all (by decide +kernel) (pa_cons
              (pe_lc (own := [("_law_one", 2), ("_law_other", 3)]) (g := gTup K 2 (gCons (gName 2) (gCons (gName 3) gNil))) (tt := tYes) (te := tCall (spSame K n) [] E0 (tCons (tVar 2) (tCons (tVar 3) tNil))) rfl scSame.nd (RZ.pi_zipA (by rfl) T.zip (pa_cons (pv 0) (pa_cons (pv 1) pa_nil)))
                (blkOk_by (N := ["_law_found", "_law_due", "_law_one", "_law_other"]) (sc := defScope sSame) (by decide +kernel))
                (fun _ _ _ _ _ => by exact pg_tup rfl (by exact pgs_cons (pg_name (i := 2) scSame.nd rfl (Or.inl rfl)) (by exact pgs_cons (pg_name (i := 3) scSame.nd rfl (Or.inl rfl)) pgs_nil)))
                (fun _ _ _ _ _ => pts_nil)
                (fun _ _ _ _ _ => by exact pe_call IH hr rfl T.gS T.kS b .nil pass0 (pa_cons (pv 2) (pa_cons (pv 3) pa_nil)))) pa_nil))))))) pss_nil)
        (pss_cons (ps_if (PW.pt (pw_or (pt_cmpR op_ne (pe_callB call_isi (by rfl) T.isi (by decide +kernel) (pa_cons (pv 0) (pa_cons (pe_bltn (v := .ty "bool") (by rfl) T.bool (by decide +kernel) rfl) pa_nil))) (pe_callB call_isi (by rfl) T.isi (by decide +kernel) (pa_cons (pv 1) (pa_cons (pe_bltn (v := .ty "bool") (by rfl) T.bool (by decide +kernel) rfl) pa_nil))) (nomark _))
              (pw_or1 (pt_cmpR op_ne (pe_callB call_isi (by rfl) T.isi (by decide +kernel) (pa_cons (pv 0) (pa_cons (pe_bltn (v := .ty "int") (by rfl) T.int (by decide +kernel) rfl) pa_nil))) (pe_callB call_isi (by rfl) T.isi (by decide +kernel) (pa_cons (pv 1) (pa_cons (pe_bltn (v := .ty "int") (by rfl) T.int (by decide +kernel) rfl) pa_nil))) (nomark _)))))
            (pss_one (ps_ret pe_bl)) pss_nil)
        (pss_one (ps_ret (pe_and (pe_cmpR op_eq (pe_callB call_isi (by rfl) T.isi (by decide +kernel) (pa_cons (pv 0) (pa_cons (pe_bltn (v := .ty "str") (by rfl) T.str (by decide +kernel) rfl) pa_nil))) (pe_callB call_isi (by rfl) T.isi (by decide +kernel) (pa_cons (pv 1) (pa_cons (pe_bltn (v := .ty "str") (by rfl) T.str (by decide +kernel) rfl) pa_nil))) (nomark _))
          (pe_one (pe_cmpR op_eq (pv 0) (pv 1) (nomark _)))))))), ?_⟩
      rcases hxy with ⟨rfl, hfl⟩ | ⟨a, c, xs, ys, rfl, rfl, hsq, hlen, hmax, hall⟩
      · by_cases hn : x = .non
        · subst hn
          refine ⟨_, rfl, rfl, _, rfl, iteT (iteT ?_)⟩
          exact ⟨_, rfl, rfl, _, rfl, iteT ⟨_, rfl, rfl, k H (Same.refl H)⟩⟩
        · obtain ⟨t, b1, b2, b3, ty, l1, l2, l3, l4, l5, sc⟩ : ∃ (t : String) (b1 b2 b3 : Bool), (∀ G, TyX K G x (.type t)) ∧ kitB t "list" = some false ∧ kitB t "tuple" = some false ∧ kitB t "bool" = some b1 ∧ kitB t "int" = some b2 ∧ kitB t "str" = some b3 ∧ scal x x = true := by
            cases x with
            | non => exact absurd rfl hn
            | bl z => exact ⟨"bool", true, true, false, fun _ => .base (.bl z), by decide +kernel, by decide +kernel, by decide +kernel, by decide +kernel, by decide +kernel, rfl⟩
            | int z => exact ⟨"int", false, true, false, fun _ => .base (.int z), by decide +kernel, by decide +kernel, by decide +kernel, by decide +kernel, by decide +kernel, rfl⟩
            | str z => exact ⟨"str", false, false, true, fun _ => .base (.str z), by decide +kernel, by decide +kernel, by decide +kernel, by decide +kernel, by decide +kernel, rfl⟩
            | byt z => cases hfl
            | flt z => cases hfl
            | ref z => cases hfl
            | ty z => cases hfl
          refine ⟨_, rfl, rfl, _, rfl, ifF (decide_eq_false hn) ⟨_, rfl, rfl, _, rfl, ifF (decide_eq_false hn) ?_⟩⟩
          refine ⟨_, rfl, (by show 2 ≤ sizeLine; decide), fun p hp => ⟨x, p, _, _, _, false, rfl, upd_same, paired2, ty _, kitLT l1 l2, _, rfl, iteF ?_⟩⟩
          refine ⟨_, rfl, x, _, _, _, b1, rfl, .ty _, ty _, kit_ty l3, _, rfl, x, _, _, _, b1, rfl, .ty _, ty _, kit_ty l3, rfl, _, rfl, ifF (ne_bl b1) ?_⟩
          refine ⟨_, rfl, x, _, _, _, b2, rfl, .ty _, ty _, kit_ty l4, _, rfl, x, _, _, _, b2, rfl, .ty _, ty _, kit_ty l4, rfl, _, rfl, ifF (ne_bl b2) ?_⟩
          refine ⟨_, rfl, x, _, _, _, b3, rfl, .ty _, ty _, kit_ty l5, _, rfl, x, _, _, _, b3, rfl, .ty _, ty _, kit_ty l5, rfl, _, rfl, ifT (decide_eq_true rfl) ?_⟩
          refine ⟨_, rfl, _, rfl, sc, ?_⟩
          have e : decide (x = x) = true := decide_eq_true rfl
          show Q (V.bl (decide (x = x))) _
          rw [e]
          exact k _ (same_upd (Same.refl H) hp)
      · have na : V.ref a ≠ V.non := fun z => nomatch z
        have nc : V.ref c ≠ V.non := fun z => nomatch z
        obtain ⟨t, bL, bT, tyA, tyC, hk, l1, l2⟩ : ∃ (t : String) (bL bT : Bool), (∀ G, Same H G → TyX K G (.ref a) (.type t)) ∧ (∀ G, Same H G → TyX K G (.ref c) (.type t)) ∧ PySem.W.kitAny K (.type t) [.type "list", .type "tuple"] = some true ∧ kitB t "list" = some bL ∧ kitB t "tuple" = some bT := by
          rcases hsq with ⟨p, q⟩ | ⟨p, q⟩
          · exact ⟨"list", true, false, fun G e => ty_list (e.seq p), fun G e => ty_list (e.seq q), kitL (by decide +kernel), by decide +kernel, by decide +kernel⟩
          · exact ⟨"tuple", false, true, fun G e => ty_tup (seqT e p), fun G e => ty_tup (seqT e q), kitLT (by decide +kernel) (by decide +kernel), by decide +kernel, by decide +kernel⟩
        have lenA : ∀ G, Same H G → SqL K G a xs ∨ SqT K G a xs := fun G e => hsq.imp (fun q => e.seq q.1) (fun q => seqT e q.1)
        have lenC : ∀ G, Same H G → SqL K G c ys ∨ SqT K G c ys := fun G e => hsq.imp (fun q => e.seq q.2) (fun q => seqT e q.2)
        refine ⟨_, rfl, rfl, _, rfl, ifF (decide_eq_false nc) ⟨_, rfl, rfl, _, rfl, ifF (decide_eq_false na) ?_⟩⟩
        refine ⟨_, rfl, (by show 2 ≤ sizeLine; decide), fun p hp => ?_⟩
        have s1 : Same H (upd H p (.tup [V.ty "list", V.ty "tuple"])) := same_upd (Same.refl H) hp
        refine ⟨_, p, _, _, _, true, rfl, upd_same, paired2, tyC _ s1, hk, _, rfl, iteT ?_⟩
        refine ⟨_, rfl, _, _, _, _, bL, rfl, .ty _, tyA _ s1, kit_ty l1, _, rfl, _, _, _, _, bL, rfl, .ty _, tyC _ s1, kit_ty l1, rfl, _, rfl, ifF (ne_bl bL) ?_⟩
        refine ⟨_, rfl, _, _, _, _, bT, rfl, .ty _, tyA _ s1, kit_ty l2, _, rfl, _, _, _, _, bT, rfl, .ty _, tyC _ s1, kit_ty l2, rfl, _, rfl, ifF (ne_bl bT) ?_⟩
        refine ⟨_, rfl, a, xs, rfl, lenA _ s1, _, rfl, c, ys, rfl, lenC _ s1, rfl, _, rfl, ifT (decide_eq_true (by rw [hlen])) ?_⟩
        have turn : ∀ (D : Addr) (i : Nat) (v : V) (G G' : Hp) (τ : L2.St), (upd H p (.tup [V.ty "list", V.ty "tuple"])) D = none → (Same (upd H p (.tup [V.ty "list", V.ty "tuple"])) G ∧ G D = some (.lst (List.replicate i (V.bl true)))) → i < xs.length →
            YPair (fun i => xs[i]?) (fun i => ys[i]?) i G v G' → τ = [some (V.ref a), some (V.ref c), none, none] →
            gTup K 2 (gCons (gName 2) (gCons (gName 3) gNil)) v τ G' fun σ2 H2 => wipe σ2 [2, 3] = wipe τ [2, 3] ∧ tYes σ2 H2 fun b H3 =>
              if b = true then tCall (spSame K n) [] E0 (tCons (tVar 2) (tCons (tVar 3) tNil)) σ2 H3 fun y H4 => ∃ acc, H4 D = some (.lst acc) ∧ acc.length < sizeLine ∧ (Same (upd H p (.tup [V.ty "list", V.ty "tuple"])) (upd H4 D (.lst (acc ++ [y]))) ∧ (upd H4 D (.lst (acc ++ [y]))) D = some (.lst (List.replicate (i + 1) (V.bl true))))
              else (Same (upd H p (.tup [V.ty "list", V.ty "tuple"])) H3 ∧ H3 D = some (.lst (List.replicate (i + 1) (V.bl true)))) := by
          rintro D i v G G' τ hD ⟨e1, e2⟩ hi ⟨U, u, z, rfl, hU, rfl, hu, hz⟩ rfl
          refine ⟨U, [u, z], rfl, SqT.of upd_same, rfl, _, _, rfl, _, _, rfl, rfl, rfl, ?_⟩
          refine iteT (B := Same (upd H p (.tup [V.ty "list", V.ty "tuple"])) (upd G U (.tup [u, z])) ∧ upd G U (.tup [u, z]) D = some (.lst (List.replicate (i + 1) (V.bl true)))) ⟨_, rfl, _, rfl, u, z, rfl, ?_, fun G2 e3 => ?_⟩
          · exact (hall i u z hu hz).same (s1.trans (same_upd e1 hU))
          · have e4 : G2 D = some (.lst (List.replicate i (V.bl true))) := e3 _ _ (by rw [upd_ne (ne_of_none e2 hU)]; exact e2)
            refine ⟨_, e4, by rw [List.length_replicate, sizeLine_eq]; omega, same_updN ((same_upd e1 hU).trans e3) hD, ?_⟩
            rw [upd_same, List.replicate_succ']
        have last : ∀ (D : Addr) (G : Hp), (Same (upd H p (.tup [V.ty "list", V.ty "tuple"])) G ∧ G D = some (.lst (List.replicate xs.length (V.bl true)))) → rAll K [V.ref D] G Q := fun D G ⟨e1, e2⟩ => by
          refine ⟨D, List.replicate xs.length true, rfl, SqL.of (by rw [map_rep]; exact e2), ?_⟩
          rw [all_true]
          exact k G (s1.trans e1)
        rcases hsq with ⟨hA, hC⟩ | ⟨hA, hC⟩
        · refine ⟨_, rfl, _, rfl, a, c, xs, ys, rfl, .inl ⟨s1.seq hA, s1.seq hC, fun D hD => ?_⟩⟩
          exact lc_it (walk_zip (n := xs.length) (by omega)) (fun i G => Same (upd H p (.tup [V.ty "list", V.ty "tuple"])) G ∧ G D = some (.lst (List.replicate i (V.bl true)))) ⟨same_upd (Same.refl _) hD, upd_same⟩
            (fun i G _ q => ⟨q.1.seq (s1.seq hA), q.1.seq (s1.seq hC)⟩) (fun i v G G' hi q y => turn D i v G G' _ hD q hi y rfl) (fun G q => last D G q)
        · refine ⟨_, rfl, _, rfl, a, c, xs, ys, rfl, .inr ⟨seqT s1 hA, seqT s1 hC, fun D hD => ?_⟩⟩
          exact lc_it (walk_zipT hlen) (fun i G => Same (upd H p (.tup [V.ty "list", V.ty "tuple"])) G ∧ G D = some (.lst (List.replicate i (V.bl true)))) ⟨same_upd (Same.refl _) hD, upd_same⟩
            (fun i G _ q => ⟨seqT q.1 (seqT s1 hA), seqT q.1 (seqT s1 hC)⟩) (fun i v G G' hi q y => turn D i v G G' _ hD q hi y rfl) (fun G q => last D G q)
end
theorem scField : FnScope ["_law_e"] ["_law_e"] (defScope sField) := ⟨rfl, rfl, rfl, by decide +kernel, rfl, by decide +kernel, by decide +kernel⟩
theorem body_field {P : Program} {w : World} {K : PySem.W.Frag} {mg : Str → Option Value} {base : Heap} {f a : Addr} {cdv : Value} {oe : Obj} {cls : Value} {d : Option Addr} (hz : Zc cls d oe) (hf : ∃ vs, oe.data = .fields vs)
    (A : Around) (outer : List Env) (s : Shared) (H : Hp) (v : V) (Q : VK) (hr : L2H.RoomH 0 (A.deeper (envOfC "_law_field" (defScope sField) s.heap.objs.size f cdv))) (h : spField K a cls d v H Q) :
    ∃ t, PSs (L2H.cxH CX0 P w K mg base ["_law_e"] "_law_field" (defScope sField) f cdv A outer s H E0 (a, oe)) (defBody sField) t ∧ t { nx := fun _ G => Q .non G, rt := Q } (L2.start ["_law_e"] [v]) H := by
  obtain ⟨rfl, t, hE, hT, k⟩ := h
  have xe : ∀ {n : Str} {p1 p2 : Pos}, PE (L2H.cxH CX0 P w K mg base ["_law_e"] "_law_field" (defScope sField) f cdv A outer s H E0 (a, oe)) (.Attribute (.Name "_law_e" p1) n p2) (tXq K a cls d n (tVar 0)) := fun {n p1 p2} => by
    exact pe_xq hz hf List.mem_cons_self (pv 0)
  refine ⟨_, pss_cons (ps_if (pt_cmpR op_in_seq xe (pe_tup (pa_cons pe_str (pa_cons pe_str (pa_cons pe_str (pa_cons pe_str (pa_cons pe_str pa_nil)))))) (by rfl)) (pss_one (ps_ret xe)) pss_nil)
    (pss_cons (ps_if (pt_cmpR op_in_seq xe (pe_tup (pa_cons pe_str (pa_cons pe_str pa_nil))) (by rfl)) (pss_one (ps_ret xe)) pss_nil)
    (pss_cons (ps_if (pt_cmpR op_eq xe pe_str (nomark _)) (pss_one (ps_ret xe)) pss_nil)
    (pss_cons (ps_if (pt_cmpR op_eq xe pe_str (nomark _)) (pss_one (ps_ret xe)) pss_nil)
    (pss_cons (ps_if (pt_cmpR op_eq xe pe_str (nomark _)) (pss_one (ps_ret xe)) pss_nil)
    (pss_one (ps_ret (pe_ifExp (pt_cmpR op_eq xe pe_str (nomark _)) xe pe_non))))))), ?_⟩
  refine tag_read hE rfl ⟨(by show 5 ≤ sizeLine; decide), fun p hp => ?_⟩
  have s1 : Same H (upd H p (.tup tags5)) := same_upd (Same.refl H) hp
  refine ⟨p, tags5, rfl, .inr (SqT.of upd_same), rfl, rfl, _, rfl, ifF hT.h5 ?_⟩
  refine tag_read (hE.same s1) rfl ⟨(by show 2 ≤ sizeLine; decide), fun q hq => ?_⟩
  have s2 : Same H (upd (upd H p (.tup tags5)) q (.tup tags2)) := same_upd s1 hq
  refine ⟨q, tags2, rfl, .inr (SqT.of upd_same), rfl, rfl, _, rfl, ifF hT.h2 ?_⟩
  show tXq K a cls d "tag" (tVar 0) _ _ _
  refine tag_read (hE.same s2) rfl ⟨rfl, _, rfl, ifF (ne_str hT.h3) ?_⟩
  show tXq K a cls d "tag" (tVar 0) _ _ _
  refine tag_read (hE.same s2) rfl ⟨rfl, _, rfl, ifF (ne_str hT.h4) ?_⟩
  show tXq K a cls d "tag" (tVar 0) _ _ _
  refine tag_read (hE.same s2) rfl ⟨rfl, _, rfl, ifF (ne_str hT.h6) ?_⟩
  show tXq K a cls d "tag" (tVar 0) _ _ _
  refine tag_read (hE.same s2) rfl ⟨rfl, _, rfl, ifF (ne_str hT.h7) ?_⟩
  exact k _ s2
theorem scOutcome : FnScope ["_law_ask", "_law_e"] ["_law_ask"] (defScope sOutcome) := ⟨rfl, rfl, rfl, by decide +kernel, rfl, by decide +kernel, by decide +kernel⟩
structure TxtO (K : PySem.W.Frag) (mg : Str → Option Value) (C1 C2 C3 fF : Addr) (fdF : FuncData) : Prop where
  g1 : mg "EarlyError" = some (.ref C1)
  g2 : mg "UndefinedName" = some (.ref C2)
  g3 : mg "EmptyHistory" = some (.ref C3)
  gF : mg "_law_field" = some (.ref fF)
  FF : Fun K "_law_field" "_law_field" sField fF fdF
  bF : Binds K fdF ["_law_e"] []
theorem outcome_gives {X : Cx} {g C1 C2 C3 fF : Addr} {fdF : FuncData} {cdg : Value} {q : Str} {k : Nat} (T : TxtO X.K X.mg C1 C2 C3 fF fdF) (hr : Room (k + 2) X.A) :
    LamX.GivesTo X ["_law_ask", "_law_e"] "_law_outcome" (defScope sOutcome) g cdg (defBody sOutcome) "_law_ask" q (TTo X.K (.ref C1) (.ref C2) (.ref C3)) := by
  intro f c' s H Q tl act hc h
  obtain ⟨oc, od, kV, doc, pm, an, cdF, ct, osl, rfl, lk, hcd⟩ := T.FF.ex
  have hrH : ∀ (e : Env) (a : Addr), L2H.RoomH 1 ((X.A.deeper e).mark (some (.ref a))) := fun e a => by
    have r := (hr.mono (show 2 ≤ k + 2 by omega)).deeper e
    exact ⟨r.dp, r.un⟩
  refine ⟨_, pss_one (ps_try_as3 (X := (cxOf C8.CX0 X.prog X.w X.K X.mg X.base ["_law_ask", "_law_e"] "_law_outcome" (defScope sOutcome) g cdg X.A X.stack s H C8.E0).nox) (i := 1)
      (c1 := .ref C1) (c2 := .ref C2) (c3 := .ref C3)
      (tb := fun W D σ G => ∃ Ech : XK, (∀ cls d σ' G', Ech cls d G' → W cls d σ' G') ∧ σ[0]? = some (some (.ref f)) ∧ G c' = some (LamX.CodeO c' q) ∧ tl Ech G (fun v G2 => (2 : Nat) ≤ sizeLine ∧ ∀ p, G2 p = none → D.rt (.ref p) (upd G2 p (.tup [.str "", v]))))
      (ts := fun a cls d => tRet (tTup (tCons (tXq X.K a cls d "tag" (tVar 1)) (tCons (fun σ G Q' => tCons (tVar 1) tNil σ G fun vs G2 => ∃ v, vs = [v] ∧ spField X.K a cls d v G2 Q') tNil))))
      rfl rfl scOutcome.nd rfl rfl ⟨rfl, by decide, .inl T.g1⟩ ⟨rfl, by decide, .inl T.g2⟩ ⟨rfl, by decide, .inl T.g3⟩ (fun W pn xe tk => ?_) (fun a oe cls d pn hz hf => ?_)), ?_⟩
  · refine pss_ex fun Ech hW => ?_
    exact pss_one (ps_ret (pe_tup (pa_cons pe_str (pa_cons (act W pn xe Ech _ _ tk hW) pa_nil))))
  · exact pss_one (ps_ret (pe_tup (pa_cons (pe_xq hz hf List.mem_cons_self (pv 1)) (pa_cons (pe_callP lk hcd scField (a, oe) List.mem_cons_self (hrH _ a) rfl T.gF T.FF.kp T.bF (fun A outer s H v Q hr h => body_field hz hf A outer s H v Q hr h) (pv 1)) pa_nil))))
  · refine ⟨OutWish X.K (.ref C1) (.ref C2) (.ref C3) Q, fun cls d σ' G hw => ⟨hw.1, fun a ha hl => ?_⟩, rfl, hc, ?_⟩
    · obtain ⟨_, t, hE, hT, kk⟩ := hw
      have at1 : (σ'.set 1 (some (V.ref a)))[1]? = some (some (V.ref a)) := List.getElem?_set_self (by rw [hl]; exact (by decide : 1 < 2))
      show tXq X.K a cls d "tag" (tVar 1) _ _ _
      refine tag_read hE at1 ?_
      exact ⟨_, at1, _, rfl, rfl, t, hE, hT, fun G' e => ⟨(by show 2 ≤ sizeLine; decide), fun p hp => kk G' p e hp⟩⟩
    · exact h
/-- a def that stands at f and is called by its name -/
structure Def (P : Program) (w : World) (K : PySem.W.Frag) (mg : Str → Option Value) (base : Heap) (CX : CXT) (k : Nat) (x : Str) (f : Addr) (fd : FuncData) (ps : List Str) (sp : Sp) : Prop where
  ok : FnOk P w K mg base CX k f fd ps sp
  g : mg x = some (.ref f)
  k : PySem.W.keepIn K (.ref f) = true
  b : Binds K fd ps []

section
variable {P : Program} {w : World} {K : PySem.W.Frag} {mg : Str → Option Value} {base : Heap}
/-! ## common_divisor -/
def spGcd : Sp := fun vs H Q _ => ∃ a b : Int, vs = [.int a, .int b] ∧ 0 ≤ a ∧ 0 ≤ b ∧ Q (.int (gcdI a b)) H
theorem scGcd : FnScope ["one", "other"] ["one", "other"] (defScope sGcd) := ⟨rfl, rfl, rfl, by decide +kernel, rfl, by decide +kernel, by decide +kernel⟩
theorem ok_gcd {f : Addr} {fd : FuncData} (F : Fun K "common_divisor" "common_divisor" sGcd f fd) : FnOk P w K mg base CX0 1 f fd ["one", "other"] spGcd := by
  refine F.ok scGcd (fun vs H Q E h => ?_) (fun cdv A outer s H vs Q E hr h => ?_)
  · obtain ⟨a, b, rfl, _⟩ := h
    rfl
  · obtain ⟨a, b, rfl, ha, hb, k⟩ := h
    refine ⟨_, pss_cons (ps_while PassesOwn.never (pt_cmpR op_ne (pv 1) pe_int (nomark _)) (pss_one (ps_par (i := 0) (j := 1) rfl scGcd.nd rfl rfl (by decide) rfl rfl (pa_cons (pv 1) (pa_cons (pe_op op_mod (pv 0) (pv 1)) pa_nil)) (by rfl)))) (pss_one (ps_ret (pv 0))), ?_⟩
    refine ⟨fun m σ G => ∃ x y : Int, σ = [some (.int x), some (.int y)] ∧ G = H ∧ m = y.toNat ∧ 0 ≤ x ∧ 0 ≤ y ∧ gcdI x y = gcdI a b, ⟨_, a, b, rfl, rfl, rfl, ha, hb, rfl⟩, ?_⟩
    rintro m σ G ⟨x, y, rfl, rfl, rfl, hx, hy, hg⟩
    refine ⟨_, rfl, rfl, _, rfl, ?_⟩
    by_cases c : y = 0
    · subst c
      refine iteNS rfl ?_
      rw [gcdI_zero hx] at hg
      refine ⟨_, rfl, ?_⟩
      rw [hg]
      exact k
    · have hy1 : 0 < y := by omega
      refine ifT (ne_int c) ⟨fun σ G1 => ∃ x' y' : Int, σ = [some (.int x'), some (.int y')] ∧ G1 = G ∧ y'.toNat < y.toNat ∧ 0 ≤ x' ∧ 0 ≤ y' ∧ gcdI x' y' = gcdI a b, ?_, ?_⟩
      · rintro σ' H' ⟨x', y', rfl, rfl, hl, h1, h2, h3⟩
        exact ⟨_, hl, x', y', rfl, rfl, rfl, h1, h2, h3⟩
      · refine ⟨_, rfl, _, rfl, _, rfl, x, y, rfl, rfl, hy1, _, _, rfl, ?_⟩
        have q1 := Int.emod_nonneg x c
        have q2 := Int.emod_lt_of_pos x hy1
        exact ⟨y, x % y, rfl, rfl, by omega, hy, q1, (gcdI_step hx hy1).trans hg⟩
end
section
variable {P : Program} {w : World} {K : PySem.W.Frag} {mg : Str → Option Value} {base : Heap}
structure TxtA (mg : Str → Option Value) : Prop where
  abs : mg "abs" = none
def spLow : Sp := fun vs H Q _ => ∃ a b : Int, vs = [.int a, .int b] ∧ b ≠ 0 ∧ b.natAbs < 2 ^ 8000 ∧ ∀ p, H p = none → Q (.ref p) (upd H p (.tup [.int (frN a b), .int (frD a b)]))
theorem scLow : FnScope ["_law_above", "_law_below", "_law_one", "_law_other"] ["_law_above", "_law_below"] (defScope sLowest) := ⟨rfl, rfl, rfl, by decide +kernel, rfl, by decide +kernel, by decide +kernel⟩
theorem ok_low {f : Addr} {fd : FuncData} (F : Fun K "_law_lowest" "_law_lowest" sLowest f fd) (T : TxtA mg) : FnOk P w K mg base CX0 1 f fd ["_law_above", "_law_below"] spLow := by
  refine F.ok scLow (fun vs H Q E h => ?_) (fun cdv A outer s H vs Q E hr h => ?_)
  · obtain ⟨a, b, rfl, _⟩ := h
    rfl
  · obtain ⟨a, b, rfl, hb, hsz, k⟩ := h
    refine ⟨_, C8.pss_cut (ps_if (pt_cmpR op_lt (pv 1) pe_int (nomark _)) (pss_one (ps_par (i := 0) (j := 1) rfl scLow.nd rfl rfl (by decide) rfl rfl (pa_cons (pe_op op_sub pe_int (pv 0)) (pa_cons (pe_op op_sub pe_int (pv 1)) pa_nil)) (by rfl))) pss_nil)
      (pss_cons (ps_par (i := 2) (j := 3) rfl scLow.nd rfl rfl (by decide) rfl rfl (pa_cons (pe_callB call_abs (by rfl) T.abs (by decide +kernel) (pa_cons (pv 0) pa_nil)) (pa_cons (pv 1) pa_nil)) (by rfl))
      (pss_cons (ps_while PassesOwn.never (pt_cmpR op_ne (pv 3) pe_int (nomark _)) (pss_one (ps_par (i := 2) (j := 3) rfl scLow.nd rfl rfl (by decide) rfl rfl (pa_cons (pv 3) (pa_cons (pe_op op_mod (pv 2) (pv 3)) pa_nil)) (by rfl))))
      (pss_one (ps_ret (pe_tup (pa_cons (pe_op op_fdivW (pv 0) (pv 2)) (pa_cons (pe_op op_fdivW (pv 1) (pv 2)) pa_nil))))))), ?_⟩
    refine ⟨fun σ G => G = H ∧ ∃ x y : Int, σ = [some (.int x), some (.int y), none, none] ∧ x = (if b < 0 then -a else a) ∧ y = (if b < 0 then -b else b), ?_, ?_⟩
    · refine ⟨_, rfl, _, _, rfl, rfl, _, rfl, ?_⟩
      by_cases c : b < 0
      · refine ifT (decide_eq_true c) ?_
        refine ⟨_, rfl, _, _, rfl, rfl, _, rfl, _, _, rfl, rfl, _, _, rfl, ?_⟩
        exact ⟨rfl, _, _, rfl, by rw [if_pos c]; omega, by rw [if_pos c]; omega⟩
      · refine ifF (decide_eq_false c) ?_
        exact ⟨rfl, a, b, rfl, by rw [if_neg c], by rw [if_neg c]⟩
    · rintro σ G ⟨rfl, x, y, rfl, ex, ey⟩
      have y1 : 0 < y := by
        rw [ey]
        split <;> omega
      have eg : gcdI x y = gcdI a b := by
        rw [ex, ey]
        by_cases c : b < 0
        · rw [if_pos c, if_pos c, gcdI_neg]
        · rw [if_neg c, if_neg c]
      refine ⟨_, rfl, _, rfl, _, rfl, _, _, rfl, ?_⟩
      refine ⟨fun m σ G' => ∃ u v : Int, σ = [some (.int x), some (.int y), some (.int u), some (.int v)] ∧ G' = G ∧ m = v.toNat ∧ 0 ≤ u ∧ 0 ≤ v ∧ gcdI u v = gcdI a b,
        ⟨_, _, y, rfl, rfl, rfl, absI_nn x, by omega, (gcdI_abs1 x y).trans eg⟩, ?_⟩
      rintro m σ G' ⟨u, v, rfl, rfl, rfl, hu, hv, hg⟩
      refine ⟨_, rfl, rfl, _, rfl, ?_⟩
      by_cases c : v = 0
      · subst c
        refine iteNS rfl ?_
        rw [gcdI_zero hu] at hg
        have gp : 0 < gcdI a b := gcdI_pos hb
        have gl : (gcdI a b).natAbs < 2 ^ 8000 := Nat.lt_of_le_of_lt (by have := gcdI_le (a := a) hb; omega) hsz
        refine ⟨_, rfl, _, rfl, _, _, rfl, rfl, wide_div (by omega) (by rw [hg]; exact gl) (by decide) (by decide), _, rfl, _, rfl, _, _, rfl, rfl, wide_div (by omega) (by rw [hg]; exact gl) (by decide) (by decide), (by show 2 ≤ sizeLine; decide), fun p hp => ?_⟩
        have q := k p hp
        unfold frN frD at q
        rw [← ex, ← ey, ← hg] at q
        exact q
      · have v1 : 0 < v := by omega
        refine ifT (ne_int c) ⟨fun σ G1 => ∃ u' v' : Int, σ = [some (.int x), some (.int y), some (.int u'), some (.int v')] ∧ G1 = G' ∧ v'.toNat < v.toNat ∧ 0 ≤ u' ∧ 0 ≤ v' ∧ gcdI u' v' = gcdI a b, ?_, ?_⟩
        · rintro σ' H' ⟨u', v', rfl, rfl, hl, h1, h2, h3⟩
          exact ⟨_, hl, u', v', rfl, rfl, rfl, h1, h2, h3⟩
        · refine ⟨_, rfl, _, rfl, _, rfl, u, v, rfl, rfl, v1, _, _, rfl, ?_⟩
          have q1 := Int.emod_nonneg u c
          have q2 := Int.emod_lt_of_pos u v1
          exact ⟨v, u % v, rfl, rfl, by omega, hv, q1, (gcdI_step hu v1).trans hg⟩
end
end K05
namespace K05
open PySem PySem.Spec PyProof.Rows L2 Ew
section
variable {P : Program} {w : World} {K : PySem.W.Frag} {mg : Str → Option Value} {base : Heap}
/-! ## spread -/
def spSpread (K : PySem.W.Frag) : Sp := fun vs H Q _ => ∃ (t : Addr) (s : List Int), vs = [.ref t] ∧ SqT K H t (s.map V.int) ∧ 0 < s.length ∧ Q (.int (lastI s - firstI s)) H
theorem scSpread : FnScope ["ascending"] ["ascending"] (defScope sSpread) := ⟨rfl, rfl, rfl, by decide +kernel, rfl, by decide +kernel, by decide +kernel⟩
theorem ok_spread {f : Addr} {fd : FuncData} (F : Fun K "spread" "spread" sSpread f fd) : FnOk P w K mg base CX0 1 f fd ["ascending"] (spSpread K) := by
  refine F.ok scSpread (fun vs H Q E h => ?_) (fun cdv A outer s H vs Q E hr h => ?_)
  · obtain ⟨t, l, rfl, _⟩ := h
    rfl
  · obtain ⟨t, l, rfl, hT, hl, k⟩ := h
    refine ⟨_, pss_one (ps_ret (pe_op op_sub (pe_ix ix_tup (pv 0) (pe_un un_neg pe_int) (fun _ _ => rfl)) (pe_ix ix_tup (pv 0) pe_int (fun _ _ => rfl)))), ?_⟩
    exact ⟨_, rfl, _, rfl, t, _, _, _, rfl, rfl, hT, at_last hl, _, rfl, t, _, _, _, rfl, rfl, hT, at_first hl, _, _, rfl, rfl, k⟩
/-! ## widest_gap -/
structure TxtW (mg : Str → Option Value) : Prop where
  max : mg "max" = none
  zip : mg "zip" = none
def spWidest (K : PySem.W.Frag) : Sp := fun vs H Q _ => ∃ (t : Addr) (s : List Int), vs = [.ref t] ∧ SqT K H t (s.map V.int) ∧ 2 ≤ s.length ∧ s.length ≤ 1000 ∧ ∀ (m : Int) (G : Hp), Same H G → m ∈ gapL s → (∀ g ∈ gapL s, g ≤ m) → Q (.int m) G
theorem scWidest : FnScope ["ascending", "left", "right"] ["ascending"] (defScope sWidestGap) := ⟨rfl, rfl, rfl, by decide +kernel, rfl, by decide +kernel, by decide +kernel⟩
theorem ok_widest {f : Addr} {fd : FuncData} (F : Fun K "widest_gap" "widest_gap" sWidestGap f fd) (T : TxtW mg) : FnOk P w K mg base CX0 1 f fd ["ascending"] (spWidest K) := by
  refine F.ok scWidest (fun vs H Q E h => ?_) (fun cdv A outer s H vs Q E hr h => ?_)
  · obtain ⟨t, l, rfl, _⟩ := h
    rfl
  · obtain ⟨t, l, rfl, hT, hl, hmax, k⟩ := h
    refine ⟨_, pss_one (ps_ret (pe_callB (cr_max rfl) (by rfl) T.max (by decide +kernel) (pa_cons
      (pe_lc (own := [("left", 1), ("right", 2)]) (g := gTup K 2 (gCons (gName 1) (gCons (gName 2) gNil))) (tt := tYes) (te := tOp (rI0 fun i j => .int (i - j)) (tVar 2) (tVar 1)) rfl scWidest.nd
        (RZ.pi_zipA (by rfl) T.zip (pa_cons (pv 0) (pa_cons (pe_slice sl_tup (pv 0) (po_some pe_int) po_none) pa_nil)))
        (blkOk_by (N := ["ascending", "left", "right"]) (sc := defScope sWidestGap) (by decide +kernel))
        (fun _ _ _ _ _ => by exact pg_tup rfl (by exact pgs_cons (pg_name (i := 1) scWidest.nd rfl (Or.inl rfl)) (by exact pgs_cons (pg_name (i := 2) scWidest.nd rfl (Or.inl rfl)) pgs_nil)))
        (fun _ _ _ _ _ => pts_nil) (fun _ _ _ _ _ => by exact pe_op op_sub (pv 2) (pv 1))) pa_nil))), ?_⟩
    refine ⟨_, rfl, _, rfl, _, rfl, t, _, rfl, hT, ?_, fun p hp => ?_⟩
    · rintro ⟨z, _⟩
      have e := HT.sIx_nat (l.map V.int).length 0 1
      rw [show (some (1 : Int)) = some ((1 : Nat) : Int) from rfl, e, List.length_map] at z
      omega
    · rw [cut_tail]
      have s1 : Same H (upd H p (.tup ((l.map V.int).drop 1))) := same_upd (Same.refl H) hp
      refine ⟨t, p, _, _, rfl, .inr ⟨seqT s1 hT, SqT.of upd_same, fun D hD => ?_⟩⟩
      refine lc_it (walk_zipM (xs := l.map V.int) (ys := (l.map V.int).drop 1) (n := l.length - 1) (by rw [List.length_drop, List.length_map]; omega)) (fun i G => Same (upd H p (.tup ((l.map V.int).drop 1))) G ∧ G D = some (.lst (((gapL l).take i).map V.int)))
        ⟨same_upd (Same.refl _) hD, upd_same⟩ (fun i G _ q => ⟨seqT q.1 (seqT s1 hT), seqT q.1 (SqT.of upd_same)⟩) ?_ ?_
      · rintro i v G G' hi ⟨e1, e2⟩ ⟨U, u, z, rfl, hU, rfl, hu, hz⟩
        have hu' : (l.map V.int)[i]? = some u := hu
        have hz' : ((l.map V.int).drop 1)[i]? = some z := hz
        rw [ints_at (by omega)] at hu'
        rw [List.getElem?_drop, Nat.add_comm, ints_at (by omega)] at hz'
        cases hu'
        cases hz'
        refine ⟨U, _, rfl, SqT.of upd_same, rfl, _, _, rfl, _, _, rfl, rfl, rfl, ?_⟩
        refine iteT (B := Same (upd H p (.tup ((l.map V.int).drop 1))) (upd G U (.tup [.int (l.getD i 0), .int (l.getD (i + 1) 0)])) ∧ upd G U (.tup [.int (l.getD i 0), .int (l.getD (i + 1) 0)]) D = some (.lst (((gapL l).take (i + 1)).map V.int))) ⟨_, rfl, _, rfl, _, _, rfl, rfl, ?_⟩
        have e4 : upd G U (.tup [.int (l.getD i 0), .int (l.getD (i + 1) 0)]) D = some (.lst (((gapL l).take i).map V.int)) := by rw [upd_ne (ne_of_none e2 hU)]; exact e2
        refine ⟨_, e4, by rw [List.length_map, List.length_take, sizeLine_eq]; omega, same_updN (same_upd e1 hU) hD, ?_⟩
        rw [upd_same, List.take_add_one, show (gapL l)[i]? = some (l.getD (i + 1) 0 - l.getD i 0) by unfold gapL; rw [List.getElem?_map, List.getElem?_range hi]; rfl]
        simp
      · rintro G ⟨e1, e2⟩
        rw [List.take_of_length_le (by rw [gapL_len]; omega)] at e2
        exact ⟨D, gapL l, rfl, SqL.of e2, by rw [gapL_len]; omega, fun m hm hg => k m G (s1.trans e1) hm hg⟩
/-! ## are_digits -/
structure TxtD (K : PySem.W.Frag) (mg : Str → Option Value) (fW fSp : Addr) : Prop where
  len : mg "len" = none
  set : mg "set" = none
  g1 : ∃ t, mg "MIN_DIGITS" = some (.int 2 t)
  g2 : ∃ t, mg "MAX_DIGITS" = some (.int 24 t)
  g3 : ∃ t, mg "MAX_DIGIT" = some (.int 99 t)
  gW : mg "widest_gap" = some (.ref fW)
  kW : PySem.W.keepIn K (.ref fW) = true
  gS : mg "spread" = some (.ref fSp)
  kS : PySem.W.keepIn K (.ref fSp) = true
def spAre (K : PySem.W.Frag) : Sp := fun vs H Q _ => ∃ (b : Int) (t : Addr) (s : List Int), vs = [.int b, .ref t] ∧ SqT K H t (s.map V.int) ∧ s.Pairwise (· ≤ ·) ∧ 2 ≤ b ∧ b ≤ 10 ∧ s.length < 64 ∧ ∀ G, Same H G → Q (.bl (areB b s)) G
theorem scAre : FnScope ["base", "ascending"] ["base", "ascending"] (defScope sAreDigits) := ⟨rfl, rfl, rfl, by decide +kernel, rfl, by decide +kernel, by decide +kernel⟩
theorem ok_are {f fW fSp : Addr} {fd fdW fdS : FuncData} (F : Fun K "are_digits" "are_digits" sAreDigits f fd) (T : TxtD K mg fW fSp) (FW : FnOk P w K mg base CX0 1 fW fdW ["ascending"] (spWidest K)) (bW : Binds K fdW ["ascending"] [])
    (FS : FnOk P w K mg base CX0 1 fSp fdS ["ascending"] (spSpread K)) (bS : Binds K fdS ["ascending"] []) : FnOk P w K mg base CX0 2 f fd ["base", "ascending"] (spAre K) := by
  obtain ⟨t1, g1⟩ := T.g1
  obtain ⟨t2, g2⟩ := T.g2
  obtain ⟨t3, g3⟩ := T.g3
  refine F.ok scAre (fun vs H Q E h => ?_) (fun cdv A outer s H vs Q E hr h => ?_)
  · obtain ⟨b, t, l, rfl, _⟩ := h
    rfl
  · obtain ⟨b, t, l, rfl, hT, hasc, b2, b10, h64, k⟩ := h
    refine ⟨_, pss_cons (ps_if (PW.pt (pw_or (pt_not (pt_chain op_le op_le (pe_glob (v := .int 2) rfl g1 ⟨_, rfl⟩) (pe_callB call_len_seq (by rfl) T.len PySem.boot_len (pa_cons (pv 1) pa_nil)) (pe_glob (v := .int 24) rfl g2 ⟨_, rfl⟩)))
          (pw_or1 (pt_cmpR op_ne (pe_lenSetA (by rfl) T.len (by rfl) T.set (pv 1)) (pe_callB call_len_seq (by rfl) T.len PySem.boot_len (pa_cons (pv 1) pa_nil)) (nomark _)))))
        (pss_one (ps_ret pe_bl)) pss_nil)
      (pss_cons (ps_if (PW.pt (pw_or (pt_cmpR op_lt (pe_ix ix_tup (pv 1) pe_int (fun _ _ => rfl)) (pe_un un_neg (pe_glob (v := .int 99) rfl g3 ⟨_, rfl⟩)) (nomark _))
          (pw_or1 (pt_cmpR op_gt (pe_ix ix_tup (pv 1) (pe_un un_neg pe_int) (fun _ _ => rfl)) (pe_glob (v := .int 99) rfl g3 ⟨_, rfl⟩) (nomark _)))))
        (pss_one (ps_ret pe_bl)) pss_nil)
      (pss_one (ps_ret (pe_cmpR op_le (pe_op op_mul (pe_call FW hr rfl T.gW T.kW bW .nil pass0 (pa_cons (pv 1) pa_nil)) (pe_op op_sub (pv 0) pe_int)) (pe_call FS hr rfl T.gS T.kS bS .nil pass0 (pa_cons (pv 1) pa_nil)) (nomark _))))), ?_⟩
    have no : ¬ AreS b l → Q (.bl false) H := fun z => by
      have q := k H (Same.refl H)
      rw [areB_f z] at q
      exact q
    refine ⟨_, rfl, t, _, rfl, .inr hT, _, _, rfl, rfl, _, rfl, ?_⟩
    rw [List.length_map]
    by_cases c1 : (2 : Int) ≤ (l.length : Int)
    · refine ifT (decide_eq_true c1) ⟨_, _, rfl, rfl, _, rfl, ?_⟩
      by_cases c2 : (l.length : Int) ≤ 24
      · rw [decide_eq_true c2]
        refine iteF ?_
        refine ⟨_, rfl, t, l, rfl, .inr hT, by omega, fun c hc => ?_⟩
        refine ⟨_, rfl, t, _, rfl, .inr hT, rfl, _, rfl, ?_⟩
        rw [List.length_map]
        by_cases c3 : l.Nodup
        · have e : (!decide (V.int (c : Int) = V.int (l.length : Int))) = false := by rw [hc.mpr c3]; simp
          refine ifF e ?_
          have lp : 0 < l.length := by omega
          refine ⟨_, rfl, t, _, _, _, rfl, rfl, hT, at_first lp, _, rfl, _, _, rfl, rfl, _, rfl, ?_⟩
          by_cases c4 : firstI l < -99
          · exact ifT (decide_eq_true c4) (iteT (no fun z => by have := z.lo; omega))
          · refine ifF (decide_eq_false c4) ⟨_, rfl, _, rfl, t, _, _, _, rfl, rfl, hT, at_last lp, _, _, rfl, rfl, _, rfl, ?_⟩
            by_cases c5 : 99 < lastI l
            · exact ifT (decide_eq_true c5) (no fun z => by have := z.hi; omega)
            · refine ifF (decide_eq_false c5) ⟨_, rfl, t, l, rfl, hT, by omega, by omega, fun m G e1 hm hg => ?_⟩
              refine ⟨_, rfl, _, _, rfl, rfl, m, b - 1, rfl, rfl, mul_smallR (by omega) (by omega), _, rfl, t, l, rfl, seqT e1 hT, lp, _, _, rfl, rfl, ?_⟩
              have q := k G e1
              by_cases c6 : m * (b - 1) ≤ lastI l - firstI l
              · rw [areB_t ⟨by omega, by omega, c3, by omega, by omega, (gap_iff b2 hm hg).mp c6⟩] at q
                show Q (V.bl (decide (m * (b - 1) ≤ lastI l - firstI l))) G
                rw [decide_eq_true c6]
                exact q
              · rw [areB_f fun z => c6 ((gap_iff b2 hm hg).mpr z.gap)] at q
                show Q (V.bl (decide (m * (b - 1) ≤ lastI l - firstI l))) G
                rw [decide_eq_false c6]
                exact q
        · have e : (!decide (V.int (c : Int) = V.int (l.length : Int))) = true := ne_int fun z => c3 (hc.mp (by omega))
          exact ifT e (no fun z => c3 z.nd)
      · rw [decide_eq_false c2]
        exact iteT (no fun z => by have := z.l24; omega)
    · exact ifF (decide_eq_false c1) ⟨_, rfl, iteT (no fun z => by have := z.l2; omega)⟩
end
end K05
namespace K05
open PySem PySem.Spec PyProof.Rows L2 Ew
section
variable {P : Program} {w : World} {K : PySem.W.Frag} {mg : Str → Option Value} {base : Heap}
/-! ## _law_are_digits -/
structure TxtLD (mg : Str → Option Value) : Prop where
  sorted : mg "sorted" = none
  len : mg "len" = none
  set : mg "set" = none
  abs : mg "abs" = none
  all : mg "all" = none
  range : mg "range" = none
def spLAre (K : PySem.W.Frag) : Sp := fun vs H Q _ => ∃ (b : Int) (a : Addr) (ds : List Int), vs = [.int b, .ref a] ∧ (SqL K H a (ds.map V.int) ∨ SqT K H a (ds.map V.int)) ∧ 2 ≤ b ∧ b ≤ 10 ∧ ds.length < 64 ∧ ∀ G, Same H G → Q (.bl (areB b (srt ds))) G
theorem scLAre : FnScope ["_law_base", "_law_digits_here", "_law_line", "_law_k"] ["_law_base", "_law_digits_here"] (defScope sLawAreDigits) := ⟨rfl, rfl, rfl, by decide +kernel, rfl, by decide +kernel, by decide +kernel⟩
theorem ok_lare {f : Addr} {fd : FuncData} (F : Fun K "_law_are_digits" "_law_are_digits" sLawAreDigits f fd) (T : TxtLD mg) : FnOk P w K mg base CX0 1 f fd ["_law_base", "_law_digits_here"] (spLAre K) := by
  refine F.ok scLAre (fun vs H Q E h => ?_) (fun cdv A outer s H vs Q E hr h => ?_)
  · obtain ⟨b, a, ds, rfl, _⟩ := h
    rfl
  · obtain ⟨b, a, ds, rfl, hA, b2, b10, h64, k⟩ := h
    refine ⟨_, pss_cons (ps_set (i := 2) scLAre.nd rfl (Or.inr rfl) (pe_callB cr_sortA (by rfl) T.sorted (by decide +kernel) (pa_cons (pv 1) pa_nil)))
      (pss_cons (ps_if (PW.pt (pw_or (pt_not (pt_chain op_le op_le pe_int (pe_callB call_len_seq (by rfl) T.len PySem.boot_len (pa_cons (pv 2) pa_nil)) pe_int))
          (pw_or1 (pt_cmpR op_ne (pe_lenSetA (by rfl) T.len (by rfl) T.set (pv 2)) (pe_callB call_len_seq (by rfl) T.len PySem.boot_len (pa_cons (pv 2) pa_nil)) (nomark _)))))
        (pss_one (ps_ret pe_bl)) pss_nil)
      (pss_cons (ps_if (PW.pt (pw_or (pt_cmpR op_gt (pe_callB call_abs (by rfl) T.abs (by decide +kernel) (pa_cons (pe_ix ix_list (pv 2) pe_int (fun _ _ => rfl)) pa_nil)) pe_int (nomark _))
          (pw_or1 (pt_cmpR op_gt (pe_callB call_abs (by rfl) T.abs (by decide +kernel) (pa_cons (pe_ix ix_list (pv 2) (pe_un un_neg pe_int) (fun _ _ => rfl)) pa_nil)) pe_int (nomark _)))))
        (pss_one (ps_ret pe_bl)) pss_nil)
      (pss_one (ps_ret (pe_callB (cr_all rfl) (by rfl) T.all (by decide +kernel) (pa_cons
        (pe_lc (own := [("_law_k", 3)]) (g := gName 3) (tt := tYes)
          (te := tOp (rI0 fun i j => .bl (decide (i ≤ j))) (tOp (rI CMul fun i j => .int (i * j)) (tOp (rI0 fun i j => .int (i - j)) (tOp (rIxL K) (tVar 2) (tOp (rI0 fun i j => .int (i + j)) (tVar 3) (tC (.int 1)))) (tOp (rIxL K) (tVar 2) (tVar 3))) (tOp (rI0 fun i j => .int (i - j)) (tVar 0) (tC (.int 1))))
            (tOp (rI0 fun i j => .int (i - j)) (tOp (rIxL K) (tVar 2) (tUn (rU fun i => .int (-i)) (tC (.int 1)))) (tOp (rIxL K) (tVar 2) (tC (.int 0)))))
          rfl scLAre.nd (pi_range1 rfl T.range (pa_cons (pe_op op_sub (pe_callB call_len_seq (by rfl) T.len PySem.boot_len (pa_cons (pv 2) pa_nil)) pe_int) pa_nil))
          (blkOk_by (N := ["_law_base", "_law_digits_here", "_law_line", "_law_k"]) (sc := defScope sLawAreDigits) (by decide +kernel))
          (fun _ _ _ _ _ => by exact pg_name (i := 3) scLAre.nd rfl (Or.inl rfl)) (fun _ _ _ _ _ => pts_nil)
          (fun _ _ _ _ _ => by exact pe_cmpR op_le (pe_op op_mul (pe_op op_sub (pe_ix ix_list (pv 2) (pe_op op_add (pv 3) pe_int) (fun _ _ => rfl)) (pe_ix ix_list (pv 2) (pv 3) (fun _ _ => rfl))) (pe_op op_sub (pv 0) pe_int)) (pe_op op_sub (pe_ix ix_list (pv 2) (pe_un un_neg pe_int) (fun _ _ => rfl)) (pe_ix ix_list (pv 2) pe_int (fun _ _ => rfl))) (nomark _))) pa_nil)))))), ?_⟩
    refine ⟨_, rfl, a, ds, rfl, hA, h64, fun ms p hp hasc hnew => ?_⟩
    rw [← srt_eq hp hasc] at k
    have hlen : ms.length < 64 := by rw [hp.length_eq]; exact h64
    have s1 : Same H (upd H p (.lst (ms.map V.int))) := same_upd (Same.refl H) hnew
    have no : ∀ G, Same H G → ¬ AreS b ms → Q (.bl false) G := fun G e z => by
      have q := k G e
      rw [areB_f z] at q
      exact q
    clear hp hA h64
    refine ⟨_, rfl, p, _, rfl, .inl (SqL.of upd_same), _, _, rfl, rfl, _, rfl, ?_⟩
    rw [List.length_map]
    by_cases c1 : (2 : Int) ≤ (ms.length : Int)
    · refine ifT (decide_eq_true c1) ⟨_, _, rfl, rfl, _, rfl, ?_⟩
      by_cases c2 : (ms.length : Int) ≤ 24
      · rw [decide_eq_true c2]
        refine iteF ?_
        refine ⟨_, rfl, p, ms, rfl, .inl (SqL.of upd_same), by omega, fun c hc => ?_⟩
        refine ⟨_, rfl, p, _, rfl, .inl (SqL.of upd_same), rfl, _, rfl, ?_⟩
        rw [List.length_map]
        by_cases c3 : ms.Nodup
        · have e : (!decide (V.int (c : Int) = V.int (ms.length : Int))) = false := by rw [hc.mpr c3]; simp
          refine ifF e ?_
          have lp : 0 < ms.length := by omega
          have fl := first_le_last hasc lp
          refine ⟨_, rfl, p, _, _, _, rfl, rfl, SqL.of upd_same, at_first lp, _, rfl, _, _, rfl, rfl, _, rfl, ?_⟩
          by_cases c4 : 99 < absI (firstI ms)
          · refine ifT (decide_eq_true c4) (iteT (no _ s1 fun z => ?_))
            have := z.lo
            have := z.hi
            unfold absI at c4
            split at c4 <;> omega
          · refine ifF (decide_eq_false c4) ⟨_, rfl, _, rfl, p, _, _, _, rfl, rfl, SqL.of upd_same, at_last lp, _, rfl, _, _, rfl, rfl, _, rfl, ?_⟩
            by_cases c5 : 99 < absI (lastI ms)
            · refine ifT (decide_eq_true c5) (no _ s1 fun z => ?_)
              have := z.lo
              have := z.hi
              unfold absI at c5
              split at c5 <;> omega
            · refine ifF (decide_eq_false c5) ⟨_, rfl, p, _, rfl, .inl (SqL.of upd_same), _, _, rfl, rfl, _, rfl, ?_, ?_, fun D hD => ?_⟩
              · rw [List.length_map]
                have : (2 : Int) ^ 62 = 4611686018427387904 := by decide
                omega
              · rw [List.length_map]
                have : (2 : Int) ^ 62 = 4611686018427387904 := by decide
                omega
              · rw [List.length_map]
                have en : ((ms.length : Int) - 1).toNat = ms.length - 1 := by omega
                rw [en]
                refine lc_range (lo := 0) (n := ms.length - 1) (fun i G => Same (upd H p (.lst (ms.map V.int))) G ∧ G D = some (.lst (((List.range i).map fun j => decide ((ms.getD (j + 1) 0 - ms.getD j 0) * (b - 1) ≤ lastI ms - firstI ms)).map V.bl)))
                  ⟨same_upd (Same.refl _) hD, upd_same⟩ ?_ ?_
                · rintro i G hi ⟨e1, e2⟩
                  have hL : SqL K G p (ms.map V.int) := e1.seq (SqL.of upd_same)
                  refine ⟨rfl, ?_⟩
                  refine iteT (B := Same (upd H p (.lst (ms.map V.int))) G ∧ G D = some (.lst (((List.range (i + 1)).map fun j => decide ((ms.getD (j + 1) 0 - ms.getD j 0) * (b - 1) ≤ lastI ms - firstI ms)).map V.bl))) ?_
                  refine ⟨_, rfl, _, rfl, _, _, rfl, rfl, p, _, _, _, rfl, rfl, hL, at_int (i := i + 1) (by omega) (by omega), _, rfl, _, rfl, p, _, _, _, rfl, rfl, hL, at_int (i := i) (by omega) (by omega), _, _, rfl, rfl, _, rfl, _, _, rfl, rfl, _, _, rfl, rfl, mul_smallR (by omega) (by omega),
                    _, rfl, _, rfl, p, _, _, _, rfl, rfl, hL, at_last lp, _, rfl, p, _, _, _, rfl, rfl, hL, at_first lp, _, _, rfl, rfl, _, _, rfl, rfl, ?_⟩
                  refine ⟨_, e2, by rw [List.length_map, List.length_map, List.length_range, sizeLine_eq]; omega, same_updN e1 hD, ?_⟩
                  rw [upd_same, List.range_succ, List.map_append, List.map_append]
                  rfl
                · rintro G ⟨e1, e2⟩
                  refine ⟨D, _, rfl, SqL.of e2, ?_⟩
                  have q := k G (s1.trans e1)
                  by_cases c6 : ∀ i, i + 1 < ms.length → (ms.getD (i + 1) 0 - ms.getD i 0) * (b - 1) ≤ lastI ms - firstI ms
                  · have ok : AreS b ms := ⟨by omega, by omega, c3, by unfold absI at c4; split at c4 <;> omega, by unfold absI at c5; split at c5 <;> omega, c6⟩
                    rw [areB_t ok] at q
                    rw [show (((List.range (ms.length - 1)).map fun j => decide ((ms.getD (j + 1) 0 - ms.getD j 0) * (b - 1) ≤ lastI ms - firstI ms)).all id) = true from by
                      rw [List.all_eq_true]
                      intro x hx
                      obtain ⟨j, hj, rfl⟩ := List.mem_map.mp hx
                      exact decide_eq_true (c6 j (by have := List.mem_range.mp hj; omega))]
                    exact q
                  · rw [areB_f fun z => c6 z.gap] at q
                    rw [show (((List.range (ms.length - 1)).map fun j => decide ((ms.getD (j + 1) 0 - ms.getD j 0) * (b - 1) ≤ lastI ms - firstI ms)).all id) = false from by
                      refine Bool.eq_false_iff.mpr fun z => c6 fun i hi => ?_
                      have := List.all_eq_true.mp z _ (List.mem_map.mpr ⟨i, List.mem_range.mpr (by omega), rfl⟩)
                      exact of_decide_eq_true this]
                    exact q
        · have e : (!decide (V.int (c : Int) = V.int (ms.length : Int))) = true := ne_int fun z => c3 (hc.mp (by omega))
          exact ifT e (no _ s1 fun z => c3 z.nd)
      · rw [decide_eq_false c2]
        exact iteT (no _ s1 fun z => by have := z.l24; omega)
    · exact ifF (decide_eq_false c1) ⟨_, rfl, iteT (no _ s1 fun z => by have := z.l2; omega)⟩
end
end K05
namespace K05
open PySem PySem.Spec PyProof.Rows L2 Ew
section
variable {P : Program} {w : World} {K : PySem.W.Frag} {mg : Str → Option Value} {base : Heap}
theorem scInitBase : FnScope ["self"] ["self"] (defScope sInvalidBase_init) := ⟨rfl, rfl, rfl, by decide +kernel, rfl, by decide +kernel, by decide +kernel⟩
theorem ok_initBase {f C fI : Addr} {fd : FuncData} (F : Fun K "__init__" "InvalidBase.__init__" sInvalidBase_init f fd) (T : ErrT K mg "InvalidBase" C fI) : FnOk P w K mg base CX0 1 f fd ["self"] (spInitTag K C "InvalidBase") := by
  refine F.ok scInitBase (fun vs H Q E h => ?_) (fun cdv A outer s H vs Q E hr h => ?_)
  · obtain ⟨a, rfl, _⟩ := h
    rfl
  · obtain ⟨a, rfl, ha, k⟩ := h
    exact ⟨_, pss_one (ps_ost (pv 0) pe_str), _, rfl, a, C, rfl, T.oex, T.nT, .inl ⟨ha, k⟩⟩
theorem scInitDigits : FnScope ["self"] ["self"] (defScope sInvalidDigits_init) := ⟨rfl, rfl, rfl, by decide +kernel, rfl, by decide +kernel, by decide +kernel⟩
theorem ok_initDigits {f C fI : Addr} {fd : FuncData} (F : Fun K "__init__" "InvalidDigits.__init__" sInvalidDigits_init f fd) (T : ErrT K mg "InvalidDigits" C fI) : FnOk P w K mg base CX0 1 f fd ["self"] (spInitTag K C "InvalidDigits") := by
  refine F.ok scInitDigits (fun vs H Q E h => ?_) (fun cdv A outer s H vs Q E hr h => ?_)
  · obtain ⟨a, rfl, _⟩ := h
    rfl
  · obtain ⟨a, rfl, ha, k⟩ := h
    exact ⟨_, pss_one (ps_ost (pv 0) pe_str), _, rfl, a, C, rfl, T.oex, T.nT, .inl ⟨ha, k⟩⟩
/-! ## DigitSet -/
def dsF (b : Int) (t : Addr) : List (Str × V) := putF "digits" (.ref t) (putF "base" (.int b) [])
theorem dsF_base (b : Int) (t : Addr) : (dsF b t).lookup ("base" : Str) = some (.int b) := by
  unfold dsF
  rw [lookup_putF, if_neg (by decide +kernel), lookup_putF, if_pos rfl]
theorem dsF_digits (b : Int) (t : Addr) : (dsF b t).lookup ("digits" : Str) = some (.ref t) := by
  unfold dsF
  rw [lookup_putF, if_pos rfl]
structure TxtDS (K : PySem.W.Frag) (mg : Str → Option Value) (CD CB CI fIB fID fA : Addr) : Prop where
  cl : Cls K CD
  nB : NoAttr K CD "base"
  nD : NoAttr K CD "digits"
  gB : ∃ t, mg "MIN_BASE" = some (.int 2 t)
  gX : ∃ t, mg "MAX_BASE" = some (.int 10 t)
  eB : ErrT K mg "InvalidBase" CB fIB
  eD : ErrT K mg "InvalidDigits" CI fID
  tuple : mg "tuple" = none
  sorted : mg "sorted" = none
  len : mg "len" = none
  gA : mg "are_digits" = some (.ref fA)
  kA : PySem.W.keepIn K (.ref fA) = true
def spSetInit (K : PySem.W.Frag) (CD CB CI : Addr) : Sp := fun vs H Q E => ∃ (x dx a : Addr) (b : Int) (ds : List Int), vs = [.ref x, .int b, .ref a] ∧ H x = some (.ins CD dx []) ∧ (SqL K H a (ds.map V.int) ∨ SqT K H a (ds.map V.int)) ∧ ds.length < 64 ∧
  (¬ (2 ≤ b ∧ b ≤ 10) → ∀ d, H d = none → E (.ref CB) (some d) (upd H d (.xd [("tag", .str "InvalidBase")]))) ∧
  (2 ≤ b → b ≤ 10 → ¬ AreS b (srt ds) → ∀ G d, Same H G → G d = none → E (.ref CI) (some d) (upd G d (.xd [("tag", .str "InvalidDigits")]))) ∧
  (2 ≤ b → b ≤ 10 → AreS b (srt ds) → ∀ G t, (∀ c o, H c = some o → c ≠ x → G c = some o) → H t = none → G x = some (.ins CD dx (dsF b t)) → G t = some (.tup ((srt ds).map V.int)) → Q .non G)
theorem scSetInit : FnScope ["self", "base", "digits", "ascending"] ["self", "base", "digits"] (defScope sDigitSet_init) := ⟨rfl, rfl, rfl, by decide +kernel, rfl, by decide +kernel, by decide +kernel⟩
theorem raise_tag {H : Hp} {C : Addr} {t : Str} {E : XK} {K : PySem.W.Frag} (h : ∀ d, H d = none → E (.ref C) (some d) (upd H d (.xd [("tag", .str t)]))) {σ : L2.St} : tMk0 C (spInitTag K C t) σ H fun cls d H' => E cls d H' := fun a ha => by
  refine ⟨a, rfl, upd_same, fun dx hdx ne => ⟨rfl, dx, [("tag", .str t)], upd_same, ?_, ?_, ?_⟩⟩
  · rw [upd_ne ne, upd_same]
  · rw [upd_ne ne] at hdx
    exact hdx
  · rw [raise_heap ha hdx ne]
    rw [upd_ne ne] at hdx
    exact h dx hdx
theorem ok_setInit {f CD CB CI fIB fID fA : Addr} {fd fdB fdD fdA : FuncData} (F : Fun K "__init__" "DigitSet.__init__" sDigitSet_init f fd) (T : TxtDS K mg CD CB CI fIB fID fA)
    (FB : FnOk P w K mg base CX0 1 fIB fdB ["self"] (spInitTag K CB "InvalidBase")) (bB : Binds K fdB ["self"] []) (FD : FnOk P w K mg base CX0 1 fID fdD ["self"] (spInitTag K CI "InvalidDigits")) (bD : Binds K fdD ["self"] [])
    (FA : FnOk P w K mg base CX0 2 fA fdA ["base", "ascending"] (spAre K)) (bA : Binds K fdA ["base", "ascending"] []) : FnOk P w K mg base (L2.CX P w) 3 f fd ["self", "base", "digits"] (spSetInit K CD CB CI) := by
  obtain ⟨t1, g1⟩ := T.gB
  obtain ⟨t2, g2⟩ := T.gX
  refine F.okX scSetInit (fun vs H Q E h => ?_) (fun cdv A outer s H vs Q E hr h => ?_)
  · obtain ⟨x, dx, a, b, ds, rfl, _⟩ := h
    rfl
  · obtain ⟨x, dx, a, b, ds, rfl, hx, hA, h64, kB, kD, kQ⟩ := h
    refine ⟨_, pss_cons (ps_if (pt_not (pt_chain op_le op_le (pe_glob (v := .int 2) rfl g1 ⟨_, rfl⟩) (pv 1) (pe_glob (v := .int 10) rfl g2 ⟨_, rfl⟩))) (pss_one (ps_raise rfl (takes_of rfl rfl rfl rfl) (pmk0 T.eB.oex T.eB.iC T.eB.tI FB hr bB pass0 rfl T.eB.gC))) pss_nil)
      (pss_cons (ps_set (i := 3) scSetInit.nd rfl (Or.inl rfl) (pe_callTy call_tuple_of (by rfl) T.tuple (by decide +kernel) (pa_cons (pe_callB cr_sortA (by rfl) T.sorted (by decide +kernel) (pa_cons (pv 2) pa_nil)) pa_nil)))
      (pss_cons (ps_if (pt_not (pt_val (pe_call FA hr rfl T.gA T.kA bA .nil pass0 (pa_cons (pv 1) (pa_cons (pv 3) pa_nil))))) (pss_one (ps_raise rfl (takes_of rfl rfl rfl rfl) (pmk0 T.eD.oex T.eD.iC T.eD.tI FD hr bD pass0 rfl T.eD.gC))) pss_nil)
      (pss_cons (ps_fld (pv 0) (pv 1) rfl) (pss_one (ps_fld (pv 0) (pv 3) rfl))))), ?_⟩
    refine ⟨_, rfl, _, _, rfl, rfl, _, rfl, ?_⟩
    by_cases c1 : 2 ≤ b
    · refine ifT (decide_eq_true c1) ⟨_, _, rfl, rfl, _, rfl, ?_⟩
      by_cases c2 : b ≤ 10
      · rw [decide_eq_true c2]
        refine iteF ?_
        refine ⟨_, rfl, a, ds, rfl, hA, h64, fun ms p hp hasc hnew => ?_⟩
        have em := srt_eq hp hasc
        have s1 : Same H (upd H p (.lst (ms.map V.int))) := same_upd (Same.refl H) hnew
        refine ⟨p, _, rfl, .inl ⟨SqL.of upd_same, fun t ht => ?_⟩⟩
        have s2 : Same H (upd (upd H p (.lst (ms.map V.int))) t (.tup (ms.map V.int))) := same_upd s1 ht
        refine ⟨_, rfl, _, rfl, b, t, ms, rfl, SqT.of upd_same, hasc, c1, c2, by rw [hp.length_eq]; exact h64, fun G e => ?_⟩
        have s3 := s2.trans e
        have gt : G t = some (.tup (ms.map V.int)) := e _ _ upd_same
        rw [em] at gt ⊢
        by_cases c3 : AreS b (srt ds)
        · refine ⟨_, rfl, ?_⟩
          rw [areB_t c3]
          refine iteF ?_
          have gx := s3 _ _ hx
          have nxt : x ≠ t := ne_of gx gt (by intro z; cases z)
          refine ⟨_, rfl, _, rfl, x, CD, dx, [], rfl, gx, T.cl, T.nB, (by show 0 < 1000; decide), _, rfl, _, rfl, x, CD, dx, _, rfl, upd_same, T.cl, T.nD, (by show 1 < 1000; decide), ?_⟩
          refine kQ c1 c2 c3 _ t (fun q o hq nq => ?_) (s1.free ht) upd_same ?_
          · rw [upd_ne nq, upd_ne nq]
            exact s3 _ _ hq
          · rw [upd_ne nxt.symm, upd_ne nxt.symm]
            exact gt
        · refine ⟨_, rfl, ?_⟩
          rw [areB_f c3]
          exact iteT (raise_tag fun d hd => kD c1 c2 c3 G d s3 hd)
      · rw [decide_eq_false c2]
        exact iteT (raise_tag fun d hd => kB (fun z => c2 z.2) d hd)
    · exact ifF (decide_eq_false c1) ⟨_, rfl, iteT (raise_tag fun d hd => kB (fun z => c1 z.1) d hd)⟩
def spSetLen (CD : Addr) : Sp := fun vs H Q _ => ∃ (x dx t : Addr) (b : Int) (xs : List V), vs = [.ref x] ∧ H x = some (.ins CD dx (dsF b t)) ∧ H t = some (.tup xs) ∧ Q (.int xs.length) H
theorem scSetLen : FnScope ["self"] ["self"] (defScope sDigitSet_len) := ⟨rfl, rfl, rfl, by decide +kernel, rfl, by decide +kernel, by decide +kernel⟩
theorem ok_setLen {f CD CB CI fIB fID fA : Addr} {fd : FuncData} (F : Fun K "__len__" "DigitSet.__len__" sDigitSet_len f fd) (T : TxtDS K mg CD CB CI fIB fID fA) : FnOk P w K mg base CX0 1 f fd ["self"] (spSetLen CD) := by
  refine F.ok scSetLen (fun vs H Q E h => ?_) (fun cdv A outer s H vs Q E hr h => ?_)
  · obtain ⟨x, dx, t, b, xs, rfl, _⟩ := h
    rfl
  · obtain ⟨x, dx, t, b, xs, rfl, hx, ht, k⟩ := h
    refine ⟨_, pss_one (ps_ret (pe_callB call_len_seq (by rfl) T.len PySem.boot_len (pa_cons (pe_fld (pv 0) rfl) pa_nil))), ?_⟩
    exact ⟨_, rfl, x, CD, dx, _, _, rfl, hx, T.cl, T.nD, dsF_digits b t, t, _, rfl, .inr (SqT.of ht), k⟩
end
end K05
namespace K05
open PySem PySem.Spec PyProof.Rows L2 Ew
section
variable {P : Program} {w : World} {K : PySem.W.Frag} {mg : Str → Option Value} {base : Heap}
/-! ## _law_digits -/
structure TxtLG (mg : Str → Option Value) : Prop where
  list : mg "list" = none
  range : mg "range" = none
  len : mg "len" = none
def spLDigits : Sp := fun vs H Q _ => ∃ (p q : Addr) (ns : List Int) (i v sd b m : Int), vs = [.ref p, .int b, .int m] ∧ RngAt H p q ns i v sd ∧ 2 ≤ b ∧ b ≤ 10 ∧ b ≤ m ∧ m ≤ 20 ∧
  ∀ (G : Hp) (d : Addr) (ds : List Int) (i' v' sd' : Int), KeepBut p H G → RngAt G p q ns i' v' sd' → H d = none → G d = some (.lst (ds.map V.int)) → Dig b ds → Q (.ref d) G
def ldN : List Str := ["_law_rng", "_law_base", "_law_most", "_law_many", "_law_front", "_law_line", "_law_turn", "_law_fewer", "_law_unit", "_law_digit"]
theorem scLDigits : FnScope ldN ["_law_rng", "_law_base", "_law_most"] (defScope sLawDigits) := ⟨rfl, rfl, rfl, by decide +kernel, rfl, by decide +kernel, by decide +kernel⟩
theorem ok_ldigits {f fD fP fA : Addr} {fd fdD fdP fdA : FuncData} (F : Fun K "_law_digits" "_law_digits" sLawDigits f fd) (T : TxtLG mg) (D : Def P w K mg base CX0 1 "_law_draw" fD fdD ["_law_rng", "_law_many"] spDraw) (Pk : Def P w K mg base CX0 2 "_law_pick" fP fdP ["_law_rng", "_law_items"] (spPick K))
    (LA : Def P w K mg base CX0 1 "_law_are_digits" fA fdA ["_law_base", "_law_digits_here"] (spLAre K)) : FnOk P w K mg base CX0 3 f fd ["_law_rng", "_law_base", "_law_most"] spLDigits := by
  refine F.ok scLDigits (fun vs H Q E h => ?_) (fun cdv A outer s H vs Q E hr h => ?_)
  · obtain ⟨p, q, ns, i, v, sd, b, m, rfl, _⟩ := h
    rfl
  · obtain ⟨p, q, ns, i, v, sd, b, m, rfl, R, b2, b10, bm, m20, k⟩ := h
    have r1' : Room 1 _ := hr.mono (by decide)
    refine ⟨_, pss_cons (ps_set (i := 3) scLDigits.nd rfl (Or.inl rfl) (pe_op op_add (pv 1) (pe_call D.ok r1' rfl D.g D.k D.b .nil pass0 (pa_cons (pv 0) (pa_cons (pe_op op_add (pe_op op_sub (pv 2) (pv 1)) pe_int) pa_nil)))))
      (pss_cons (ps_set (i := 4) scLDigits.nd rfl (Or.inl rfl) (pe_call Pk.ok hr rfl Pk.g Pk.k Pk.b .nil pass0 (pa_cons (pv 0) (pa_cons (pe_lst (pa_cons (pe_op op_sub pe_int (pe_op op_fdiv (pv 3) pe_int)) (pa_cons pe_int (pa_cons (pe_op op_sub (pe_call D.ok r1' rfl D.g D.k D.b .nil pass0 (pa_cons (pv 0) (pa_cons pe_int pa_nil))) pe_int) pa_nil)))) pa_nil))))
      (pss_cons (ps_set (i := 5) scLDigits.nd rfl (Or.inl rfl) (pe_listRg rfl rfl T.list (prg_2 rfl T.range (pv 4) (pe_op op_add (pv 4) (pv 3)))))
      (pss_cons (ps_for PassesOwn.never rfl (pi_range1 rfl T.range (pa_cons (pe_call D.ok r1' rfl D.g D.k D.b .nil pass0 (pa_cons (pv 0) (pa_cons pe_int pa_nil))) pa_nil)) (pg_name (i := 6) scLDigits.nd rfl (Or.inl rfl))
        (pss_cons (ps_set (i := 7) scLDigits.nd rfl (Or.inl rfl) (pe_callTy call_list_of (by rfl) T.list (by decide +kernel) (pa_cons (pv 5) pa_nil)))
        (pss_cons (ps_expr (pe_bm PySem.F.plainAttrs_list PySem.F.slot_list_pop PySem.F.type_list_pop mt_popAt (pv 7) (pa_cons (pe_call D.ok r1' rfl D.g D.k D.b .nil pass0 (pa_cons (pv 0) (pa_cons (pe_callB call_len_seq (by rfl) T.len PySem.boot_len (pa_cons (pv 5) pa_nil)) pa_nil))) pa_nil)))
        (pss_one (ps_if (PW.pt (pw_and (pt_cmpR op_gt (pe_callB call_len_seq (by rfl) T.len PySem.boot_len (pa_cons (pv 7) pa_nil)) pe_int (nomark _)) (pw_and1 (pt_val (pe_call LA.ok r1' rfl LA.g LA.k LA.b .nil pass0 (pa_cons (pv 1) (pa_cons (pv 7) pa_nil)))))))
          (pss_one (ps_set (i := 5) scLDigits.nd rfl (Or.inl rfl) (pv 7))) pss_nil)))))
      (pss_cons (ps_set (i := 8) scLDigits.nd rfl (Or.inr rfl) (pe_call Pk.ok hr rfl Pk.g Pk.k Pk.b .nil pass0 (pa_cons (pv 0) (pa_cons (pe_lst (pa_cons pe_int (pa_cons pe_int (pa_cons pe_int (pa_cons pe_int pa_nil))))) pa_nil))))
      (pss_one (ps_ret (pe_lc (own := [("_law_digit", 9)]) (g := gName 9) (tt := tYes) (te := tOp (rI CMul fun i j => .int (i * j)) (tVar 9) (tVar 8)) rfl scLDigits.nd (pi_list (pv 5))
        (blkOk_by (N := ldN) (sc := defScope sLawDigits) (by decide +kernel)) (fun _ _ _ _ _ => by exact pg_name (i := 9) scLDigits.nd rfl (Or.inl rfl)) (fun _ _ _ _ _ => pts_nil) (fun _ _ _ _ _ => by exact pe_op op_mul (pv 9) (pv 8))))))))), ?_⟩
    have small : ∀ z : Int, 0 ≤ z → z ≤ 1000 → z.natAbs < 2 ^ 8000 := fun z h0 h1 => big_lt (n := 10) (Nat.lt_of_le_of_lt (by omega : z.natAbs ≤ 1000) (by decide)) (by decide)
    -- many
    refine ⟨_, rfl, _, rfl, _, rfl, _, rfl, _, _, rfl, rfl, _, _, rfl, rfl, p, q, ns, i, v, sd, m - b + 1, rfl, R, by omega, small _ (by omega) (by omega), fun x1 i1 v1 sd1 x10 x11 ok1 => ?_⟩
    have R1 := R.next ok1
    have K1 : KeepBut p H _ := KeepBut.put (o := .lst (rngL q i1 v1 sd1))
    generalize upd H p (.lst (rngL q i1 v1 sd1)) = G1 at R1 K1
    refine ⟨_, _, rfl, rfl, ?_⟩
    have mn0 : b ≤ b + x1 := by omega
    have mn1 : b + x1 ≤ 20 := by omega
    -- front
    refine ⟨_, rfl, _, rfl, b + x1, 2, rfl, rfl, ⟨by decide, by decide⟩, _, _, rfl, rfl, _, rfl, p, q, ns, i1, v1, sd1, 9, rfl, R1, by decide, small _ (by decide) (by decide), fun x2 i2 v2 sd2 x20 x21 ok2 => ?_⟩
    have R2 := R1.next ok2
    have K2 : KeepBut p H _ := K1.trans (KeepBut.put (o := .lst (rngL q i2 v2 sd2)))
    generalize upd G1 p (.lst (rngL q i2 v2 sd2)) = G2 at R2 K2
    refine ⟨_, _, rfl, rfl, (by show 3 ≤ sizeLine; decide), fun l hl => ?_⟩
    have R3 := R2.same (same_upd (o := .lst [.int (0 - (b + x1) / 2), .int 0, .int (x2 - 6)]) (Same.refl G2) hl)
    have K3 : KeepBut p H _ := K2.trans (KeepBut.new (o := .lst [.int (0 - (b + x1) / 2), .int 0, .int (x2 - 6)]) hl)
    refine ⟨p, q, l, ns, i2, v2, sd2, _, rfl, R3, upd_same, R2.free hl, (by simp), (by show 3 ≤ 1000; decide), fun x i3 v3 sd3 hx ok3 => ?_⟩
    obtain ⟨fr, rfl, f0, f1⟩ : ∃ fr : Int, x = .int fr ∧ -10 ≤ fr ∧ fr ≤ 2 := by
      rcases List.mem_cons.mp hx with e | hx
      · exact ⟨_, e, by omega, by omega⟩
      · rcases List.mem_cons.mp hx with e | hx
        · exact ⟨0, e, by decide, by decide⟩
        · rcases List.mem_cons.mp hx with e | hx
          · exact ⟨_, e, by omega, by omega⟩
          · cases hx
    have R4 := R3.next ok3
    have K4 : KeepBut p H _ := K3.trans (KeepBut.put (o := .lst (rngL q i3 v3 sd3)))
    generalize upd (upd G2 l (.lst [.int (0 - (b + x1) / 2), .int 0, .int (x2 - 6)])) p (.lst (rngL q i3 v3 sd3)) = G4 at R4 K4
    -- line
    have p62 : (2 : Int) ^ 62 = 4611686018427387904 := by decide
    refine ⟨_, rfl, _, rfl, _, rfl, _, _, rfl, rfl, _, _, rfl, rfl, ⟨by omega, by omega, by omega, by omega, by omega⟩, fun l5 h5 => ?_⟩
    have er : rgV fr (fr + (b + x1)) = (runL fr (b + x1).toNat).map V.int := by
      unfold rgV runL
      rw [List.map_map, show (fr + (b + x1) - fr).toNat = (b + x1).toNat by omega]
      rfl
    have R5 := R4.same (same_upd (o := .lst (rgV fr (fr + (b + x1)))) (Same.refl G4) h5)
    have K5 : KeepBut p H _ := K4.trans (KeepBut.new (o := .lst (rgV fr (fr + (b + x1)))) h5)
    have a5 : upd G4 l5 (.lst (rgV fr (fr + (b + x1)))) l5 = some (.lst ((runL fr (b + x1).toNat).map V.int)) := by rw [upd_same, er]
    have d5 : Dig b (runL fr (b + x1).toNat) := runL_dig b2 (by omega) (by omega) (by omega) (by omega)
    have m5 : ∀ d ∈ runL fr (b + x1).toNat, -40 ≤ d ∧ d ≤ 40 := fun d hd => by have := runL_mem hd; omega
    have n5 : H l5 = none := K4.free (R4.free h5) h5
    generalize upd G4 l5 (.lst (rgV fr (fr + (b + x1)))) = G5 at R5 K5 a5
    -- the turns
    refine ⟨_, rfl, p, q, ns, i3, v3, sd3, 3, rfl, R5, by decide, small _ (by decide) (by decide), fun x6 i6 v6 sd6 x60 x61 ok6 => ?_⟩
    have R6 := R5.next ok6
    have K6 : KeepBut p H _ := K5.trans (KeepBut.put (o := .lst (rngL q i6 v6 sd6)))
    have n6 : l5 ≠ p := fun e => by
      have z := R5.at_p
      rw [← e, a5] at z
      have z2 := Option.some.inj z
      injection z2 with z3
      have z4 := congrArg List.length z3
      rw [List.length_map, runL_len] at z4
      have z5 := congrArg (fun l : List V => l[0]?) z3
      rw [show ((runL fr (b + x1).toNat).map V.int)[0]? = some (.int ((runL fr (b + x1).toNat).getD 0 0)) from ints_at (by rw [runL_len]; omega)] at z5
      cases z5
    have a6 : upd G5 p (.lst (rngL q i6 v6 sd6)) l5 = some (.lst ((runL fr (b + x1).toNat).map V.int)) := by rw [upd_ne n6]; exact a5
    generalize upd G5 p (.lst (rngL q i6 v6 sd6)) = G6 at R6 K6 a6
    refine ⟨x6, rfl, by omega, by omega, for_range (lo := 0) (n := x6.toNat) (fun _ σ G => ∃ (l : Addr) (ds : List Int) (i' v' sd' : Int) (o6 o7 : Option V), σ = [some (.ref p), some (.int b), some (.int m), some (.int (b + x1)), some (.int fr), some (.ref l), o6, o7, none, none] ∧
        KeepBut p H G ∧ RngAt G p q ns i' v' sd' ∧ H l = none ∧ G l = some (.lst (ds.map V.int)) ∧ l ≠ p ∧ Dig b ds ∧ ∀ d ∈ ds, -40 ≤ d ∧ d ≤ 40)
      ⟨l5, _, i6, v6, sd6, none, none, rfl, K6, R6, n5, a6, n6, d5, m5⟩ ?_ ?_⟩
    · rintro j σ G _ ⟨l, ds, i7, v7, sd7, o6, o7, rfl, KG, RG, nl, al, nlp, dg, mm⟩
      have dl := dg.are.l2
      have dl2 := dg.are.l24
      refine ⟨_, rfl, l, _, rfl, .inl (SqL.of al), fun l8 h8 => ?_⟩
      have R8 := RG.same (same_upd (o := .lst (ds.map V.int)) (Same.refl G) h8)
      have K8 : KeepBut p H _ := KG.trans (KeepBut.new (o := .lst (ds.map V.int)) h8)
      have nl8 : l ≠ l8 := ne_of_none al h8
      refine ⟨_, rfl, .inl ⟨rfl, _, SqL.of upd_same⟩, _, rfl, _, rfl, l, _, rfl, .inl (SqL.of (by rw [upd_ne nl8]; exact al)), p, q, ns, i7, v7, sd7, _, rfl, R8, ?_, small _ ?_ ?_, fun x9 i9 v9 sd9 x90 x91 ok9 => ?_⟩
      · rw [List.length_map]; omega
      · rw [List.length_map]; omega
      · rw [List.length_map]; omega
      · rw [List.length_map] at x91
        have R9 := R8.next ok9
        have K9 : KeepBut p H _ := K8.trans (KeepBut.put (o := .lst (rngL q i9 v9 sd9)))
        have n8p : l8 ≠ p := RG.free h8
        have a9 : upd (upd G l8 (.lst (ds.map V.int))) p (.lst (rngL q i9 v9 sd9)) l8 = some (.lst (ds.map V.int)) := by rw [upd_ne n8p, upd_same]
        have b9 : upd (upd G l8 (.lst (ds.map V.int))) p (.lst (rngL q i9 v9 sd9)) l = some (.lst (ds.map V.int)) := by rw [upd_ne nlp, upd_ne nl8]; exact al
        have n8 : H l8 = none := KG.free n8p h8
        generalize upd (upd G l8 (.lst (ds.map V.int))) p (.lst (rngL q i9 v9 sd9)) = G9 at R9 K9 a9 b9
        have hk : x9.toNat < ds.length := by omega
        have p63 : (2 : Int) ^ 63 = 9223372036854775808 := by decide
        refine ⟨l8, ds.map V.int, x9, x9.toNat, _, rfl, rfl, a9, by omega, by omega, seqIx x90 (by rw [List.length_map]; omega), ints_at hk, ?_⟩
        rw [map_erase]
        have R10 : RngAt (upd G9 l8 (.lst ((ds.eraseIdx x9.toNat).map V.int))) p q ns i9 v9 sd9 := by
          refine ⟨by rw [upd_ne n8p.symm]; exact R9.at_p, ?_, R9.len, R9.ok, R9.ne⟩
          rw [upd_ne (fun e => ?_)]
          · exact R9.at_q
          · have z := RG.at_q
            rw [e, h8] at z
            cases z
        have K10 : KeepBut p H (upd G9 l8 (.lst ((ds.eraseIdx x9.toNat).map V.int))) := fun c o hc nc => by
          rw [upd_ne (ne_of_none hc n8)]
          exact K9 c o hc nc
        have b10' : upd G9 l8 (.lst ((ds.eraseIdx x9.toNat).map V.int)) l = some (.lst (ds.map V.int)) := by rw [upd_ne nl8]; exact b9
        have a10 : upd G9 l8 (.lst ((ds.eraseIdx x9.toNat).map V.int)) l8 = some (.lst ((ds.eraseIdx x9.toNat).map V.int)) := upd_same
        generalize upd G9 l8 (.lst ((ds.eraseIdx x9.toNat).map V.int)) = G10 at R10 K10 b10' a10
        have le := List.length_eraseIdx_of_lt hk
        refine ⟨_, rfl, l8, _, rfl, .inl (SqL.of a10), _, _, rfl, rfl, _, rfl, ?_⟩
        rw [List.length_map]
        by_cases c1 : (1 : Int) < ((ds.eraseIdx x9.toNat).length : Int)
        · refine ifT (decide_eq_true c1) ⟨_, rfl, _, rfl, b, l8, _, rfl, .inl (SqL.of a10), b2, b10, by omega, fun G11 e11 => ⟨_, rfl, ?_⟩⟩
          have ea := erase_asc dg.asc x9.toNat
          rw [srt_self ea]
          by_cases c2 : AreS b (ds.eraseIdx x9.toNat)
          · rw [areB_t c2]
            refine iteT ⟨_, rfl, ?_⟩
            exact ⟨l8, _, i9, v9, sd9, _, _, rfl, K10.trans (KeepBut.of e11), R10.same e11, n8, e11 _ _ a10, n8p, ⟨c2, ea⟩, fun d hd => mm d (erase_mem hd)⟩
          · rw [areB_f c2]
            refine iteF ?_
            exact ⟨l, ds, i9, v9, sd9, _, _, rfl, K10.trans (KeepBut.of e11), R10.same e11, nl, e11 _ _ b10', nlp, dg, mm⟩
        · refine ifF (decide_eq_false c1) (iteF ?_)
          exact ⟨l, ds, i9, v9, sd9, _, _, rfl, K10, R10, nl, b10', nlp, dg, mm⟩
    · rintro σ G ⟨l, ds, i7, v7, sd7, o6, o7, rfl, KG, RG, nl, al, nlp, dg, mm⟩
      have dl2 := dg.are.l24
      refine ⟨_, rfl, (by show 4 ≤ sizeLine; decide), fun l8 h8 => ?_⟩
      have R8 := RG.same (same_upd (o := .lst [.int 1, .int 1, .int 1, .int 2]) (Same.refl G) h8)
      have K8 : KeepBut p H _ := KG.trans (KeepBut.new (o := .lst [.int 1, .int 1, .int 1, .int 2]) h8)
      refine ⟨p, q, l8, ns, i7, v7, sd7, _, rfl, R8, upd_same, RG.free h8, (by simp), (by show 4 ≤ 1000; decide), fun x i9 v9 sd9 hx ok9 => ?_⟩
      obtain ⟨u, rfl, hu⟩ : ∃ u : Int, x = .int u ∧ (u = 1 ∨ u = 2) := by
        rcases List.mem_cons.mp hx with e | hx
        · exact ⟨1, e, .inl rfl⟩
        · rcases List.mem_cons.mp hx with e | hx
          · exact ⟨1, e, .inl rfl⟩
          · rcases List.mem_cons.mp hx with e | hx
            · exact ⟨1, e, .inl rfl⟩
            · rcases List.mem_cons.mp hx with e | hx
              · exact ⟨2, e, .inr rfl⟩
              · cases hx
      have R9 := R8.next ok9
      have K9 : KeepBut p H _ := K8.trans (KeepBut.put (o := .lst (rngL q i9 v9 sd9)))
      have b9 : upd (upd G l8 (.lst [.int 1, .int 1, .int 1, .int 2])) p (.lst (rngL q i9 v9 sd9)) l = some (.lst (ds.map V.int)) := by rw [upd_ne nlp, upd_ne (ne_of_none al h8)]; exact al
      generalize upd (upd G l8 (.lst [.int 1, .int 1, .int 1, .int 2])) p (.lst (rngL q i9 v9 sd9)) = G9 at R9 K9 b9
      refine ⟨_, rfl, l, rfl, ⟨_, SqL.of b9⟩, fun D hD => ?_⟩
      have nD : H D = none := K9.free (R9.free hD) hD
      refine lc_list (K := K) (a := l) (xs := ds.map V.int) (fun i G => Same G9 G ∧ G D = some (.lst (((ds.take i).map (· * u)).map V.int))) ⟨same_upd (Same.refl _) hD, upd_same⟩ (fun i G _ e => e.1.seq (SqL.of b9)) ?_ ?_
      · rintro i y G hi ⟨e1, e2⟩
        have hlt : i < ds.length := by
          have z := (List.getElem?_eq_some_iff.mp hi).1
          rw [List.length_map] at z
          exact z
        rw [ints_at hlt] at hi
        cases hi
        have mb := mm _ (Ew.getD_mem hlt)
        refine ⟨rfl, ?_⟩
        refine iteT (B := Same G9 G ∧ G D = some (.lst (((ds.take (i + 1)).map (· * u)).map V.int))) ⟨_, rfl, _, rfl, _, _, rfl, rfl, mul_small (by omega) (by omega), ?_⟩
        refine ⟨_, e2, by rw [List.length_map, List.length_map, List.length_take, sizeLine_eq]; omega, same_updN e1 hD, ?_⟩
        rw [upd_same, List.take_add_one, Ew.getD_at hlt]
        simp
      · rintro G ⟨e1, e2⟩
        rw [List.length_map, List.take_length] at e2
        exact k G D _ i9 v9 sd9 (K9.trans (KeepBut.of e1)) (R9.same e1) nD e2 (scale_dig dg hu mm)
end
end K05
namespace K05
open PySem PySem.Spec PyProof.Rows L2 Ew
section
variable {P : Program} {w : World} {K : PySem.W.Frag} {mg : Str → Option Value} {base : Heap}
/-! ## OutOfRange.__init__ -/
theorem scOut : FnScope ["self"] ["self"] (defScope sOutOfRange_init) := ⟨rfl, rfl, rfl, by decide +kernel, rfl, by decide +kernel, by decide +kernel⟩
theorem ok_out {f C fI : Addr} {fd : FuncData} (F : Fun K "__init__" "OutOfRange.__init__" sOutOfRange_init f fd) (T : ErrT K mg "OutOfRange" C fI) : FnOk P w K mg base CX0 1 f fd ["self"] (spInitTag K C "OutOfRange") := by
  refine F.ok scOut (fun vs H Q E h => ?_) (fun cdv A outer s H vs Q E hr h => ?_)
  · obtain ⟨a, rfl, _⟩ := h
    rfl
  · obtain ⟨a, rfl, ha, k⟩ := h
    exact ⟨_, pss_one (ps_ost (pv 0) pe_str), _, rfl, a, C, rfl, T.oex, T.nT, .inl ⟨ha, k⟩⟩
/-! ## fraction -/
def spFraction (C : Addr) : Sp := fun vs H Q E => ∃ n d : Int, vs = [.int n, .int d] ∧ d.natAbs < 2 ^ 8000 ∧
  (d = 0 → ∀ x, H x = none → E (.ref C) (some x) (upd H x (.xd [("tag", .str "OutOfRange")]))) ∧ (d ≠ 0 → ∀ p, H p = none → Q (.ref p) (upd H p (.tup [.int (frN n d), .int (frD n d)])))
structure TxtF (K : PySem.W.Frag) (mg : Str → Option Value) (C fI fG : Addr) : Prop where
  abs : mg "abs" = none
  out : ErrT K mg "OutOfRange" C fI
  gG : mg "common_divisor" = some (.ref fG)
  kG : PySem.W.keepIn K (.ref fG) = true
theorem scFr : FnScope ["numerator", "denominator", "divisor"] ["numerator", "denominator"] (defScope sFraction) := ⟨rfl, rfl, rfl, by decide +kernel, rfl, by decide +kernel, by decide +kernel⟩
theorem ok_fraction {f C fI fG : Addr} {fd fdI fdG : FuncData} {dvs : List V} {kws : List (Str × V)} (F : FunD K "fraction" "fraction" (defArgs sFraction) (defBody sFraction) (defScope sFraction) dvs kws f fd) (T : TxtF K mg C fI fG)
    (FI : FnOk P w K mg base CX0 1 fI fdI ["self"] (spInitTag K C "OutOfRange")) (bI : Binds K fdI ["self"] []) (FG : FnOk P w K mg base CX0 1 fG fdG ["one", "other"] spGcd) (bG : Binds K fdG ["one", "other"] []) :
    FnOk P w K mg base (L2.CX P w) 3 f fd ["numerator", "denominator"] (spFraction C) := by
  refine F.ok scFr (fun vs H Q E h => ?_) (fun cdv A outer s H vs Q E hr h => ?_)
  · obtain ⟨a, b, rfl, _⟩ := h
    rfl
  · obtain ⟨n, d, rfl, hsz, kE, kQ⟩ := h
    refine ⟨_, pss_cons (ps_if (pt_cmpR op_eq (pv 1) pe_int (nomark _)) (pss_one (ps_raise rfl (takes_of rfl rfl rfl rfl) (pmk0 T.out.oex T.out.iC T.out.tI FI hr bI pass0 rfl T.out.gC))) pss_nil)
      (pss_cons (ps_set (i := 2) scFr.nd rfl (Or.inl rfl) (pe_call FG (hr.mono (by decide)) rfl T.gG T.kG bG .nil pass0 (pa_cons (pe_callB call_abs (by rfl) T.abs (by decide +kernel) (pa_cons (pv 0) pa_nil)) (pa_cons (pe_callB call_abs (by rfl) T.abs (by decide +kernel) (pa_cons (pv 1) pa_nil)) pa_nil))))
      (C8.pss_cut (ps_if (pt_cmpR op_lt (pv 1) pe_int (nomark _)) (pss_one (ps_set (i := 2) scFr.nd rfl (Or.inl rfl) (pe_un un_neg (pv 2)))) pss_nil)
      (pss_one (ps_ret (pe_tup (pa_cons (pe_op op_fdivZ (pv 0) (pv 2)) (pa_cons (pe_op op_fdivZ (pv 1) (pv 2)) pa_nil))))))), ?_⟩
    refine ⟨_, rfl, rfl, _, rfl, ?_⟩
    by_cases c : d = 0
    · subst c
      refine ifT (decide_eq_true rfl) fun a ha => ?_
      refine ⟨a, rfl, upd_same, fun dx hdx ne => ⟨rfl, dx, [("tag", .str "OutOfRange")], upd_same, ?_, ?_, ?_⟩⟩
      · rw [upd_ne ne, upd_same]
      · rw [upd_ne ne] at hdx
        exact hdx
      · rw [raise_heap ha hdx ne]
        rw [upd_ne ne] at hdx
        exact kE rfl dx hdx
    · refine ifF (eq_int c) ?_
      have gp : 0 < gcdI n d := gcdI_pos c
      have gl : (gcdI n d).natAbs < 2 ^ 8000 := Nat.lt_of_le_of_lt (by have := gcdI_le (a := n) c; omega) hsz
      refine ⟨_, rfl, _, rfl, _, rfl, _, rfl, absI n, absI d, rfl, absI_nn n, absI_nn d, ?_⟩
      rw [gcdI_abs]
      refine ⟨fun σ G => G = H ∧ σ = [some (.int n), some (.int d), some (.int (if d < 0 then -(gcdI n d) else gcdI n d))], ?_, ?_⟩
      · refine ⟨_, rfl, _, _, rfl, rfl, _, rfl, ?_⟩
        by_cases e : d < 0
        · refine ifT (decide_eq_true e) ⟨_, rfl, _, rfl, rfl, ?_⟩
          rw [if_pos e]
          rfl
        · refine ifF (decide_eq_false e) ⟨rfl, ?_⟩
          rw [if_neg e]
          rfl
      · rintro σ G ⟨rfl, rfl⟩
        have kq := kQ c
        unfold frN frD at kq
        by_cases e : d < 0
        · rw [if_pos e] at kq ⊢
          rw [if_pos e] at kq
          have hc : ∀ i : Int, CDivZ i (-(gcdI n d)) := fun i => ⟨by omega, by rw [Int.natAbs_neg]; exact Nat.lt_of_lt_of_le (PySem.Flt.log2_lt_of (by decide) gl) (by decide)⟩
          refine ⟨_, rfl, _, rfl, _, _, rfl, rfl, hc _, _, rfl, _, rfl, _, _, rfl, rfl, hc _, (by show 2 ≤ sizeLine; decide), fun p hp => ?_⟩
          have q := kq p hp
          rw [← fdiv_flip n gp, ← fdiv_flip d gp] at q
          exact q
        · rw [if_neg e] at kq ⊢
          rw [if_neg e] at kq
          have hc : ∀ i : Int, CDivZ i (gcdI n d) := fun i => ⟨by omega, Nat.lt_of_lt_of_le (PySem.Flt.log2_lt_of (by decide) gl) (by decide)⟩
          refine ⟨_, rfl, _, rfl, _, _, rfl, rfl, hc _, _, rfl, _, rfl, _, _, rfl, rfl, hc _, (by show 2 ≤ sizeLine; decide), fun p hp => ?_⟩
          have q := kq p hp
          rw [← Int.fdiv_eq_ediv_of_nonneg n (by omega : 0 ≤ gcdI n d), ← Int.fdiv_eq_ediv_of_nonneg d (by omega : 0 ≤ gcdI n d)] at q
          exact q
end
end K05
namespace K05
open PySem PySem.Spec PyProof.Rows L2 Ew
section
variable {P : Program} {w : World} {K : PySem.W.Frag} {mg : Str → Option Value} {base : Heap}
/-! ## low, high -/
def spEnd (CD : Addr) (K : PySem.W.Frag) (g : List Int → Int) : Sp := fun vs H Q _ => ∃ (x dx t : Addr) (b : Int) (s : List Int), vs = [.ref x] ∧ H x = some (.ins CD dx (dsF b t)) ∧ SqT K H t (s.map V.int) ∧ 0 < s.length ∧ 2 ≤ b ∧ b ≤ 10 ∧ ∀ p, H p = none → Q (.ref p) (upd H p (.tup [.int (frN (g s) (b - 1)), .int (frD (g s) (b - 1))]))
theorem b_small {b : Int} (h2 : 2 ≤ b) (h10 : b ≤ 10) : (b - 1).natAbs < 2 ^ 8000 := big_lt (n := 10) (Nat.lt_of_le_of_lt (by omega : (b - 1).natAbs ≤ 1000) (by decide)) (by decide)
theorem scSLow : FnScope ["self"] ["self"] (defScope sDigitSet_low) := ⟨rfl, rfl, rfl, by decide +kernel, rfl, by decide +kernel, by decide +kernel⟩
theorem ok_slow {f CD CB CI fIB fID fA CO fFr : Addr} {fd fdFr : FuncData} (F : Fun K "low" "DigitSet.low" sDigitSet_low f fd) (TS : TxtDS K mg CD CB CI fIB fID fA) (Fr : Def P w K mg base (L2.CX P w) 3 "fraction" fFr fdFr ["numerator", "denominator"] (spFraction CO)) : FnOk P w K mg base CX0 4 f fd ["self"] (spEnd CD K firstI) := by
  refine F.ok scSLow (fun vs H Q E h => ?_) (fun cdv A outer s H vs Q E hr h => ?_)
  · obtain ⟨x, dx, t, b, s, rfl, _⟩ := h
    rfl
  · obtain ⟨x, dx, t, b, s, rfl, hx, hT, hl, b2, b10, k⟩ := h
    refine ⟨_, pss_one (ps_ret (pe_call Fr.ok hr rfl Fr.g Fr.k Fr.b .nil passL (pa_cons (pe_ix ix_tup (pe_fld (pv 0) rfl) pe_int (fun _ _ => rfl)) (pa_cons (pe_op op_sub (pe_fld (pv 0) rfl) pe_int) pa_nil)))), ?_⟩
    exact ⟨_, rfl, x, CD, dx, _, _, rfl, hx, TS.cl, TS.nD, dsF_digits b t, t, _, _, _, rfl, rfl, hT, at_first hl, _, rfl, x, CD, dx, _, _, rfl, hx, TS.cl, TS.nB, dsF_base b t, _, _, rfl, rfl, _, _, rfl, b_small b2 b10, fun z => absurd z (by omega), fun _ p hp => k p hp⟩
theorem scSHigh : FnScope ["self"] ["self"] (defScope sDigitSet_high) := ⟨rfl, rfl, rfl, by decide +kernel, rfl, by decide +kernel, by decide +kernel⟩
theorem ok_shigh {f CD CB CI fIB fID fA CO fFr : Addr} {fd fdFr : FuncData} (F : Fun K "high" "DigitSet.high" sDigitSet_high f fd) (TS : TxtDS K mg CD CB CI fIB fID fA) (Fr : Def P w K mg base (L2.CX P w) 3 "fraction" fFr fdFr ["numerator", "denominator"] (spFraction CO)) : FnOk P w K mg base CX0 4 f fd ["self"] (spEnd CD K lastI) := by
  refine F.ok scSHigh (fun vs H Q E h => ?_) (fun cdv A outer s H vs Q E hr h => ?_)
  · obtain ⟨x, dx, t, b, s, rfl, _⟩ := h
    rfl
  · obtain ⟨x, dx, t, b, s, rfl, hx, hT, hl, b2, b10, k⟩ := h
    refine ⟨_, pss_one (ps_ret (pe_call Fr.ok hr rfl Fr.g Fr.k Fr.b .nil passL (pa_cons (pe_ix ix_tup (pe_fld (pv 0) rfl) (pe_un un_neg pe_int) (fun _ _ => rfl)) (pa_cons (pe_op op_sub (pe_fld (pv 0) rfl) pe_int) pa_nil)))), ?_⟩
    exact ⟨_, rfl, x, CD, dx, _, _, rfl, hx, TS.cl, TS.nD, dsF_digits b t, _, rfl, t, _, _, _, rfl, rfl, hT, at_last hl, _, rfl, x, CD, dx, _, _, rfl, hx, TS.cl, TS.nB, dsF_base b t, _, _, rfl, rfl, _, _, rfl, b_small b2 b10, fun z => absurd z (by omega), fun _ p hp => k p hp⟩
end
end K05
namespace K05
open PySem PySem.Spec PyProof.Rows L2 Ew
section
variable {P : Program} {w : World} {K : PySem.W.Frag} {mg : Str → Option Value} {base : Heap}
/-! ## _law_ends -/
structure TxtEn (mg : Str → Option Value) : Prop where
  min : mg "min" = none
  max : mg "max" = none
def spEnds (K : PySem.W.Frag) : Sp := fun vs H Q _ => ∃ (b : Int) (l : Addr) (s : List Int), vs = [.int b, .ref l] ∧ SqL K H l (s.map V.int) ∧ 0 < s.length ∧ s.Pairwise (· ≤ ·) ∧ 2 ≤ b ∧ b ≤ 10 ∧
  ∀ (G : Hp) (p u v : Addr), Same H G → G p = some (.tup [.ref u, .ref v]) → G u = some (.tup [.int (frN (firstI s) (b - 1)), .int (frD (firstI s) (b - 1))]) → G v = some (.tup [.int (frN (lastI s) (b - 1)), .int (frD (lastI s) (b - 1))]) → Q (.ref p) G
theorem scEnds : FnScope ["_law_base", "_law_digits_here"] ["_law_base", "_law_digits_here"] (defScope sLawEnds) := ⟨rfl, rfl, rfl, by decide +kernel, rfl, by decide +kernel, by decide +kernel⟩
theorem first_min {s : List Int} (h : s.Pairwise (· ≤ ·)) {m : Int} (hm : m ∈ s) (hn : ∀ y, y ∈ s → m ≤ y) (hl : 0 < s.length) : m = firstI s := by
  obtain ⟨i, hi, rfl⟩ := List.getElem_of_mem hm
  have e : s[i] = s.getD i 0 := by rw [List.getD_eq_getElem?_getD, List.getElem?_eq_getElem hi]; rfl
  have a1 := asc_le h (Nat.zero_le i) hi
  have a2 := hn (firstI s) (by unfold firstI; rw [List.getD_eq_getElem?_getD, List.getElem?_eq_getElem hl]; exact List.getElem_mem _)
  unfold firstI at *
  omega
theorem last_max {s : List Int} (h : s.Pairwise (· ≤ ·)) {m : Int} (hm : m ∈ s) (hn : ∀ y, y ∈ s → y ≤ m) (hl : 0 < s.length) : m = lastI s := by
  obtain ⟨i, hi, rfl⟩ := List.getElem_of_mem hm
  have e : s[i] = s.getD i 0 := by rw [List.getD_eq_getElem?_getD, List.getElem?_eq_getElem hi]; rfl
  have a1 := asc_le h (i := i) (j := s.length - 1) (by omega) (by omega)
  have a2 := hn (lastI s) (by unfold lastI; rw [List.getD_eq_getElem?_getD, List.getElem?_eq_getElem (by omega : s.length - 1 < s.length)]; exact List.getElem_mem _)
  unfold lastI at *
  omega
theorem ok_ends {f fL : Addr} {fd fdL : FuncData} (F : Fun K "_law_ends" "_law_ends" sLawEnds f fd) (T : TxtEn mg) (L : Def P w K mg base CX0 1 "_law_lowest" fL fdL ["_law_above", "_law_below"] spLow) : FnOk P w K mg base CX0 2 f fd ["_law_base", "_law_digits_here"] (spEnds K) := by
  refine F.ok scEnds (fun vs H Q E h => ?_) (fun cdv A outer s H vs Q E hr h => ?_)
  · obtain ⟨b, l, s, rfl, _⟩ := h
    rfl
  · obtain ⟨b, l, s, rfl, hL, hl, hasc, b2, b10, k⟩ := h
    refine ⟨_, pss_one (ps_ret (pe_tup (pa_cons (pe_call L.ok hr rfl L.g L.k L.b .nil pass0 (pa_cons (pe_callB (cr_min rfl) (by rfl) T.min (by decide +kernel) (pa_cons (pv 1) pa_nil)) (pa_cons (pe_op op_sub (pv 0) pe_int) pa_nil)))
      (pa_cons (pe_call L.ok hr rfl L.g L.k L.b .nil pass0 (pa_cons (pe_callB (cr_max rfl) (by rfl) T.max (by decide +kernel) (pa_cons (pv 1) pa_nil)) (pa_cons (pe_op op_sub (pv 0) pe_int) pa_nil))) pa_nil)))), ?_⟩
    refine ⟨_, rfl, l, s, rfl, hL, hl, fun m hm hn => ⟨_, rfl, _, _, rfl, rfl, _, _, rfl, by omega, b_small b2 b10, fun u hu => ?_⟩⟩
    have s1 := same_upd (o := .tup [.int (frN m (b - 1)), .int (frD m (b - 1))]) (Same.refl H) hu
    refine ⟨_, rfl, l, s, rfl, s1.seq hL, hl, fun m2 hm2 hn2 => ⟨_, rfl, _, _, rfl, rfl, _, _, rfl, by omega, b_small b2 b10, fun v hv => ⟨(by show 2 ≤ sizeLine; decide), fun p hp => ?_⟩⟩⟩
    have s2 := same_upd (o := .tup [.int (frN m2 (b - 1)), .int (frD m2 (b - 1))]) (Same.refl _) hv
    have s3 := same_upd (o := .tup [.ref u, .ref v]) (Same.refl _) hp
    refine k _ p u v (s1.trans (s2.trans s3)) upd_same ?_ ?_
    · rw [← first_min hasc hm hn hl]
      exact s3 _ _ (s2 _ _ upd_same)
    · rw [← last_max hasc hm2 hn2 hl]
      exact s3 _ _ upd_same
end
end K05
namespace K05
open PySem PySem.Spec PyProof.Rows L2 Ew
section
variable {P : Program} {w : World} {K : PySem.W.Frag} {mg : Str → Option Value} {base : Heap}
/-! ## _law_set -/
structure TxtSt (mg : Str → Option Value) : Prop where
  list : mg "list" = none
def spLSet (CD : Addr) : Sp := fun vs H Q _ => ∃ (b : Int) (l : Addr) (ds : List Int), vs = [.int b, .ref l] ∧ H l = some (.lst (ds.map V.int)) ∧ ds.length < 64 ∧ 2 ≤ b ∧ b ≤ 10 ∧ AreS b (srt ds) ∧
  ∀ G x dx u, Same H G → H x = none → G x = some (.ins CD dx (dsF b u)) → G u = some (.tup ((srt ds).map V.int)) → Q (.ref x) G
theorem scLSet : FnScope ["_law_base", "_law_digits_here"] ["_law_base", "_law_digits_here"] (defScope sLawSet) := ⟨rfl, rfl, rfl, by decide +kernel, rfl, by decide +kernel, by decide +kernel⟩
theorem mk_set {CD CB CI : Addr} {G : Hp} {y dx e : Addr} {b : Int} {ds : List Int} {R : Hp → Prop} {E : XK} (ny : G y = none) (ndx : G dx = none) (he : SqL K G e (ds.map V.int) ∨ SqT K G e (ds.map V.int)) (h64 : ds.length < 64) (c1 : 2 ≤ b) (c2 : b ≤ 10) (c3 : AreS b (srt ds))
    (k : ∀ Gx u, Same G Gx → Gx y = some (.ins CD dx (dsF b u)) → Gx u = some (.tup ((srt ds).map V.int)) → R Gx) :
    spSetInit K CD CB CI [.ref y, .int b, .ref e] (upd (upd G dx (.own y)) y (.ins CD dx [])) (fun v H2 => v = .non ∧ R H2) E := by
  have sN : Same G (upd (upd G dx (.own y)) y (.ins CD dx [])) := fun q o hq => by
    rw [upd_ne (ne_of_none hq ny), upd_ne (ne_of_none hq ndx)]
    exact hq
  exact ⟨y, dx, e, b, ds, rfl, upd_same, he.imp sN.seq (seqT sN), h64, fun z => absurd ⟨c1, c2⟩ z, fun _ _ z => absurd c3 z, fun _ _ _ Gx u e1 hu hy hut => ⟨rfl, k Gx u (Same.made ny ndx e1) hy hut⟩⟩
theorem ok_lset {f CD CB CI fIn : Addr} {fd fdIn : FuncData} (F : Fun K "_law_set" "_law_set" sLawSet f fd) (T : TxtSt mg) (gDS : mg "DigitSet" = some (.ref CD)) (M : Mk K CD fIn) (In : FnOk P w K mg base (L2.CX P w) 3 fIn fdIn ["self", "base", "digits"] (spSetInit K CD CB CI)) (bIn : Binds K fdIn ["self", "base", "digits"] []) :
    FnOk P w K mg base CX0 5 f fd ["_law_base", "_law_digits_here"] (spLSet CD) := by
  refine F.ok scLSet (fun vs H Q E h => ?_) (fun cdv A outer s H vs Q E hr h => ?_)
  · obtain ⟨b, l, ds, rfl, _⟩ := h
    rfl
  · obtain ⟨b, l, ds, rfl, hl, h64, b2, b10, ha, k⟩ := h
    refine ⟨_, pss_one (ps_ret (pe_make M In hr rfl gDS bIn .nil passL (pa_cons (pv 0) (pa_cons (pe_callTy call_list_of (by rfl) T.list (by decide +kernel) (pa_cons (pv 1) pa_nil)) pa_nil)))), ?_⟩
    refine ⟨_, rfl, _, rfl, l, _, rfl, .inl (SqL.of hl), fun m hm => ?_⟩
    have s1 : Same H (upd H m (.lst (ds.map V.int))) := same_upd (Same.refl H) hm
    exact fun y dx ny nd _ => mk_set (ds := ds) ny nd (.inl (SqL.of upd_same)) h64 b2 b10 ha fun G u e hy hu => k G y dx u (s1.trans e) (s1.free ny) hy hu
end
end K05
namespace K05
open PySem PySem.Spec PyProof.Rows L2 Ew
section
variable {P : Program} {w : World} {K : PySem.W.Frag} {mg : Str → Option Value} {base : Heap}
/-! ## fractions: _law_plus, _law_minus, _law_times, _law_less, _law_inside -/
def spQ2 (K : PySem.W.Frag) (X Y : Int → Int → Int → Int → Int) : Sp := fun vs H Q _ => ∃ (u v : Addr) (a b c d : Int), vs = [.ref u, .ref v] ∧ SqT K H u [.int a, .int b] ∧ SqT K H v [.int c, .int d] ∧ Sw a ∧ Sw b ∧ Sw c ∧ Sw d ∧ b ≠ 0 ∧ d ≠ 0 ∧
  ∀ p, H p = none → Q (.ref p) (upd H p (.tup [.int (frN (X a b c d) (Y a b c d)), .int (frD (X a b c d) (Y a b c d))]))
abbrev spQplus (K : PySem.W.Frag) : Sp := spQ2 K (fun a b c d => a * d + c * b) (fun _ b _ d => b * d)
abbrev spQminus (K : PySem.W.Frag) : Sp := spQ2 K (fun a b c d => a * d - c * b) (fun _ b _ d => b * d)
abbrev spQtimes (K : PySem.W.Frag) : Sp := spQ2 K (fun a _ c _ => a * c) (fun _ b _ d => b * d)
theorem scQplus : FnScope ["_law_one", "_law_other"] ["_law_one", "_law_other"] (defScope sLawPlus) := ⟨rfl, rfl, rfl, by decide +kernel, rfl, by decide +kernel, by decide +kernel⟩
theorem ok_qplus {f fL : Addr} {fd fdL : FuncData} (F : Fun K "_law_plus" "_law_plus" sLawPlus f fd) (L : Def P w K mg base CX0 1 "_law_lowest" fL fdL ["_law_above", "_law_below"] spLow) : FnOk P w K mg base CX0 2 f fd ["_law_one", "_law_other"] (spQplus K) := by
  refine F.ok scQplus (fun vs H Q E h => ?_) (fun cdv A outer s H vs Q E hr h => ?_)
  · obtain ⟨u, v, a, b, c, d, rfl, _⟩ := h
    rfl
  · obtain ⟨u, v, a, b, c, d, rfl, hu, hv, sa, sb, sc, sd, b0, d0, k⟩ := h
    refine ⟨_, (pss_one (ps_ret (pe_call L.ok hr rfl L.g L.k L.b .nil pass0 (pa_cons (pe_op op_add (pe_op op_mulW (pe_ix ix_tup (pv 0) pe_int (fun _ _ => rfl)) (pe_ix ix_tup (pv 1) pe_int (fun _ _ => rfl))) (pe_op op_mulW (pe_ix ix_tup (pv 1) pe_int (fun _ _ => rfl)) (pe_ix ix_tup (pv 0) pe_int (fun _ _ => rfl)))) (pa_cons (pe_op op_mulW (pe_ix ix_tup (pv 0) pe_int (fun _ _ => rfl)) (pe_ix ix_tup (pv 1) pe_int (fun _ _ => rfl))) pa_nil))))), ?_⟩
    exact ⟨_, rfl, u, _, _, _, rfl, rfl, hu, rfl, _, rfl, v, _, _, _, rfl, rfl, hv, rfl, _, _, rfl, rfl, sw_mul sa sd, _, rfl, v, _, _, _, rfl, rfl, hv, rfl, _, rfl, u, _, _, _, rfl, rfl, hu, rfl, _, _, rfl, rfl, sw_mul sc sb, _, _, rfl, rfl,
      _, rfl, u, _, _, _, rfl, rfl, hu, rfl, _, rfl, v, _, _, _, rfl, rfl, hv, rfl, _, _, rfl, rfl, sw_mul sb sd, _, _, rfl, Int.mul_ne_zero b0 d0, sw_lt sb sd, k⟩
theorem scQminus : FnScope ["_law_one", "_law_other"] ["_law_one", "_law_other"] (defScope sLawMinus) := ⟨rfl, rfl, rfl, by decide +kernel, rfl, by decide +kernel, by decide +kernel⟩
theorem ok_qminus {f fL : Addr} {fd fdL : FuncData} (F : Fun K "_law_minus" "_law_minus" sLawMinus f fd) (L : Def P w K mg base CX0 1 "_law_lowest" fL fdL ["_law_above", "_law_below"] spLow) : FnOk P w K mg base CX0 2 f fd ["_law_one", "_law_other"] (spQminus K) := by
  refine F.ok scQminus (fun vs H Q E h => ?_) (fun cdv A outer s H vs Q E hr h => ?_)
  · obtain ⟨u, v, a, b, c, d, rfl, _⟩ := h
    rfl
  · obtain ⟨u, v, a, b, c, d, rfl, hu, hv, sa, sb, sc, sd, b0, d0, k⟩ := h
    refine ⟨_, (pss_one (ps_ret (pe_call L.ok hr rfl L.g L.k L.b .nil pass0 (pa_cons (pe_op op_sub (pe_op op_mulW (pe_ix ix_tup (pv 0) pe_int (fun _ _ => rfl)) (pe_ix ix_tup (pv 1) pe_int (fun _ _ => rfl))) (pe_op op_mulW (pe_ix ix_tup (pv 1) pe_int (fun _ _ => rfl)) (pe_ix ix_tup (pv 0) pe_int (fun _ _ => rfl)))) (pa_cons (pe_op op_mulW (pe_ix ix_tup (pv 0) pe_int (fun _ _ => rfl)) (pe_ix ix_tup (pv 1) pe_int (fun _ _ => rfl))) pa_nil))))), ?_⟩
    exact ⟨_, rfl, u, _, _, _, rfl, rfl, hu, rfl, _, rfl, v, _, _, _, rfl, rfl, hv, rfl, _, _, rfl, rfl, sw_mul sa sd, _, rfl, v, _, _, _, rfl, rfl, hv, rfl, _, rfl, u, _, _, _, rfl, rfl, hu, rfl, _, _, rfl, rfl, sw_mul sc sb, _, _, rfl, rfl,
      _, rfl, u, _, _, _, rfl, rfl, hu, rfl, _, rfl, v, _, _, _, rfl, rfl, hv, rfl, _, _, rfl, rfl, sw_mul sb sd, _, _, rfl, Int.mul_ne_zero b0 d0, sw_lt sb sd, k⟩
theorem scQtimes : FnScope ["_law_one", "_law_other"] ["_law_one", "_law_other"] (defScope sLawTimes) := ⟨rfl, rfl, rfl, by decide +kernel, rfl, by decide +kernel, by decide +kernel⟩
theorem ok_qtimes {f fL : Addr} {fd fdL : FuncData} (F : Fun K "_law_times" "_law_times" sLawTimes f fd) (L : Def P w K mg base CX0 1 "_law_lowest" fL fdL ["_law_above", "_law_below"] spLow) : FnOk P w K mg base CX0 2 f fd ["_law_one", "_law_other"] (spQtimes K) := by
  refine F.ok scQtimes (fun vs H Q E h => ?_) (fun cdv A outer s H vs Q E hr h => ?_)
  · obtain ⟨u, v, a, b, c, d, rfl, _⟩ := h
    rfl
  · obtain ⟨u, v, a, b, c, d, rfl, hu, hv, sa, sb, sc, sd, b0, d0, k⟩ := h
    refine ⟨_, (pss_one (ps_ret (pe_call L.ok hr rfl L.g L.k L.b .nil pass0 (pa_cons (pe_op op_mulW (pe_ix ix_tup (pv 0) pe_int (fun _ _ => rfl)) (pe_ix ix_tup (pv 1) pe_int (fun _ _ => rfl))) (pa_cons (pe_op op_mulW (pe_ix ix_tup (pv 0) pe_int (fun _ _ => rfl)) (pe_ix ix_tup (pv 1) pe_int (fun _ _ => rfl))) pa_nil))))), ?_⟩
    exact ⟨_, rfl, u, _, _, _, rfl, rfl, hu, rfl, _, rfl, v, _, _, _, rfl, rfl, hv, rfl, _, _, rfl, rfl, sw_mul sa sc,
      _, rfl, u, _, _, _, rfl, rfl, hu, rfl, _, rfl, v, _, _, _, rfl, rfl, hv, rfl, _, _, rfl, rfl, sw_mul sb sd, _, _, rfl, Int.mul_ne_zero b0 d0, sw_lt sb sd, k⟩
def spLess (K : PySem.W.Frag) : Sp := fun vs H Q _ => ∃ (u v : Addr) (a b c d : Int), vs = [.ref u, .ref v] ∧ SqT K H u [.int a, .int b] ∧ SqT K H v [.int c, .int d] ∧ Sw a ∧ Sw b ∧ Sw c ∧ Sw d ∧ Q (.bl (decide (a * d < c * b))) H
theorem scQless : FnScope ["_law_one", "_law_other"] ["_law_one", "_law_other"] (defScope sLawLess) := ⟨rfl, rfl, rfl, by decide +kernel, rfl, by decide +kernel, by decide +kernel⟩
theorem ok_qless {f : Addr} {fd : FuncData} (F : Fun K "_law_less" "_law_less" sLawLess f fd) : FnOk P w K mg base CX0 1 f fd ["_law_one", "_law_other"] (spLess K) := by
  refine F.ok scQless (fun vs H Q E h => ?_) (fun cdv A outer s H vs Q E hr h => ?_)
  · obtain ⟨u, v, a, b, c, d, rfl, _⟩ := h
    rfl
  · obtain ⟨u, v, a, b, c, d, rfl, hu, hv, sa, sb, sc, sd, k⟩ := h
    refine ⟨_, (pss_one (ps_ret (pe_cmpR op_lt (pe_op op_mulW (pe_ix ix_tup (pv 0) pe_int (fun _ _ => rfl)) (pe_ix ix_tup (pv 1) pe_int (fun _ _ => rfl))) (pe_op op_mulW (pe_ix ix_tup (pv 1) pe_int (fun _ _ => rfl)) (pe_ix ix_tup (pv 0) pe_int (fun _ _ => rfl))) (nomark _)))), ?_⟩
    exact ⟨_, rfl, u, _, _, _, rfl, rfl, hu, rfl, _, rfl, v, _, _, _, rfl, rfl, hv, rfl, _, _, rfl, rfl, sw_mul sa sd, _, rfl, v, _, _, _, rfl, rfl, hv, rfl, _, rfl, u, _, _, _, rfl, rfl, hu, rfl, _, _, rfl, rfl, sw_mul sc sb, _, _, rfl, rfl, k⟩
end
end K05
namespace K05
open PySem PySem.Spec PyProof.Rows L2 Ew
section
variable {P : Program} {w : World} {K : PySem.W.Frag} {mg : Str → Option Value} {base : Heap}
def spInside (K : PySem.W.Frag) : Sp := fun vs H Q _ => ∃ (u v r : Addr) (n d a b e f : Int), vs = [.ref u, .ref v, .ref r] ∧ SqT K H v [.int n, .int d] ∧ SqT K H u [.int a, .int b] ∧ SqT K H r [.int e, .int f] ∧ Sw n ∧ Sw d ∧ Sw a ∧ Sw b ∧ Sw e ∧ Sw f ∧ Q (.bl (inQ n d a b e f)) H
theorem scInside : FnScope ["_law_low", "_law_number", "_law_high"] ["_law_low", "_law_number", "_law_high"] (defScope sLawInside) := ⟨rfl, rfl, rfl, by decide +kernel, rfl, by decide +kernel, by decide +kernel⟩
theorem ok_inside {f fL : Addr} {fd fdL : FuncData} (F : Fun K "_law_inside" "_law_inside" sLawInside f fd) (Le : Def P w K mg base CX0 1 "_law_less" fL fdL ["_law_one", "_law_other"] (spLess K)) : FnOk P w K mg base CX0 2 f fd ["_law_low", "_law_number", "_law_high"] (spInside K) := by
  refine F.ok scInside (fun vs H Q E h => ?_) (fun cdv A outer s H vs Q E hr h => ?_)
  · obtain ⟨u, v, r, n, d, a, b, e, f, rfl, _⟩ := h
    rfl
  · obtain ⟨u, v, r, n, d, a, b, e, f, rfl, hv, hu, hw, sn, sd, sa, sb, se, sf, k⟩ := h
    refine ⟨_, (pss_one (ps_ret (pe_and (pe_not (pe_call Le.ok hr rfl Le.g Le.k Le.b .nil pass0 (pa_cons (pv 1) (pa_cons (pv 0) pa_nil)))) (pe_one (pe_not (pe_call Le.ok hr rfl Le.g Le.k Le.b .nil pass0 (pa_cons (pv 2) (pa_cons (pv 1) pa_nil)))))))), ?_⟩
    refine ⟨_, rfl, _, rfl, v, u, n, d, a, b, rfl, hv, hu, sn, sd, sa, sb, _, rfl, _, rfl, ?_⟩
    unfold inQ at k
    cases c1 : decide (n * b < a * d) with
    | true => rw [c1] at k; exact iteF k
    | false => rw [c1] at k; exact iteT ⟨_, rfl, _, rfl, r, v, e, f, n, d, rfl, hw, hv, se, sf, sn, sd, _, rfl, k⟩
/-! ## is_less, is_within -/
theorem scIsLess : FnScope ["one", "other"] ["one", "other"] (defScope sIsLess) := ⟨rfl, rfl, rfl, by decide +kernel, rfl, by decide +kernel, by decide +kernel⟩
theorem ok_isless {f : Addr} {fd : FuncData} (F : Fun K "is_less" "is_less" sIsLess f fd) : FnOk P w K mg base CX0 1 f fd ["one", "other"] (spLess K) := by
  refine F.ok scIsLess (fun vs H Q E h => ?_) (fun cdv A outer s H vs Q E hr h => ?_)
  · obtain ⟨u, v, a, b, c, d, rfl, _⟩ := h
    rfl
  · obtain ⟨u, v, a, b, c, d, rfl, hu, hv, sa, sb, sc, sd, k⟩ := h
    refine ⟨_, (pss_one (ps_ret (pe_cmpR op_lt (pe_op op_mulW (pe_ix ix_tup (pv 0) pe_int (fun _ _ => rfl)) (pe_ix ix_tup (pv 1) pe_int (fun _ _ => rfl))) (pe_op op_mulW (pe_ix ix_tup (pv 1) pe_int (fun _ _ => rfl)) (pe_ix ix_tup (pv 0) pe_int (fun _ _ => rfl))) (nomark _)))), ?_⟩
    exact ⟨_, rfl, u, _, _, _, rfl, rfl, hu, rfl, _, rfl, v, _, _, _, rfl, rfl, hv, rfl, _, _, rfl, rfl, sw_mul sa sd, _, rfl, v, _, _, _, rfl, rfl, hv, rfl, _, rfl, u, _, _, _, rfl, rfl, hu, rfl, _, _, rfl, rfl, sw_mul sc sb, _, _, rfl, rfl, k⟩
def spWithin (K : PySem.W.Frag) : Sp := fun vs H Q _ => ∃ (u v r : Addr) (n d a b e f : Int), vs = [.ref v, .ref u, .ref r] ∧ SqT K H v [.int n, .int d] ∧ SqT K H u [.int a, .int b] ∧ SqT K H r [.int e, .int f] ∧ Sw n ∧ Sw d ∧ Sw a ∧ Sw b ∧ Sw e ∧ Sw f ∧ Q (.bl (inQ n d a b e f)) H
theorem scWithin : FnScope ["number", "low", "high"] ["number", "low", "high"] (defScope sIsWithin) := ⟨rfl, rfl, rfl, by decide +kernel, rfl, by decide +kernel, by decide +kernel⟩
theorem ok_within {f fL : Addr} {fd fdL : FuncData} (F : Fun K "is_within" "is_within" sIsWithin f fd) (Ls : Def P w K mg base CX0 1 "is_less" fL fdL ["one", "other"] (spLess K)) : FnOk P w K mg base CX0 2 f fd ["number", "low", "high"] (spWithin K) := by
  refine F.ok scWithin (fun vs H Q E h => ?_) (fun cdv A outer s H vs Q E hr h => ?_)
  · obtain ⟨u, v, r, n, d, a, b, e, f, rfl, _⟩ := h
    rfl
  · obtain ⟨u, v, r, n, d, a, b, e, f, rfl, hv, hu, hw, sn, sd, sa, sb, se, sf, k⟩ := h
    refine ⟨_, (pss_one (ps_ret (pe_and (pe_not (pe_call Ls.ok hr rfl Ls.g Ls.k Ls.b .nil pass0 (pa_cons (pv 0) (pa_cons (pv 1) pa_nil)))) (pe_one (pe_not (pe_call Ls.ok hr rfl Ls.g Ls.k Ls.b .nil pass0 (pa_cons (pv 2) (pa_cons (pv 0) pa_nil)))))))), ?_⟩
    refine ⟨_, rfl, _, rfl, v, u, n, d, a, b, rfl, hv, hu, sn, sd, sa, sb, _, rfl, _, rfl, ?_⟩
    unfold inQ at k
    cases c1 : decide (n * b < a * d) with
    | true => rw [c1] at k; exact iteF k
    | false => rw [c1] at k; exact iteT ⟨_, rfl, _, rfl, r, v, e, f, n, d, rfl, hw, hv, se, sf, sn, sd, _, rfl, k⟩
end
end K05
namespace K05
open PySem PySem.Spec PyProof.Rows L2 Ew
section
variable {P : Program} {w : World} {K : PySem.W.Frag} {mg : Str → Option Value} {base : Heap}
theorem dsF_no {b : Int} {t : Addr} {m : Str} (h1 : m ≠ "base") (h2 : m ≠ "digits") : (dsF b t).lookup m = none := by
  unfold dsF
  rw [lookup_putF, if_neg h2, lookup_putF, if_neg h1]
  rfl
/-- a method of the class at C -/
structure MDef (P : Program) (w : World) (K : PySem.W.Frag) (mg : Str → Option Value) (base : Heap) (CX : CXT) (k : Nat) (C : Addr) (m : Str) (f : Addr) (fd : FuncData) (ps : List Str) (sp : Sp) : Prop where
  ok : FnOk P w K mg base CX k f fd ps sp
  h : Meth K C m f
  cl : Cls K C
  b : Binds K fd ps []
/-- at x: the digit set of b and s -/
structure DsAt (K : PySem.W.Frag) (CD : Addr) (H : Hp) (x dx t : Addr) (b : Int) (s : List Int) : Prop where
  x : H x = some (.ins CD dx (dsF b t))
  t : SqT K H t (s.map V.int)
  are : AreS b s
  asc : s.Pairwise (· < ·)
  b2 : 2 ≤ b
  b10 : b ≤ 10
theorem DsAt.same {CD : Addr} {H G : Hp} {x dx t : Addr} {b : Int} {s : List Int} (h : DsAt K CD H x dx t b s) (e : Same H G) : DsAt K CD G x dx t b s := ⟨e _ _ h.x, seqT e h.t, h.are, h.asc, h.b2, h.b10⟩
theorem ends_le {b : Int} {s : List Int} (h : AreS b s) (ha : s.Pairwise (· < ·)) : firstI s ≤ lastI s := first_le_last (asc_le_of ha) (by have := h.l2; omega)
theorem ends_sw {b : Int} {s : List Int} (h : AreS b s) (ha : s.Pairwise (· < ·)) (b2 : 2 ≤ b) (b10 : b ≤ 10) : Sw (frN (firstI s) (b - 1)) ∧ Sw (frD (firstI s) (b - 1)) ∧ Sw (frN (lastI s) (b - 1)) ∧ Sw (frD (lastI s) (b - 1)) := by
  have l := ends_le h ha
  have h1 := h.lo
  have h2 := h.hi
  have a1 := frN_abs (firstI s) (b - 1) (by omega)
  have a2 := frD_abs (firstI s) (b - 1) (by omega)
  have a3 := frN_abs (lastI s) (b - 1) (by omega)
  have a4 := frD_abs (lastI s) (b - 1) (by omega)
  exact ⟨sw_of (by omega) (by omega), sw_of (by omega) (by omega), sw_of (by omega) (by omega), sw_of (by omega) (by omega)⟩
/-! ## has_number -/
def spHas (CD : Addr) (K : PySem.W.Frag) : Sp := fun vs H Q _ => ∃ (x dx t r : Addr) (b : Int) (s : List Int) (n d : Int), vs = [.ref x, .ref r] ∧ DsAt K CD H x dx t b s ∧ SqT K H r [.int n, .int d] ∧ Sw n ∧ Sw d ∧ ∀ G, Same H G → Q (.bl (hasN b s n d)) G
theorem scHas : FnScope ["self", "number"] ["self", "number"] (defScope sDigitSet_has_number) := ⟨rfl, rfl, rfl, by decide +kernel, rfl, by decide +kernel, by decide +kernel⟩
theorem ok_has {f CD fLo fHi fWi : Addr} {fd fdLo fdHi fdWi : FuncData} (F : Fun K "has_number" "DigitSet.has_number" sDigitSet_has_number f fd) (Lo : MDef P w K mg base CX0 4 CD "low" fLo fdLo ["self"] (spEnd CD K firstI)) (Hi : MDef P w K mg base CX0 4 CD "high" fHi fdHi ["self"] (spEnd CD K lastI))
    (Wi : Def P w K mg base CX0 2 "is_within" fWi fdWi ["number", "low", "high"] (spWithin K)) : FnOk P w K mg base CX0 5 f fd ["self", "number"] (spHas CD K) := by
  refine F.ok scHas (fun vs H Q E h => ?_) (fun cdv A outer s H vs Q E hr h => ?_)
  · obtain ⟨x, dx, t, r, b, s, n, d, rfl, _⟩ := h
    rfl
  · obtain ⟨x, dx, t, r, b, s, n, d, rfl, hx, hR, sn, sd, k⟩ := h
    have r2' : Room 2 _ := hr.mono (by decide)
    refine ⟨_, (pss_one (ps_ret (pe_call Wi.ok r2' rfl Wi.g Wi.k Wi.b .nil pass0 (pa_cons (pv 1) (pa_cons (pe_meth0 (pv 0) Lo.cl Lo.h Lo.ok hr Lo.b .nil pass0) (pa_cons (pe_meth0 (pv 0) Hi.cl Hi.h Hi.ok hr Hi.b .nil pass0) pa_nil)))))), ?_⟩
    have l2 := hx.are.l2
    obtain ⟨w1, w2, w3, w4⟩ := ends_sw hx.are hx.asc hx.b2 hx.b10
    refine ⟨_, rfl, _, rfl, x, dx, _, rfl, hx.x, dsF_no (by decide +kernel) (by decide +kernel), x, dx, t, b, s, rfl, hx.x, hx.t, by omega, hx.b2, hx.b10, fun p hp => ?_⟩
    have s1 := same_upd (o := .tup [.int (frN (firstI s) (b - 1)), .int (frD (firstI s) (b - 1))]) (Same.refl H) hp
    refine ⟨_, rfl, x, dx, _, rfl, s1 _ _ hx.x, dsF_no (by decide +kernel) (by decide +kernel), x, dx, t, b, s, rfl, s1 _ _ hx.x, seqT s1 hx.t, by omega, hx.b2, hx.b10, fun p2 hp2 => ?_⟩
    have s2 := s1.trans (same_upd (o := .tup [.int (frN (lastI s) (b - 1)), .int (frD (lastI s) (b - 1))]) (Same.refl _) hp2)
    exact ⟨p, r, p2, n, d, _, _, _, _, rfl, seqT s2 hR, SqT.of (by rw [upd_ne (fun e => by rw [← e, upd_same] at hp2; cases hp2), upd_same]), SqT.of upd_same, sn, sd, w1, w2, w3, w4, k _ s2⟩
/-! ## rest_behind -/
def spRest (CD : Addr) (K : PySem.W.Frag) : Sp := fun vs H Q _ => ∃ (x dx t r : Addr) (b : Int) (s : List Int) (g n d : Int), vs = [.ref x, .ref r, .int g] ∧ DsAt K CD H x dx t b s ∧ SqT K H r [.int n, .int d] ∧ Sw n ∧ Sw d ∧ Sw g ∧ d ≠ 0 ∧
  ∀ p, H p = none → Q (.ref p) (upd H p (.tup [.int (rsN b g n d), .int (rsD b g n d)]))
theorem scRest : FnScope ["self", "number", "digit", "numerator", "denominator"] ["self", "number", "digit"] (defScope sDigitSet_rest_behind) := ⟨rfl, rfl, rfl, by decide +kernel, rfl, by decide +kernel, by decide +kernel⟩
theorem ok_rest {f CD CB CI fIB fID fA CO fFr : Addr} {fd fdFr : FuncData} (F : Fun K "rest_behind" "DigitSet.rest_behind" sDigitSet_rest_behind f fd) (TS : TxtDS K mg CD CB CI fIB fID fA) (Fr : Def P w K mg base (L2.CX P w) 3 "fraction" fFr fdFr ["numerator", "denominator"] (spFraction CO)) :
    FnOk P w K mg base CX0 4 f fd ["self", "number", "digit"] (spRest CD K) := by
  refine F.ok scRest (fun vs H Q E h => ?_) (fun cdv A outer s H vs Q E hr h => ?_)
  · obtain ⟨x, dx, t, r, b, s, g, n, d, rfl, _⟩ := h
    rfl
  · obtain ⟨x, dx, t, r, b, s, g, n, d, rfl, hx, hR, sn, sd, sg, d0, k⟩ := h
    refine ⟨_, (pss_cons (ps_asg (pv 1) (pg_tup rfl (pgs_cons (pg_name (i := 3) scRest.nd rfl (Or.inl rfl)) (pgs_cons (pg_name (i := 4) scRest.nd rfl (Or.inl rfl)) pgs_nil))))
 (pss_one (ps_ret (pe_call Fr.ok hr rfl Fr.g Fr.k Fr.b .nil passL (pa_cons (pe_op op_sub (pe_op op_mulW (pe_fld (pv 0) rfl) (pv 3)) (pe_op op_mulW (pv 2) (pv 4))) (pa_cons (pv 4) pa_nil)))))), ?_⟩
    have sb : Sw b := sw_of (by have := hx.b2; omega) (by have := hx.b10; omega)
    exact ⟨_, rfl, r, _, rfl, hR, rfl, _, _, rfl, _, _, rfl, rfl, _, rfl, x, CD, dx, _, _, rfl, hx.x, TS.cl, TS.nB, dsF_base b t, _, rfl, _, _, rfl, rfl, sw_mul sb sn, _, rfl, _, rfl, _, _, rfl, rfl, sw_mul sg sd, _, _, rfl, rfl, _, rfl, _, _, rfl, sw_big sd, fun z => absurd z d0, fun _ p hp => k p hp⟩
/-! ## least_first_digit -/
def spLfd (CD : Addr) (K : PySem.W.Frag) : Sp := fun vs H Q _ => ∃ (x dx t r : Addr) (b : Int) (s : List Int) (M n d : Int), vs = [.ref x, .ref r] ∧ DsAt K CD H x dx t b s ∧ SqT K H r [.int n, .int d] ∧ OkQ b s M (n, d) ∧ M ≤ 1000000000 ∧
  ∀ G, Same H G → Q (.int (lfd b s n d)) G
def lfdN : List Str := ["self", "number", "possible", "digit"]
theorem scLfd : FnScope lfdN ["self", "number"] (defScope sDigitSet_least_first_digit) := ⟨rfl, rfl, rfl, by decide +kernel, rfl, by decide +kernel, by decide +kernel⟩
theorem asc_bd {b : Int} {s : List Int} (h : AreS b s) (ha : s.Pairwise (· < ·)) : ∀ g ∈ s, -99 ≤ g ∧ g ≤ 99 := fun g hg => by
  obtain ⟨i, hi, rfl⟩ := Ew.mem_getD hg
  have a1 := asc_le (asc_le_of ha) (Nat.zero_le i) hi
  have a2 := asc_le (asc_le_of ha) (i := i) (j := s.length - 1) (by omega) (by omega)
  have h1 := h.lo
  have h2 := h.hi
  unfold firstI at h1
  unfold lastI at h2
  omega
theorem ok_lfd {f CD CB CI fIB fID fA fHa fRe : Addr} {fd fdHa fdRe : FuncData} (F : Fun K "least_first_digit" "DigitSet.least_first_digit" sDigitSet_least_first_digit f fd) (TS : TxtDS K mg CD CB CI fIB fID fA) (Ha : MDef P w K mg base CX0 5 CD "has_number" fHa fdHa ["self", "number"] (spHas CD K)) (Re : MDef P w K mg base CX0 4 CD "rest_behind" fRe fdRe ["self", "number", "digit"] (spRest CD K)) :
    FnOk P w K mg base CX0 6 f fd ["self", "number"] (spLfd CD K) := by
  refine F.ok scLfd (fun vs H Q E h => ?_) (fun cdv A outer s H vs Q E hr h => ?_)
  · obtain ⟨x, dx, t, r, b, s, M, n, d, rfl, _⟩ := h
    rfl
  · obtain ⟨x, dx, t, r, b, s, M, n, d, rfl, hx, hR, ok, hM, k⟩ := h
    have r4' : Room 4 _ := hr.mono (by decide)
    refine ⟨_, (pss_cons (ps_setLc (i := 2) (own := [("digit", 3)]) (g := (gName 3)) rfl scLfd.nd rfl rfl (sw_true rfl rfl rfl (by decide +kernel)) (pi_tup (pe_fld (pv 0) rfl)) (blkOk_by (N := lfdN) (sc := defScope sDigitSet_least_first_digit) (by decide +kernel)) (fun _ _ _ _ _ => by exact (pg_name (i := 3) scLfd.nd rfl (Or.inl rfl))) (fun _ _ _ _ _ => (pts_one (pt_val (pe_meth (pv 0) Ha.cl Ha.h Ha.ok hr Ha.b .nil pass0 (pa_cons (pe_meth (pv 0) Re.cl Re.h Re.ok r4' Re.b .nil pass0 (pa_cons (pv 1) (pa_cons (pv 3) pa_nil))) pa_nil))))) (fun _ _ _ _ _ => (pv 3)))
 (pss_one (ps_ret (pe_ix ix_list (pv 2) pe_int (fun _ _ => rfl))))), ?_⟩
    obtain ⟨n0, n1, d0, d1⟩ := ok.small hx.are hx.b2
    have n0 : -(99 * M) ≤ n := n0
    have n1 : n ≤ 99 * M := n1
    have d0 : 0 < d := d0
    have d1 : d ≤ M := d1
    have l24 := hx.are.l24
    have bd := asc_bd hx.are hx.asc
    refine ⟨_, rfl, x, CD, dx, _, _, rfl, hx.x, TS.cl, TS.nD, dsF_digits b t, t, rfl, ⟨_, hx.t⟩, fun D hD => ?_⟩
    refine lc_tup (K := K) (a := t) (xs := s.map V.int) (fun i G => Same H G ∧ G D = some (.lst (((s.take i).filter fun g => hasN b s (rsN b g n d) (rsD b g n d)).map V.int))) ⟨same_upd (Same.refl _) hD, upd_same⟩ (fun i G _ e => seqT e.1 hx.t) ?_ ?_
    · rintro i y G hi ⟨e1, e2⟩
      have hlt : i < s.length := by
        have z := (List.getElem?_eq_some_iff.mp hi).1
        rw [List.length_map] at z
        exact z
      rw [ints_at hlt] at hi
      cases hi
      have mb := bd _ (Ew.getD_mem hlt)
      refine ⟨rfl, ?_⟩
      refine ⟨_, rfl, x, dx, _, rfl, e1 _ _ hx.x, dsF_no (by decide +kernel) (by decide +kernel), _, rfl, x, dx, _, rfl, e1 _ _ hx.x, dsF_no (by decide +kernel) (by decide +kernel), _, rfl, _, rfl, x, dx, t, r, b, s, s.getD i 0, n, d, rfl, hx.same e1, seqT e1 hR, sw_of (by omega) (by omega), sw_of (by omega) (by omega), sw_of (by omega) (by omega), by omega, fun p hp => ?_⟩
      have s2 := same_upd (o := .tup [.int (rsN b (s.getD i 0) n d), .int (rsD b (s.getD i 0) n d)]) (Same.refl G) hp
      have nD : D ≠ p := ne_of_none e2 hp
      have a1 := frN_abs (b * n - s.getD i 0 * d) d (by omega)
      have a2 := frD_abs (b * n - s.getD i 0 * d) d (by omega)
      have b1 : (b * n - s.getD i 0 * d).natAbs ≤ 2000000000000 := by
        have h1 : (b * n).natAbs ≤ 10 * 99000000000 := by rw [Int.natAbs_mul]; exact Nat.mul_le_mul (by have := hx.b2; have := hx.b10; omega) (by omega)
        have h2 : (s.getD i 0 * d).natAbs ≤ 99 * 1000000000 := by rw [Int.natAbs_mul]; exact Nat.mul_le_mul (by omega) (by omega)
        omega
      refine ⟨x, dx, t, p, b, s, rsN b (s.getD i 0) n d, rsD b (s.getD i 0) n d, rfl, hx.same (e1.trans s2), SqT.of upd_same, sw_of (by unfold rsN; omega) (by unfold rsN; omega), sw_of (by unfold rsD; omega) (by unfold rsD; omega), fun G2 s3 => ⟨_, rfl, ?_⟩⟩
      have e3 := e1.trans (s2.trans s3)
      have e4 := s3 _ _ (s2 _ _ e2)
      have tk : (s.take (i + 1)).filter (fun g => hasN b s (rsN b g n d) (rsD b g n d)) = (s.take i).filter (fun g => hasN b s (rsN b g n d) (rsD b g n d)) ++ if hasN b s (rsN b (s.getD i 0) n d) (rsD b (s.getD i 0) n d) = true then [s.getD i 0] else [] := by
        rw [take_snoc hlt, List.filter_append, List.filter_cons]
        rfl
      cases c : hasN b s (rsN b (s.getD i 0) n d) (rsD b (s.getD i 0) n d) with
      | true =>
        rw [c, if_pos rfl] at tk
        refine iteT ⟨_, rfl, _, e4, ?_, same_updN e3 hD, ?_⟩
        · rw [List.length_map, sizeLine_eq]
          have z1 := List.length_filter_le (fun g => hasN b s (rsN b g n d) (rsD b g n d)) (s.take i)
          rw [List.length_take] at z1
          omega
        · rw [upd_same, tk, List.map_append]
          rfl
      | false =>
        rw [c, if_neg (by decide), List.append_nil] at tk
        refine iteF ⟨e3, ?_⟩
        rw [tk]
        exact e4
    · rintro G ⟨e1, e2⟩
      rw [List.length_map, List.take_length] at e2
      have pn := poss_ne hx.are hx.b2 d0 ok.has
      exact ⟨_, rfl, D, _, _, _, rfl, rfl, SqL.of e2, at_int (s := possL b s n d) (i := 0) rfl (List.length_pos_iff.mpr pn), k G e1⟩
end
end K05
namespace K05
open PySem PySem.Spec PyProof.Rows L2 Ew
section
variable {P : Program} {w : World} {K : PySem.W.Frag} {mg : Str → Option Value} {base : Heap}
/-! ## row_of -/
structure TxtRo (mg : Str → Option Value) : Prop where
  len : mg "len" = none
  tuple : mg "tuple" = none
  gM : ∃ t, mg "MAX_ROW" = some (.int 200 t)
def spRow (CD CO : Addr) (K : PySem.W.Frag) : Sp := fun vs H Q E => ∃ (x dx t r : Addr) (b : Int) (s : List Int) (n d c : Int), vs = [.ref x, .ref r, .int c] ∧ DsAt K CD H x dx t b s ∧ SqT K H r [.int n, .int d] ∧ Sw n ∧ Sw d ∧
  (¬ (0 ≤ c ∧ c ≤ 200) ∨ hasN b s n d = false → ∀ G y, Same H G → G y = none → E (.ref CO) (some y) (upd G y (.xd [("tag", .str "OutOfRange")]))) ∧
  (0 ≤ c → c ≤ 200 → hasN b s n d = true → (∃ M, M ≤ 1000000000 ∧ OkQ b s M (n, d)) ∧ ∀ G p, Same H G → H p = none → G p = some (.tup ((rowQ b s (n, d) c.toNat).map V.int)) → Q (.ref p) G)
theorem scRow : FnScope ["self", "number", "count", "row", "rest", "digit"] ["self", "number", "count"] (defScope sDigitSet_row_of) := ⟨rfl, rfl, rfl, by decide +kernel, rfl, by decide +kernel, by decide +kernel⟩
theorem ok_row {f CD CB CI fIB fID fA CO fIO fHa fRe fLf : Addr} {fd fdO fdHa fdRe fdLf : FuncData} (F : Fun K "row_of" "DigitSet.row_of" sDigitSet_row_of f fd) (TS : TxtDS K mg CD CB CI fIB fID fA) (T : TxtRo mg) (eO : ErrT K mg "OutOfRange" CO fIO)
    (FO : FnOk P w K mg base CX0 1 fIO fdO ["self"] (spInitTag K CO "OutOfRange")) (bO : Binds K fdO ["self"] [])
    (Ha : MDef P w K mg base CX0 5 CD "has_number" fHa fdHa ["self", "number"] (spHas CD K)) (Re : MDef P w K mg base CX0 4 CD "rest_behind" fRe fdRe ["self", "number", "digit"] (spRest CD K)) (Lf : MDef P w K mg base CX0 6 CD "least_first_digit" fLf fdLf ["self", "number"] (spLfd CD K)) :
    FnOk P w K mg base (L2.CX P w) 7 f fd ["self", "number", "count"] (spRow CD CO K) := by
  obtain ⟨tM, gM⟩ := T.gM
  refine F.okX scRow (fun vs H Q E h => ?_) (fun cdv A outer s H vs Q E hr h => ?_)
  · obtain ⟨x, dx, t, r, b, s, n, d, c, rfl, _⟩ := h
    rfl
  · obtain ⟨x, dx, t, r, b, s, n, d, c, rfl, hx, hR, sn, sd, kE, kQ⟩ := h
    have r4' : Room 4 _ := hr.mono (by decide)
    have r5' : Room 5 _ := hr.mono (by decide)
    refine ⟨_, (pss_cons (ps_if (PW.pt (pw_or (pt_not (pt_chain op_le op_le pe_int (pv 2) (pe_glob (v := .int 200) rfl gM ⟨_, rfl⟩))) (pw_or1 (pt_not (pt_val (pe_meth (pv 0) Ha.cl Ha.h Ha.ok r5' Ha.b .nil pass0 (pa_cons (pv 1) pa_nil))))))) (pss_one (ps_raise rfl (takes_of rfl rfl rfl rfl) (pmk0 eO.oex eO.iC eO.tI FO (hr.mono (by decide)) bO pass0 rfl eO.gC))) pss_nil)
 (PSs.nox (pss_cons (ps_set (i := 3) scRow.nd rfl (Or.inl rfl) (pe_lst pa_nil))
 (pss_cons (ps_set (i := 4) scRow.nd rfl (Or.inl rfl) (pv 1))
 (pss_cons (ps_while PassesOwn.never (pt_cmpR op_lt (pe_callB call_len_seq (by rfl) T.len PySem.boot_len (pa_cons (pv 3) pa_nil)) (pv 2) (nomark _)) (pss_cons (ps_set (i := 5) scRow.nd rfl (Or.inl rfl) (pe_meth (pv 0) Lf.cl Lf.h Lf.ok hr Lf.b .nil pass0 (pa_cons (pv 4) pa_nil)))
 (pss_cons (ps_expr (pe_bm PySem.F.plainAttrs_list PySem.F.slot_list_append PySem.F.type_list_append mt_append (pv 3) (pa_cons (pv 5) pa_nil)))
 (pss_one (ps_set (i := 4) scRow.nd rfl (Or.inl rfl) (pe_meth (pv 0) Re.cl Re.h Re.ok r4' Re.b .nil pass0 (pa_cons (pv 4) (pa_cons (pv 5) pa_nil))))))))
 (pss_one (ps_ret (pe_callTy cr_tup (by rfl) T.tuple (by decide +kernel) (pa_cons (pv 3) pa_nil))))))))), ?_⟩
    have bad : ∀ G, Same H G → (¬ (0 ≤ c ∧ c ≤ 200) ∨ hasN b s n d = false) → tMk0 CO (spInitTag K CO "OutOfRange") _ G fun cls d H' => E cls d H' := fun G e z => raise_tag (σ := L2.start ["self", "number", "count", "row", "rest", "digit"] [.ref x, .ref r, .int c]) fun y hy => kE z G y e hy
    refine ⟨_, rfl, _, _, rfl, rfl, _, rfl, ?_⟩
    by_cases c0 : 0 ≤ c
    · refine ifT (decide_eq_true c0) ⟨_, _, rfl, rfl, _, rfl, ?_⟩
      by_cases c1 : c ≤ 200
      · rw [decide_eq_true c1]
        refine iteF ⟨_, rfl, x, dx, _, rfl, hx.x, dsF_no (by decide +kernel) (by decide +kernel), _, rfl, x, dx, t, r, b, s, n, d, rfl, hx, hR, sn, sd, fun G0 e0 => ⟨_, rfl, ?_⟩⟩
        cases c2 : hasN b s n d with
        | false => exact iteT (bad G0 e0 (.inr c2))
        | true =>
          obtain ⟨⟨M, hM, ok⟩, k⟩ := kQ c0 c1 c2
          refine iteF ⟨(by show 0 ≤ sizeLine; decide), fun l hl => ?_⟩
          have nl : H l = none := e0.free hl
          have e1 := same_upd (o := .lst []) e0 hl
          refine ⟨_, rfl, ?_⟩
          refine ⟨fun m σ G => ∃ (i : Nat) (v : Addr) (o5 : Option V), m = c.toNat - i ∧ i ≤ c.toNat ∧ σ = [some (.ref x), some (.ref r), some (.int c), some (.ref l), some (.ref v), o5] ∧ Same H G ∧ G l = some (.lst ((rowQ b s (n, d) i).map V.int)) ∧ SqT K G v [.int (restQ b s (n, d) i).1, .int (restQ b s (n, d) i).2], ⟨_, 0, r, none, rfl, Nat.zero_le _, rfl, e1, upd_same, seqT e1 hR⟩, ?_⟩
          rintro m σ G ⟨i, v, o5, rfl, hi, rfl, e, hlG, hv⟩
          refine ⟨_, rfl, l, _, rfl, .inl (SqL.of hlG), _, rfl, _, _, rfl, rfl, _, rfl, ?_⟩
          rw [List.length_map, rowQ_len]
          have okI := ok.rest hx.are hx.b2 i
          obtain ⟨n0, n1, d0, d1⟩ := okI.small hx.are hx.b2
          by_cases ci : (i : Int) < c
          · refine ifT (decide_eq_true ci) ⟨fun σ G => ∃ (v : Addr) (o5 : Option V), σ = [some (.ref x), some (.ref r), some (.int c), some (.ref l), some (.ref v), o5] ∧ Same H G ∧ G l = some (.lst ((rowQ b s (n, d) (i + 1)).map V.int)) ∧ SqT K G v [.int (restQ b s (n, d) (i + 1)).1, .int (restQ b s (n, d) (i + 1)).2], ?_, ?_⟩
            · rintro σ' G' ⟨v', o5', rfl, q1, q2, q3⟩
              exact ⟨c.toNat - (i + 1), by omega, i + 1, v', o5', rfl, by omega, rfl, q1, q2, q3⟩
            · refine ⟨_, rfl, x, dx, _, rfl, e _ _ hx.x, dsF_no (by decide +kernel) (by decide +kernel), _, rfl, x, dx, t, v, b, s, M, _, _, rfl, hx.same e, hv, okI, hM, fun G2 e2 => ?_⟩
              have hl2 := e2 _ _ hlG
              have md := lfd_mem (poss_ne hx.are hx.b2 d0 okI.has)
              have bd := asc_bd hx.are hx.asc _ md.1
              refine ⟨_, rfl, .inl ⟨rfl, _, SqL.of hl2⟩, _, rfl, l, _, _, rfl, rfl, hl2, ?_, ?_⟩
              · rw [List.length_map, rowQ_len, sizeLine_eq]; omega
              · have e3 : Same H (upd G2 l (.lst ((rowQ b s (n, d) i).map V.int ++ [.int (lfd b s (restQ b s (n, d) i).1 (restQ b s (n, d) i).2)]))) := same_updN (e.trans e2) nl
                have hv2 : SqT K (upd G2 l (.lst ((rowQ b s (n, d) i).map V.int ++ [.int (lfd b s (restQ b s (n, d) i).1 (restQ b s (n, d) i).2)]))) v [.int (restQ b s (n, d) i).1, .int (restQ b s (n, d) i).2] := by
                  have z := seqT e2 hv
                  rcases z with (z | ⟨o, z⟩) | z
                  · exact .inl (.inl (by rw [upd_ne (fun q => by rw [q, hl2] at z; cases z)]; exact z))
                  · exact .inl (.inr ⟨o, by rw [upd_ne (fun q => by rw [q, hl2] at z; cases z)]; exact z⟩)
                  · exact .inr z
                refine ⟨_, rfl, x, dx, _, rfl, e3 _ _ hx.x, dsF_no (by decide +kernel) (by decide +kernel), _, rfl, _, rfl, x, dx, t, v, b, s, _, _, _, rfl, hx.same e3, hv2, sw_of (by omega) (by omega), sw_of (by omega) (by omega), sw_of (by omega) (by omega), by omega, fun p hp => ?_⟩
                refine ⟨p, _, rfl, same_upd e3 hp, ?_, SqT.of upd_same⟩
                rw [upd_ne (fun q => by rw [← q, upd_same] at hp; cases hp), upd_same, rowQ_succ, List.map_append]
                rfl
          · have ei : i = c.toNat := by omega
            subst ei
            refine ifF (decide_eq_false ci) ⟨_, rfl, l, _, rfl, .inl ⟨SqL.of hlG, fun p hp => ?_⟩⟩
            exact k _ p (same_upd e hp) (e.free hp) upd_same
      · rw [decide_eq_false c1]
        exact iteT (bad H (Same.refl H) (.inl fun z => c1 z.2))
    · exact ifF (decide_eq_false c0) ⟨_, rfl, iteT (bad H (Same.refl H) (.inl fun z => c0 z.1))⟩
/-! ## _law_in_interval -/
def spInterval (K : PySem.W.Frag) : Sp := fun vs H Q _ => ∃ (p q e u v : Addr) (ns : List Int) (i x sd m a b c d : Int), vs = [.ref p, .ref e, .int m] ∧ RngAt H p q ns i x sd ∧ SqT K H e [.ref u, .ref v] ∧ SqT K H u [.int a, .int b] ∧ SqT K H v [.int c, .int d] ∧ e ≠ p ∧ u ≠ p ∧ v ≠ p ∧
  0 < m ∧ m ≤ 1000000 ∧ 0 < b ∧ 0 < d ∧ a * d ≤ c * b ∧ a.natAbs < 2 ^ 200 ∧ b.natAbs < 2 ^ 200 ∧ c.natAbs < 2 ^ 200 ∧ d.natAbs < 2 ^ 200 ∧
  ∀ (G : Hp) (r : Addr) (n k i' x' sd' : Int), KeepBut p H G → RngAt G p q ns i' x' sd' → H r = none → G r = some (.tup [.int n, .int k]) → Low n k → a * k ≤ n * b → n * d ≤ c * k → k ≤ b * (m * (d * b)) → Q (.ref r) G
end
end K05
namespace K05
open PySem PySem.Spec PyProof.Rows L2 Ew
section
variable {P : Program} {w : World} {K : PySem.W.Frag} {mg : Str → Option Value} {base : Heap}
theorem scInterval : FnScope ["_law_rng", "_law_ends_here", "_law_parts", "_law_below", "_law_share"] ["_law_rng", "_law_ends_here", "_law_parts"] (defScope sLawInInterval) := ⟨rfl, rfl, rfl, by decide +kernel, rfl, by decide +kernel, by decide +kernel⟩
theorem seqKeep {H G : Hp} {p a : Addr} {xs : List V} (e : KeepBut p H G) (n : a ≠ p) (h : SqT K H a xs) : SqT K G a xs := by
  rcases h with (h | ⟨o, h⟩) | h
  · exact .inl (.inl (e _ _ h n))
  · exact .inl (.inr ⟨o, e _ _ h n⟩)
  · exact .inr h
theorem ok_interval {f fD fL fPl fMi fTi : Addr} {fd fdD fdL fdPl fdMi fdTi : FuncData} (F : Fun K "_law_in_interval" "_law_in_interval" sLawInInterval f fd) (D : Def P w K mg base CX0 1 "_law_draw" fD fdD ["_law_rng", "_law_many"] spDraw) (L : Def P w K mg base CX0 1 "_law_lowest" fL fdL ["_law_above", "_law_below"] spLow)
    (Pl : Def P w K mg base CX0 2 "_law_plus" fPl fdPl ["_law_one", "_law_other"] (spQplus K)) (Mi : Def P w K mg base CX0 2 "_law_minus" fMi fdMi ["_law_one", "_law_other"] (spQminus K)) (Ti : Def P w K mg base CX0 2 "_law_times" fTi fdTi ["_law_one", "_law_other"] (spQtimes K)) :
    FnOk P w K mg base CX0 3 f fd ["_law_rng", "_law_ends_here", "_law_parts"] (spInterval K) := by
  refine F.ok scInterval (fun vs H Q E h => ?_) (fun cdv A outer s H vs Q E hr h => ?_)
  · obtain ⟨p, q, e, u, v, ns, i, x, sd, m, a, b, c, d, rfl, _⟩ := h
    rfl
  · obtain ⟨p, q, e, u, v, ns, i, x, sd, m, a, b, c, d, rfl, R, he, hu, hv, ep, up, vp, m0, m1, b0, d0, hac, sa, sb, sc, sd', k⟩ := h
    have r1' : Room 1 _ := hr.mono (by decide)
    refine ⟨_, (pss_cons (ps_set (i := 3) scInterval.nd rfl (Or.inl rfl) (pe_op op_add pe_int (pe_call D.ok r1' rfl D.g D.k D.b .nil pass0 (pa_cons (pv 0) (pa_cons (pv 2) pa_nil)))))
 (pss_cons (ps_set (i := 4) scInterval.nd rfl (Or.inl rfl) (pe_call L.ok r1' rfl L.g L.k L.b .nil pass0 (pa_cons (pe_call D.ok r1' rfl D.g D.k D.b .nil pass0 (pa_cons (pv 0) (pa_cons (pe_op op_add (pv 3) pe_int) pa_nil))) (pa_cons (pv 3) pa_nil))))
 (pss_one (ps_ret (pe_call Pl.ok hr rfl Pl.g Pl.k Pl.b .nil pass0 (pa_cons (pe_ix ix_tup (pv 1) pe_int (fun _ _ => rfl)) (pa_cons (pe_call Ti.ok hr rfl Ti.g Ti.k Ti.b .nil pass0 (pa_cons (pv 4) (pa_cons (pe_call Mi.ok hr rfl Mi.g Mi.k Mi.b .nil pass0 (pa_cons (pe_ix ix_tup (pv 1) pe_int (fun _ _ => rfl)) (pa_cons (pe_ix ix_tup (pv 1) pe_int (fun _ _ => rfl)) pa_nil))) pa_nil))) pa_nil))))))), ?_⟩
    have small : ∀ z : Int, 0 ≤ z → z ≤ 1000001 → z.natAbs < 2 ^ 8000 := fun z h0 h1 => big_lt (n := 20) (Nat.lt_of_le_of_lt (by omega : z.natAbs ≤ 1000001) (by decide)) (by decide)
    refine ⟨_, rfl, _, rfl, p, q, ns, i, x, sd, m, rfl, R, m0, small _ (by omega) (by omega), fun x1 i1 v1 sd1 x10 x11 ok1 => ?_⟩
    have R1 := R.next ok1
    have K1 : KeepBut p H _ := KeepBut.put (o := .lst (rngL q i1 v1 sd1))
    generalize upd H p (.lst (rngL q i1 v1 sd1)) = G1 at R1 K1
    refine ⟨_, _, rfl, rfl, _, rfl, _, rfl, _, _, rfl, rfl, p, q, ns, i1, v1, sd1, 1 + x1 + 1, rfl, R1, by omega, small _ (by omega) (by omega), fun x2 i2 v2 sd2 x20 x21 ok2 => ?_⟩
    have R2 := R1.next ok2
    have K2 : KeepBut p H _ := K1.trans (KeepBut.put (o := .lst (rngL q i2 v2 sd2)))
    generalize upd G1 p (.lst (rngL q i2 v2 sd2)) = G2 at R2 K2
    refine ⟨_, rfl, x2, 1 + x1, rfl, by omega, small _ (by omega) (by omega), fun w1 hw1 => ?_⟩
    obtain ⟨y, ey⟩ : ∃ y, y = 1 + x1 := ⟨_, rfl⟩
    rw [← ey]
    have y0 : 0 < y := by omega
    have ym : y ≤ m := by omega
    have xy : x2 ≤ y := by omega
    have K3 : KeepBut p H _ := K2.trans (KeepBut.new (o := .tup [.int (frN x2 y), .int (frD x2 y)]) hw1)
    have R3 := R2.same (same_upd (o := .tup [.int (frN x2 y), .int (frD x2 y)]) (Same.refl _) hw1)
    have a3 : upd G2 w1 (.tup [.int (frN x2 y), .int (frD x2 y)]) w1 = some (.tup [.int (frN x2 y), .int (frD x2 y)]) := upd_same
    generalize upd G2 w1 (.tup [.int (frN x2 y), .int (frD x2 y)]) = G3 at R3 K3 a3
    have hu3 := seqKeep K3 up hu
    have hv3 := seqKeep K3 vp hv
    have he3 := seqKeep K3 ep he
    obtain ⟨lX, eX⟩ := fr_spec x2 (b := y) (by omega)
    have db0 : 0 < d * b := Int.mul_pos d0 b0
    obtain ⟨lE, eE⟩ := fr_spec (c * b - a * d) (b := d * b) (by omega)
    have xl : x2.natAbs < 2 ^ 20 := pw_small (by omega) (by omega)
    have yl : y.natAbs < 2 ^ 20 := pw_small (by omega) (by omega)
    have X20 := frN_pw (m := y) xl (by omega)
    have Y20 := frD_pw (x := x2) yl (by omega)
    have dbl := wide_lt sd' sb
    have dif := pw_sub (wide_lt sc sb) (wide_lt sa sd')
    have E401 := frN_pw (m := d * b) dif (by omega)
    have F400 := frD_pw (x := c * b - a * d) dbl (by omega)
    refine ⟨_, rfl, e, _, _, _, rfl, rfl, he3, rfl, _, rfl, _, rfl, e, _, _, _, rfl, rfl, he3, rfl, _, rfl, e, _, _, _, rfl, rfl, he3, rfl, v, u, c, d, a, b, rfl, hv3, hu3, sw_pw sc, sw_pw sd', sw_pw sa, sw_pw sb, by omega, by omega, fun w2 hw2 => ?_⟩
    have s4 := same_upd (o := .tup [.int (frN (c * b - a * d) (d * b)), .int (frD (c * b - a * d) (d * b))]) (Same.refl G3) hw2
    refine ⟨w1, w2, frN x2 y, frD x2 y, _, _, rfl, SqT.of (s4 _ _ a3), SqT.of upd_same, sw_pw X20, sw_pw Y20, sw_pw E401, sw_pw F400, Int.ne_of_gt lX.pos, Int.ne_of_gt lE.pos, fun w3 hw3 => ?_⟩
    have s5 := s4.trans (same_upd (o := .tup [.int (frN (frN x2 y * frN (c * b - a * d) (d * b)) (frD x2 y * frD (c * b - a * d) (d * b))), .int (frD (frN x2 y * frN (c * b - a * d) (d * b)) (frD x2 y * frD (c * b - a * d) (d * b)))]) (Same.refl _) hw3)
    obtain ⟨X, eX0⟩ : ∃ X, X = frN x2 y := ⟨_, rfl⟩
    obtain ⟨Y, eY0⟩ : ∃ Y, Y = frD x2 y := ⟨_, rfl⟩
    obtain ⟨E', eE0⟩ : ∃ E', E' = frN (c * b - a * d) (d * b) := ⟨_, rfl⟩
    obtain ⟨F', eF0⟩ : ∃ F', F' = frD (c * b - a * d) (d * b) := ⟨_, rfl⟩
    have Yl := frD_le (x := x2) y0
    have Fl := frD_le (x := c * b - a * d) db0
    simp only [← eX0, ← eY0, ← eE0, ← eF0] at *
    have YF : 0 < Y * F' := Int.mul_pos Yl.1 Fl.1
    obtain ⟨lS, eS⟩ := fr_spec (X * E') (b := Y * F') (by omega)
    have Tl := frD_le (x := X * E') YF
    have S421 := frN_pw (m := Y * F') (wide_lt X20 E401) (by omega)
    have T420 := frD_pw (x := X * E') (wide_lt Y20 F400) (by omega)
    obtain ⟨S, eS0⟩ : ∃ S, S = frN (X * E') (Y * F') := ⟨_, rfl⟩
    obtain ⟨T, eT0⟩ : ∃ T, T = frD (X * E') (Y * F') := ⟨_, rfl⟩
    simp only [← eS0, ← eT0] at *
    refine ⟨u, w3, a, b, S, T, rfl, seqT s5 hu3, SqT.of upd_same, sw_pw sa, sw_pw sb, sw_pw S421, sw_pw T420, by omega, by omega, fun r hr' => ?_⟩
    have s6 := s5.trans (same_upd (o := .tup [.int (frN (a * T + S * b) (b * T)), .int (frD (a * T + S * b) (b * T))]) (Same.refl _) hr')
    have bT : 0 < b * T := Int.mul_pos b0 Tl.1
    obtain ⟨lN, eN⟩ := fr_spec (a * T + S * b) (b := b * T) (by omega)
    have kl := frD_le (x := a * T + S * b) bT
    obtain ⟨z1, z2⟩ := interval_core b0 d0 y0 hac x20 xy eX Yl.1 eE Fl.1 eS Tl.1 eN kl.1
    have K6 : KeepBut p H _ := K3.trans (KeepBut.of s6)
    have nr : H r = none := K3.free (R3.free (s5.free hr')) (s5.free hr')
    refine k _ r _ _ i2 v2 sd2 K6 (R3.same s6) nr upd_same lN z1 z2 ?_
    have t1 : T ≤ m * (d * b) := Int.le_trans Tl.2 (Int.le_trans (Int.mul_le_mul_of_nonneg_right (Int.le_trans Yl.2 ym) (Int.le_of_lt Fl.1)) (Int.mul_le_mul_of_nonneg_left Fl.2 (by omega)))
    exact Int.le_trans kl.2 (Int.mul_le_mul_of_nonneg_left t1 (by omega))
end
end K05
namespace K05
open PySem PySem.Spec PyProof.Rows L2 Ew
def lawN : List Str := ["_law_script", "_law_rng", "_law_turn", "_law_base", "_law_digits_here", "_law_ends_here", "_law_many", "_law_due", "_law_rest", "_law_k", "_law_moved", "_law_some", "_law_tags", "_law_far", "_law_number", "_law_odd", "_law_one", "_law_digit"]
def lamQ : Str := ("law" : Str) ++ ".<locals>." ++ "<lambda>"
theorem scLaw : FnScope lawN ["_law_script"] (defScope sLaw) := ⟨rfl, rfl, rfl, by decide +kernel, rfl, by decide +kernel, by decide +kernel⟩
theorem scTag : FnScope ["_law_ask"] ["_law_ask"] (defScope sLawTag) := ⟨rfl, rfl, rfl, by decide +kernel, rfl, by decide +kernel, by decide +kernel⟩
theorem noneOut : NoneTag "OutOfRange" := ⟨by decide +kernel, by decide +kernel, by decide +kernel, by decide +kernel, by decide +kernel, by decide +kernel⟩
def spLaw (K : PySem.W.Frag) (PP : Addr) : Sp := fun vs H Q _ => ∃ (a : Addr) (ns : List Int), vs = [.ref a] ∧ SqL K H a (ns.map V.int) ∧ ns.length ≤ 63 ∧ H PP = some (.tbl #[]) ∧ ∀ G, Q (.bl true) G
structure TxtL (mg : Str → Option Value) : Prop where
  range : mg "range" = none
  len : mg "len" = none
  sorted : mg "sorted" = none
  tuple : mg "tuple" = none
/-- the ends are numbers of the interval -/
theorem end_first {b : Int} {s : List Int} (h : AreS b s) (ha : s.Pairwise (· < ·)) (b2 : 2 ≤ b) (b10 : b ≤ 10) : OkQ b s 1000000 (frN (firstI s) (b - 1), frD (firstI s) (b - 1)) := by
  obtain ⟨l, e⟩ := fr_spec (firstI s) (b := b - 1) (by omega)
  have d := frD_le (x := firstI s) (m := b - 1) (by omega)
  have le := Int.mul_le_mul_of_nonneg_right (ends_le h ha) (Int.le_of_lt d.1)
  exact ⟨l, by show frD (firstI s) (b - 1) ≤ 1000000; omega, by
    show hasN b s (frN (firstI s) (b - 1)) (frD (firstI s) (b - 1)) = true
    exact (hasN_iff b2 l.pos).mpr ⟨by omega, by omega⟩⟩
theorem end_last {b : Int} {s : List Int} (h : AreS b s) (ha : s.Pairwise (· < ·)) (b2 : 2 ≤ b) (b10 : b ≤ 10) : OkQ b s 1000000 (frN (lastI s) (b - 1), frD (lastI s) (b - 1)) := by
  obtain ⟨l, e⟩ := fr_spec (lastI s) (b := b - 1) (by omega)
  have d := frD_le (x := lastI s) (m := b - 1) (by omega)
  have le := Int.mul_le_mul_of_nonneg_right (ends_le h ha) (Int.le_of_lt d.1)
  exact ⟨l, by show frD (lastI s) (b - 1) ≤ 1000000; omega, by
    show hasN b s (frN (lastI s) (b - 1)) (frD (lastI s) (b - 1)) = true
    exact (hasN_iff b2 l.pos).mpr ⟨by omega, by omega⟩⟩
theorem far_up {b : Int} {s : List Int} {c d N D : Int} (ec : c = frN (lastI s) (b - 1)) (ed : d = frD (lastI s) (b - 1)) (d0 : 0 < d) (e : N * (d * 97) = (c * 97 + 1 * d) * D) (D0 : 0 < D) : hasN b s N D = false := by
  refine Bool.eq_false_iff.mpr fun z => ?_
  have h := (inQ_iff.mp z).2
  rw [← ec, ← ed] at h
  have p : 0 < d * D := Int.mul_pos d0 D0
  have e1 : N * (d * 97) = N * d * 97 := by grind
  have e2 : (c * 97 + 1 * d) * D = c * D * 97 + d * D := by grind
  omega
theorem far_down {b : Int} {s : List Int} {c d N D : Int} (ec : c = frN (firstI s) (b - 1)) (ed : d = frD (firstI s) (b - 1)) (d0 : 0 < d) (e : N * (d * 89) = (c * 89 - 1 * d) * D) (D0 : 0 < D) : hasN b s N D = false := by
  refine Bool.eq_false_iff.mpr fun z => ?_
  have h := (inQ_iff.mp z).1
  rw [← ec, ← ed] at h
  have p : 0 < d * D := Int.mul_pos d0 D0
  have e1 : N * (d * 89) = N * d * 89 := by grind
  have e2 : (c * 89 - 1 * d) * D = c * D * 89 - d * D := by grind
  omega
theorem ok_law {P : Program} {w : World} {K : PySem.W.Frag} {mg : Str → Option Value} {base : Heap} {f c PP : Addr} {oc kV doc pm ct : Value} {od an : Option Addr} {osl : Array (Option Value)} {fB fD fP fS fO fF fT fLD fSt fEn fII fPl fMi fTi fIn CD CB CI CO fIB fID fIO fA fDi fRo C1 C2 C3 : Addr} {fdB fdD fdP fdS fdO fdF fdT fdLD fdSt fdEn fdII fdPl fdMi fdTi fdIn fdDi fdRo : FuncData}
    (lk : K.lookup f = some ⟨oc, od, .func (PySem.W.fnOf "law" "law" (defArgs sLaw) (defBody sLaw) (defScope sLaw) .none kV doc pm an (.ref c) ct), osl⟩) (hcd : PySem.W.codeIn K (.ref c) "law" = true) (TB : LamX.TabB base mg c PP) (T : TxtL mg)
    (B : Def P w K mg base CX0 1 "_law_begin" fB fdB ["_law_script"] (spBegin K)) (D : Def P w K mg base CX0 1 "_law_draw" fD fdD ["_law_rng", "_law_many"] spDraw) (Pk : Def P w K mg base CX0 2 "_law_pick" fP fdP ["_law_rng", "_law_items"] (spPick K))
    (S : Def P w K mg base CX0 3 "_law_same" fS fdS ["_law_found", "_law_due"] (spSame K 3)) (LD : Def P w K mg base CX0 3 "_law_digits" fLD fdLD ["_law_rng", "_law_base", "_law_most"] spLDigits)
    (St : Def P w K mg base CX0 5 "_law_set" fSt fdSt ["_law_base", "_law_digits_here"] (spLSet CD)) (En : Def P w K mg base CX0 2 "_law_ends" fEn fdEn ["_law_base", "_law_digits_here"] (spEnds K)) (II : Def P w K mg base CX0 3 "_law_in_interval" fII fdII ["_law_rng", "_law_ends_here", "_law_parts"] (spInterval K))
    (Pl : Def P w K mg base CX0 2 "_law_plus" fPl fdPl ["_law_one", "_law_other"] (spQplus K)) (Mi : Def P w K mg base CX0 2 "_law_minus" fMi fdMi ["_law_one", "_law_other"] (spQminus K)) (Ti : Def P w K mg base CX0 2 "_law_times" fTi fdTi ["_law_one", "_law_other"] (spQtimes K))
    (In : Def P w K mg base CX0 2 "_law_inside" fIn fdIn ["_law_low", "_law_number", "_law_high"] (spInside K))
    (FO : Fun K "_law_outcome" "_law_outcome" sOutcome fO fdO) (gO : mg "_law_outcome" = some (.ref fO)) (bO : Binds K fdO ["_law_ask"] []) (TO : TxtO K mg C1 C2 C3 fF fdF) (FT : Fun K "_law_tag" "_law_tag" sLawTag fT fdT) (gT : mg "_law_tag" = some (.ref fT)) (bT : Binds K fdT ["_law_ask"] [])
    (gDS : mg "DigitSet" = some (.ref CD)) (M : Mk K CD fDi) (Di : FnOk P w K mg base (L2.CX P w) 3 fDi fdDi ["self", "base", "digits"] (spSetInit K CD CB CI)) (bDi : Binds K fdDi ["self", "base", "digits"] []) (DS : TxtDS K mg CD CB CI fIB fID fA)
    (Ro : MDef P w K mg base (L2.CX P w) 7 CD "row_of" fRo fdRo ["self", "number", "count"] (spRow CD CO K)) (eO : ErrT K mg "OutOfRange" CO fIO)
    (xO : PySem.W.exmAny K (.ref CO) [.ref C1, .ref C2, .ref C3] = some true) :
    FnOk P w K mg base CX0 11 f (PySem.W.fnOf "law" "law" (defArgs sLaw) (defBody sLaw) (defScope sLaw) .none kV doc pm an (.ref c) ct) ["_law_script"] (spLaw K PP) := by
  refine fn_of lk hcd scLaw (fun vs H Q E h => ?_) (fun A outer s H vs Q E hr h => ?_)
  · obtain ⟨a, ns, rfl, _⟩ := h
    rfl
  · obtain ⟨a, ns, rfl, hS, hl, hPP, k⟩ := h
    obtain ⟨cdT, GT⟩ := gets_of FT gT bT scTag rfl (Or.inl rfl)
    obtain ⟨cdO, GO⟩ := gets_of FO gO bO scOutcome rfl (Or.inl rfl)
    have r1' : Room 1 _ := hr.mono (by decide)
    have r2' : Room 2 _ := hr.mono (by decide)
    have r3' : Room 3 _ := hr.mono (by decide)
    have r4' : Room 4 _ := hr.mono (by decide)
    have r5' : Room 5 _ := hr.mono (by decide)
    have r7' : Room 7 _ := hr.mono (by decide)
    suffices hh : ∃ t, PSs (cxOf CX0 P w K mg base lawN "law" (defScope sLaw) f (.ref c) A outer s H E).nox (defBody sLaw) t ∧ t { nx := fun _ H' => Q .non H', rt := Q } (L2.start lawN [.ref a]) H by
      obtain ⟨t, h1, h2⟩ := hh
      exact ⟨t, h1.nox, h2⟩
    refine ⟨_, (pss_cons (ps_set (i := 1) scLaw.nd rfl (Or.inl rfl) (pe_call B.ok r1' rfl B.g B.k B.b .nil pass0 (pa_cons (pv 0) pa_nil)))
 (pss_cons (ps_for PassesOwn.never rfl (pi_range1 rfl T.range (pa_cons pe_int pa_nil)) (pg_name (i := 2) scLaw.nd rfl (Or.inl rfl))
 (pss_cons (ps_set (i := 3) scLaw.nd rfl (Or.inl rfl) (pe_op op_add pe_int (pe_call D.ok r1' rfl D.g D.k D.b .nil pass0 (pa_cons (pv 1) (pa_cons pe_int pa_nil)))))
 (pss_cons (ps_set (i := 4) scLaw.nd rfl (Or.inl rfl) (pe_call LD.ok r3' rfl LD.g LD.k LD.b .nil pass0 (pa_cons (pv 1) (pa_cons (pv 3) (pa_cons pe_int pa_nil)))))
 (pss_cons (ps_asg (pe_tup (pa_cons (pe_call St.ok r5' rfl St.g St.k St.b .nil pass0 (pa_cons (pv 3) (pa_cons (pv 4) pa_nil))) (pa_cons (pe_call En.ok r2' rfl En.g En.k En.b .nil pass0 (pa_cons (pv 3) (pa_cons (pv 4) pa_nil))) pa_nil))) (pg_tup rfl (pgs_cons (pg_name (i := 16) scLaw.nd rfl (Or.inr rfl)) (pgs_cons (pg_name (i := 5) scLaw.nd rfl (Or.inr rfl)) pgs_nil))))
 (pss_cons (ps_set (i := 14) scLaw.nd rfl (Or.inr rfl) (pe_call Pk.ok r2' rfl Pk.g Pk.k Pk.b .nil pass0 (pa_cons (pv 1) (pa_cons (pe_lst (pa_cons (pe_ix ix_tup (pv 5) pe_int (fun _ _ => rfl)) (pa_cons (pe_ix ix_tup (pv 5) pe_int (fun _ _ => rfl)) (pa_cons (pe_call II.ok r3' rfl II.g II.k II.b .nil pass0 (pa_cons (pv 1) (pa_cons (pv 5) (pa_cons pe_int pa_nil)))) (pa_cons (pe_call II.ok r3' rfl II.g II.k II.b .nil pass0 (pa_cons (pv 1) (pa_cons (pv 5) (pa_cons pe_int pa_nil)))) pa_nil))))) pa_nil))))
 (pss_cons (ps_set (i := 6) scLaw.nd rfl (Or.inl rfl) (pe_call Pk.ok r2' rfl Pk.g Pk.k Pk.b .nil pass0 (pa_cons (pv 1) (pa_cons (pe_lst (pa_cons (pe_call D.ok r1' rfl D.g D.k D.b .nil pass0 (pa_cons (pv 1) (pa_cons pe_int pa_nil))) (pa_cons (pe_call D.ok r1' rfl D.g D.k D.b .nil pass0 (pa_cons (pv 1) (pa_cons pe_int pa_nil))) (pa_cons pe_int pa_nil)))) pa_nil))))
 (pss_cons (ps_par (i := 7) (j := 8) (by rfl) scLaw.nd rfl rfl (by decide) rfl rfl (pa_cons (pe_lst pa_nil) (pa_cons (pv 14) pa_nil)) (by rfl))
 (pss_cons (ps_for PassesOwn.never rfl (pi_range1 rfl T.range (pa_cons (pv 6) pa_nil)) (pg_name (i := 9) scLaw.nd rfl (Or.inl rfl))
 (pss_cons (ps_set (i := 10) scLaw.nd rfl (Or.inr rfl) (pe_call Ti.ok r2' rfl Ti.g Ti.k Ti.b .nil pass0 (pa_cons (pe_tup (pa_cons (pv 3) (pa_cons pe_int pa_nil))) (pa_cons (pv 8) pa_nil))))
 (pss_cons (ps_setLc (i := 11) (own := [("_law_digit", 17)]) (g := (gName 17)) (tt := tTest (tCall (spInside K) [] E0 (tCons (tOp (rIxT K) (tVar 5) (tC (.int 0))) (tCons (tCall (spQminus K) [] E0 (tCons (tVar 10) (tCons (tTup (tCons (tVar 17) (tCons (tC (.int 1)) tNil))) tNil))) (tCons (tOp (rIxT K) (tVar 5) (tC (.int 1))) tNil))))) rfl scLaw.nd rfl rfl (sw_true rfl rfl rfl (by decide +kernel)) (pi_list (pe_callB cr_sortA (by rfl) T.sorted (by decide +kernel) (pa_cons (pv 4) pa_nil))) (blkOk_by (N := lawN) (sc := defScope sLaw) (by decide +kernel)) (fun _ _ _ _ _ => by exact (pg_name (i := 17) scLaw.nd rfl (Or.inl rfl))) (fun _ _ _ _ _ => (by exact pts_one (pt_val (pe_call In.ok r2' rfl In.g In.k In.b .nil pass0 (pa_cons (pe_ix ix_tup (pv 5) pe_int (fun _ _ => rfl)) (pa_cons (pe_call Mi.ok r2' rfl Mi.g Mi.k Mi.b .nil pass0 (pa_cons (pv 10) (pa_cons (pe_tup (pa_cons (pv 17) (pa_cons pe_int pa_nil))) pa_nil))) (pa_cons (pe_ix ix_tup (pv 5) pe_int (fun _ _ => rfl)) pa_nil))))))) (fun _ _ _ _ _ => (pv 17)))
 (pss_cons (ps_expr (pe_bm PySem.F.plainAttrs_list PySem.F.slot_list_append PySem.F.type_list_append mt_append (pv 7) (pa_cons (pe_ix ix_list (pv 11) pe_int (fun _ _ => rfl)) pa_nil)))
 (pss_one (ps_set (i := 8) scLaw.nd rfl (Or.inl rfl) (pe_call Mi.ok r2' rfl Mi.g Mi.k Mi.b .nil pass0 (pa_cons (pv 10) (pa_cons (pe_tup (pa_cons (pe_ix ix_list (pv 11) pe_int (fun _ _ => rfl)) (pa_cons pe_int pa_nil))) pa_nil)))))))))
 (pss_cons (ps_if (pt_not (pt_val (pe_call S.ok r3' rfl S.g S.k S.b .nil pass0 (pa_cons (pe_meth (pv 16) Ro.cl Ro.h Ro.ok r7' Ro.b .nil passL (pa_cons (pv 14) (pa_cons (pv 6) pa_nil))) (pa_cons (pe_callTy cr_tup (by rfl) T.tuple (by decide +kernel) (pa_cons (pv 7) pa_nil)) pa_nil))))) (pss_one (ps_ret pe_bl)) pss_nil)
 (pss_cons (ps_set (i := 13) scLaw.nd rfl (Or.inr rfl) (pe_call Pk.ok r2' rfl Pk.g Pk.k Pk.b .nil pass0 (pa_cons (pv 1) (pa_cons (pe_lst (pa_cons (pe_call Pl.ok r2' rfl Pl.g Pl.k Pl.b .nil pass0 (pa_cons (pe_ix ix_tup (pv 5) pe_int (fun _ _ => rfl)) (pa_cons (pe_tup (pa_cons pe_int (pa_cons pe_int pa_nil))) pa_nil))) (pa_cons (pe_call Mi.ok r2' rfl Mi.g Mi.k Mi.b .nil pass0 (pa_cons (pe_ix ix_tup (pv 5) pe_int (fun _ _ => rfl)) (pa_cons (pe_tup (pa_cons pe_int (pa_cons pe_int pa_nil))) pa_nil))) pa_nil))) pa_nil))))
 (pss_cons (ps_set (i := 15) scLaw.nd rfl (Or.inr rfl) (pe_call Pk.ok r2' rfl Pk.g Pk.k Pk.b .nil pass0 (pa_cons (pv 1) (pa_cons (pe_lst (pa_cons (pe_un un_neg pe_int) (pa_cons pe_int (pa_cons (pe_op op_pow pe_int pe_int) pa_nil)))) pa_nil))))
 (pss_cons (ps_set (i := 12) scLaw.nd rfl (Or.inl rfl) (pe_lst (pa_cons (pe_lamT (T := [(PP, lamQ)]) (TT := TTo K (.ref C1) (.ref C2) (.ref C3)) (k := 7) (t := fun E => tMeth CD "row_of" (spRow CD CO K) [] E (tVar 16) (tCons (tVar 13) (tCons (tC (.int 3)) tNil))) rfl GT GO (fun _ _ => rfl) (fun s H hr' => outcome_gives TO hr') (fun Y tp h => pss_one (ps_ret (pe_ix ix_tup (h _ _ _) pe_int (fun _ _ => rfl)))) TB rfl List.mem_cons_self (fun p hp _ => by cases List.mem_singleton.mp hp; rfl) hr (lamN_by (N := lawN) (s0 := defScope sLaw) (by decide +kernel)) (.no rfl) (hb_no fun _ _ _ _ _ => rfl) (fun A outer s H E f c' hr' => by exact pe_meth (pv 16) DS.cl Ro.h Ro.ok hr' Ro.b .nil (passes_call (takes_of rfl rfl rfl rfl) (fun _ _ _ _ h => h)) (pa_cons (pv 13) (pa_cons pe_int pa_nil)))) (pa_cons (pe_lamT (T := [(PP, lamQ)]) (TT := TTo K (.ref C1) (.ref C2) (.ref C3)) (k := 7) (t := fun E => tMeth CD "row_of" (spRow CD CO K) [] E (tVar 16) (tCons (tVar 14) (tCons (tVar 15) tNil))) rfl GT GO (fun _ _ => rfl) (fun s H hr' => outcome_gives TO hr') (fun Y tp h => pss_one (ps_ret (pe_ix ix_tup (h _ _ _) pe_int (fun _ _ => rfl)))) TB rfl List.mem_cons_self (fun p hp _ => by cases List.mem_singleton.mp hp; rfl) hr (lamN_by (N := lawN) (s0 := defScope sLaw) (by decide +kernel)) (.one rfl pe_int) (hb_one (a := "_law_a") rfl fun _ _ _ _ _ _ _ => ⟨_, rfl, rfl⟩) (fun A outer s H E f c' hr' => by exact pe_meth (pv 16) DS.cl Ro.h Ro.ok hr' Ro.b .nil (passes_call (takes_of rfl rfl rfl rfl) (fun _ _ _ _ h => h)) (pa_cons (pv 14) (pa_cons (pv 15) pa_nil)))) pa_nil))))
 (pss_one (ps_if (pt_cmpR (op_neD hr.units) (pv 12) (pe_op op_rep (pe_lst (pa_cons pe_str pa_nil)) pe_int) (nomark _)) (pss_one (ps_ret pe_bl)) pss_nil))))))))))))))
 (pss_one (ps_ret (pe_cmpR op_eq (pe_callB call_len_seq (by rfl) T.len PySem.boot_len (pa_cons (pe_meth (pe_make M Di r4' rfl gDS bDi .nil passL (pa_cons pe_int (pa_cons (pe_tup (pa_cons pe_int (pa_cons pe_int (pa_cons pe_int pa_nil)))) pa_nil))) Ro.cl Ro.h Ro.ok r7' Ro.b .nil passL (pa_cons (pe_tup (pa_cons pe_int (pa_cons pe_int pa_nil))) (pa_cons pe_int pa_nil))) pa_nil)) pe_int (nomark _)))))), ?_⟩
    have small : ∀ z : Int, 0 ≤ z → z ≤ 1000 → z.natAbs < 2 ^ 8000 := fun z h0 h1 => big_lt (n := 10) (Nat.lt_of_le_of_lt (by omega : z.natAbs ≤ 1000) (by decide)) (by decide)
    have p62 : (2 : Int) ^ 62 = 4611686018427387904 := by decide
    have vN : ∀ {bb : Int} {uu : Addr}, (dsF bb uu).lookup ("row_of" : Str) = none := dsF_no (by decide +kernel) (by decide +kernel)
    refine ⟨_, rfl, a, ns, rfl, hS, hl, fun G0 p q sd s0 R0 np nq => ?_⟩
    have w0 : Wd [(PP, lamQ)] p q ns G0 := ⟨⟨_, _, _, R0⟩, fun x hx => by
      cases List.mem_singleton.mp hx
      exact LamX.TabS.nil (s0 _ _ hPP)⟩
    clear R0 np nq s0 hS hl hPP
    refine ⟨5, rfl, by decide, by decide, for_range (lo := 0) (n := 5) (fun _ σ G => ∃ (o2 o3 o4 o5 o6 o7 o8 o9 o10 o11 o12 o13 o14 o15 o16 : Option V), σ = [some (.ref a), some (.ref p), o2, o3, o4, o5, o6, o7, o8, o9, o10, o11, o12, o13, o14, o15, o16, none] ∧ Wd [(PP, lamQ)] p q ns G)
      ⟨none, none, none, none, none, none, none, none, none, none, none, none, none, none, none, rfl, w0⟩ ?_ ?_⟩
    · rintro j σ G _ ⟨o2, o3, o4, o5, o6, o7, o8, o9, o10, o11, o12, o13, o14, o15, o16, rfl, wG⟩
      obtain ⟨⟨i, v, sd, R⟩, tb⟩ := wG
      -- base
      refine ⟨_, rfl, p, q, ns, i, v, sd, 9, rfl, R, by decide, small _ (by decide) (by decide), fun x1 i1 v1 sd1 x10 x11 ok1 => ?_⟩
      have R1 := R.next ok1
      have tb1 := (Keep.put (o := .lst (rngL q i1 v1 sd1)) R.at_p).tabs tb
      generalize upd G p (.lst (rngL q i1 v1 sd1)) = G1 at R1 tb1
      refine ⟨_, _, rfl, rfl, ?_⟩
      obtain ⟨b, eb⟩ : ∃ b, b = 2 + x1 := ⟨_, rfl⟩
      show gName 3 (V.int (2 + x1)) _ _ _
      rw [← eb]
      have b2 : 2 ≤ b := by omega
      have b10 : b ≤ 10 := by omega
      clear x10 x11 eb R tb ok1
      -- digits
      refine ⟨_, rfl, _, rfl, p, q, ns, i1, v1, sd1, b, 12, rfl, R1, b2, b10, by omega, by decide, fun G2 d2 ds i2 v2 sd2 K2 R2 n2 a2 dg => ?_⟩
      have tb2 := K2.tabs R1.at_p tb1
      have d2p := R1.free n2
      have l24 := dg.are.l24
      have l2 := dg.are.l2
      have es : srt ds = ds := srt_self dg.asc
      clear K2 n2 tb1
      -- set
      refine ⟨_, rfl, _, rfl, b, d2, ds, rfl, a2, by omega, b2, b10, by rw [es]; exact dg.are, fun G3 x dx u s3 nx hx hu => ?_⟩
      rw [es] at hu
      have w3 : Wd [(PP, lamQ)] p q ns G3 := (⟨⟨_, _, _, R2⟩, tb2⟩ : Wd [(PP, lamQ)] p q ns G2).same s3
      have a3 := s3 _ _ a2
      clear s3 nx R2 tb2 a2 R1
      -- ends
      refine ⟨_, rfl, _, rfl, b, d2, ds, rfl, SqL.of a3, by omega, asc_le_of dg.asc, b2, b10, fun G4 en eu ev s4 hen heu hev => ?_⟩
      have w4 := w3.same s4
      have a4 := s4 _ _ a3
      have x4 := s4 _ _ hx
      have u4 := s4 _ _ hu
      clear s4 w3 a3 hx hu
      refine ⟨(by show 2 ≤ sizeLine; decide), fun t hT => ⟨t, _, rfl, SqT.of upd_same, rfl, _, _, rfl, _, _, rfl, rfl, ?_⟩⟩
      have s5 := same_upd (o := .tup [.ref x, .ref en]) (Same.refl G4) hT
      have w5 := w4.same s5
      have a5 := s5 _ _ a4
      have x5 := s5 _ _ x4
      have u5 := s5 _ _ u4
      have en5 := s5 _ _ hen
      have eu5 := s5 _ _ heu
      have ev5 := s5 _ _ hev
      generalize upd G4 t (.tup [.ref x, .ref en]) = G5 at w5 a5 x5 u5 en5 eu5 ev5
      clear s5 w4 a4 x4 u4 hen heu hev hT
      have okF := end_first dg.are dg.asc b2 b10
      have okL := end_last dg.are dg.asc b2 b10
      have nen := w5.nt en5
      have neu := w5.nt eu5
      have nev := w5.nt ev5
      have nxp := w5.ni x5
      have nup := w5.nt u5
      have fr1 := end_first dg.are dg.asc b2 b10
      have hac : frN (firstI ds) (b - 1) * frD (lastI ds) (b - 1) ≤ frN (lastI ds) (b - 1) * frD (firstI ds) (b - 1) := (inQ_iff.mp okF.has).2
      have dF := frD_le (x := firstI ds) (m := b - 1) (by omega)
      have dL := frD_le (x := lastI ds) (m := b - 1) (by omega)
      have aF := frN_abs (firstI ds) (b - 1) (by omega)
      have aL := frN_abs (lastI ds) (b - 1) (by omega)
      have lo9 := dg.are.lo
      have hi9 := dg.are.hi
      have le9 := ends_le dg.are dg.asc
      have cF : (frN (firstI ds) (b - 1)).natAbs < 2 ^ 200 := pw (pw_small (by omega) (by omega)) (by decide)
      have cL : (frN (lastI ds) (b - 1)).natAbs < 2 ^ 200 := pw (pw_small (by omega) (by omega)) (by decide)
      have cf : (frD (firstI ds) (b - 1)).natAbs < 2 ^ 200 := pw (pw_small (by omega) (by omega)) (by decide)
      have cl : (frD (lastI ds) (b - 1)).natAbs < 2 ^ 200 := pw (pw_small (by omega) (by omega)) (by decide)
      obtain ⟨⟨i5, v5, sd5, R5⟩, tb5⟩ := w5
      have w5 : Wd [(PP, lamQ)] p q ns G5 := ⟨⟨i5, v5, sd5, R5⟩, tb5⟩
      have mid : ∀ (m n k : Int), 0 < m → m ≤ 999 → Low n k → frN (firstI ds) (b - 1) * k ≤ n * frD (firstI ds) (b - 1) → n * frD (lastI ds) (b - 1) ≤ frN (lastI ds) (b - 1) * k → k ≤ frD (firstI ds) (b - 1) * (m * (frD (lastI ds) (b - 1) * frD (firstI ds) (b - 1))) → OkQ b ds 1000000 (n, k) := fun m n k m0 m1 lw z1 z2 z3 => by
        refine ⟨lw, ?_, inQ_iff.mpr ⟨z1, z2⟩⟩
        have q1 : frD (lastI ds) (b - 1) * frD (firstI ds) (b - 1) ≤ 9 * 9 := Int.le_trans (Int.mul_le_mul_of_nonneg_right (by omega : frD (lastI ds) (b - 1) ≤ 9) (by omega)) (Int.mul_le_mul_of_nonneg_left (by omega) (by decide))
        have q0 : 0 ≤ frD (lastI ds) (b - 1) * frD (firstI ds) (b - 1) := Int.mul_nonneg (by omega) (by omega)
        have q2 : m * (frD (lastI ds) (b - 1) * frD (firstI ds) (b - 1)) ≤ 999 * 81 := Int.le_trans (Int.mul_le_mul_of_nonneg_right m1 q0) (Int.mul_le_mul_of_nonneg_left q1 (by decide))
        have q3 : 0 ≤ m * (frD (lastI ds) (b - 1) * frD (firstI ds) (b - 1)) := Int.mul_nonneg (by omega) q0
        have q4 : frD (firstI ds) (b - 1) * (m * (frD (lastI ds) (b - 1) * frD (firstI ds) (b - 1))) ≤ 9 * 80919 := Int.le_trans (Int.mul_le_mul_of_nonneg_right (by omega : frD (firstI ds) (b - 1) ≤ 9) q3) (Int.mul_le_mul_of_nonneg_left q2 (by decide))
        show k ≤ 1000000
        omega
      -- number
      refine ⟨_, rfl, _, rfl, en, _, _, _, rfl, rfl, SqT.of en5, rfl, _, rfl, en, _, _, _, rfl, rfl, SqT.of en5, rfl, _, rfl, _, rfl, p, q, en, eu, ev, ns, i5, v5, sd5, 30, _, _, _, _, rfl, R5, SqT.of en5, SqT.of eu5, SqT.of ev5, nen, neu, nev, by decide, by decide, dF.1, dL.1, hac, cF, cf, cL, cl, fun G6 r1 n1 k1 i6 v6 sd6 K6 R6 nr1 hr1 lw1 z11 z12 z13 => ?_⟩
      refine ⟨_, rfl, _, rfl, p, q, en, eu, ev, ns, i6, v6, sd6, 999, _, _, _, _, rfl, R6, SqT.of (K6 _ _ en5 nen), SqT.of (K6 _ _ eu5 neu), SqT.of (K6 _ _ ev5 nev), nen, neu, nev, by decide, by decide, dF.1, dL.1, hac, cF, cf, cL, cl, fun G7 r2 n2 k2 i7 v7 sd7 K7 R7 nr2 hr2 lw2 z21 z22 z23 => ?_⟩
      have ok1 := mid 30 n1 k1 (by decide) (by decide) lw1 z11 z12 z13
      have ok2 := mid 999 n2 k2 (by decide) (by decide) lw2 z21 z22 z23
      have hr1' := K7 _ _ hr1 (R6.nt hr1)
      refine ⟨(by show 4 ≤ sizeLine; decide), fun l8 h8 => ?_⟩
      have R8 := R7.same (same_upd (o := .lst [.ref eu, .ref ev, .ref r1, .ref r2]) (Same.refl G7) h8)
      refine ⟨p, q, l8, ns, i7, v7, sd7, _, rfl, R8, upd_same, R7.free h8, (by simp), (by show 4 ≤ 1000; decide), fun y i9 v9 sd9 hy ok9 => ?_⟩
      have E9 : Ev p G5 (upd (upd G7 l8 (.lst [.ref eu, .ref ev, .ref r1, .ref r2])) p (.lst (rngL q i9 v9 sd9))) := (Ev.keep (K6.trans K7)).trans ((Ev.new h8).trans Ev.put)
      have E79 : Ev p G7 (upd (upd G7 l8 (.lst [.ref eu, .ref ev, .ref r1, .ref r2])) p (.lst (rngL q i9 v9 sd9))) := (Ev.new h8).trans Ev.put
      have w9 : Wd [(PP, lamQ)] p q ns (upd (upd G7 l8 (.lst [.ref eu, .ref ev, .ref r1, .ref r2])) p (.lst (rngL q i9 v9 sd9))) := ((w5.keep (K6.trans K7) R7).same (same_upd (Same.refl G7) h8)).put ok9
      obtain ⟨nu, rfl, nn, nd, hnu, okN⟩ : ∃ nu, y = .ref nu ∧ ∃ nn nd, upd (upd G7 l8 (.lst [.ref eu, .ref ev, .ref r1, .ref r2])) p (.lst (rngL q i9 v9 sd9)) nu = some (.tup [.int nn, .int nd]) ∧ OkQ b ds 1000000 (nn, nd) := by
        simp only [List.mem_cons, List.not_mem_nil, or_false] at hy
        rcases hy with rfl | rfl | rfl | rfl
        · exact ⟨_, rfl, _, _, E9.tup eu5 neu, okF⟩
        · exact ⟨_, rfl, _, _, E9.tup ev5 nev, okL⟩
        · exact ⟨_, rfl, _, _, E79.tup hr1' (R7.nt hr1'), ok1⟩
        · exact ⟨_, rfl, _, _, E79.tup hr2 (R7.nt hr2), ok2⟩
      have a9 := E9.lst a5 d2p
      have x9 := E9.ins x5 nxp
      have u9 := E9.tup u5 nup
      have en9 := E9.tup en5 nen
      have eu9 := E9.tup eu5 neu
      have ev9 := E9.tup ev5 nev
      generalize upd (upd G7 l8 (.lst [.ref eu, .ref ev, .ref r1, .ref r2])) p (.lst (rngL q i9 v9 sd9)) = G9 at w9 hnu a9 x9 u9 en9 eu9 ev9
      clear E9 E79 hy R8 h8 hr1' ok1 ok2 K7 K6 R6 R7 hr1 hr2 lw1 lw2 z11 z12 z13 z21 z22 z23 w5 R5 tb5 a5 x5 u5 en5 eu5 ev5 nr1 nr2 okF okL fr1 mid
      have nnu := w9.nt hnu
      -- many
      obtain ⟨⟨i9, v9, sd9, R9⟩, tb9⟩ := w9
      refine ⟨_, rfl, _, rfl, p, q, ns, i9, v9, sd9, 9, rfl, R9, by decide, small _ (by decide) (by decide), fun m1 i10 v10 sd10 m10 m11 ok10 => ?_⟩
      have R10 := R9.next ok10
      refine ⟨_, rfl, p, q, ns, i10, v10, sd10, 40, rfl, R10, by decide, small _ (by decide) (by decide), fun m2 i11 v11 sd11 m20 m21 ok11 => ?_⟩
      have R11 := R10.next ok11
      rw [upd_upd] at R11 ⊢
      refine ⟨(by show 3 ≤ sizeLine; decide), fun l12 h12 => ?_⟩
      have R12 := R11.same (same_upd (o := .lst [.int m1, .int m2, .int 200]) (Same.refl _) h12)
      refine ⟨p, q, l12, ns, i11, v11, sd11, _, rfl, R12, upd_same, R11.free h12, (by simp), (by show 3 ≤ 1000; decide), fun y i13 v13 sd13 hy ok13 => ?_⟩
      obtain ⟨m, rfl, m0, m200⟩ : ∃ m : Int, y = .int m ∧ 0 ≤ m ∧ m ≤ 200 := by
        simp only [List.mem_cons, List.not_mem_nil, or_false] at hy
        rcases hy with rfl | rfl | rfl
        · exact ⟨_, rfl, by omega, by omega⟩
        · exact ⟨_, rfl, by omega, by omega⟩
        · exact ⟨_, rfl, by decide, by decide⟩
      have w13 : Wd [(PP, lamQ)] p q ns _ := (((⟨⟨i9, v9, sd9, R9⟩, tb9⟩ : Wd [(PP, lamQ)] p q ns G9).put ok11).same (same_upd (o := .lst [.int m1, .int m2, .int 200]) (Same.refl _) h12)).put ok13
      have E13 : Ev p G9 _ := ((Ev.put (o := .lst (rngL q i11 v11 sd11))).trans (Ev.new (o := .lst [.int m1, .int m2, .int 200]) h12)).trans (Ev.put (o := .lst (rngL q i13 v13 sd13)))
      have a13 := E13.lst a9 d2p
      have x13 := E13.ins x9 nxp
      have u13 := E13.tup u9 nup
      have en13 := E13.tup en9 nen
      have eu13 := E13.tup eu9 neu
      have ev13 := E13.tup ev9 nev
      have nu13 := E13.tup hnu nnu
      generalize upd (upd (upd G9 p (.lst (rngL q i11 v11 sd11))) l12 (.lst [.int m1, .int m2, .int 200])) p (.lst (rngL q i13 v13 sd13)) = G13 at w13 a13 x13 u13 en13 eu13 ev13 nu13
      clear E13 R12 h12 R11 R10 R9 tb9 a9 x9 u9 en9 eu9 ev9 hnu hy ok13 ok11 ok10 m10 m11 m20 m21
      -- due, rest
      refine ⟨(by show 0 ≤ sizeLine; decide), fun ld hld => ?_⟩
      have s14 := same_upd (o := .lst []) (Same.refl G13) hld
      have w14 := w13.same s14
      have nlp := w13.nn hld
      have nlq := w13.nq hld
      have nld2 : d2 ≠ ld := ne_of_none a13 hld
      have a14 := s14 _ _ a13
      have x14 := s14 _ _ x13
      have u14 := s14 _ _ u13
      have en14 := s14 _ _ en13
      have eu14 := s14 _ _ eu13
      have ev14 := s14 _ _ ev13
      have nu14 := s14 _ _ nu13
      have ld14 : upd G13 ld (.lst []) ld = some (.lst []) := upd_same
      generalize upd G13 ld (.lst []) = G14 at w14 a14 x14 u14 en14 eu14 ev14 nu14 ld14
      clear s14 w13 a13 x13 u13 en13 eu13 ev13 nu13 hld
      refine ⟨_, rfl, _, _, rfl, ?_⟩
      -- the digits
      refine ⟨_, rfl, m, rfl, by omega, by omega, for_range (lo := 0) (n := m.toNat) (fun ii σ G => ∃ (re : Addr) (o9 o10 o11 : Option V), σ = [some (.ref a), some (.ref p), some (.int (0 + (j : Int))), some (.int b), some (.ref d2), some (.ref en), some (.int m), some (.ref ld), some (.ref re), o9, o10, o11, o12, o13, some (.ref nu), o15, some (.ref x), none] ∧
          Wd [(PP, lamQ)] p q ns G ∧ (∀ c o, G14 c = some o → c ≠ p → c ≠ ld → (∀ ps, o ≠ .tbl ps) → G c = some o) ∧ G ld = some (.lst ((rowQ b ds (nn, nd) ii).map V.int)) ∧ SqT K G re [.int (restQ b ds (nn, nd) ii).1, .int (restQ b ds (nn, nd) ii).2] ∧ re ≠ p ∧ re ≠ ld)
        ⟨nu, o9, o10, o11, rfl, w14, fun _ _ h _ _ _ => h, ld14, SqT.of nu14, nnu, fun e => by rw [e, ld14] at nu14; cases nu14⟩ ?_ ?_⟩
      · rintro ii σ G hii ⟨re, o9', o10', o11', rfl, wG, kG, hld, hre, nrp, nrl⟩
        have okI := okN.rest dg.are b2 ii
        obtain ⟨n, d, end_⟩ : ∃ n d, restQ b ds (nn, nd) ii = (n, d) := ⟨_, _, rfl⟩
        rw [end_] at hre okI
        obtain ⟨n0, n1, d0, d1⟩ := okI.small dg.are b2
        have n0 : -(99 * 1000000) ≤ n := n0
        have n1 : n ≤ 99 * 1000000 := n1
        have d0 : 0 < d := d0
        have d1 : d ≤ 1000000 := d1
        have bd := asc_bd dg.are dg.asc
        have aG := kG _ _ a14 d2p nld2 (fun _ z => nomatch z)
        have nt : ∀ {c : Addr} {xs : List V}, G14 c = some (.tup xs) → c ≠ ld := fun h e => by rw [e, ld14] at h; cases h
        have enG := kG _ _ en14 nen (nt en14) (fun _ z => nomatch z)
        have euG := kG _ _ eu14 neu (nt eu14) (fun _ z => nomatch z)
        have evG := kG _ _ ev14 nev (nt ev14) (fun _ z => nomatch z)
        -- moved
        refine ⟨_, rfl, (by show 2 ≤ sizeLine; decide), fun t1 h1 => ?_⟩
        have s1 := same_upd (o := .tup [.int b, .int 1]) (Same.refl G) h1
        refine ⟨_, rfl, t1, re, b, 1, n, d, rfl, SqT.of upd_same, seqT s1 hre, sw_of (by omega) (by omega), sw_of (by decide) (by decide), sw_of (by omega) (by omega), sw_of (by omega) (by omega), by decide, by omega, fun mv hmv => ?_⟩
        have s2 := s1.trans (same_upd (o := .tup [.int (frN (b * n) (1 * d)), .int (frD (b * n) (1 * d))]) (Same.refl _) hmv)
        have mv2 : upd (upd G t1 (.tup [.int b, .int 1])) mv (.tup [.int (frN (b * n) (1 * d)), .int (frD (b * n) (1 * d))]) mv = some (.tup [.int (frN (b * n) (1 * d)), .int (frD (b * n) (1 * d))]) := upd_same
        show gName 10 (V.ref mv) _ (upd (upd G t1 (.tup [.int b, .int 1])) mv (.tup [.int (frN (b * n) (1 * d)), .int (frD (b * n) (1 * d))])) _
        generalize upd (upd G t1 (.tup [.int b, .int 1])) mv (.tup [.int (frN (b * n) (1 * d)), .int (frD (b * n) (1 * d))]) = G2 at s2 mv2
        have dM := frD_le (x := b * n) (m := 1 * d) (by omega)
        have aM := frN_abs (b * n) (1 * d) (by omega)
        have bn : (b * n).natAbs ≤ 10 * 99000000 := by rw [Int.natAbs_mul]; exact Nat.mul_le_mul (by omega) (by omega)
        have sM : Sw (frN (b * n) (1 * d)) := sw_of (by omega) (by omega)
        have sm : Sw (frD (b * n) (1 * d)) := sw_of (by omega) (by omega)
        have gb : ∀ g, -99 ≤ g ∧ g ≤ 99 → Sw (rsN b g n d) ∧ Sw (rsD b g n d) := fun g hg => by
          have a1 := frN_abs (b * n - g * d) d (by omega)
          have a2 := frD_abs (b * n - g * d) d (by omega)
          have h2 : (g * d).natAbs ≤ 99 * 1000000 := by rw [Int.natAbs_mul]; exact Nat.mul_le_mul (by omega) (by omega)
          unfold rsN rsD
          exact ⟨sw_of (by omega) (by omega), sw_of (by omega) (by omega)⟩
        obtain ⟨wF, wf, wL, wl⟩ := ends_sw dg.are dg.asc b2 b10
        -- some
        refine ⟨_, rfl, d2, ds, rfl, .inl (SqL.of (s2 _ _ aG)), by omega, fun ms ps hperm hasc hps => ?_⟩
        have ems : ms = ds := (srt_eq hperm hasc).trans es
        subst ems
        have s3 := s2.trans (same_upd (o := .lst (ms.map V.int)) (Same.refl G2) hps)
        have ps3 : upd G2 ps (.lst (ms.map V.int)) ps = some (.lst (ms.map V.int)) := upd_same
        have mv3 := same_upd (o := .lst (ms.map V.int)) (Same.refl G2) hps _ _ mv2
        generalize upd G2 ps (.lst (ms.map V.int)) = G3 at s3 ps3 mv3
        refine ⟨ps, rfl, ⟨_, SqL.of ps3⟩, fun D hD => ?_⟩
        refine lc_list (K := K) (a := ps) (xs := ms.map V.int) (fun i G' => Same G3 G' ∧ G' D = some (.lst (((ms.take i).filter fun g => hasN b ms (rsN b g n d) (rsD b g n d)).map V.int))) ⟨same_upd (Same.refl _) hD, upd_same⟩ (fun i G' _ e => e.1.seq (SqL.of ps3)) ?_ ?_
        · rintro i y G' hi ⟨e1, e2⟩
          have hlt : i < ms.length := by
            have z := (List.getElem?_eq_some_iff.mp hi).1
            rw [List.length_map] at z
            exact z
          rw [ints_at hlt] at hi
          cases hi
          obtain ⟨g, eg⟩ : ∃ g, g = ms.getD i 0 := ⟨_, rfl⟩
          have mb : -99 ≤ g ∧ g ≤ 99 := by rw [eg]; exact bd _ (Ew.getD_mem hlt)
          rw [← eg]
          have en' := e1 _ _ (s3 _ _ enG)
          refine ⟨rfl, ?_⟩
          refine ⟨_, rfl, en, _, _, _, rfl, rfl, SqT.of en', rfl, _, rfl, _, rfl, (by show 2 ≤ sizeLine; decide), fun t2 h2 => ?_⟩
          have s4 := same_upd (o := .tup [.int g, .int 1]) (Same.refl G') h2
          refine ⟨mv, t2, frN (b * n) (1 * d), frD (b * n) (1 * d), g, 1, rfl, SqT.of (s4 _ _ (e1 _ _ mv3)), SqT.of upd_same, sM, sm, sw_of (by omega) (by omega), sw_of (by decide) (by decide), by omega, by decide, fun df hdf => ?_⟩
          have hrs := rs_eq (b := b) (g := g) (n := n) d0
          have s5 := s4.trans (same_upd (o := .tup [.int (frN (frN (b * n) (1 * d) * 1 - g * frD (b * n) (1 * d)) (frD (b * n) (1 * d) * 1)), .int (frD (frN (b * n) (1 * d) * 1 - g * frD (b * n) (1 * d)) (frD (b * n) (1 * d) * 1))]) (Same.refl _) hdf)
          have df5 : upd (upd G' t2 (.tup [.int g, .int 1])) df (.tup [.int (frN (frN (b * n) (1 * d) * 1 - g * frD (b * n) (1 * d)) (frD (b * n) (1 * d) * 1)), .int (frD (frN (b * n) (1 * d) * 1 - g * frD (b * n) (1 * d)) (frD (b * n) (1 * d) * 1))]) df = some (.tup [.int (rsN b g n d), .int (rsD b g n d)]) := by rw [upd_same, hrs.1, hrs.2]
          have gs := gb g mb
          refine ⟨_, rfl, en, _, _, _, rfl, rfl, SqT.of (s5 _ _ en'), rfl, eu, df, ev, rsN b g n d, rsD b g n d, _, _, _, _, rfl, SqT.of df5, SqT.of (s5 _ _ (e1 _ _ (s3 _ _ euG))), SqT.of (s5 _ _ (e1 _ _ (s3 _ _ evG))), gs.1, gs.2, wF, wf, wL, wl, _, rfl, ?_⟩
          have e3 := e1.trans s5
          have e4 := s5 _ _ e2
          have tk : (ms.take (i + 1)).filter (fun g => hasN b ms (rsN b g n d) (rsD b g n d)) = (ms.take i).filter (fun g => hasN b ms (rsN b g n d) (rsD b g n d)) ++ if hasN b ms (rsN b g n d) (rsD b g n d) = true then [g] else [] := by
            rw [take_snoc hlt, List.filter_append, List.filter_cons, ← eg]
            rfl
          cases c : hasN b ms (rsN b g n d) (rsD b g n d) with
          | true =>
            rw [c, if_pos rfl] at tk
            refine ifT c ⟨_, rfl, _, e4, ?_, same_updN e3 hD, ?_⟩
            · rw [List.length_map, sizeLine_eq]
              have z1 := List.length_filter_le (fun g => hasN b ms (rsN b g n d) (rsD b g n d)) (ms.take i)
              rw [List.length_take] at z1
              omega
            · rw [upd_same, tk, List.map_append]
              rfl
          | false =>
            rw [c, if_neg (by decide), List.append_nil] at tk
            refine ifF c ⟨e3, ?_⟩
            rw [tk]
            exact e4
        · rintro G4 ⟨e1, e2⟩
          rw [List.length_map, List.take_length] at e2
          have hasI : hasN b ms n d = true := okI.has
          have pn : possL b ms n d ≠ [] := poss_ne dg.are b2 d0 hasI
          have md := lfd_mem pn
          have gl := bd _ md.1
          have at0 : atI ((possL b ms n d).map V.int) 0 = some (.int (lfd b ms n d)) := at_int (s := possL b ms n d) (i := 0) rfl (List.length_pos_iff.mpr pn)
          have s4 := s3.trans e1
          have ld4 := s4 _ _ hld
          have nDl : D ≠ ld := fun e => by
            have z := s3 _ _ hld
            rw [← e, hD] at z
            cases z
          have mv4 := e1 _ _ mv3
          have nml : mv ≠ ld := fun e => by rw [e, ld4] at mv4; cases mv4
          refine ⟨_, rfl, .inl ⟨rfl, _, SqL.of ld4⟩, _, rfl, D, _, _, _, rfl, rfl, SqL.of e2, at0, ld, _, _, rfl, rfl, ld4, ?_, ?_⟩
          · rw [List.length_map, rowQ_len, sizeLine_eq]; omega
          · have w4 := wG.same s4
            have w6 := w4.off (o := .lst ((rowQ b ms (nn, nd) ii).map V.int ++ [.int (lfd b ms n d)])) ld4 nlp nlq
            have D6 : upd G4 ld (.lst ((rowQ b ms (nn, nd) ii).map V.int ++ [.int (lfd b ms n d)])) D = some (.lst ((possL b ms n d).map V.int)) := by rw [upd_ne nDl]; exact e2
            have mv6 : upd G4 ld (.lst ((rowQ b ms (nn, nd) ii).map V.int ++ [.int (lfd b ms n d)])) mv = some (.tup [.int (frN (b * n) (1 * d)), .int (frD (b * n) (1 * d))]) := by rw [upd_ne nml]; exact mv4
            have ld6 : upd G4 ld (.lst ((rowQ b ms (nn, nd) ii).map V.int ++ [.int (lfd b ms n d)])) ld = some (.lst ((rowQ b ms (nn, nd) (ii + 1)).map V.int)) := by
              rw [upd_same, rowQ_succ, List.map_append]
              unfold digQ
              rw [end_]
              rfl
            have k6 : ∀ c o, G14 c = some o → c ≠ p → c ≠ ld → (∀ ps, o ≠ .tbl ps) → upd G4 ld (.lst ((rowQ b ms (nn, nd) ii).map V.int ++ [.int (lfd b ms n d)])) c = some o := fun c o h1 h2 h3 h4 => by
              rw [upd_ne h3]
              exact s4 _ _ (kG c o h1 h2 h3 h4)
            generalize upd G4 ld (.lst ((rowQ b ms (nn, nd) ii).map V.int ++ [.int (lfd b ms n d)])) = G6 at w6 D6 mv6 ld6 k6
            refine ⟨_, rfl, _, rfl, D, _, _, _, rfl, rfl, SqL.of D6, at0, (by show 2 ≤ sizeLine; decide), fun t3 h3 => ?_⟩
            have s7 := same_upd (o := .tup [.int (lfd b ms n d), .int 1]) (Same.refl G6) h3
            refine ⟨mv, t3, frN (b * n) (1 * d), frD (b * n) (1 * d), lfd b ms n d, 1, rfl, SqT.of (s7 _ _ mv6), SqT.of upd_same, sM, sm, sw_of (by omega) (by omega), sw_of (by decide) (by decide), by omega, by decide, fun r' hr' => ?_⟩
            have hrs := rs_eq (b := b) (g := lfd b ms n d) (n := n) d0
            have s8 := s7.trans (same_upd (o := .tup [.int (frN (frN (b * n) (1 * d) * 1 - lfd b ms n d * frD (b * n) (1 * d)) (frD (b * n) (1 * d) * 1)), .int (frD (frN (b * n) (1 * d) * 1 - lfd b ms n d * frD (b * n) (1 * d)) (frD (b * n) (1 * d) * 1))]) (Same.refl _) hr')
            have n6 : G6 r' = none := s7.free hr'
            refine ⟨r', _, _, _, rfl, w6.same s8, fun c o h1 h2 h3 h4 => s8 _ _ (k6 c o h1 h2 h3 h4), s8 _ _ ld6, SqT.of ?_, w6.nn n6, fun e => by rw [e, ld6] at n6; cases n6⟩
            show upd _ r' (HO.tup [.int (frN (frN (b * n) (1 * d) * 1 - lfd b ms n d * frD (b * n) (1 * d)) (frD (b * n) (1 * d) * 1)), .int (frD (frN (b * n) (1 * d) * 1 - lfd b ms n d * frD (b * n) (1 * d)) (frD (b * n) (1 * d) * 1))]) r' = _
            rw [upd_same, hrs.1, hrs.2, show restQ b ms (nn, nd) (ii + 1) = rsQ b ms (restQ b ms (nn, nd) ii) from rfl, end_]
            rfl
      · rintro σ G ⟨re, o9', o10', o11', rfl, wG, kG, hld, hre, nrp, nrl⟩
        have nt : ∀ {c : Addr} {xs : List V}, G14 c = some (.tup xs) → c ≠ ld := fun h e => by rw [e, ld14] at h; cases h
        have ni : ∀ {c C dx : Addr} {fs : List (Str × V)}, G14 c = some (.ins C dx fs) → c ≠ ld := fun h e => by rw [e, ld14] at h; cases h
        have enG := kG _ _ en14 nen (nt en14) (fun _ z => nomatch z)
        have euG := kG _ _ eu14 neu (nt eu14) (fun _ z => nomatch z)
        have evG := kG _ _ ev14 nev (nt ev14) (fun _ z => nomatch z)
        have uG := kG _ _ u14 nup (nt u14) (fun _ z => nomatch z)
        have nuG := kG _ _ nu14 nnu (nt nu14) (fun _ z => nomatch z)
        have xG := kG _ _ x14 nxp (ni x14) (fun _ z => nomatch z)
        clear kG hre nrp nrl w14 a14 x14 u14 en14 eu14 ev14 nu14 ld14
        have hN : hasN b ds nn nd = true := okN.has
        obtain ⟨n0, n1, d0, d1⟩ := okN.small dg.are b2
        have n0 : -(99 * 1000000) ≤ nn := n0
        have n1 : nn ≤ 99 * 1000000 := n1
        have d0 : 0 < nd := d0
        have d1 : nd ≤ 1000000 := d1
        have sN : Sw nn := sw_of (by omega) (by omega)
        have sD : Sw nd := sw_of (by omega) (by omega)
        have dsA : ∀ {G' : Hp}, G' x = some (.ins CD dx (dsF b u)) → G' u = some (.tup (ds.map V.int)) → DsAt K CD G' x dx u b ds := fun h1 h2 => ⟨h1, SqT.of h2, dg.are, dg.asc, b2, b10⟩
        obtain ⟨wF, wf, wL, wl⟩ := ends_sw dg.are dg.asc b2 b10
        refine ⟨_, rfl, x, dx, _, rfl, xG, vN, _, rfl, _, rfl, x, dx, u, nu, b, ds, nn, nd, m, rfl, dsA xG uG, SqT.of nuG, sN, sD, fun z => z.elim (fun z => absurd ⟨m0, m200⟩ z) (fun z => by rw [hN] at z; cases z), fun _ _ _ => ⟨⟨1000000, by decide, okN⟩, fun G2 rw s2 nrw hrw => ?_⟩⟩
        refine ⟨_, rfl, ld, _, rfl, .inl ⟨SqL.of (s2 _ _ hld), fun t2 ht2 => ?_⟩⟩
        have s3 := same_upd (o := .tup ((rowQ b ds (nn, nd) m.toNat).map V.int)) (Same.refl G2) ht2
        refine ⟨_, _, rfl, same_ints (n := 1) (ds := rowQ b ds (nn, nd) m.toNat) (s3 _ _ hrw) upd_same (by rw [rowQ_len]; omega), fun G4 s4 => ⟨true, rfl, iteF ?_⟩⟩
        have s24 := s2.trans (s3.trans s4)
        have w4 := wG.same s24
        have en4 := s24 _ _ enG
        have eu4 := s24 _ _ euG
        have ev4 := s24 _ _ evG
        have u4 := s24 _ _ uG
        have nu4 := s24 _ _ nuG
        have x4 := s24 _ _ xG
        clear s24 s4 s3 ht2 hrw nrw s2 wG enG euG evG uG nuG xG hld
        -- far
        refine ⟨_, rfl, _, rfl, en, _, _, _, rfl, rfl, SqT.of en4, rfl, (by show 2 ≤ sizeLine; decide), fun t5 h5 => ?_⟩
        have s5 := same_upd (o := .tup [.int 1, .int 97]) (Same.refl G4) h5
        refine ⟨ev, t5, _, _, 1, 97, rfl, SqT.of (s5 _ _ ev4), SqT.of upd_same, wL, wl, sw_of (by decide) (by decide), sw_of (by decide) (by decide), by omega, by decide, fun f1 hf1 => ?_⟩
        have s6 := s5.trans (same_upd (o := .tup [.int (frN (frN (lastI ds) (b - 1) * 97 + 1 * frD (lastI ds) (b - 1)) (frD (lastI ds) (b - 1) * 97)), .int (frD (frN (lastI ds) (b - 1) * 97 + 1 * frD (lastI ds) (b - 1)) (frD (lastI ds) (b - 1) * 97))]) (Same.refl _) hf1)
        have f16 : upd (upd G4 t5 (.tup [.int 1, .int 97])) f1 (.tup [.int (frN (frN (lastI ds) (b - 1) * 97 + 1 * frD (lastI ds) (b - 1)) (frD (lastI ds) (b - 1) * 97)), .int (frD (frN (lastI ds) (b - 1) * 97 + 1 * frD (lastI ds) (b - 1)) (frD (lastI ds) (b - 1) * 97))]) f1 = _ := upd_same
        refine ⟨_, rfl, en, _, _, _, rfl, rfl, SqT.of (s6 _ _ en4), rfl, ?_⟩
        generalize hG6 : upd (upd G4 t5 (.tup [.int 1, .int 97])) f1 (.tup [.int (frN (frN (lastI ds) (b - 1) * 97 + 1 * frD (lastI ds) (b - 1)) (frD (lastI ds) (b - 1) * 97)), .int (frD (frN (lastI ds) (b - 1) * 97 + 1 * frD (lastI ds) (b - 1)) (frD (lastI ds) (b - 1) * 97))]) = G6 at s6 f16
        refine ⟨(by show 2 ≤ sizeLine; decide), fun t7 h7 => ?_⟩
        have s7 := same_upd (o := .tup [.int 1, .int 89]) (Same.refl G6) h7
        refine ⟨eu, t7, _, _, 1, 89, rfl, SqT.of (s7 _ _ (s6 _ _ eu4)), SqT.of upd_same, wF, wf, sw_of (by decide) (by decide), sw_of (by decide) (by decide), by omega, by decide, fun f2 hf2 => ?_⟩
        have s8 := s7.trans (same_upd (o := .tup [.int (frN (frN (firstI ds) (b - 1) * 89 - 1 * frD (firstI ds) (b - 1)) (frD (firstI ds) (b - 1) * 89)), .int (frD (frN (firstI ds) (b - 1) * 89 - 1 * frD (firstI ds) (b - 1)) (frD (firstI ds) (b - 1) * 89))]) (Same.refl _) hf2)
        have f28 : upd (upd G6 t7 (.tup [.int 1, .int 89])) f2 (.tup [.int (frN (frN (firstI ds) (b - 1) * 89 - 1 * frD (firstI ds) (b - 1)) (frD (firstI ds) (b - 1) * 89)), .int (frD (frN (firstI ds) (b - 1) * 89 - 1 * frD (firstI ds) (b - 1)) (frD (firstI ds) (b - 1) * 89))]) f2 = _ := upd_same
        have f18 := s8 _ _ f16
        have s48 := s6.trans s8
        have q1 : 0 < frD (lastI ds) (b - 1) * 97 := by omega
        have q2 : 0 < frD (firstI ds) (b - 1) * 89 := by omega
        obtain ⟨lw1, sp1⟩ := fr_spec (frN (lastI ds) (b - 1) * 97 + 1 * frD (lastI ds) (b - 1)) (b := frD (lastI ds) (b - 1) * 97) (by omega)
        obtain ⟨lw2, sp2⟩ := fr_spec (frN (firstI ds) (b - 1) * 89 - 1 * frD (firstI ds) (b - 1)) (b := frD (firstI ds) (b - 1) * 89) (by omega)
        have up1 := far_up (b := b) (s := ds) rfl rfl dL.1 sp1 lw1.pos
        have up2 := far_down (b := b) (s := ds) rfl rfl dF.1 sp2 lw2.pos
        have c11 := frN_abs (frN (lastI ds) (b - 1) * 97 + 1 * frD (lastI ds) (b - 1)) (frD (lastI ds) (b - 1) * 97) (by omega)
        have c12 := frD_abs (frN (lastI ds) (b - 1) * 97 + 1 * frD (lastI ds) (b - 1)) (frD (lastI ds) (b - 1) * 97) (by omega)
        have c21 := frN_abs (frN (firstI ds) (b - 1) * 89 - 1 * frD (firstI ds) (b - 1)) (frD (firstI ds) (b - 1) * 89) (by omega)
        have c22 := frD_abs (frN (firstI ds) (b - 1) * 89 - 1 * frD (firstI ds) (b - 1)) (frD (firstI ds) (b - 1) * 89) (by omega)
        generalize frN (frN (lastI ds) (b - 1) * 97 + 1 * frD (lastI ds) (b - 1)) (frD (lastI ds) (b - 1) * 97) = N1 at *
        generalize frD (frN (lastI ds) (b - 1) * 97 + 1 * frD (lastI ds) (b - 1)) (frD (lastI ds) (b - 1) * 97) = D1 at *
        refine ⟨(by show 2 ≤ sizeLine; decide), fun l9 h9 => ?_⟩
        have w8 := w4.same s48
        have s9 := same_upd (o := .lst [.ref f1, .ref f2]) (Same.refl _) h9
        obtain ⟨⟨i8, v8, sd8, R8⟩, tb8⟩ := w8
        have R9 := R8.same s9
        refine ⟨p, q, l9, ns, i8, v8, sd8, _, rfl, R9, upd_same, R8.free h9, (by simp), (by show 2 ≤ 1000; decide), fun y i10 v10 sd10 hy ok10 => ?_⟩
        have w9 : Wd [(PP, lamQ)] p q ns _ := ((⟨⟨i8, v8, sd8, R8⟩, tb8⟩ : Wd [(PP, lamQ)] p q ns _).same s9).put ok10
        have E10 : Ev p G4 _ := ((Ev.of s48).trans (Ev.of s9)).trans (Ev.put (o := .lst (rngL q i10 v10 sd10)))
        have E8 : Ev p _ _ := (Ev.of s9).trans (Ev.put (p := p) (o := .lst (rngL q i10 v10 sd10)))
        have en10 := E10.tup en4 nen
        have u10 := E10.tup u4 nup
        have nu10 := E10.tup nu4 nnu
        have x10 := E10.ins x4 nxp
        have g1 := E8.tup f18 (R8.nt f18)
        have g2 := E8.tup f28 (R8.nt f28)
        obtain ⟨fa, rfl, N, D', hfa, hF, sN', sD'⟩ : ∃ fa, y = .ref fa ∧ ∃ N D', upd (upd _ l9 (.lst [.ref f1, .ref f2])) p (.lst (rngL q i10 v10 sd10)) fa = some (.tup [.int N, .int D']) ∧ hasN b ds N D' = false ∧ Sw N ∧ Sw D' := by
          simp only [List.mem_cons, List.not_mem_nil, or_false] at hy
          rcases hy with rfl | rfl
          · exact ⟨_, rfl, _, _, g1, up1, sw_of (by omega) (by omega), sw_of (by omega) (by omega)⟩
          · exact ⟨_, rfl, _, _, g2, up2, sw_of (by omega) (by omega), sw_of (by omega) (by omega)⟩
        generalize upd (upd _ l9 (.lst [.ref f1, .ref f2])) p (.lst (rngL q i10 v10 sd10)) = G10 at w9 en10 u10 nu10 x10 hfa
        clear E10 E8 g1 g2 hy R9 R8 tb8 h9 s9 up1 up2 lw1 lw2 sp1 sp2 c11 c12 c21 c22 f18 f28 s48 s8 s7 s6 s5 f16 ok10 w4 en4 eu4 ev4 u4 nu4 x4
        -- odd
        obtain ⟨⟨i10, v10, sd10, R10⟩, tb10⟩ := w9
        have cpow : CPow 10 20 := ⟨by decide, by decide, by decide⟩
        refine ⟨_, rfl, _, rfl, 10, 20, rfl, rfl, cpow, (by show 3 ≤ sizeLine; decide), fun l11 h11 => ?_⟩
        have s11 := same_upd (o := .lst [.int (-1), .int 201, .int (10 ^ (20 : Int).toNat)]) (Same.refl G10) h11
        refine ⟨p, q, l11, ns, i10, v10, sd10, _, rfl, R10.same s11, upd_same, R10.free h11, (by simp), (by show 3 ≤ 1000; decide), fun y i12 v12 sd12 hy ok12 => ?_⟩
        obtain ⟨od', rfl, hod⟩ : ∃ od' : Int, y = .int od' ∧ ¬ (0 ≤ od' ∧ od' ≤ 200) := by
          simp only [List.mem_cons, List.not_mem_nil, or_false] at hy
          rcases hy with rfl | rfl | rfl
          · exact ⟨_, rfl, by decide⟩
          · exact ⟨_, rfl, by decide⟩
          · exact ⟨_, rfl, by decide +kernel⟩
        have w12 : Wd [(PP, lamQ)] p q ns _ := ((⟨⟨i10, v10, sd10, R10⟩, tb10⟩ : Wd [(PP, lamQ)] p q ns G10).same s11).put ok12
        have E12 : Ev p G10 _ := (Ev.of s11).trans (Ev.put (o := .lst (rngL q i12 v12 sd12)))
        have u12 := E12.tup u10 nup
        have nu12 := E12.tup nu10 nnu
        have x12 := E12.ins x10 nxp
        have fa12 := E12.tup hfa (R10.nt hfa)
        generalize upd (upd G10 l11 (.lst [.int (-1), .int 201, .int (10 ^ (20 : Int).toNat)])) p (.lst (rngL q i12 v12 sd12)) = G12 at w12 u12 nu12 x12 fa12
        clear E12 hy R10 tb10 h11 s11 ok12 en10 u10 nu10 x10 hfa
        -- the two tags
        refine ⟨w12.t, fun G13 eN tb13 => ?_⟩
        have w13 := w12.extN eN tb13
        have u13 := eN _ _ u12 (fun _ z => nomatch z)
        have nu13 := eN _ _ nu12 (fun _ z => nomatch z)
        have x13 := eN _ _ x12 (fun _ z => nomatch z)
        have fa13 := eN _ _ fa12 (fun _ z => nomatch z)
        clear eN tb13 w12 u12 nu12 x12 fa12
        refine ⟨_, rfl, x, dx, _, rfl, x13, vN, _, rfl, x, dx, u, fa, b, ds, N, D', 3, rfl, dsA x13 u13, SqT.of fa13, sN', sD', fun _ Gx dd e1 hdd => ?_, fun _ _ z => absurd (hF.symm.trans z) (by decide)⟩
        refine ⟨xO, "OutOfRange", ⟨CO, dd, _, rfl, eO.xf, eO.nT, rfl, upd_same, rfl⟩, noneOut, fun G' o e' ho => ⟨o, _, _, _, rfl, rfl, SqT.of upd_same, rfl, ?_⟩⟩
        have s14 : Same G13 (upd G' o (.tup [.str "OutOfRange", .non])) := same_upd ((same_upd e1 hdd).trans e') ho
        have w14 := w13.same s14
        have u14 := s14 _ _ u13
        have nu14 := s14 _ _ nu13
        have x14 := s14 _ _ x13
        generalize upd G' o (.tup [.str "OutOfRange", .non]) = G14' at w14 u14 nu14 x14
        clear s14 e' ho hdd e1 w13 u13 nu13 x13 fa13
        refine ⟨w14.t, fun G15 eN tb15 => ?_⟩
        have w15 := w14.extN eN tb15
        have u15 := eN _ _ u14 (fun _ z => nomatch z)
        have nu15 := eN _ _ nu14 (fun _ z => nomatch z)
        have x15 := eN _ _ x14 (fun _ z => nomatch z)
        clear eN tb15 w14 u14 nu14 x14
        refine ⟨_, rfl, x, dx, _, rfl, x15, vN, _, rfl, _, rfl, x, dx, u, nu, b, ds, nn, nd, od', rfl, dsA x15 u15, SqT.of nu15, sN, sD, fun _ Gx dd e1 hdd => ?_, fun z1 z2 _ => absurd ⟨z1, z2⟩ hod⟩
        refine ⟨xO, "OutOfRange", ⟨CO, dd, _, rfl, eO.xf, eO.nT, rfl, upd_same, rfl⟩, noneOut, fun G' o e' ho => ⟨o, _, _, _, rfl, rfl, SqT.of upd_same, rfl, ?_⟩⟩
        have w16 := w15.same (same_upd (o := .tup [.str "OutOfRange", .non]) ((same_upd e1 hdd).trans e') ho)
        generalize upd G' o (.tup [.str "OutOfRange", .non]) = G16 at w16
        refine ⟨(by show 2 ≤ sizeLine; decide), fun l17 h17 => ?_⟩
        have s17 := same_upd (o := .lst [.str "OutOfRange", .str "OutOfRange"]) (Same.refl G16) h17
        refine ⟨_, rfl, (by show 1 ≤ sizeLine; decide), fun l18 h18 => ⟨l18, 2, _, rfl, rfl, upd_same, by decide, by decide, by decide, fun l19 h19 => ?_⟩⟩
        have s19 := same_upd (o := .lst (List.replicate (2 : Int).toNat [V.str "OutOfRange"]).flatten) (same_upd (o := .lst [.str "OutOfRange"]) (Same.refl _) h18) h19
        have tA := s19 _ _ (upd_same (H := G16) (a := l17) (o := .lst [.str "OutOfRange", .str "OutOfRange"]))
        refine ⟨.list [.str "OutOfRange", .str "OutOfRange"], .list [.str "OutOfRange", .str "OutOfRange"], .lst (SqL.of tA) (.cons (.str _) (.cons (.str _) .nil)), .lst (SqL.of upd_same) (.cons (.str _) (.cons (.str _) .nil)), by decide +kernel, by decide +kernel, _, rfl, ifF (by decide +kernel) ?_⟩
        exact ⟨_, _, _, _, _, _, _, _, _, _, _, _, _, _, _, rfl, w16.same (s17.trans s19)⟩
    · rintro σ G ⟨o2, o3, o4, o5, o6, o7, o8, o9, o10, o11, o12, o13, o14, o15, o16, rfl, wG⟩
      have e3 : srt [0, 1, 2] = [0, 1, 2] := srt_self (by decide +kernel)
      have ar : AreS 3 [0, 1, 2] := by
        rw [show ([0, 1, 2] : List Int) = runL 0 3 by decide +kernel]
        exact (runL_dig (b := 3) (by decide) (by decide) (by decide) (by decide) (by decide)).are
      refine ⟨(by show 3 ≤ sizeLine; decide), fun t1 ht1 y dx ny nd _ => mk_set (b := 3) (ds := [0, 1, 2]) ny nd (.inr (SqT.of upd_same)) (by decide) (by decide) (by decide) (by rw [e3]; exact ar) fun G1 u e1 hy hu => ?_⟩
      rw [e3] at hu
      refine ⟨y, dx, _, rfl, hy, vN, (by show 2 ≤ sizeLine; decide), fun t2 ht2 => ?_⟩
      have s2 := same_upd (o := .tup [.int 1, .int 2]) (Same.refl G1) ht2
      have hh : hasN 3 [0, 1, 2] 1 2 = true := by decide +kernel
      refine ⟨y, dx, u, t2, 3, [0, 1, 2], 1, 2, 200, rfl, ⟨s2 _ _ hy, SqT.of (s2 _ _ hu), ar, by decide +kernel, by decide, by decide⟩, SqT.of upd_same, sw_of (by decide) (by decide), sw_of (by decide) (by decide), fun z => z.elim (fun z => absurd ⟨by decide, by decide⟩ z) (fun z => by rw [hh] at z; cases z), fun _ _ _ => ⟨⟨2, by decide, ⟨⟨by decide, by decide⟩, by decide, hh⟩⟩, fun G3 p3 s3 n3 hp3 => ⟨p3, _, rfl, .inr (SqT.of hp3), rfl, ?_⟩⟩⟩
      rw [List.length_map, rowQ_len]
      exact k _
end K05
namespace K05
open PySem PySem.Spec PyProof.Rows L2 Ew
theorem all_mk {l : PySem.W.OpenLaw} {w : World} {K : PySem.W.Frag} {h : Heap} {mg : Str → Option Value} {fa C1 C2 C3 CB CI CO fIB fID fIO CD fIn fLo fHi fRo fHa fRe fLf fG fIl fWi fA fW fSp fB fD fP fS fF fO fT fL fPl fMi fTi fLs fIs fEn fLA fLD fII fSt fFr fLaw c PP : Addr} (X : K.In h) (G : h.Ns mainGlobals mg) (hfa : mg "law" = some (.ref fa)) (own : LamX.OwnTab K fa h)
    {oc kV doc pm ct : Value} {od an dd : Option Addr} {osl sl : Array (Option Value)} {vs : Array Value} {tk0 tk1 tk2 tk3 tk4 tk5 : Tok} 
    (n1 : PySem.W.nsIn K mainGlobals "EarlyError" = some (some (.ref C1)))
    (n2 : PySem.W.nsIn K mainGlobals "UndefinedName" = some (some (.ref C2)))
    (n3 : PySem.W.nsIn K mainGlobals "EmptyHistory" = some (some (.ref C3)))
    (nB : PySem.W.nsIn K mainGlobals "InvalidBase" = some (some (.ref CB)))
    (oB : OexC K CB)
    (fB_ : XfC K CB)
    (tB : PySem.W.findIn K (.ref CB) "tag" = some none)
    (iB : PySem.W.findIn K (.ref CB) "__init__" = some (some (.ref fIB)))
    (yB : PySem.W.typeIn K (.ref fIB) = some (.type "function"))
    (dB : DefAt K "__init__" "InvalidBase.__init__" sInvalidBase_init fIB)
    (nI : PySem.W.nsIn K mainGlobals "InvalidDigits" = some (some (.ref CI)))
    (oI : OexC K CI)
    (fI_ : XfC K CI)
    (tI : PySem.W.findIn K (.ref CI) "tag" = some none)
    (iI : PySem.W.findIn K (.ref CI) "__init__" = some (some (.ref fID)))
    (yI : PySem.W.typeIn K (.ref fID) = some (.type "function"))
    (dI : DefAt K "__init__" "InvalidDigits.__init__" sInvalidDigits_init fID)
    (nO : PySem.W.nsIn K mainGlobals "OutOfRange" = some (some (.ref CO)))
    (oO : OexC K CO)
    (fO_ : XfC K CO)
    (tO : PySem.W.findIn K (.ref CO) "tag" = some none)
    (iO : PySem.W.findIn K (.ref CO) "__init__" = some (some (.ref fIO)))
    (yO : PySem.W.typeIn K (.ref fIO) = some (.type "function"))
    (dO : DefAt K "__init__" "OutOfRange.__init__" sOutOfRange_init fIO)
    (x1O : ExmIn K CO C1 true)
    (x2O : ExmIn K CO C2 false)
    (x3O : ExmIn K CO C3 false)
    (nD : PySem.W.nsIn K mainGlobals "DigitSet" = some (some (.ref CD)))
    (cD : Cls K CD)
    (mD : PySem.W.makesIn K CD = true)
    (kD : PySem.W.keepIn K (.ref CD) = true)
    (aB : PySem.W.findIn K (.ref CD) "base" = some none)
    (aD : PySem.W.findIn K (.ref CD) "digits" = some none)
    (iD : PySem.W.findIn K (.ref CD) "__init__" = some (some (.ref fIn)))
    (iF : PySem.W.isFn K (.ref fIn) = true)
    (dIn : DefAt K "__init__" "DigitSet.__init__" sDigitSet_init fIn)
    (m_fLo : PySem.W.findIn K (.ref CD) "low" = some (some (.ref fLo)))
    (i_fLo : PySem.W.isFn K (.ref fLo) = true)
    (k_fLo : PySem.W.keepIn K (.ref fLo) = true)
    (d_fLo : DefAt K "low" "DigitSet.low" sDigitSet_low fLo)
    (m_fHi : PySem.W.findIn K (.ref CD) "high" = some (some (.ref fHi)))
    (i_fHi : PySem.W.isFn K (.ref fHi) = true)
    (k_fHi : PySem.W.keepIn K (.ref fHi) = true)
    (d_fHi : DefAt K "high" "DigitSet.high" sDigitSet_high fHi)
    (m_fRo : PySem.W.findIn K (.ref CD) "row_of" = some (some (.ref fRo)))
    (i_fRo : PySem.W.isFn K (.ref fRo) = true)
    (k_fRo : PySem.W.keepIn K (.ref fRo) = true)
    (d_fRo : DefAt K "row_of" "DigitSet.row_of" sDigitSet_row_of fRo)
    (m_fHa : PySem.W.findIn K (.ref CD) "has_number" = some (some (.ref fHa)))
    (i_fHa : PySem.W.isFn K (.ref fHa) = true)
    (k_fHa : PySem.W.keepIn K (.ref fHa) = true)
    (d_fHa : DefAt K "has_number" "DigitSet.has_number" sDigitSet_has_number fHa)
    (m_fRe : PySem.W.findIn K (.ref CD) "rest_behind" = some (some (.ref fRe)))
    (i_fRe : PySem.W.isFn K (.ref fRe) = true)
    (k_fRe : PySem.W.keepIn K (.ref fRe) = true)
    (d_fRe : DefAt K "rest_behind" "DigitSet.rest_behind" sDigitSet_rest_behind fRe)
    (m_fLf : PySem.W.findIn K (.ref CD) "least_first_digit" = some (some (.ref fLf)))
    (i_fLf : PySem.W.isFn K (.ref fLf) = true)
    (k_fLf : PySem.W.keepIn K (.ref fLf) = true)
    (d_fLf : DefAt K "least_first_digit" "DigitSet.least_first_digit" sDigitSet_least_first_digit fLf)
    (n_fG : PySem.W.nsIn K mainGlobals "common_divisor" = some (some (.ref fG)))
    (d_fG : DefAt K "common_divisor" "common_divisor" sGcd fG)
    (n_fIl : PySem.W.nsIn K mainGlobals "is_less" = some (some (.ref fIl)))
    (d_fIl : DefAt K "is_less" "is_less" sIsLess fIl)
    (n_fWi : PySem.W.nsIn K mainGlobals "is_within" = some (some (.ref fWi)))
    (d_fWi : DefAt K "is_within" "is_within" sIsWithin fWi)
    (n_fA : PySem.W.nsIn K mainGlobals "are_digits" = some (some (.ref fA)))
    (d_fA : DefAt K "are_digits" "are_digits" sAreDigits fA)
    (n_fW : PySem.W.nsIn K mainGlobals "widest_gap" = some (some (.ref fW)))
    (d_fW : DefAt K "widest_gap" "widest_gap" sWidestGap fW)
    (n_fSp : PySem.W.nsIn K mainGlobals "spread" = some (some (.ref fSp)))
    (d_fSp : DefAt K "spread" "spread" sSpread fSp)
    (n_fB : PySem.W.nsIn K mainGlobals "_law_begin" = some (some (.ref fB)))
    (d_fB : DefAt K "_law_begin" "_law_begin" sBegin fB)
    (n_fD : PySem.W.nsIn K mainGlobals "_law_draw" = some (some (.ref fD)))
    (d_fD : DefAt K "_law_draw" "_law_draw" sDraw fD)
    (n_fP : PySem.W.nsIn K mainGlobals "_law_pick" = some (some (.ref fP)))
    (d_fP : DefAt K "_law_pick" "_law_pick" sPick fP)
    (n_fS : PySem.W.nsIn K mainGlobals "_law_same" = some (some (.ref fS)))
    (d_fS : DefAt K "_law_same" "_law_same" sSame fS)
    (n_fF : PySem.W.nsIn K mainGlobals "_law_field" = some (some (.ref fF)))
    (d_fF : DefAt K "_law_field" "_law_field" sField fF)
    (n_fO : PySem.W.nsIn K mainGlobals "_law_outcome" = some (some (.ref fO)))
    (d_fO : DefAt K "_law_outcome" "_law_outcome" sOutcome fO)
    (n_fT : PySem.W.nsIn K mainGlobals "_law_tag" = some (some (.ref fT)))
    (d_fT : DefAt K "_law_tag" "_law_tag" sLawTag fT)
    (n_fL : PySem.W.nsIn K mainGlobals "_law_lowest" = some (some (.ref fL)))
    (d_fL : DefAt K "_law_lowest" "_law_lowest" sLowest fL)
    (n_fPl : PySem.W.nsIn K mainGlobals "_law_plus" = some (some (.ref fPl)))
    (d_fPl : DefAt K "_law_plus" "_law_plus" sLawPlus fPl)
    (n_fMi : PySem.W.nsIn K mainGlobals "_law_minus" = some (some (.ref fMi)))
    (d_fMi : DefAt K "_law_minus" "_law_minus" sLawMinus fMi)
    (n_fTi : PySem.W.nsIn K mainGlobals "_law_times" = some (some (.ref fTi)))
    (d_fTi : DefAt K "_law_times" "_law_times" sLawTimes fTi)
    (n_fLs : PySem.W.nsIn K mainGlobals "_law_less" = some (some (.ref fLs)))
    (d_fLs : DefAt K "_law_less" "_law_less" sLawLess fLs)
    (n_fIs : PySem.W.nsIn K mainGlobals "_law_inside" = some (some (.ref fIs)))
    (d_fIs : DefAt K "_law_inside" "_law_inside" sLawInside fIs)
    (n_fEn : PySem.W.nsIn K mainGlobals "_law_ends" = some (some (.ref fEn)))
    (d_fEn : DefAt K "_law_ends" "_law_ends" sLawEnds fEn)
    (n_fLA : PySem.W.nsIn K mainGlobals "_law_are_digits" = some (some (.ref fLA)))
    (d_fLA : DefAt K "_law_are_digits" "_law_are_digits" sLawAreDigits fLA)
    (n_fLD : PySem.W.nsIn K mainGlobals "_law_digits" = some (some (.ref fLD)))
    (d_fLD : DefAt K "_law_digits" "_law_digits" sLawDigits fLD)
    (n_fII : PySem.W.nsIn K mainGlobals "_law_in_interval" = some (some (.ref fII)))
    (d_fII : DefAt K "_law_in_interval" "_law_in_interval" sLawInInterval fII)
    (n_fSt : PySem.W.nsIn K mainGlobals "_law_set" = some (some (.ref fSt)))
    (d_fSt : DefAt K "_law_set" "_law_set" sLawSet fSt)
    (n_fFr : PySem.W.nsIn K mainGlobals "fraction" = some (some (.ref fFr)))
    (d_fFr : DfltAt K "fraction" sFraction (.int 1) fFr)
    (n_fLaw : PySem.W.nsIn K mainGlobals "law" = some (some (.ref fLaw)))
    (lLaw : K.lookup fLaw = some ⟨oc, od, .func (PySem.W.fnOf "law" "law" (defArgs sLaw) (defBody sLaw) (defScope sLaw) .none kV doc pm an (.ref c) ct), osl⟩)
    (cLaw : PySem.W.codeIn K (.ref c) "law" = true)
    (code : CodeAt K c PP vs dd sl)
    (cst0 : PySem.W.nsIn K mainGlobals "MIN_BASE" = some (some (.int 2 tk0)))
    (cst1 : PySem.W.nsIn K mainGlobals "MAX_BASE" = some (some (.int 10 tk1)))
    (cst2 : PySem.W.nsIn K mainGlobals "MIN_DIGITS" = some (some (.int 2 tk2)))
    (cst3 : PySem.W.nsIn K mainGlobals "MAX_DIGITS" = some (some (.int 24 tk3)))
    (cst4 : PySem.W.nsIn K mainGlobals "MAX_DIGIT" = some (some (.int 99 tk4)))
    (cst5 : PySem.W.nsIn K mainGlobals "MAX_ROW" = some (some (.int 200 tk5)))
    (zlen : PySem.W.nsIn K mainGlobals "len" = some none)
    (zlist : PySem.W.nsIn K mainGlobals "list" = some none)
    (zisinstance : PySem.W.nsIn K mainGlobals "isinstance" = some none)
    (ztuple : PySem.W.nsIn K mainGlobals "tuple" = some none)
    (zall : PySem.W.nsIn K mainGlobals "all" = some none)
    (zzip : PySem.W.nsIn K mainGlobals "zip" = some none)
    (zbool : PySem.W.nsIn K mainGlobals "bool" = some none)
    (zint : PySem.W.nsIn K mainGlobals "int" = some none)
    (zstr : PySem.W.nsIn K mainGlobals "str" = some none)
    (zrange : PySem.W.nsIn K mainGlobals "range" = some none)
    (zsorted : PySem.W.nsIn K mainGlobals "sorted" = some none)
    (zset : PySem.W.nsIn K mainGlobals "set" = some none)
    (zabs : PySem.W.nsIn K mainGlobals "abs" = some none)
    (zmax : PySem.W.nsIn K mainGlobals "max" = some none)
    (zmin : PySem.W.nsIn K mainGlobals "min" = some none) :
    LamX.LawAtS l w K CX0 11 63 "_law_script" mg fa h := by
  have e := hfa.symm.trans (PySem.W.mg_of X G n_fLaw)
  cases e
  obtain ⟨fdB0, FB0⟩ := dB
  obtain ⟨fdI0, FI0⟩ := dI
  obtain ⟨fdO0, FO0⟩ := dO
  obtain ⟨fdIn, FIn⟩ := dIn
  obtain ⟨fd_fLo, F_fLo⟩ := d_fLo
  obtain ⟨fd_fHi, F_fHi⟩ := d_fHi
  obtain ⟨fd_fRo, F_fRo⟩ := d_fRo
  obtain ⟨fd_fHa, F_fHa⟩ := d_fHa
  obtain ⟨fd_fRe, F_fRe⟩ := d_fRe
  obtain ⟨fd_fLf, F_fLf⟩ := d_fLf
  obtain ⟨fd_fG, F_fG⟩ := d_fG
  obtain ⟨fd_fIl, F_fIl⟩ := d_fIl
  obtain ⟨fd_fWi, F_fWi⟩ := d_fWi
  obtain ⟨fd_fA, F_fA⟩ := d_fA
  obtain ⟨fd_fW, F_fW⟩ := d_fW
  obtain ⟨fd_fSp, F_fSp⟩ := d_fSp
  obtain ⟨fd_fB, F_fB⟩ := d_fB
  obtain ⟨fd_fD, F_fD⟩ := d_fD
  obtain ⟨fd_fP, F_fP⟩ := d_fP
  obtain ⟨fd_fS, F_fS⟩ := d_fS
  obtain ⟨fd_fF, F_fF⟩ := d_fF
  obtain ⟨fd_fO, F_fO⟩ := d_fO
  obtain ⟨fd_fT, F_fT⟩ := d_fT
  obtain ⟨fd_fL, F_fL⟩ := d_fL
  obtain ⟨fd_fPl, F_fPl⟩ := d_fPl
  obtain ⟨fd_fMi, F_fMi⟩ := d_fMi
  obtain ⟨fd_fTi, F_fTi⟩ := d_fTi
  obtain ⟨fd_fLs, F_fLs⟩ := d_fLs
  obtain ⟨fd_fIs, F_fIs⟩ := d_fIs
  obtain ⟨fd_fEn, F_fEn⟩ := d_fEn
  obtain ⟨fd_fLA, F_fLA⟩ := d_fLA
  obtain ⟨fd_fLD, F_fLD⟩ := d_fLD
  obtain ⟨fd_fII, F_fII⟩ := d_fII
  obtain ⟨fd_fSt, F_fSt⟩ := d_fSt
  obtain ⟨fd_fFr, F_fFr⟩ := d_fFr
  have bB0 := FB0.binds (ps := ["self"]) fun _ _ _ _ _ _ us hl => match us, hl with | [_], _ => rfl
  have bI0 := FI0.binds (ps := ["self"]) fun _ _ _ _ _ _ us hl => match us, hl with | [_], _ => rfl
  have bO0 := FO0.binds (ps := ["self"]) fun _ _ _ _ _ _ us hl => match us, hl with | [_], _ => rfl
  have bIn := FIn.binds (ps := ["self", "base", "digits"]) fun _ _ _ _ _ _ us hl => match us, hl with | [_, _, _], _ => rfl
  have b_fLo := F_fLo.binds (ps := ["self"]) fun _ _ _ _ _ _ us hl => match us, hl with | [_], _ => rfl
  have b_fHi := F_fHi.binds (ps := ["self"]) fun _ _ _ _ _ _ us hl => match us, hl with | [_], _ => rfl
  have b_fRo := F_fRo.binds (ps := ["self", "number", "count"]) fun _ _ _ _ _ _ us hl => match us, hl with | [_, _, _], _ => rfl
  have b_fHa := F_fHa.binds (ps := ["self", "number"]) fun _ _ _ _ _ _ us hl => match us, hl with | [_, _], _ => rfl
  have b_fRe := F_fRe.binds (ps := ["self", "number", "digit"]) fun _ _ _ _ _ _ us hl => match us, hl with | [_, _, _], _ => rfl
  have b_fLf := F_fLf.binds (ps := ["self", "number"]) fun _ _ _ _ _ _ us hl => match us, hl with | [_, _], _ => rfl
  have b_fG := F_fG.binds (ps := ["one", "other"]) fun _ _ _ _ _ _ us hl => match us, hl with | [_, _], _ => rfl
  have b_fIl := F_fIl.binds (ps := ["one", "other"]) fun _ _ _ _ _ _ us hl => match us, hl with | [_, _], _ => rfl
  have b_fWi := F_fWi.binds (ps := ["number", "low", "high"]) fun _ _ _ _ _ _ us hl => match us, hl with | [_, _, _], _ => rfl
  have b_fA := F_fA.binds (ps := ["base", "ascending"]) fun _ _ _ _ _ _ us hl => match us, hl with | [_, _], _ => rfl
  have b_fW := F_fW.binds (ps := ["ascending"]) fun _ _ _ _ _ _ us hl => match us, hl with | [_], _ => rfl
  have b_fSp := F_fSp.binds (ps := ["ascending"]) fun _ _ _ _ _ _ us hl => match us, hl with | [_], _ => rfl
  have b_fB := F_fB.binds (ps := ["_law_script"]) fun _ _ _ _ _ _ us hl => match us, hl with | [_], _ => rfl
  have b_fD := F_fD.binds (ps := ["_law_rng", "_law_many"]) fun _ _ _ _ _ _ us hl => match us, hl with | [_, _], _ => rfl
  have b_fP := F_fP.binds (ps := ["_law_rng", "_law_items"]) fun _ _ _ _ _ _ us hl => match us, hl with | [_, _], _ => rfl
  have b_fS := F_fS.binds (ps := ["_law_found", "_law_due"]) fun _ _ _ _ _ _ us hl => match us, hl with | [_, _], _ => rfl
  have b_fF := F_fF.binds (ps := ["_law_e"]) fun _ _ _ _ _ _ us hl => match us, hl with | [_], _ => rfl
  have b_fO := F_fO.binds (ps := ["_law_ask"]) fun _ _ _ _ _ _ us hl => match us, hl with | [_], _ => rfl
  have b_fT := F_fT.binds (ps := ["_law_ask"]) fun _ _ _ _ _ _ us hl => match us, hl with | [_], _ => rfl
  have b_fL := F_fL.binds (ps := ["_law_above", "_law_below"]) fun _ _ _ _ _ _ us hl => match us, hl with | [_, _], _ => rfl
  have b_fPl := F_fPl.binds (ps := ["_law_one", "_law_other"]) fun _ _ _ _ _ _ us hl => match us, hl with | [_, _], _ => rfl
  have b_fMi := F_fMi.binds (ps := ["_law_one", "_law_other"]) fun _ _ _ _ _ _ us hl => match us, hl with | [_, _], _ => rfl
  have b_fTi := F_fTi.binds (ps := ["_law_one", "_law_other"]) fun _ _ _ _ _ _ us hl => match us, hl with | [_, _], _ => rfl
  have b_fLs := F_fLs.binds (ps := ["_law_one", "_law_other"]) fun _ _ _ _ _ _ us hl => match us, hl with | [_, _], _ => rfl
  have b_fIs := F_fIs.binds (ps := ["_law_low", "_law_number", "_law_high"]) fun _ _ _ _ _ _ us hl => match us, hl with | [_, _, _], _ => rfl
  have b_fEn := F_fEn.binds (ps := ["_law_base", "_law_digits_here"]) fun _ _ _ _ _ _ us hl => match us, hl with | [_, _], _ => rfl
  have b_fLA := F_fLA.binds (ps := ["_law_base", "_law_digits_here"]) fun _ _ _ _ _ _ us hl => match us, hl with | [_, _], _ => rfl
  have b_fLD := F_fLD.binds (ps := ["_law_rng", "_law_base", "_law_most"]) fun _ _ _ _ _ _ us hl => match us, hl with | [_, _, _], _ => rfl
  have b_fII := F_fII.binds (ps := ["_law_rng", "_law_ends_here", "_law_parts"]) fun _ _ _ _ _ _ us hl => match us, hl with | [_, _, _], _ => rfl
  have b_fSt := F_fSt.binds (ps := ["_law_base", "_law_digits_here"]) fun _ _ _ _ _ _ us hl => match us, hl with | [_, _], _ => rfl
  obtain ⟨ds2fFr, rds2fFr, b_fFr⟩ := F_fFr.binds1 (ps := ["numerator", "denominator"]) 2 1 (by simp) rfl fun T kV doc pm an cdv ct us its hu hi => match us, its, hu, hi with | [_, _], [_], _, _ => ⟨_, rfl, rfl⟩
  obtain rfl : ds2fFr = [] := by
    cases rds2fFr
    rfl
  have no : ∀ {x : Str}, PySem.W.nsIn K mainGlobals x = some none → mg x = none := fun z => PySem.W.mg_none_of X G z
  have at_ : ∀ {x : Str} {v : Value}, PySem.W.nsIn K mainGlobals x = some (some v) → mg x = some v := fun z => PySem.W.mg_of X G z
  have TEB : ErrT K mg "InvalidBase" CB fIB := ⟨at_ nB, oB, iB, yB, tB, fB_⟩
  have TEI : ErrT K mg "InvalidDigits" CI fID := ⟨at_ nI, oI, iI, yI, tI, fI_⟩
  have TEO : ErrT K mg "OutOfRange" CO fIO := ⟨at_ nO, oO, iO, yO, tO, fO_⟩
  refine ⟨PySem.W.fnOf "law" "law" (defArgs sLaw) (defBody sLaw) (defScope sLaw) .none kV doc pm an (.ref c) ct, [(c, PP)], spLaw K PP, fun p hp => ?_, fun p hp => ?_, fun p hp => ?_, fun s v => .of_eq rfl, fun H a ns hl _ hH hS => ?_, fun base _ _ TB => ?_⟩
  · cases List.mem_singleton.mp hp
    exact own c PP _ _ _ _ _ _ lLaw rfl rfl code.l code.p
  · cases List.mem_singleton.mp hp
    exact code.n
  · cases List.mem_singleton.mp hp
    exact code.hd X
  · exact ⟨a, ns, rfl, hS, hl, hH (c, PP) List.mem_cons_self, fun _ => rfl⟩
  · have hTB := TB (c, PP) List.mem_cons_self
    have TR : TxtR mg := ⟨no zlen, no zlist⟩
    have TG : TxtLG mg := ⟨no zlist, no zrange, no zlen⟩
    have DS : TxtDS K mg CD CB CI fIB fID fA := ⟨cD, aB, aD, ⟨_, at_ cst0⟩, ⟨_, at_ cst1⟩, TEB, TEI, no ztuple, no zsorted, no zlen, at_ n_fA, F_fA.kp⟩
    have okD : FnOk l.prog w K mg base CX0 1 fD fd_fD ["_law_rng", "_law_many"] spDraw := ok_draw F_fD TR
    have dD : Def l.prog w K mg base CX0 1 "_law_draw" fD fd_fD ["_law_rng", "_law_many"] spDraw := ⟨okD, at_ n_fD, F_fD.kp, b_fD⟩
    have dP : Def l.prog w K mg base CX0 2 "_law_pick" fP fd_fP ["_law_rng", "_law_items"] (spPick K) := ⟨ok_pick F_fP ⟨no zlen, at_ n_fD, F_fD.kp⟩ okD b_fD, at_ n_fP, F_fP.kp, b_fP⟩
    have dLA : Def l.prog w K mg base CX0 1 "_law_are_digits" fLA fd_fLA ["_law_base", "_law_digits_here"] (spLAre K) := ⟨ok_lare F_fLA ⟨no zsorted, no zlen, no zset, no zabs, no zall, no zrange⟩, at_ n_fLA, F_fLA.kp, b_fLA⟩
    have okA : FnOk l.prog w K mg base CX0 2 fA fd_fA ["base", "ascending"] (spAre K) := ok_are F_fA ⟨no zlen, no zset, ⟨_, at_ cst2⟩, ⟨_, at_ cst3⟩, ⟨_, at_ cst4⟩, at_ n_fW, F_fW.kp, at_ n_fSp, F_fSp.kp⟩ (ok_widest F_fW ⟨no zmax, no zzip⟩) b_fW (ok_spread F_fSp) b_fSp
    have okIn := ok_setInit (P := l.prog) (w := w) (base := base) FIn DS (ok_initBase FB0 TEB) bB0 (ok_initDigits FI0 TEI) bI0 okA b_fA
    have dSt : Def l.prog w K mg base CX0 5 "_law_set" fSt fd_fSt ["_law_base", "_law_digits_here"] (spLSet CD) := ⟨ok_lset F_fSt ⟨no zlist⟩ (at_ nD) ⟨mD, iD, iF, kD⟩ okIn bIn, at_ n_fSt, F_fSt.kp, b_fSt⟩
    have dLD : Def l.prog w K mg base CX0 3 "_law_digits" fLD fd_fLD ["_law_rng", "_law_base", "_law_most"] spLDigits := ⟨ok_ldigits F_fLD TG dD dP dLA, at_ n_fLD, F_fLD.kp, b_fLD⟩
    have dL : Def l.prog w K mg base CX0 1 "_law_lowest" fL fd_fL ["_law_above", "_law_below"] spLow := ⟨ok_low F_fL ⟨no zabs⟩, at_ n_fL, F_fL.kp, b_fL⟩
    have dFr : Def l.prog w K mg base (L2.CX l.prog w) 3 "fraction" fFr fd_fFr ["numerator", "denominator"] (spFraction CO) := ⟨ok_fraction F_fFr ⟨no zabs, TEO, at_ n_fG, F_fG.kp⟩ (ok_out FO0 TEO) bO0 (ok_gcd F_fG) b_fG, at_ n_fFr, F_fFr.kp, b_fFr⟩
    have dIl : Def l.prog w K mg base CX0 1 "is_less" fIl fd_fIl ["one", "other"] (spLess K) := ⟨ok_isless F_fIl, at_ n_fIl, F_fIl.kp, b_fIl⟩
    have dWi : Def l.prog w K mg base CX0 2 "is_within" fWi fd_fWi ["number", "low", "high"] (spWithin K) := ⟨ok_within F_fWi dIl, at_ n_fWi, F_fWi.kp, b_fWi⟩
    have dPl : Def l.prog w K mg base CX0 2 "_law_plus" fPl fd_fPl ["_law_one", "_law_other"] (spQplus K) := ⟨ok_qplus F_fPl dL, at_ n_fPl, F_fPl.kp, b_fPl⟩
    have dMi : Def l.prog w K mg base CX0 2 "_law_minus" fMi fd_fMi ["_law_one", "_law_other"] (spQminus K) := ⟨ok_qminus F_fMi dL, at_ n_fMi, F_fMi.kp, b_fMi⟩
    have dTi : Def l.prog w K mg base CX0 2 "_law_times" fTi fd_fTi ["_law_one", "_law_other"] (spQtimes K) := ⟨ok_qtimes F_fTi dL, at_ n_fTi, F_fTi.kp, b_fTi⟩
    have dLs : Def l.prog w K mg base CX0 1 "_law_less" fLs fd_fLs ["_law_one", "_law_other"] (spLess K) := ⟨ok_qless F_fLs, at_ n_fLs, F_fLs.kp, b_fLs⟩
    have dIs : Def l.prog w K mg base CX0 2 "_law_inside" fIs fd_fIs ["_law_low", "_law_number", "_law_high"] (spInside K) := ⟨ok_inside F_fIs dLs, at_ n_fIs, F_fIs.kp, b_fIs⟩
    have dEn : Def l.prog w K mg base CX0 2 "_law_ends" fEn fd_fEn ["_law_base", "_law_digits_here"] (spEnds K) := ⟨ok_ends F_fEn ⟨no zmin, no zmax⟩ dL, at_ n_fEn, F_fEn.kp, b_fEn⟩
    have dII : Def l.prog w K mg base CX0 3 "_law_in_interval" fII fd_fII ["_law_rng", "_law_ends_here", "_law_parts"] (spInterval K) := ⟨ok_interval F_fII dD dL dPl dMi dTi, at_ n_fII, F_fII.kp, b_fII⟩
    have mLo : MDef l.prog w K mg base CX0 4 CD "low" fLo fd_fLo ["self"] (spEnd CD K firstI) := ⟨ok_slow F_fLo DS dFr, ⟨m_fLo, i_fLo, k_fLo⟩, cD, b_fLo⟩
    have mHi : MDef l.prog w K mg base CX0 4 CD "high" fHi fd_fHi ["self"] (spEnd CD K lastI) := ⟨ok_shigh F_fHi DS dFr, ⟨m_fHi, i_fHi, k_fHi⟩, cD, b_fHi⟩
    have mHa : MDef l.prog w K mg base CX0 5 CD "has_number" fHa fd_fHa ["self", "number"] (spHas CD K) := ⟨ok_has F_fHa mLo mHi dWi, ⟨m_fHa, i_fHa, k_fHa⟩, cD, b_fHa⟩
    have mRe : MDef l.prog w K mg base CX0 4 CD "rest_behind" fRe fd_fRe ["self", "number", "digit"] (spRest CD K) := ⟨ok_rest F_fRe DS dFr, ⟨m_fRe, i_fRe, k_fRe⟩, cD, b_fRe⟩
    have mLf : MDef l.prog w K mg base CX0 6 CD "least_first_digit" fLf fd_fLf ["self", "number"] (spLfd CD K) := ⟨ok_lfd F_fLf DS mHa mRe, ⟨m_fLf, i_fLf, k_fLf⟩, cD, b_fLf⟩
    have mRo : MDef l.prog w K mg base (L2.CX l.prog w) 7 CD "row_of" fRo fd_fRo ["self", "number", "count"] (spRow CD CO K) := ⟨ok_row F_fRo DS ⟨no zlen, no ztuple, ⟨_, at_ cst5⟩⟩ TEO (ok_out FO0 TEO) bO0 mHa mRe mLf, ⟨m_fRo, i_fRo, k_fRo⟩, cD, b_fRo⟩
    exact ok_law lLaw cLaw hTB ⟨no zrange, no zlen, no zsorted, no ztuple⟩ ⟨ok_begin F_fB TR, at_ n_fB, F_fB.kp, b_fB⟩ dD dP ⟨ok_same F_fS b_fS ⟨no zisinstance, no zlist, no ztuple, no zlen, no zall, no zzip, no zbool, no zint, no zstr, at_ n_fS, F_fS.kp⟩ 3, at_ n_fS, F_fS.kp, b_fS⟩ dLD dSt dEn dII dPl dMi dTi dIs F_fO (at_ n_fO) b_fO ⟨at_ n1, at_ n2, at_ n3, at_ n_fF, F_fF, b_fF⟩ F_fT (at_ n_fT) b_fT (at_ nD) ⟨mD, iD, iF, kD⟩ okIn bIn DS mRo TEO (exm_three x1O x2O x3O rfl)
theorem walk {l : PySem.W.OpenLaw} {q : Program} {loose : List Str} {XP : (Str → Option Value) → Heap → Prop} {YP : World → Heap → Prop} {d : DefRec} {K : Params → PySem.W.Frag} (hn : l.most = some 63) (hdf : d.params.defaults = []) (hrec : ((recsOf q).any fun e => e.name == d.name) = true)
    (hY : ∀ (w : World) (h : Heap), YP w h → (K w.params).In h)
    (F : ∀ (w : World) (mg : Str → Option Value) (fa : Addr) (h : Heap), YP w h → (K w.params).In h → h.Ns mainGlobals mg → mg d.name = some (.ref fa) → LamX.OwnTab (K w.params) fa h → LamX.LawAtS l w (K w.params) CX0 11 63 "_law_script" mg fa h) :
    PySem.W.WalkO q loose XP YP l.row.toRowW d [] (fun f vs => PySem.call f vs) :=
  LamX.walk_ofOwn (n := 63) (k := 11) (x := "_law_script") (CX := fun _ => CX0) hn (by decide) hdf ⟨rfl, by decide, by decide⟩ hrec hY F fun _ _ _ _ _ z => z
end K05
open PySem PySem.W PyProof.Rows in
set_option maxRecDepth 100000 in
set_option maxHeartbeats 0 in
theorem PySem.Challenge.cw_earlywrite_k05_rows_of_numbers_holds : PySem.Challenge.rw_earlywrite_k05_rows_of_numbers.Holds := by
  w_on; o_law; k_head; (case hw => w_witness2)
  k_fill
  refine K05.walk (l := PySem.Challenge.rw_earlywrite_k05_rows_of_numbers) rfl rfl ?hrec (fun w h Y => PySem.W.km_in_of Y) ?F
  case hrec => first | rfl | decide +kernel
  case F =>
    intro w mg fa h Y KX G hmg own
    refine' K05.all_mk KX G hmg own ?n1 ?n2 ?n3 ?nB ?oB ?fB_ ?tB ?iB ?yB ?dB ?nI ?oI ?fI_ ?tI ?iI ?yI ?dI ?nO ?oO ?fO_ ?tO ?iO ?yO ?dO ?x1O ?x2O ?x3O ?nD ?cD ?mD ?kD ?aB ?aD ?iD ?iF ?dIn ?m_fLo ?i_fLo ?k_fLo ?d_fLo ?m_fHi ?i_fHi ?k_fHi ?d_fHi ?m_fRo ?i_fRo ?k_fRo ?d_fRo ?m_fHa ?i_fHa ?k_fHa ?d_fHa ?m_fRe ?i_fRe ?k_fRe ?d_fRe ?m_fLf ?i_fLf ?k_fLf ?d_fLf ?n_fG ?d_fG ?n_fIl ?d_fIl ?n_fWi ?d_fWi ?n_fA ?d_fA ?n_fW ?d_fW ?n_fSp ?d_fSp ?n_fB ?d_fB ?n_fD ?d_fD ?n_fP ?d_fP ?n_fS ?d_fS ?n_fF ?d_fF ?n_fO ?d_fO ?n_fT ?d_fT ?n_fL ?d_fL ?n_fPl ?d_fPl ?n_fMi ?d_fMi ?n_fTi ?d_fTi ?n_fLs ?d_fLs ?n_fIs ?d_fIs ?n_fEn ?d_fEn ?n_fLA ?d_fLA ?n_fLD ?d_fLD ?n_fII ?d_fII ?n_fSt ?d_fSt ?n_fFr ?d_fFr ?n_fLaw ?lLaw ?cLaw ?code ?cst0 ?cst1 ?cst2 ?cst3 ?cst4 ?cst5 ?zlen ?zlist ?zisinstance ?ztuple ?zall ?zzip ?zbool ?zint ?zstr ?zrange ?zsorted ?zset ?zabs ?zmax ?zmin
    (case n1 => k_is)
    (case n2 => k_is)
    (case n3 => k_is)
    (case nB => k_is)
    (case oB => (refine' Ew.oex_mk ?l ?r ?sa ?e ?t ?k; (case l => k_is); (case r => decide +kernel); (case sa => k_is); (case e => k_is); (case t => k_is); (case k => k_is)))
    (case fB_ => (refine' ⟨?a, ?b, ?c, ?d⟩; (case a => k_is); (case b => k_is); (case c => k_is); (case d => k_is)))
    (case tB => k_is)
    (case iB => k_is)
    (case yB => k_is)
    (case dB => (refine' Ew.def_mk ?l ?c ?k; (case l => k_is); (case c => k_is); (case k => k_is)))
    (case nI => k_is)
    (case oI => (refine' Ew.oex_mk ?l ?r ?sa ?e ?t ?k; (case l => k_is); (case r => decide +kernel); (case sa => k_is); (case e => k_is); (case t => k_is); (case k => k_is)))
    (case fI_ => (refine' ⟨?a, ?b, ?c, ?d⟩; (case a => k_is); (case b => k_is); (case c => k_is); (case d => k_is)))
    (case tI => k_is)
    (case iI => k_is)
    (case yI => k_is)
    (case dI => (refine' Ew.def_mk ?l ?c ?k; (case l => k_is); (case c => k_is); (case k => k_is)))
    (case nO => k_is)
    (case oO => (refine' Ew.oex_mk ?l ?r ?sa ?e ?t ?k; (case l => k_is); (case r => decide +kernel); (case sa => k_is); (case e => k_is); (case t => k_is); (case k => k_is)))
    (case fO_ => (refine' ⟨?a, ?b, ?c, ?d⟩; (case a => k_is); (case b => k_is); (case c => k_is); (case d => k_is)))
    (case tO => k_is)
    (case iO => k_is)
    (case yO => k_is)
    (case dO => (refine' Ew.def_mk ?l ?c ?k; (case l => k_is); (case c => k_is); (case k => k_is)))
    (case x1O => (refine' ⟨?a, ?b, ?c, ?d⟩; (case a => k_is); (case b => k_is); (case c => k_is); (case d => k_is)))
    (case x2O => (refine' ⟨?a, ?b, ?c, ?d⟩; (case a => k_is); (case b => k_is); (case c => k_is); (case d => k_is)))
    (case x3O => (refine' ⟨?a, ?b, ?c, ?d⟩; (case a => k_is); (case b => k_is); (case c => k_is); (case d => k_is)))
    (case nD => k_is)
    (case cD => (refine' ⟨?a, ?b, ?c, ?d⟩; (case a => k_is); (case b => k_is); (case c => k_is); (case d => k_is)))
    (case mD => k_is)
    (case kD => k_is)
    (case aB => k_is)
    (case aD => k_is)
    (case iD => k_is)
    (case iF => k_is)
    (case dIn => (refine' Ew.def_mk ?l ?c ?k; (case l => k_is); (case c => k_is); (case k => k_is)))
    (case m_fLo => k_is)
    (case i_fLo => k_is)
    (case k_fLo => k_is)
    (case d_fLo => (refine' Ew.def_mk ?l ?c ?k; (case l => k_is); (case c => k_is); (case k => k_is)))
    (case m_fHi => k_is)
    (case i_fHi => k_is)
    (case k_fHi => k_is)
    (case d_fHi => (refine' Ew.def_mk ?l ?c ?k; (case l => k_is); (case c => k_is); (case k => k_is)))
    (case m_fRo => k_is)
    (case i_fRo => k_is)
    (case k_fRo => k_is)
    (case d_fRo => (refine' Ew.def_mk ?l ?c ?k; (case l => k_is); (case c => k_is); (case k => k_is)))
    (case m_fHa => k_is)
    (case i_fHa => k_is)
    (case k_fHa => k_is)
    (case d_fHa => (refine' Ew.def_mk ?l ?c ?k; (case l => k_is); (case c => k_is); (case k => k_is)))
    (case m_fRe => k_is)
    (case i_fRe => k_is)
    (case k_fRe => k_is)
    (case d_fRe => (refine' Ew.def_mk ?l ?c ?k; (case l => k_is); (case c => k_is); (case k => k_is)))
    (case m_fLf => k_is)
    (case i_fLf => k_is)
    (case k_fLf => k_is)
    (case d_fLf => (refine' Ew.def_mk ?l ?c ?k; (case l => k_is); (case c => k_is); (case k => k_is)))
    (case n_fG => k_is)
    (case d_fG => (refine' Ew.def_mk ?l ?c ?k; (case l => k_is); (case c => k_is); (case k => k_is)))
    (case n_fIl => k_is)
    (case d_fIl => (refine' Ew.def_mk ?l ?c ?k; (case l => k_is); (case c => k_is); (case k => k_is)))
    (case n_fWi => k_is)
    (case d_fWi => (refine' Ew.def_mk ?l ?c ?k; (case l => k_is); (case c => k_is); (case k => k_is)))
    (case n_fA => k_is)
    (case d_fA => (refine' Ew.def_mk ?l ?c ?k; (case l => k_is); (case c => k_is); (case k => k_is)))
    (case n_fW => k_is)
    (case d_fW => (refine' Ew.def_mk ?l ?c ?k; (case l => k_is); (case c => k_is); (case k => k_is)))
    (case n_fSp => k_is)
    (case d_fSp => (refine' Ew.def_mk ?l ?c ?k; (case l => k_is); (case c => k_is); (case k => k_is)))
    (case n_fB => k_is)
    (case d_fB => (refine' Ew.def_mk ?l ?c ?k; (case l => k_is); (case c => k_is); (case k => k_is)))
    (case n_fD => k_is)
    (case d_fD => (refine' Ew.def_mk ?l ?c ?k; (case l => k_is); (case c => k_is); (case k => k_is)))
    (case n_fP => k_is)
    (case d_fP => (refine' Ew.def_mk ?l ?c ?k; (case l => k_is); (case c => k_is); (case k => k_is)))
    (case n_fS => k_is)
    (case d_fS => (refine' Ew.def_mk ?l ?c ?k; (case l => k_is); (case c => k_is); (case k => k_is)))
    (case n_fF => k_is)
    (case d_fF => (refine' Ew.def_mk ?l ?c ?k; (case l => k_is); (case c => k_is); (case k => k_is)))
    (case n_fO => k_is)
    (case d_fO => (refine' Ew.def_mk ?l ?c ?k; (case l => k_is); (case c => k_is); (case k => k_is)))
    (case n_fT => k_is)
    (case d_fT => (refine' Ew.def_mk ?l ?c ?k; (case l => k_is); (case c => k_is); (case k => k_is)))
    (case n_fL => k_is)
    (case d_fL => (refine' Ew.def_mk ?l ?c ?k; (case l => k_is); (case c => k_is); (case k => k_is)))
    (case n_fPl => k_is)
    (case d_fPl => (refine' Ew.def_mk ?l ?c ?k; (case l => k_is); (case c => k_is); (case k => k_is)))
    (case n_fMi => k_is)
    (case d_fMi => (refine' Ew.def_mk ?l ?c ?k; (case l => k_is); (case c => k_is); (case k => k_is)))
    (case n_fTi => k_is)
    (case d_fTi => (refine' Ew.def_mk ?l ?c ?k; (case l => k_is); (case c => k_is); (case k => k_is)))
    (case n_fLs => k_is)
    (case d_fLs => (refine' Ew.def_mk ?l ?c ?k; (case l => k_is); (case c => k_is); (case k => k_is)))
    (case n_fIs => k_is)
    (case d_fIs => (refine' Ew.def_mk ?l ?c ?k; (case l => k_is); (case c => k_is); (case k => k_is)))
    (case n_fEn => k_is)
    (case d_fEn => (refine' Ew.def_mk ?l ?c ?k; (case l => k_is); (case c => k_is); (case k => k_is)))
    (case n_fLA => k_is)
    (case d_fLA => (refine' Ew.def_mk ?l ?c ?k; (case l => k_is); (case c => k_is); (case k => k_is)))
    (case n_fLD => k_is)
    (case d_fLD => (refine' Ew.def_mk ?l ?c ?k; (case l => k_is); (case c => k_is); (case k => k_is)))
    (case n_fII => k_is)
    (case d_fII => (refine' Ew.def_mk ?l ?c ?k; (case l => k_is); (case c => k_is); (case k => k_is)))
    (case n_fSt => k_is)
    (case d_fSt => (refine' Ew.def_mk ?l ?c ?k; (case l => k_is); (case c => k_is); (case k => k_is)))
    (case n_fFr => k_is)
    (case d_fFr => (refine' Ew.dflt_mk ?l ?c ?k ?t ?r; (case l => k_is); (case c => k_is); (case k => k_is); (case t => k_is); (case r => exact ⟨_, rfl⟩)))
    (case n_fLaw => k_is)
    (case lLaw => k_is)
    (case cLaw => k_is)
    (case code => (refine' ⟨?a, ?b, ⟨_, _, _, _, _, _, _, ?c1, ?c2, ?c3, ?c4, ?c5⟩, ?d⟩; (case a => k_is); (case b => rfl); (case c1 => rfl); (case c2 => rfl); (case c3 => rfl); (case c4 => rfl); (case c5 => rfl); (case d => first | kernel_rfl | rfl)))
    (case cst0 => k_is)
    (case cst1 => k_is)
    (case cst2 => k_is)
    (case cst3 => k_is)
    (case cst4 => k_is)
    (case cst5 => k_is)
    (case zlen => k_is)
    (case zlist => k_is)
    (case zisinstance => k_is)
    (case ztuple => k_is)
    (case zall => k_is)
    (case zzip => k_is)
    (case zbool => k_is)
    (case zint => k_is)
    (case zstr => k_is)
    (case zrange => k_is)
    (case zsorted => k_is)
    (case zset => k_is)
    (case zabs => k_is)
    (case zmax => k_is)
    (case zmin => k_is)
