import PyProof.Rows.All
import Wide.All
import OpenK.AllK
import Wide.FinOn
import HandS.ForMost
import HandS.ForExc
import HandS.ExcInit
import HandS.ExcField
import HandS.HotCalls
import HandS.Lambda
import HandS.EndTab
import HandS.Wide
import HandS.FStr
import HandS.IsInst
import HandS.Defaults
import HandS.Zip
import HandS.Walk
import HandS.ExcIs
import HandS.EndOwn
import PySem.Challenge.RW_earlywrite_k01_fractions_and_their_texts
set_option Elab.async false
set_option linter.all false
set_option maxRecDepth 100000
set_option maxHeartbeats 4000000
namespace Ew
open PySem PySem.Spec PyProof.Rows L2
/-! ## an error made without arguments by its own __init__ -/
def tMk0 (C : Addr) (sp : Sp) : L2.St → Hp → XK → Prop := fun _ H Q => ∀ a, H a = none → sp [.ref a] (upd H a (exo a C none))
  (fun v G => v = .non ∧ ∃ (d : Addr) (fs : List (Str × V)), G a = some (exo a C (some d)) ∧ G d = some (exd d fs) ∧ H d = none ∧ Q (.ref C) (some d) (upd (del G a) d (.xd fs))) (fun _ _ _ => False)
theorem pmk0 {X : Cx} {CX : CXT} {x : Str} {C fI : Addr} {k : Nat} {fd : FuncData} {ps : List Str} {sp : Sp} {p pos : Pos} (T : OexC X.K C)
    (iC : PySem.W.findIn X.K (.ref C) "__init__" = some (some (.ref fI))) (tI : PySem.W.typeIn X.K (.ref fI) = some (.type "function"))
    (F1 : FnOk X.prog X.w X.K X.mg X.base CX k fI fd ps sp) (hr : Room (k + 1) X.A) (hb : Binds X.K fd ps []) (hx : Passes CX X (fun _ _ _ => False))
    (hg : Gl X x) (hm : X.mg x = some (.ref C)) (hdb : (x == ("__debug__" : Str)) = false := by decide) : PMk X (.Call (.Name x p) [] [] pos) (tMk0 C sp) := by
  intro pins s σ H Q I h
  obtain ⟨_, _, _, _, bm, _, _, _, _, _, _, _, _, _, _, hC, hbm⟩ := T.cls
  refine wpAny_Call_Name_kw (ld_glob I hg hm ?_ hdb)
  refine PySem.W.callWith_K0 I.kIn T.kC ?_
  obtain ⟨hp, g, dr, tk, os⟩ := s
  have sz1 : hp.objs.size ≤ hp.objs.size + 1 := Nat.le_succ _
  have fr : H (hp.objs.size + 1) = none := I.hok.fresh sz1
  have hq := h (hp.objs.size + 1) fr
  have kept : ∀ b o, hp.get? b = some o → ((hp.push (PySem.W.kdv_tup [])).push (PySem.HandSPX.excO C hp.objs.size)).get? b = some o :=
    fun b o e => Heap.get?_push_of_some _ (Heap.get?_push_of_some _ e)
  have got : ((hp.push (PySem.W.kdv_tup [])).push (PySem.HandSPX.excO C hp.objs.size)).get? (hp.objs.size + 1) = some (PySem.HandSPX.excO C hp.objs.size) := by heap_get
  have I2 := I.laid (t' := tk) (o := exo (hp.objs.size + 1) C none) kept sz1 (exo_ok got)
  have r2 : Vals [V.ref (hp.objs.size + 1)] [Value.ref (hp.objs.size + 1)] := .cons rfl .nil
  have hl : ([Value.ref (hp.objs.size + 1)] ++ []).length = ps.length := by
    have e := r2.length
    rw [F1.len _ _ _ _ hq] at e
    exact e.symm
  have run := F1.run _ X.stack _ _ ⟨[Value.ref (hp.objs.size + 1)], []⟩ [Value.ref (hp.objs.size + 1)] _ _ (fun _ _ _ => False) (hr.make C [] []) (I2.env0.make C [] [])
    (by have z := hb _ [Value.ref (hp.objs.size + 1)] I2.kIn hl; rw [List.append_nil] at z; exact z) r2 hq
  refine wpAny_call (PySem.HandSPX.call_own F.excBase_ValueError (fun Y => PySem.HandSPX.refsVE_contains Y bm hbm) (I.kIn _ _ hC) (PySem.W.looks_findIn I.kIn iC)
    (fun self => PySem.W.bind_fn I.kIn self tI) (Nat.zero_le _) (codeAny_mono run fun r t hq' => ?_))
  cases r with
  | error er => exact hx pins σ _ _ er t I2 hq'
  | ok fl =>
    cases fl with
    | ret u =>
      obtain ⟨v, G, os2, bare2, un2, hok2, rv, ev, d, fs, ea, ed, hd1, q2⟩ := hq'
      subst ev
      obtain ⟨h2, g2, d2, t2, os'⟩ := t
      exact ⟨rv, mk_end (raises_own T.exC T.tyC) I sz1 kept un2 hok2 os2 bare2 ea ed hd1 q2⟩
    | next => exact hq'.elim
    | brk => exact hq'.elim
    | cont => exact hq'.elim
/-! ## what lies in flight when more is laid on the heap -/
theorem flying_kept {B h h' : Heap} {l : List Env} {e : Addr} {Z : Obj → Prop} (x : HandSPX.FlyingZ B l e Z h) (k : ∀ b o, h.get? b = some o → h'.get? b = some o) : HandSPX.FlyingZ B l e Z h' := by
  obtain ⟨x1, x2, x3, oe, vs, T, oT, ts, a1, a2, a3, a4, a5, a6, a7, a8, a9⟩ := x
  exact ⟨fun b o q => k b o (x1 b o q), x2, x3.of_keeps fun b o q _ => ⟨o, k b o q, rfl⟩, oe, vs, T, oT, ts, k _ _ a1, a2, a3, a4, a5, a6, k _ _ a7, a8, a9⟩
theorem upTo_kept {h h' h'' : Heap} (x : h.UpToSlots h') (k : ∀ b o, h'.get? b = some o → h''.get? b = some o) : h.UpToSlots h'' := fun b o e n => by
  obtain ⟨sl, q⟩ := x b o e n
  exact ⟨sl, k _ _ q⟩
/-! ## except (A, B, C) as n -/
def wAs3 (K : PySem.W.Frag) (c1 c2 c3 : Value) (m i : Nat) (ts : Addr → Value → Option Addr → TS) (D : Ends) : WX := fun cls d σ H =>
  PySem.W.exmAny K cls [c1, c2, c3] = some true ∧ ∀ a, H a = none → σ.length = m → ts a cls d { nx := fun τ G => D.nx (τ.set i none) G, rt := D.rt, bk := fun τ G => D.bk (τ.set i none) G, ct := fun τ G => D.ct (τ.set i none) G } (σ.set i (some (.ref a))) H
theorem ld_name {X : Cx} {pins : List (Addr × Obj)} {σ : L2.St} {H : Hp} {s : Shared} {x : Str} {c : Value} {p : Pos} {A : Around} {Q : Value → Shared → Prop} {E : Value → Shared → Prop} (I : Inv X pins σ H s) (hc : Names X x c) (q : Q c s) (hA : A = X.A) :
    wpAny (model X.prog X.w) A (eval (.Name x p) X.env) Q E s := by
  subst hA
  obtain ⟨hg, hdbg, hm | ⟨hm, hv, hnn⟩⟩ := hc
  · exact ld_glob I hg hm q hdbg
  · exact ld_blt I hg hm hv q hnn hdbg
theorem ps_try_as3 {X : Cx} {n x1 x2 x3 : Str} {c1 c2 c3 : Value} {i : Nat} {body suite : List Stmt} {b0 : Stmt} {p1 p2 p3 pt pos pos' : Pos} {kt} {tb : WX → TS} {ts : Addr → Value → Option Addr → TS}
    (hs : X.stack = X.env :: X.outer) (hf : X.env.frame = some X.env.locals) (hN : X.N.Nodup) (hi : X.N[i]? = some n) (hln : X.env.kindOf n = some .local)
    (n1 : Names X x1 c1) (n2 : Names X x2 c2) (n3 : Names X x3 c3)
    (hb : ∀ (W : WX) (pn : List (Addr × Obj)) (xe : Value → Shared → Prop), Takes (X.tr pn xe) W → PSs (X.tr pn xe) body (tb W))
    (hsu : ∀ (a : Addr) (oe : Obj) (cls : Value) (d : Option Addr) (pn : List (Addr × Obj)), Zc cls d oe → (∃ vs, oe.data = .fields vs) → PSs (X.suite a ((a, oe) :: pn)) (b0 :: suite) (ts a cls d))
    (st3 : starEach [.Name x1 p1, .Name x2 p2, .Name x3 p3] X.env = [(false, eval (.Name x1 p1) X.env), (false, eval (.Name x2 p2) X.env), (false, eval (.Name x3 p3) X.env)] := by rfl) :
    PS X (.Try body [.ExceptHandler (some (.Tuple [.Name x1 p1, .Name x2 p2, .Name x3 p3] kt pt)) (some n) (b0 :: suite) pos'] [] [] pos) (fun D σ H => tb (wAs3 X.K c1 c2 c3 X.N.length i ts D) D σ H) := by
  refine ⟨fun pins s σ H D I hwant => ?_⟩
  have xok := I.ok
  have frs1 : X.A.frames = some (X.env :: X.outer) := xok.frames.trans (congrArg some hs)
  have locn : Loc X.env.scope n := .inl hln
  refine wpAny_Try_except ?_
  refine wpAny_mono ((hb (wAs3 X.K c1 c2 c3 X.N.length i ts D) (X.pn ++ pins) (fun e z1 => wpAny (model X.prog X.w) X.A (noteFrame e X.env) (fun _ z2 => wpAny (model X.prog X.w) X.A (setFlight e none) (fun _ z3 =>
    wpAny (model X.prog X.w) X.A (handleBy e X.env [.ExceptHandler (some (.Tuple [.Name x1 p1, .Name x2 p2, .Name x3 p3] kt pt)) (some n) (b0 :: suite) pos']) (SP X pins D) X.xe z3) X.xe z2) X.xe z1) (fun u t xx => ?_)).run [] s σ H D (I.toTry _) hwant)
    (fun f z1 hsp => ?_) (fun e z1 he => he)
  · obtain ⟨a, B, sI, qs, τ, G, cls, d, rfl, J0, nb, up, sky, na, os, ag, hyes1, hyes⟩ := xx
    have J : Inv X pins τ G sI := J0.ofTry xok
    have sky1 : Sky B (X.env :: X.outer) a (Zc cls d) X.env.locals t.heap := by rw [← hs]; exact sky
    show wpAny (model X.prog X.w) X.A (noteFrame (.ref a) X.env) _ _ _
    refine Sky.land Zc.steady frs1 hf sky1 fun g3 fz up3 => ?_
    have up4 := up.trans up3
    have J3 : Inv X pins τ G { t with heap := g3 } := J.landed nb fz.1 up4 os ag
    obtain ⟨oe3, vs3, he3, hz3, hd3⟩ := fz.there
    have nfr : a ∉ frs (X.env :: X.outer) := fun hm => by
      obtain ⟨_, ob, eb, nfl⟩ := fz.2.2.1.mem hm
      rw [he3] at eb
      cases eb
      exact nfl _ hd3
    have nL : a ≠ X.env.locals := fun z => nfr (List.mem_filterMap.mpr ⟨X.env, List.mem_cons_self, by rw [hf, z]⟩)
    have nF : a ∉ X.fs := fun hm => by
      obtain ⟨ev, hev, q⟩ := List.mem_filterMap.mp hm
      exact nfr (List.mem_filterMap.mpr ⟨ev, List.mem_cons_of_mem _ hev, q⟩)
    have S3 := J3.suite he3 hd3 na nL nF
    refine wpAny_handleBy_cons (codeAny_handlers_test ?_) (by intro q; cases q)
    refine wpAny_Tuple_spliced ?_
    rw [st3]
    refine Calls.spliced_cons (ld_name (X := X.suite a ((a, oe3) :: (X.pn ++ pins))) S3 n1 ?_ rfl)
    refine Calls.spliced_cons (ld_name (X := X.suite a ((a, oe3) :: (X.pn ++ pins))) S3 n2 ?_ rfl)
    refine Calls.spliced_cons (ld_name (X := X.suite a ((a, oe3) :: (X.pn ++ pins))) S3 n3 ?_ rfl)
    refine Calls.spliced_nil ⟨(by show 3 ≤ sizeLine; decide), ?_⟩
    have kp : ∀ b o, g3.get? b = some o → (g3.push { cls := .type "tuple", data := .seq [c1, c2, c3].toArray }).get? b = some o := fun b o q => Heap.get?_push_of_some _ q
    have fz4 := flying_kept fz kp
    have up5 := upTo_kept up4 kp
    have J4 : Inv X pins τ G { t with heap := g3.push { cls := .type "tuple", data := .seq [c1, c2, c3].toArray } } := J.landed nb fz4.1 up5 os ag
    have LT : PySem.W.Looks (model X.prog X.w) (g3.push { cls := .type "tuple", data := .seq [c1, c2, c3].toArray }) (typeOf (.ref a)) cls := fun A Q E s k q => wpAny_typeOf_ref (k _ _ (kp _ _ he3)) (by rw [hz3.1]; exact q)
    have LM := PySem.W.exm_tup3 (M := model X.prog X.w) (tp := g3.objs.size) J4.kIn LT (Heap.get?_push_size _ rfl) hyes1
    refine LM.here ?_
    refine codeAny_handlers_suite_as ?_
    refine HandSPX.lands_againZ fz4 fun g5 fz5 up6 => ?_
    have J5 : Inv X pins τ G { t with heap := g5 } := J.landed nb fz5.1 (up5.trans up6) os ag
    obtain ⟨oe5, vs5, he5, hz5, hd5⟩ := fz5.there
    have S5 := J5.suite he5 hd5 na nL nF
    refine store_ok (X := X.suite a ((a, oe5) :: (X.pn ++ pins))) (v := .ref a) S5 hN hi locn rfl (fun z5 S6 => ?_) (.inr hln)
    refine wpAny_mono ((hsu a oe5 cls d (X.pn ++ pins) hz5 ⟨_, hd5⟩).run [] z5 _ G _ S6 (hyes a na J.len)) (fun f z6 hsp => ?_) (fun _ _ z => z.elim)
    have fin : ∀ {τ6 : L2.St} {G6 : Hp} {Q : Shared → Prop}, Inv (X.suite a ((a, oe5) :: (X.pn ++ pins))) [] τ6 G6 z6 → (∀ z7, Inv X pins (τ6.set i none) G6 z7 → Q z7) →
        wpAny (model X.prog X.w) X.A (do bindName X.env n .none; unbindBehindTheSuite X.env n pos') (fun _ z7 => Q z7) X.xe z6 := fun S7 hq => gone_ok (S7.unsuite xok) hN hi hln hq
    cases f with
    | next =>
      obtain ⟨_, _, S7, q7⟩ := hsp
      exact fin S7 fun _ J8 => ⟨_, _, J8, q7⟩
    | brk =>
      obtain ⟨_, _, S7, q7⟩ := hsp
      exact fin S7 fun _ J8 => ⟨_, _, J8, q7⟩
    | cont =>
      obtain ⟨_, _, S7, q7⟩ := hsp
      exact fin S7 fun _ J8 => ⟨_, _, J8, q7⟩
    | ret u =>
      obtain ⟨_, _, _, S7, r7, q7⟩ := hsp
      exact fin S7 fun _ J8 => ⟨_, _, _, J8, r7, q7⟩
  · cases f with
    | next =>
      obtain ⟨τ, G, J0, q⟩ := hsp
      exact wpAny_execs_nil ⟨τ, G, J0.ofTry xok, q⟩
    | brk =>
      obtain ⟨τ, G, J0, q⟩ := hsp
      exact ⟨τ, G, J0.ofTry xok, q⟩
    | cont =>
      obtain ⟨τ, G, J0, q⟩ := hsp
      exact ⟨τ, G, J0.ofTry xok, q⟩
    | ret u =>
      obtain ⟨v, τ, G, J0, r, q⟩ := hsp
      exact ⟨v, τ, G, J0.ofTry xok, r, q⟩
/-! ## an error's field, wherever the error is pinned -/
theorem pe_xfp {X : Cx} {a C : Addr} {oe : Obj} {cls : Value} {d : Option Addr} {e : Expr} {te : TE} {pos : Pos} {n : Str} (T : XfC X.K C) (hno : PySem.W.findIn X.K (.ref C) n = some none)
    (hz : Zc cls d oe) (hf : ∃ vs, oe.data = .fields vs) (hpn : (a, oe) ∈ X.pn) (he : PE X e te) (hb : attributeBase e n X.env (eval e X.env) = eval e X.env := by rfl) :
    PE X (.Attribute e n pos) (tXf a cls d C n te) := by
  refine ⟨fun pins s σ H Q I h => ?_⟩
  refine attr_of hb (thn (he.run pins s σ H _ I h) fun u z1 ⟨x, G, I1, rx, ex, ec, dd, fs, v, ed, ea, l, q⟩ => ?_)
  subst ex ec ed
  obtain rfl : u = Value.ref a := rx
  have ha := (I1.pin (a, oe) (List.mem_append_left _ hpn)).1
  obtain ⟨vs, hd⟩ := hf
  obtain ⟨mA, hns, hr⟩ := (show ObjOk X.prog X.w G z1.heap dd (.xd fs) from I1.hok dd _ ea)
  obtain ⟨od, ho, hl⟩ := lookIn_ns hns
  obtain ⟨u, hu, ru⟩ := RelO.some_of (v := v) (o := mA n) (by rw [← l]; exact hr n)
  have J : PySem.W.InstAt z1.heap a oe C (some od) := ⟨ha, hz.1, by unfold PySem.W.notCls; rw [hd] <;> rfl, by rw [hz.2]; exact ho⟩
  exact HandSPX.exc_get I1.kIn J T.ga T.gg T.exC (PySem.W.findObj_own T.hdC hno rfl (by rw [hl, hu])) (handed_of ru) ⟨v, G, I1.tok _, ru, q⟩
end Ew
namespace Ew
open PySem PySem.Spec PyProof.Rows L2
/-! ## // by any divisor that is not zero -/
def CDivZ (_ j : Int) : Prop := j ≠ 0 ∧ j.natAbs.log2 < 9000
theorem op_fdivZ {X : Cx} : OpR X (binaryOp .FloorDiv) (rI CDivZ fun i j => .int (i.fdiv j)) := opI fun _ _ _ _ _ _ _ hc q => floordiv_int hc.1 q (.inl (PyProof.noPylong_of_log2 hc.2))
/-! ## the mathematics of fractions -/
def gcdI (a b : Int) : Int := ((Nat.gcd a.natAbs b.natAbs : Nat) : Int)
theorem gcdI_step {x y : Int} (hx : 0 ≤ x) (hy : 0 < y) : gcdI y (x % y) = gcdI x y := by
  obtain ⟨m, rfl⟩ := Int.eq_ofNat_of_zero_le hx
  obtain ⟨n, rfl⟩ := Int.eq_ofNat_of_zero_le (Int.le_of_lt hy)
  unfold gcdI
  rw [← Int.natCast_emod, Int.natAbs_natCast, Int.natAbs_natCast, Int.natAbs_natCast, Nat.gcd_comm n (m % n), ← Nat.gcd_rec n m, Nat.gcd_comm]
theorem gcdI_zero {x : Int} (hx : 0 ≤ x) : gcdI x 0 = x := by
  unfold gcdI
  rw [Int.natAbs_zero, Nat.gcd_zero_right]
  omega
theorem gcdI_nn (a b : Int) : 0 ≤ gcdI a b := Int.natCast_nonneg _
theorem gcdI_pos {a b : Int} (h : b ≠ 0) : 0 < gcdI a b := by
  have := Nat.gcd_pos_of_pos_right a.natAbs (show 0 < b.natAbs by omega)
  unfold gcdI
  omega
theorem gcdI_le {a b : Int} (h : b ≠ 0) : gcdI a b ≤ (b.natAbs : Int) := by
  have := Nat.gcd_le_right a.natAbs (show 0 < b.natAbs by omega)
  unfold gcdI
  omega
def absI (i : Int) : Int := if i < 0 then -i else i
theorem absI_nn (i : Int) : 0 ≤ absI i := by unfold absI; split <;> omega
theorem absI_natAbs (i : Int) : (absI i).natAbs = i.natAbs := by unfold absI; split <;> omega
theorem gcdI_abs (a b : Int) : gcdI (absI a) (absI b) = gcdI a b := by unfold gcdI; rw [absI_natAbs, absI_natAbs]
theorem gcdI_abs1 (a b : Int) : gcdI (absI a) b = gcdI a b := by unfold gcdI; rw [absI_natAbs]
theorem gcdI_neg (a b : Int) : gcdI (-a) (-b) = gcdI a b := by unfold gcdI; rw [Int.natAbs_neg, Int.natAbs_neg]
/-- the fraction of a and b, b not zero -/
def frN (a b : Int) : Int := (if b < 0 then -a else a) / gcdI a b
def frD (a b : Int) : Int := (if b < 0 then -b else b) / gcdI a b
theorem wide_of {j : Int} {n : Nat} (h : j ≠ 0) (hb : j.natAbs < 2 ^ n) (h0 : 0 < n) (h9 : n ≤ 9000) : CDivZ i j := ⟨h, Nat.lt_of_lt_of_le (PySem.Flt.log2_lt_of h0 hb) h9⟩
theorem fdiv_flip (a : Int) {g : Int} (hg : 0 < g) : a.fdiv (-g) = (-a) / g := by
  have e : a.fdiv (-g) = (-(-a)).fdiv (-g) := by rw [Int.neg_neg]
  rw [e, Int.neg_fdiv_neg, Int.fdiv_eq_ediv_of_nonneg _ (by omega)]
theorem ifT {c : Bool} {A B : Prop} (hc : c = true) (h : A) : if c = true then A else B := by
  rw [if_pos hc]
  exact h
theorem ifF {c : Bool} {A B : Prop} (hc : c = false) (h : B) : if c = true then A else B := by
  rw [hc]
  exact iteF h
theorem ne_int {x y : Int} (h : x ≠ y) : (!decide (V.int x = V.int y)) = true := by simp [h]
theorem eq_int {x y : Int} (h : x ≠ y) : decide (V.int x = V.int y) = false := by simp [h]
/-! ## errors: what the written part says of a class over ValueError with self.tag = t in its __init__ -/
structure ErrT (K : PySem.W.Frag) (mg : Str → Option Value) (x : Str) (C fI : Addr) : Prop where
  gC : mg x = some (.ref C)
  oex : OexC K C
  iC : PySem.W.findIn K (.ref C) "__init__" = some (some (.ref fI))
  tI : PySem.W.typeIn K (.ref fI) = some (.type "function")
  nT : PySem.W.findIn K (.ref C) "tag" = some none
  xf : XfC K C
def spInitTag (K : PySem.W.Frag) (C : Addr) (t : Str) : Sp := fun vs H Q _ => ∃ a, vs = [.ref a] ∧ H a = some (exo a C none) ∧ ∀ dx, H dx = none → dx ≠ a → Q .non (upd (upd H dx (exd dx [("tag", .str t)])) a (exo a C (some dx)))
theorem raise_heap {H : Hp} {a dx : Addr} {o1 o2 o3 u : HO} (ha : H a = none) (hd : upd H a o1 dx = none) (ne : dx ≠ a) : upd (del (upd (upd (upd H a o1) dx o2) a o3) a) dx u = upd H dx u := by
  funext b
  by_cases h1 : b = dx
  · rw [h1, upd_same, upd_same]
  · rw [upd_ne h1, upd_ne h1]
    by_cases h2 : b = a
    · rw [h2, del_same, ha]
    · rw [del_ne h2, upd_ne h2, upd_ne h1, upd_ne h2]
end Ew
namespace K01
open PySem PySem.Spec PyProof.Rows L2 Ew
def top (i : Nat) : Stmt := PySem.Challenge.pw_earlywrite_k01_fractions_and_their_texts.main.body.getD i (.Pass ⟨0, 0, 0, 0⟩)
abbrev sFraction : Stmt := top 6
abbrev sGcd : Stmt := top 7
abbrev sText : Stmt := top 8
abbrev sLowest : Stmt := top 16
section
variable {P : Program} {w : World} {K : PySem.W.Frag} {mg : Str → Option Value} {base : Heap}
/-! ## common_divisor -/
def spGcd : Sp := fun vs H Q _ => ∃ a b : Int, vs = [.int a, .int b] ∧ 0 ≤ a ∧ 0 ≤ b ∧ Q (.int (gcdI a b)) H
theorem scGcd : FnScope ["one", "other"] ["one", "other"] (defScope sGcd) := ⟨rfl, rfl, rfl, by decide +kernel, rfl, by decide +kernel, by decide +kernel⟩
theorem ok_gcd {f : Addr} {fd : FuncData} (F : Fun K "common_divisor" "common_divisor" sGcd f fd) : FnOk P w K mg base CX0 1 f fd ["one", "other"] spGcd := by
  refine F.ok scGcd (fun vs H Q E h => ?_) (fun cdv A outer s H vs Q E hr h => ?_)
  · obtain ⟨a, b, rfl, _⟩ := h
    rfl
  · obtain ⟨a, b, rfl, ha, hb, k⟩ := h
    refine ⟨_, pss_cons (ps_while PassesOwn.never (pt_cmpR op_ne (pv 1) pe_int (nomark _)) (pss_one (ps_par (i := 0) (j := 1) rfl scGcd.nd rfl rfl (by decide) rfl rfl (pa_cons (pv 1) (pa_cons (pe_op op_mod (pv 0) (pv 1)) pa_nil)) (by rfl)))) (pss_one (ps_ret (pv 0))), ?_⟩
    refine ⟨fun m σ G => ∃ x y : Int, σ = [some (.int x), some (.int y)] ∧ G = H ∧ m = y.toNat ∧ 0 ≤ x ∧ 0 ≤ y ∧ gcdI x y = gcdI a b, ⟨_, a, b, rfl, rfl, rfl, ha, hb, rfl⟩, ?_⟩
    rintro m σ G ⟨x, y, rfl, rfl, rfl, hx, hy, hg⟩
    refine ⟨_, rfl, rfl, _, rfl, ?_⟩
    by_cases c : y = 0
    · subst c
      refine iteNS rfl ?_
      rw [gcdI_zero hx] at hg
      refine ⟨_, rfl, ?_⟩
      rw [hg]
      exact k
    · have hy1 : 0 < y := by omega
      refine ifT (ne_int c) ⟨fun σ G1 => ∃ x' y' : Int, σ = [some (.int x'), some (.int y')] ∧ G1 = G ∧ y'.toNat < y.toNat ∧ 0 ≤ x' ∧ 0 ≤ y' ∧ gcdI x' y' = gcdI a b, ?_, ?_⟩
      · rintro σ' H' ⟨x', y', rfl, rfl, hl, h1, h2, h3⟩
        exact ⟨_, hl, x', y', rfl, rfl, rfl, h1, h2, h3⟩
      · refine ⟨_, rfl, _, rfl, _, rfl, x, y, rfl, rfl, hy1, _, _, rfl, ?_⟩
        have q1 := Int.emod_nonneg x c
        have q2 := Int.emod_lt_of_pos x hy1
        exact ⟨y, x % y, rfl, rfl, by omega, hy, q1, (gcdI_step hx hy1).trans hg⟩
/-! ## _law_lowest -/
structure TxtA (mg : Str → Option Value) : Prop where
  abs : mg "abs" = none
def spLow : Sp := fun vs H Q _ => ∃ a b : Int, vs = [.int a, .int b] ∧ b ≠ 0 ∧ b.natAbs < 2 ^ 8000 ∧ ∀ p, H p = none → Q (.ref p) (upd H p (.tup [.int (frN a b), .int (frD a b)]))
theorem scLow : FnScope ["_law_above", "_law_below", "_law_one", "_law_other"] ["_law_above", "_law_below"] (defScope sLowest) := ⟨rfl, rfl, rfl, by decide +kernel, rfl, by decide +kernel, by decide +kernel⟩
theorem ok_low {f : Addr} {fd : FuncData} (F : Fun K "_law_lowest" "_law_lowest" sLowest f fd) (T : TxtA mg) : FnOk P w K mg base CX0 1 f fd ["_law_above", "_law_below"] spLow := by
  refine F.ok scLow (fun vs H Q E h => ?_) (fun cdv A outer s H vs Q E hr h => ?_)
  · obtain ⟨a, b, rfl, _⟩ := h
    rfl
  · obtain ⟨a, b, rfl, hb, hsz, k⟩ := h
    refine ⟨_, C8.pss_cut (ps_if (pt_cmpR op_lt (pv 1) pe_int (nomark _)) (pss_one (ps_par (i := 0) (j := 1) rfl scLow.nd rfl rfl (by decide) rfl rfl (pa_cons (pe_op op_sub pe_int (pv 0)) (pa_cons (pe_op op_sub pe_int (pv 1)) pa_nil)) (by rfl))) pss_nil)
      (pss_cons (ps_par (i := 2) (j := 3) rfl scLow.nd rfl rfl (by decide) rfl rfl (pa_cons (pe_callB call_abs (by rfl) T.abs (by decide +kernel) (pa_cons (pv 0) pa_nil)) (pa_cons (pv 1) pa_nil)) (by rfl))
      (pss_cons (ps_while PassesOwn.never (pt_cmpR op_ne (pv 3) pe_int (nomark _)) (pss_one (ps_par (i := 2) (j := 3) rfl scLow.nd rfl rfl (by decide) rfl rfl (pa_cons (pv 3) (pa_cons (pe_op op_mod (pv 2) (pv 3)) pa_nil)) (by rfl))))
      (pss_one (ps_ret (pe_tup (pa_cons (pe_op op_fdivW (pv 0) (pv 2)) (pa_cons (pe_op op_fdivW (pv 1) (pv 2)) pa_nil))))))), ?_⟩
    refine ⟨fun σ G => G = H ∧ ∃ x y : Int, σ = [some (.int x), some (.int y), none, none] ∧ x = (if b < 0 then -a else a) ∧ y = (if b < 0 then -b else b), ?_, ?_⟩
    · refine ⟨_, rfl, _, _, rfl, rfl, _, rfl, ?_⟩
      by_cases c : b < 0
      · refine ifT (decide_eq_true c) ?_
        refine ⟨_, rfl, _, _, rfl, rfl, _, rfl, _, _, rfl, rfl, _, _, rfl, ?_⟩
        exact ⟨rfl, _, _, rfl, by rw [if_pos c]; omega, by rw [if_pos c]; omega⟩
      · refine ifF (decide_eq_false c) ?_
        exact ⟨rfl, a, b, rfl, by rw [if_neg c], by rw [if_neg c]⟩
    · rintro σ G ⟨rfl, x, y, rfl, ex, ey⟩
      have y1 : 0 < y := by
        rw [ey]
        split <;> omega
      have eg : gcdI x y = gcdI a b := by
        rw [ex, ey]
        by_cases c : b < 0
        · rw [if_pos c, if_pos c, gcdI_neg]
        · rw [if_neg c, if_neg c]
      refine ⟨_, rfl, _, rfl, _, rfl, _, _, rfl, ?_⟩
      refine ⟨fun m σ G' => ∃ u v : Int, σ = [some (.int x), some (.int y), some (.int u), some (.int v)] ∧ G' = G ∧ m = v.toNat ∧ 0 ≤ u ∧ 0 ≤ v ∧ gcdI u v = gcdI a b,
        ⟨_, _, y, rfl, rfl, rfl, absI_nn x, by omega, (gcdI_abs1 x y).trans eg⟩, ?_⟩
      rintro m σ G' ⟨u, v, rfl, rfl, rfl, hu, hv, hg⟩
      refine ⟨_, rfl, rfl, _, rfl, ?_⟩
      by_cases c : v = 0
      · subst c
        refine iteNS rfl ?_
        rw [gcdI_zero hu] at hg
        have gp : 0 < gcdI a b := gcdI_pos hb
        have gl : (gcdI a b).natAbs < 2 ^ 8000 := Nat.lt_of_le_of_lt (by have := gcdI_le (a := a) hb; omega) hsz
        refine ⟨_, rfl, _, rfl, _, _, rfl, rfl, wide_div (by omega) (by rw [hg]; exact gl) (by decide) (by decide), _, rfl, _, rfl, _, _, rfl, rfl, wide_div (by omega) (by rw [hg]; exact gl) (by decide) (by decide), (by show 2 ≤ sizeLine; decide), fun p hp => ?_⟩
        have q := k p hp
        unfold frN frD at q
        rw [← ex, ← ey, ← hg] at q
        exact q
      · have v1 : 0 < v := by omega
        refine ifT (ne_int c) ⟨fun σ G1 => ∃ u' v' : Int, σ = [some (.int x), some (.int y), some (.int u'), some (.int v')] ∧ G1 = G' ∧ v'.toNat < v.toNat ∧ 0 ≤ u' ∧ 0 ≤ v' ∧ gcdI u' v' = gcdI a b, ?_, ?_⟩
        · rintro σ' H' ⟨u', v', rfl, rfl, hl, h1, h2, h3⟩
          exact ⟨_, hl, u', v', rfl, rfl, rfl, h1, h2, h3⟩
        · refine ⟨_, rfl, _, rfl, _, rfl, u, v, rfl, rfl, v1, _, _, rfl, ?_⟩
          have q1 := Int.emod_nonneg u c
          have q2 := Int.emod_lt_of_pos u v1
          exact ⟨v, u % v, rfl, rfl, by omega, hv, q1, (gcdI_step hu v1).trans hg⟩
end
end K01
namespace Ew
open PySem PySem.Spec PyProof.Rows L2
/-- the text of a fraction -/
def frText (n d : Int) : Str := if d = 1 then Str.ofString (toString n) else Str.ofString (toString n) ++ "/" ++ Str.ofString (toString d)
/-! ## the numbers that a law draws -/
def RngOk (i v sd : Int) : Prop := 0 ≤ i ∧ 0 ≤ v ∧ 0 ≤ sd ∧ sd < 2147483549
def rngL (q : Addr) (i v sd : Int) : List V := [.ref q, .int i, .int v, .int sd]
structure RngAt (H : Hp) (p q : Addr) (ns : List Int) (i v sd : Int) : Prop where
  at_p : H p = some (.lst (rngL q i v sd))
  at_q : H q = some (.lst (ns.map V.int))
  len : ns.length ≤ 63
  ok : RngOk i v sd
  ne : q ≠ p
theorem RngAt.next {H : Hp} {p q : Addr} {ns : List Int} {i v sd i' v' sd' : Int} (R : RngAt H p q ns i v sd) (h : RngOk i' v' sd') : RngAt (upd H p (.lst (rngL q i' v' sd'))) p q ns i' v' sd' :=
  ⟨upd_same, by rw [upd_ne R.ne]; exact R.at_q, R.len, h, R.ne⟩
theorem mul_small {i j : Int} (h0 : -9223372036854775808 < i) (h1 : i < 9223372036854775808) : CMul i j := by
  have e : (2 : Int) ^ 64 = 18446744073709551616 := by decide
  refine .inl ⟨?_, ?_⟩
  · rw [e]; omega
  · rw [e]; omega
theorem cut63 {ns : List Int} (h : ns.length ≤ 63) : cutV (ns.map V.int) none (some 63) = ns.map V.int := by
  unfold cutV
  rw [HT.sIx_none, List.drop_zero]
  have e := HT.sIx_nat (ns.map V.int).length (ns.map V.int).length 63
  rw [show (some (63 : Int)) = some ((63 : Nat) : Int) from rfl, e, Nat.sub_zero, List.take_of_length_le]
  rw [List.length_map]
  omega
def seedStep (sd c : Int) : Int := (sd * 40009 + c % 2147483549 + 31) % 2147483549
end Ew
namespace K01
open PySem PySem.Spec PyProof.Rows L2 Ew
abbrev sOutInit : Stmt := inClass (top 2) 0
abbrev sBegin : Stmt := top 10
abbrev sDraw : Stmt := top 11
abbrev sPick : Stmt := top 12
section
variable {P : Program} {w : World} {K : PySem.W.Frag} {mg : Str → Option Value} {base : Heap}
/-! ## OutOfRange.__init__ -/
theorem scOut : FnScope ["self"] ["self"] (defScope sOutInit) := ⟨rfl, rfl, rfl, by decide +kernel, rfl, by decide +kernel, by decide +kernel⟩
theorem ok_out {f C fI : Addr} {fd : FuncData} (F : Fun K "__init__" "OutOfRange.__init__" sOutInit f fd) (T : ErrT K mg "OutOfRange" C fI) : FnOk P w K mg base CX0 1 f fd ["self"] (spInitTag K C "OutOfRange") := by
  refine F.ok scOut (fun vs H Q E h => ?_) (fun cdv A outer s H vs Q E hr h => ?_)
  · obtain ⟨a, rfl, _⟩ := h
    rfl
  · obtain ⟨a, rfl, ha, k⟩ := h
    exact ⟨_, pss_one (ps_ost (pv 0) pe_str), _, rfl, a, C, rfl, T.oex, T.nT, .inl ⟨ha, k⟩⟩
/-! ## fraction -/
def spFraction (C : Addr) : Sp := fun vs H Q E => ∃ n d : Int, vs = [.int n, .int d] ∧ d.natAbs < 2 ^ 8000 ∧
  (d = 0 → ∀ x, H x = none → E (.ref C) (some x) (upd H x (.xd [("tag", .str "OutOfRange")]))) ∧ (d ≠ 0 → ∀ p, H p = none → Q (.ref p) (upd H p (.tup [.int (frN n d), .int (frD n d)])))
structure TxtF (K : PySem.W.Frag) (mg : Str → Option Value) (C fI fG : Addr) : Prop where
  abs : mg "abs" = none
  out : ErrT K mg "OutOfRange" C fI
  gG : mg "common_divisor" = some (.ref fG)
  kG : PySem.W.keepIn K (.ref fG) = true
theorem scFr : FnScope ["numerator", "denominator", "divisor"] ["numerator", "denominator"] (defScope sFraction) := ⟨rfl, rfl, rfl, by decide +kernel, rfl, by decide +kernel, by decide +kernel⟩
theorem ok_fraction {f C fI fG : Addr} {fd fdI fdG : FuncData} {dvs : List V} {kws : List (Str × V)} (F : FunD K "fraction" "fraction" (defArgs sFraction) (defBody sFraction) (defScope sFraction) dvs kws f fd) (T : TxtF K mg C fI fG)
    (FI : FnOk P w K mg base CX0 1 fI fdI ["self"] (spInitTag K C "OutOfRange")) (bI : Binds K fdI ["self"] []) (FG : FnOk P w K mg base CX0 1 fG fdG ["one", "other"] spGcd) (bG : Binds K fdG ["one", "other"] []) :
    FnOk P w K mg base (L2.CX P w) 3 f fd ["numerator", "denominator"] (spFraction C) := by
  refine F.ok scFr (fun vs H Q E h => ?_) (fun cdv A outer s H vs Q E hr h => ?_)
  · obtain ⟨a, b, rfl, _⟩ := h
    rfl
  · obtain ⟨n, d, rfl, hsz, kE, kQ⟩ := h
    refine ⟨_, pss_cons (ps_if (pt_cmpR op_eq (pv 1) pe_int (nomark _)) (pss_one (ps_raise rfl (takes_of rfl rfl rfl rfl) (pmk0 T.out.oex T.out.iC T.out.tI FI hr bI pass0 rfl T.out.gC))) pss_nil)
      (pss_cons (ps_set (i := 2) scFr.nd rfl (Or.inl rfl) (pe_call FG (hr.mono (by decide)) rfl T.gG T.kG bG .nil pass0 (pa_cons (pe_callB call_abs (by rfl) T.abs (by decide +kernel) (pa_cons (pv 0) pa_nil)) (pa_cons (pe_callB call_abs (by rfl) T.abs (by decide +kernel) (pa_cons (pv 1) pa_nil)) pa_nil))))
      (C8.pss_cut (ps_if (pt_cmpR op_lt (pv 1) pe_int (nomark _)) (pss_one (ps_set (i := 2) scFr.nd rfl (Or.inl rfl) (pe_un un_neg (pv 2)))) pss_nil)
      (pss_one (ps_ret (pe_tup (pa_cons (pe_op op_fdivZ (pv 0) (pv 2)) (pa_cons (pe_op op_fdivZ (pv 1) (pv 2)) pa_nil))))))), ?_⟩
    refine ⟨_, rfl, rfl, _, rfl, ?_⟩
    by_cases c : d = 0
    · subst c
      refine ifT (decide_eq_true rfl) fun a ha => ?_
      refine ⟨a, rfl, upd_same, fun dx hdx ne => ⟨rfl, dx, [("tag", .str "OutOfRange")], upd_same, ?_, ?_, ?_⟩⟩
      · rw [upd_ne ne, upd_same]
      · rw [upd_ne ne] at hdx
        exact hdx
      · rw [raise_heap ha hdx ne]
        rw [upd_ne ne] at hdx
        exact kE rfl dx hdx
    · refine ifF (eq_int c) ?_
      have gp : 0 < gcdI n d := gcdI_pos c
      have gl : (gcdI n d).natAbs < 2 ^ 8000 := Nat.lt_of_le_of_lt (by have := gcdI_le (a := n) c; omega) hsz
      refine ⟨_, rfl, _, rfl, _, rfl, _, rfl, absI n, absI d, rfl, absI_nn n, absI_nn d, ?_⟩
      rw [gcdI_abs]
      refine ⟨fun σ G => G = H ∧ σ = [some (.int n), some (.int d), some (.int (if d < 0 then -(gcdI n d) else gcdI n d))], ?_, ?_⟩
      · refine ⟨_, rfl, _, _, rfl, rfl, _, rfl, ?_⟩
        by_cases e : d < 0
        · refine ifT (decide_eq_true e) ⟨_, rfl, _, rfl, rfl, ?_⟩
          rw [if_pos e]
          rfl
        · refine ifF (decide_eq_false e) ⟨rfl, ?_⟩
          rw [if_neg e]
          rfl
      · rintro σ G ⟨rfl, rfl⟩
        have kq := kQ c
        unfold frN frD at kq
        by_cases e : d < 0
        · rw [if_pos e] at kq ⊢
          rw [if_pos e] at kq
          have hc : ∀ i : Int, CDivZ i (-(gcdI n d)) := fun i => ⟨by omega, by rw [Int.natAbs_neg]; exact Nat.lt_of_lt_of_le (PySem.Flt.log2_lt_of (by decide) gl) (by decide)⟩
          refine ⟨_, rfl, _, rfl, _, _, rfl, rfl, hc _, _, rfl, _, rfl, _, _, rfl, rfl, hc _, (by show 2 ≤ sizeLine; decide), fun p hp => ?_⟩
          have q := kq p hp
          rw [← fdiv_flip n gp, ← fdiv_flip d gp] at q
          exact q
        · rw [if_neg e] at kq ⊢
          rw [if_neg e] at kq
          have hc : ∀ i : Int, CDivZ i (gcdI n d) := fun i => ⟨by omega, Nat.lt_of_lt_of_le (PySem.Flt.log2_lt_of (by decide) gl) (by decide)⟩
          refine ⟨_, rfl, _, rfl, _, _, rfl, rfl, hc _, _, rfl, _, rfl, _, _, rfl, rfl, hc _, (by show 2 ≤ sizeLine; decide), fun p hp => ?_⟩
          have q := kq p hp
          rw [← Int.fdiv_eq_ediv_of_nonneg n (by omega : 0 ≤ gcdI n d), ← Int.fdiv_eq_ediv_of_nonneg d (by omega : 0 ≤ gcdI n d)] at q
          exact q
/-! ## fraction_text -/
def spText (K : PySem.W.Frag) : Sp := fun vs H Q _ => ∃ (t : Addr) (n d : Int), vs = [.ref t] ∧ SqT K H t [.int n, .int d] ∧ n.natAbs.log2 < 1920 ∧ d.natAbs.log2 < 1920 ∧ Q (.str (frText n d)) H
theorem scText : FnScope ["value", "numerator", "denominator"] ["value"] (defScope sText) := ⟨rfl, rfl, rfl, by decide +kernel, rfl, by decide +kernel, by decide +kernel⟩
theorem ok_text {f : Addr} {fd : FuncData} (F : Fun K "fraction_text" "fraction_text" sText f fd) : FnOk P w K mg base CX0 1 f fd ["value"] (spText K) := by
  refine F.ok scText (fun vs H Q E h => ?_) (fun cdv A outer s H vs Q E hr h => ?_)
  · obtain ⟨t, n, d, rfl, _⟩ := h
    rfl
  · obtain ⟨t, n, d, rfl, hT, hn, hd, k⟩ := h
    refine ⟨_, pss_cons (ps_asg (pv 0) (pg_tup rfl (pgs_cons (pg_name (i := 1) scText.nd rfl (Or.inl rfl)) (pgs_cons (pg_name (i := 2) scText.nd rfl (Or.inl rfl)) pgs_nil))))
      (pss_cons (ps_if (pt_cmpR op_eq (pv 2) pe_int (nomark _)) (pss_one (ps_ret (pe_joined1 (pe_fmt (pv 1))))) pss_nil)
      (pss_one (ps_ret (pe_joined (PJ.cons (pe_fmt (pv 1)) (PJ.cons pe_str (PJ.cons (pe_fmt (pv 2)) PJ.nil))))))), ?_⟩
    refine ⟨_, rfl, t, _, rfl, hT, rfl, _, _, rfl, _, _, rfl, rfl, ?_⟩
    have ln := int_text_len_1921 hn
    have ld := int_text_len_1921 hd
    have l1 : (("/" : Str)).length = 1 := by decide +kernel
    refine ⟨_, rfl, rfl, _, rfl, ?_⟩
    unfold frText at k
    by_cases c : d = 1
    · rw [if_pos c] at k
      subst c
      exact ifT (decide_eq_true rfl) ⟨_, rfl, .inr ⟨n, rfl, hn, k⟩⟩
    · rw [if_neg c] at k
      refine ifF (eq_int c) ⟨_, rfl, .inr ⟨n, rfl, hn, _, rfl, ?_, _, rfl, ?_, ⟨_, rfl, .inr ⟨d, rfl, hd, _, rfl, ?_, ?_⟩⟩⟩⟩
      · rw [Str.empty_append, sizeLine_eq]
        omega
      · rw [Str.empty_append, Str.length_append, sizeLine_eq]
        omega
      · rw [Str.empty_append, Str.length_append, Str.length_append, sizeLine_eq]
        omega
      · rw [Str.empty_append]
        exact k
end
end K01
namespace Ew
open PySem PySem.Spec PyProof.Rows L2
theorem upd_id {H : Hp} {a : Addr} {o : HO} (h : H a = some o) : upd H a o = H := by
  funext b
  by_cases e : b = a
  · rw [e, upd_same, h]
  · rw [upd_ne e]
theorem rng_0 {q : Addr} {i v sd : Int} : atI (rngL q i v sd) 0 = some (.ref q) := rfl
theorem rng_1 {q : Addr} {i v sd : Int} : atI (rngL q i v sd) 1 = some (.int i) := rfl
theorem rng_2 {q : Addr} {i v sd : Int} : atI (rngL q i v sd) 2 = some (.int v) := rfl
theorem rng_3 {q : Addr} {i v sd : Int} : atI (rngL q i v sd) 3 = some (.int sd) := rfl
theorem get_int {ns : List Int} {i : Int} (h0 : 0 ≤ i) (h1 : i < (ns.length : Int)) : ∃ c, c ∈ ns ∧ atI (ns.map V.int) i = some (.int c) := by
  obtain ⟨m, rfl⟩ := Int.eq_ofNat_of_zero_le h0
  have hm : m < ns.length := by omega
  refine ⟨ns[m], List.getElem_mem hm, atI_nat ?_⟩
  rw [List.getElem?_map, List.getElem?_eq_getElem hm]
  rfl
theorem map_int_at {ns : List Int} {i : Nat} {y : V} (h : (ns.map V.int)[i]? = some y) : ∃ c, y = .int c := by
  rw [List.getElem?_map] at h
  cases e : ns[i]? with
  | none =>
    rw [e] at h
    cases h
  | some c =>
    rw [e] at h
    exact ⟨c, (Option.some.inj h).symm⟩
end Ew
namespace K01
open PySem PySem.Spec PyProof.Rows L2 Ew
section
variable {P : Program} {w : World} {K : PySem.W.Frag} {mg : Str → Option Value} {base : Heap}
structure TxtR (mg : Str → Option Value) : Prop where
  len : mg "len" = none
  list : mg "list" = none
/-! ## _law_begin -/
def spBegin (K : PySem.W.Frag) : Sp := fun vs H Q _ => ∃ (a : Addr) (ns : List Int), vs = [.ref a] ∧ SqL K H a (ns.map V.int) ∧ ns.length ≤ 63 ∧
  ∀ (G : Hp) (p q : Addr) (sd : Int), Same H G → RngAt G p q ns 0 0 sd → H p = none → H q = none → Q (.ref p) G
theorem scBegin : FnScope ["_law_script", "_law_seed", "_law_cell"] ["_law_script"] (defScope sBegin) := ⟨rfl, rfl, rfl, by decide +kernel, rfl, by decide +kernel, by decide +kernel⟩
theorem ok_begin {f : Addr} {fd : FuncData} (F : Fun K "_law_begin" "_law_begin" sBegin f fd) (T : TxtR mg) : FnOk P w K mg base CX0 1 f fd ["_law_script"] (spBegin K) := by
  refine F.ok scBegin (fun vs H Q E h => ?_) (fun cdv A outer s H vs Q E hr h => ?_)
  · obtain ⟨a, ns, rfl, _⟩ := h
    rfl
  · obtain ⟨a, ns, rfl, hS, hl, k⟩ := h
    refine ⟨_, pss_cons (ps_set (i := 1) scBegin.nd rfl (Or.inl rfl) (pe_op op_add pe_int (pe_callB call_len_seq (by rfl) T.len PySem.boot_len (pa_cons (pe_slice sl_list (pv 0) po_none (po_some pe_int)) pa_nil))))
      (pss_cons (ps_for PassesOwn.never rfl (pi_list (pe_slice sl_list (pv 0) po_none (po_some pe_int))) (pg_name (i := 2) scBegin.nd rfl (Or.inl rfl))
        (pss_one (ps_set (i := 1) scBegin.nd rfl (Or.inl rfl) (pe_op op_mod (pe_op op_add (pe_op op_add (pe_op op_mul (pv 1) pe_int) (pe_op op_mod (pv 2) pe_int)) pe_int) pe_int))))
      (pss_one (ps_ret (pe_lst (pa_cons (pe_callTy call_list_of (by rfl) T.list (by decide +kernel) (pa_cons (pe_slice sl_list (pv 0) po_none (po_some pe_int)) pa_nil)) (pa_cons pe_int (pa_cons pe_int (pa_cons (pv 1) pa_nil)))))))), ?_⟩
    refine ⟨_, rfl, _, rfl, a, _, rfl, hS, fun p1 n1 => ?_⟩
    rw [cut63 hl]
    have s1 : Same H (upd H p1 (.lst (ns.map V.int))) := fun b o e => by rw [upd_ne (ne_of_none e n1)]; exact e
    refine ⟨p1, _, rfl, .inl (SqL.of upd_same), _, _, rfl, rfl, ?_⟩
    refine ⟨_, rfl, _, rfl, a, _, rfl, s1.seq hS, fun p2 n2 => ?_⟩
    rw [cut63 hl]
    have s2 : Same H (upd (upd H p1 (.lst (ns.map V.int))) p2 (.lst (ns.map V.int))) := fun b o e => by rw [upd_ne (ne_of_none (s1 b o e) n2)]; exact s1 b o e
    refine ⟨p2, rfl, ⟨_, SqL.of upd_same⟩, for_list (K := K) (a := p2) (xs := ns.map V.int) (fun i σ G => G = upd (upd H p1 (.lst (ns.map V.int))) p2 (.lst (ns.map V.int)) ∧ ∃ (sd : Int) (c : Option V), σ = [some (.ref a), some (.int sd), c] ∧ 0 ≤ sd ∧ sd < 2147483549)
      ⟨rfl, _, none, rfl, ?_, ?_⟩ (fun i σ G _ ⟨e, _⟩ => by rw [e]; exact SqL.of upd_same) ?_ ?_⟩
    · rw [List.length_map]; omega
    · rw [List.length_map]; omega
    · rintro i y σ G hi ⟨rfl, sd, c, rfl, h0, h1⟩
      obtain ⟨z, rfl⟩ := map_int_at hi
      refine ⟨_, rfl, sd, 40009, rfl, rfl, mul_small (by omega) (by omega), _, rfl, z, 2147483549, rfl, rfl, (by show (0 : Int) < 2147483549; decide), _, _, rfl, rfl, _, _, rfl, rfl, _, _, rfl, rfl, (by show (0 : Int) < 2147483549; decide), ?_⟩
      exact ⟨rfl, _, _, rfl, Int.emod_nonneg _ (by decide), Int.emod_lt_of_pos _ (by decide)⟩
    · rintro σ G ⟨rfl, sd, c, rfl, h0, h1⟩
      refine ⟨_, rfl, _, rfl, a, _, rfl, s2.seq hS, fun p3 n3 => ?_⟩
      rw [cut63 hl]
      have s3 := s2.trans (H2 := upd (upd (upd H p1 (.lst (ns.map V.int))) p2 (.lst (ns.map V.int))) p3 (.lst (ns.map V.int))) fun b o e => by rw [upd_ne (ne_of_none e n3)]; exact e
      refine ⟨p3, _, rfl, .inl (SqL.of upd_same), fun q n4 => ?_⟩
      have s4 := s3.trans (H2 := upd (upd (upd (upd H p1 (.lst (ns.map V.int))) p2 (.lst (ns.map V.int))) p3 (.lst (ns.map V.int))) q (.lst (ns.map V.int))) fun b o e => by rw [upd_ne (ne_of_none e n4)]; exact e
      refine ⟨_, rfl, (by show 4 ≤ sizeLine; decide), fun p n5 => ?_⟩
      have nqp : q ≠ p := fun e => by rw [← e, upd_same] at n5; cases n5
      refine k _ p q sd (fun b o e => by rw [upd_ne (ne_of_none (s4 b o e) n5)]; exact s4 b o e) ⟨upd_same, ?_, hl, ⟨by omega, by omega, h0, h1⟩, nqp⟩ (s4.free n5) (s3.free n4)
      rw [upd_ne nqp, upd_same]
/-! ## _law_draw -/
def spDraw : Sp := fun vs H Q _ => ∃ (p q : Addr) (ns : List Int) (i v sd many : Int), vs = [.ref p, .int many] ∧ RngAt H p q ns i v sd ∧ 0 < many ∧ many.natAbs < 2 ^ 8000 ∧
  ∀ r i' v' sd' : Int, 0 ≤ r → r < many → RngOk i' v' sd' → Q (.int r) (upd H p (.lst (rngL q i' v' sd')))
theorem scDraw : FnScope ["_law_rng", "_law_many", "_law_cell", "_law_got", "_law_seed"] ["_law_rng", "_law_many"] (defScope sDraw) := ⟨rfl, rfl, rfl, by decide +kernel, rfl, by decide +kernel, by decide +kernel⟩
theorem ok_draw {f : Addr} {fd : FuncData} (F : Fun K "_law_draw" "_law_draw" sDraw f fd) (T : TxtR mg) : FnOk P w K mg base CX0 1 f fd ["_law_rng", "_law_many"] spDraw := by
  refine F.ok scDraw (fun vs H Q E h => ?_) (fun cdv A outer s H vs Q E hr h => ?_)
  · obtain ⟨p, q, ns, i, v, sd, many, rfl, _⟩ := h
    rfl
  · obtain ⟨p, q, ns, i, v, sd, many, rfl, R, hm, hmz, k⟩ := h
    refine ⟨_, C8.pss_cut (ps_if (PW.pt (pw_and (pt_cmpR op_eq (pe_ix ix_list (pv 0) pe_int (fun _ _ => rfl)) pe_int (nomark _)) (pw_and1 (pt_cmpR op_lt (pe_ix ix_list (pv 0) pe_int (fun _ _ => rfl)) (pe_callB call_len_seq (by rfl) T.len PySem.boot_len (pa_cons (pe_ix ix_list (pv 0) pe_int (fun _ _ => rfl)) pa_nil)) (nomark _)))))
        (pss_cons (ps_set (i := 2) scDraw.nd rfl (Or.inl rfl) (pe_ix ix_list (pe_ix ix_list (pv 0) pe_int (fun _ _ => rfl)) (pe_ix ix_list (pv 0) pe_int (fun _ _ => rfl)) (fun _ _ => rfl)))
        (pss_cons (ps_asg (pe_op op_add (pe_ix ix_list (pv 0) pe_int (fun _ _ => rfl)) pe_int) (pg_sub (pv 0) pe_int set_list))
        (pss_one (ps_if (pt_cmpR op_ge (pv 2) (pe_op op_pow pe_int pe_int) (nomark _)) (pss_one (ps_asg (pv 2) (pg_sub (pv 0) pe_int set_list)))
          (pss_one (ps_asg (pe_op op_mod (pe_op op_add (pe_op op_add (pe_op op_mul (pe_ix ix_list (pv 0) pe_int (fun _ _ => rfl)) pe_int) (pe_op op_mul (pe_op op_mod (pv 2) pe_int) pe_int)) pe_int) pe_int) (pg_sub (pv 0) pe_int set_list)))))))
        pss_nil)
      (pss_cons (ps_if (pt_cmpR op_gt (pe_ix ix_list (pv 0) pe_int (fun _ _ => rfl)) pe_int (nomark _))
        (pss_cons (ps_set (i := 3) scDraw.nd rfl (Or.inl rfl) (pe_op op_mod (pe_ix ix_list (pv 0) pe_int (fun _ _ => rfl)) (pv 1)))
        (pss_cons (ps_asg (pe_op op_fdivW (pe_ix ix_list (pv 0) pe_int (fun _ _ => rfl)) (pv 1)) (pg_sub (pv 0) pe_int set_list))
        (pss_one (ps_ret (pv 3))))) pss_nil)
      (pss_cons (ps_set (i := 4) scDraw.nd rfl (Or.inl rfl) (pe_ix ix_list (pv 0) pe_int (fun _ _ => rfl)))
      (pss_cons (ps_asg (pe_op op_mod (pe_op op_add (pe_op op_add (pe_op op_mul (pv 4) (pe_op op_add (pe_op op_mod (pv 4) pe_int) pe_int)) (pe_op op_mul (pv 4) pe_int)) pe_int) pe_int) (pg_sub (pv 0) pe_int set_list))
      (pss_one (ps_ret (pe_op op_mod (pe_op op_add (pe_op op_fdiv (pe_ix ix_list (pv 0) pe_int (fun _ _ => rfl)) pe_int) (pe_op op_mul (pe_op op_mod (pe_ix ix_list (pv 0) pe_int (fun _ _ => rfl)) pe_int) pe_int)) (pv 1))))))), ?_⟩
    refine ⟨fun σ G => ∃ (c : Option V) (i' v' sd' : Int), σ = [some (.ref p), some (.int many), c, none, none] ∧ RngOk i' v' sd' ∧ G = upd H p (.lst (rngL q i' v' sd')), ?_, ?_⟩
    · obtain ⟨i0, v0, sd0, sd1⟩ := R.ok
      refine ⟨_, rfl, p, _, _, _, rfl, rfl, SqL.of R.at_p, rng_2, rfl, _, rfl, ?_⟩
      by_cases c1 : v = 0
      · subst c1
        refine ifT (decide_eq_true rfl) ?_
        refine ⟨_, rfl, p, _, _, _, rfl, rfl, SqL.of R.at_p, rng_1, _, rfl, p, _, _, _, rfl, rfl, SqL.of R.at_p, rng_0, q, _, rfl, .inl (SqL.of R.at_q), _, _, rfl, rfl, _, rfl, ?_⟩
        rw [List.length_map]
        by_cases c2 : i < (ns.length : Int)
        · refine ifT (decide_eq_true c2) ?_
          obtain ⟨c, hc, hat⟩ := get_int i0 c2
          refine ⟨_, rfl, p, _, _, _, rfl, rfl, SqL.of R.at_p, rng_0, _, rfl, p, _, _, _, rfl, rfl, SqL.of R.at_p, rng_1, q, _, _, _, rfl, rfl, SqL.of R.at_q, hat, ?_⟩
          refine ⟨_, rfl, p, _, _, _, rfl, rfl, SqL.of R.at_p, rng_1, _, _, rfl, rfl, _, rfl, p, _, _, 1, rfl, rfl, R.at_p, rfl, ?_⟩
          refine ⟨_, rfl, _, _, rfl, rfl, (by show (0 : Int) ≤ 18 ∧ (18 : Int) ≤ 1000000 ∧ (10 : Int).natAbs < 2 ^ 64; decide), _, _, rfl, rfl, _, rfl, ?_⟩
          by_cases c3 : (10 : Int) ^ (18 : Int).toNat ≤ c
          · refine ifT (decide_eq_true c3) ?_
            refine ⟨_, rfl, _, rfl, p, _, _, 2, rfl, rfl, upd_same, rfl, ?_⟩
            refine ⟨_, i + 1, c, sd, rfl, ⟨by omega, ?_, sd0, sd1⟩, upd_upd⟩
            exact Int.le_trans (by decide) c3
          · refine ifF (decide_eq_false c3) ?_
            refine ⟨_, rfl, p, _, _, _, rfl, rfl, SqL.of upd_same, rfl, sd, 44111, rfl, rfl, mul_small (by omega) (by omega), _, rfl, c, 2147483549, rfl, rfl, (by show (0 : Int) < 2147483549; decide), c % 2147483549, 70001, rfl, rfl, ?_, _, _, rfl, rfl, _, _, rfl, rfl, _, _, rfl, rfl, (by show (0 : Int) < 2147483549; decide),
              _, rfl, p, _, _, 3, rfl, rfl, upd_same, rfl, ?_⟩
            · have := Int.emod_nonneg c (by decide : (2147483549 : Int) ≠ 0)
              have := Int.emod_lt_of_pos c (by decide : (0 : Int) < 2147483549)
              exact mul_small (by omega) (by omega)
            · exact ⟨_, i + 1, 0, _, rfl, ⟨by omega, by omega, Int.emod_nonneg _ (by decide), Int.emod_lt_of_pos _ (by decide)⟩, upd_upd⟩
        · exact ifF (decide_eq_false c2) ⟨none, i, 0, sd, rfl, R.ok, (upd_id R.at_p).symm⟩
      · exact ifF (eq_int c1) (iteF ⟨none, i, v, sd, rfl, R.ok, (upd_id R.at_p).symm⟩)
    · rintro σ G ⟨c, i', v', sd', rfl, ⟨i0, v0, s0, s1⟩, rfl⟩
      refine ⟨_, rfl, p, _, _, _, rfl, rfl, SqL.of upd_same, rng_2, _, _, rfl, rfl, _, rfl, ?_⟩
      by_cases c1 : 0 < v'
      · refine ifT (decide_eq_true c1) ?_
        refine ⟨_, rfl, p, _, _, _, rfl, rfl, SqL.of upd_same, rng_2, _, rfl, _, _, rfl, rfl, hm, ?_⟩
        refine ⟨_, rfl, p, _, _, _, rfl, rfl, SqL.of upd_same, rng_2, _, rfl, _, _, rfl, rfl, wide_div hm hmz (by decide) (by decide), _, rfl, p, _, _, 2, rfl, rfl, upd_same, rfl, _, rfl, ?_⟩
        rw [upd_upd]
        exact k _ i' _ sd' (Int.emod_nonneg _ (by omega)) (Int.emod_lt_of_pos _ hm) ⟨i0, Int.ediv_nonneg (by omega) (by omega), s0, s1⟩
      · refine ifF (decide_eq_false c1) ?_
        refine ⟨_, rfl, p, _, _, _, rfl, rfl, SqL.of upd_same, rng_3, ?_⟩
        refine ⟨_, rfl, _, rfl, sd', 65479, rfl, rfl, (by show (0 : Int) < 65479; decide), _, _, rfl, rfl, sd', _, rfl, rfl, mul_small (by omega) (by omega), _, rfl, sd', 40699, rfl, rfl, mul_small (by omega) (by omega), _, _, rfl, rfl, _, _, rfl, rfl, _, _, rfl, rfl, (by show (0 : Int) < 2147483549; decide),
          _, rfl, p, _, _, 3, rfl, rfl, upd_same, rfl, ?_⟩
        rw [upd_upd]
        have small : ∀ z : Int, CMul (z % 7919) 211 := fun z => by
          have := Int.emod_nonneg z (by decide : (7919 : Int) ≠ 0)
          have := Int.emod_lt_of_pos z (by decide : (0 : Int) < 7919)
          exact mul_small (by omega) (by omega)
        refine ⟨_, rfl, p, _, _, _, rfl, rfl, SqL.of upd_same, rfl, _, 67, rfl, rfl, ⟨by decide, by decide⟩, _, rfl, p, _, _, _, rfl, rfl, SqL.of upd_same, rfl, _, 7919, rfl, rfl, (by show (0 : Int) < 7919; decide), _, 211, rfl, rfl, small _, _, _, rfl, rfl, _, rfl, _, _, rfl, rfl, hm, ?_⟩
        exact k _ i' v' _ (Int.emod_nonneg _ (by omega)) (Int.emod_lt_of_pos _ hm) ⟨i0, v0, Int.emod_nonneg _ (by decide), Int.emod_lt_of_pos _ (by decide)⟩
/-! ## _law_pick -/
def spPick (K : PySem.W.Frag) : Sp := fun vs H Q _ => ∃ (p q l : Addr) (ns : List Int) (i v sd : Int) (xs : List V), vs = [.ref p, .ref l] ∧ RngAt H p q ns i v sd ∧ H l = some (.lst xs) ∧ l ≠ p ∧ xs ≠ [] ∧ xs.length ≤ 1000 ∧
  ∀ (x : V) (i' v' sd' : Int), x ∈ xs → RngOk i' v' sd' → Q x (upd H p (.lst (rngL q i' v' sd')))
structure TxtP (K : PySem.W.Frag) (mg : Str → Option Value) (fD : Addr) : Prop where
  len : mg "len" = none
  gD : mg "_law_draw" = some (.ref fD)
  kD : PySem.W.keepIn K (.ref fD) = true
theorem scPick : FnScope ["_law_rng", "_law_items"] ["_law_rng", "_law_items"] (defScope sPick) := ⟨rfl, rfl, rfl, by decide +kernel, rfl, by decide +kernel, by decide +kernel⟩
theorem ok_pick {f fD : Addr} {fd fdD : FuncData} (F : Fun K "_law_pick" "_law_pick" sPick f fd) (T : TxtP K mg fD) (FD : FnOk P w K mg base CX0 1 fD fdD ["_law_rng", "_law_many"] spDraw) (bD : Binds K fdD ["_law_rng", "_law_many"] []) :
    FnOk P w K mg base CX0 2 f fd ["_law_rng", "_law_items"] (spPick K) := by
  refine F.ok scPick (fun vs H Q E h => ?_) (fun cdv A outer s H vs Q E hr h => ?_)
  · obtain ⟨p, q, l, ns, i, v, sd, xs, rfl, _⟩ := h
    rfl
  · obtain ⟨p, q, l, ns, i, v, sd, xs, rfl, R, hl, nlp, hne, hlen, k⟩ := h
    refine ⟨_, pss_one (ps_ret (pe_ix ix_list (pv 1) (pe_call FD hr rfl T.gD T.kD bD .nil pass0 (pa_cons (pv 0) (pa_cons (pe_callB call_len_seq (by rfl) T.len PySem.boot_len (pa_cons (pv 1) pa_nil)) pa_nil))) (fun _ _ => rfl))), ?_⟩
    have hpos : 0 < xs.length := List.length_pos_iff.mpr hne
    have hbig : 1000 < 2 ^ 8000 := Nat.lt_of_lt_of_le (by decide : 1000 < 2 ^ 10) (Nat.pow_le_pow_right (by decide) (by decide))
    refine ⟨_, rfl, _, rfl, _, rfl, l, xs, rfl, .inl (SqL.of hl), p, q, ns, i, v, sd, (xs.length : Int), rfl, R, by omega, by omega, fun r i' v' sd' r0 r1 ok => ?_⟩
    obtain ⟨m, rfl⟩ := Int.eq_ofNat_of_zero_le r0
    have hm : m < xs.length := by omega
    exact ⟨l, xs, _, xs[m], rfl, rfl, SqL.of (by rw [upd_ne nlp]; exact hl), atI_nat (List.getElem?_eq_getElem hm), k _ i' v' sd' (List.getElem_mem hm) ok⟩
end
end K01
namespace Ew
open PySem PySem.Spec PyProof.Rows L2
/-! ## two values that hold the same data, at most n deep -/
def flatS : V → Bool
  | .non => true | .bl _ => true | .int _ => true | .str _ => true | _ => false
def SameN (K : PySem.W.Frag) (H : Hp) : Nat → V → V → Prop
  | 0, _, _ => False
  | n + 1, x, y => (x = y ∧ flatS x = true) ∨ ∃ (a b : Addr) (xs ys : List V), x = .ref a ∧ y = .ref b ∧ ((SqL K H a xs ∧ SqL K H b ys) ∨ (SqT K H a xs ∧ SqT K H b ys)) ∧ xs.length = ys.length ∧ xs.length ≤ 1000 ∧
      ∀ (i : Nat) (u v : V), xs[i]? = some u → ys[i]? = some v → SameN K H n u v
theorem seqT {K : PySem.W.Frag} {H G : Hp} {a : Addr} {xs : List V} (e : Same H G) (h : SqT K H a xs) : SqT K G a xs := by
  rcases h with (h | ⟨o, h⟩) | h
  · exact .inl (.inl (e _ _ h))
  · exact .inl (.inr ⟨o, e _ _ h⟩)
  · exact .inr h
theorem SameN.same {K : PySem.W.Frag} {H G : Hp} (e : Same H G) : ∀ {n : Nat} {x y : V}, SameN K H n x y → SameN K G n x y
  | 0, _, _, h => h
  | n + 1, x, y, h => by
    rcases h with h | ⟨a, b, xs, ys, h1, h2, h3, h4, h5, h6⟩
    · exact .inl h
    · refine .inr ⟨a, b, xs, ys, h1, h2, ?_, h4, h5, fun i u v p q => (h6 i u v p q).same e⟩
      rcases h3 with ⟨p, q⟩ | ⟨p, q⟩
      · exact .inl ⟨e.seq p, e.seq q⟩
      · exact .inr ⟨seqT e p, seqT e q⟩
theorem ty_list {K : PySem.W.Frag} {H : Hp} {a : Addr} {xs : List V} (h : SqL K H a xs) : TyX K H (.ref a) (.type "list") := by
  rcases h with (h | ⟨o, h⟩) | ⟨o, its, n, h, c, _⟩
  · exact .base (.lst h)
  · exact .base (.frz h)
  · exact .kList h c
theorem ty_tup {K : PySem.W.Frag} {H : Hp} {a : Addr} {xs : List V} (h : SqT K H a xs) : TyX K H (.ref a) (.type "tuple") := by
  rcases h with (h | ⟨o, h⟩) | ⟨o, its, n, h, c, _⟩
  · exact .base (.tup h)
  · exact .fTuple h
  · exact .kTuple h c
theorem walk_zipT {K : PySem.W.Frag} {a b : Addr} {xs ys : List V} (hn : xs.length = ys.length) : Walk (RZ.ItzT K a b) xs.length (fun H => SqT K H a xs ∧ SqT K H b ys) (YPair (fun i => xs[i]?) (fun i => ys[i]?)) :=
  ⟨fun i H hi q => ⟨xs, ys, xs[i], ys[i]'(by omega), q.1, q.2, by simp [hi], by simp [show i < ys.length by omega]⟩, fun H q => ⟨xs, ys, q.1, q.2, .inl (Nat.le_refl _)⟩,
    fun i H x G hi q ⟨T, u, v, e1, e2, e3, e4, e5⟩ => ⟨T, u, v, e1, e2, e3, e4 xs q.1, e5 ys q.2⟩⟩
theorem same_upd {H G : Hp} {p : Addr} {o : HO} (e : Same H G) (h : G p = none) : Same H (upd G p o) := fun b u q => by
  rw [upd_ne (ne_of_none (e b u q) h)]
  exact e b u q
theorem same_updN {H G : Hp} {p : Addr} {o : HO} (e : Same H G) (h : H p = none) : Same H (upd G p o) := fun b u q => by
  rw [upd_ne (ne_of_none q h)]
  exact e b u q
theorem kitLT {K : PySem.W.Frag} {t : String} {r : Bool} (h1 : kitB t "list" = some false) (h2 : kitB t "tuple" = some r) : PySem.W.kitAny K (.type t) [.type "list", .type "tuple"] = some r :=
  kitAny_cons (kit_ty h1) (fun _ => kitAny_cons (kit_ty h2) (fun e => by rw [e]; exact kitAny_nil) (fun e => e)) (fun e => Bool.noConfusion e)
theorem kitL {K : PySem.W.Frag} {t : String} (h1 : kitB t "list" = some true) : PySem.W.kitAny K (.type t) [.type "list", .type "tuple"] = some true :=
  kitAny_cons (kit_ty h1) (fun e => Bool.noConfusion e) (fun _ => rfl)
theorem all_true (n : Nat) : (List.replicate n true).all id = true := by simp
theorem map_rep (n : Nat) : (List.replicate n true).map V.bl = List.replicate n (V.bl true) := by simp
theorem ne_bl (b : Bool) : (!decide (V.bl b = V.bl b)) = false := by simp
theorem paired2 : Paired ClsV [V.ty "list", V.ty "tuple"] [Value.type "list", Value.type "tuple"] := .cons (.ty _) (.cons (.ty _) .nil)
end Ew
namespace K01
open PySem PySem.Spec PyProof.Rows L2 Ew
abbrev sSame : Stmt := top 13
section
variable {P : Program} {w : World} {K : PySem.W.Frag} {mg : Str → Option Value} {base : Heap}
structure TxtS (K : PySem.W.Frag) (mg : Str → Option Value) (f : Addr) : Prop where
  isi : mg "isinstance" = none
  list : mg "list" = none
  tuple : mg "tuple" = none
  len : mg "len" = none
  all : mg "all" = none
  zip : mg "zip" = none
  bool : mg "bool" = none
  int : mg "int" = none
  str : mg "str" = none
  gS : mg "_law_same" = some (.ref f)
  kS : PySem.W.keepIn K (.ref f) = true
def spSame (K : PySem.W.Frag) (n : Nat) : Sp := fun vs H Q _ => ∃ x y : V, vs = [x, y] ∧ SameN K H n x y ∧ ∀ G, Same H G → Q (.bl true) G
theorem scSame : FnScope ["_law_found", "_law_due", "_law_one", "_law_other"] ["_law_found", "_law_due"] (defScope sSame) := ⟨rfl, rfl, rfl, by decide +kernel, rfl, by decide +kernel, by decide +kernel⟩
theorem ok_same {f : Addr} {fd : FuncData} (F : Fun K "_law_same" "_law_same" sSame f fd) (b : Binds K fd ["_law_found", "_law_due"] []) (T : TxtS K mg f) : ∀ n, FnOk P w K mg base CX0 n f fd ["_law_found", "_law_due"] (spSame K n)
  | 0 => ⟨fun _ _ _ _ h => by obtain ⟨_, _, _, h, _⟩ := h; exact h.elim, fun _ _ _ _ _ _ _ _ _ _ _ _ _ h => by obtain ⟨_, _, _, h, _⟩ := h; exact h.elim⟩
  | n + 1 => by
    have IH := ok_same F b T n
    refine F.ok scSame (fun vs H Q E h => ?_) (fun cdv A outer s H vs Q E hr h => ?_)
    · obtain ⟨x, y, rfl, _⟩ := h
      rfl
    · obtain ⟨x, y, rfl, hxy, k⟩ := h
      refine ⟨_, pss_cons (ps_if (PW.pt (pw_or (pt_cmpR op_isN (pv 1) pe_non (nomark _)) (pw_or1 (pt_cmpR op_isN (pv 0) pe_non (nomark _)))))
          (pss_one (ps_ret (pe_and (pe_cmpR op_isN (pv 0) pe_non (nomark _)) (pe_one (pe_cmpR op_isN (pv 1) pe_non (nomark _)))))) pss_nil)
        (pss_cons (ps_if (pt_val (pe_callB call_isiT (by rfl) T.isi (by decide +kernel) (pa_cons (pv 1) (pa_cons (pe_tup (pa_cons (pe_bltn (v := .ty "list") (by rfl) T.list (by decide +kernel) rfl) (pa_cons (pe_bltn (v := .ty "tuple") (by rfl) T.tuple (by decide +kernel) rfl) pa_nil))) pa_nil))))
          (pss_cons (ps_if (PW.pt (pw_or (pt_cmpR op_ne (pe_callB call_isi (by rfl) T.isi (by decide +kernel) (pa_cons (pv 0) (pa_cons (pe_bltn (v := .ty "list") (by rfl) T.list (by decide +kernel) rfl) pa_nil))) (pe_callB call_isi (by rfl) T.isi (by decide +kernel) (pa_cons (pv 1) (pa_cons (pe_bltn (v := .ty "list") (by rfl) T.list (by decide +kernel) rfl) pa_nil))) (nomark _))
              (pw_or1 (pt_cmpR op_ne (pe_callB call_isi (by rfl) T.isi (by decide +kernel) (pa_cons (pv 0) (pa_cons (pe_bltn (v := .ty "tuple") (by rfl) T.tuple (by decide +kernel) rfl) pa_nil))) (pe_callB call_isi (by rfl) T.isi (by decide +kernel) (pa_cons (pv 1) (pa_cons (pe_bltn (v := .ty "tuple") (by rfl) T.tuple (by decide +kernel) rfl) pa_nil))) (nomark _)))))
            (pss_one (ps_ret pe_bl)) pss_nil)
          (pss_one (ps_ret (pe_and (pe_cmpR op_eq (pe_callB call_len_seq (by rfl) T.len PySem.boot_len (pa_cons (pv 0) pa_nil)) (pe_callB call_len_seq (by rfl) T.len PySem.boot_len (pa_cons (pv 1) pa_nil)) (nomark _))
            (pe_one (pe_callB (cr_all rfl) (by rfl) T.all (by decide +kernel) (pa_cons
              (pe_lc (own := [("_law_one", 2), ("_law_other", 3)]) (g := gTup K 2 (gCons (gName 2) (gCons (gName 3) gNil))) (tt := tYes) (te := tCall (spSame K n) [] E0 (tCons (tVar 2) (tCons (tVar 3) tNil))) rfl scSame.nd (RZ.pi_zipA (by rfl) T.zip (pa_cons (pv 0) (pa_cons (pv 1) pa_nil)))
                (blkOk_by (N := ["_law_found", "_law_due", "_law_one", "_law_other"]) (sc := defScope sSame) (by decide +kernel))
                (fun _ _ _ _ _ => by exact pg_tup rfl (by exact pgs_cons (pg_name (i := 2) scSame.nd rfl (Or.inl rfl)) (by exact pgs_cons (pg_name (i := 3) scSame.nd rfl (Or.inl rfl)) pgs_nil)))
                (fun _ _ _ _ _ => pts_nil)
                (fun _ _ _ _ _ => by exact pe_call IH hr rfl T.gS T.kS b .nil pass0 (pa_cons (pv 2) (pa_cons (pv 3) pa_nil)))) pa_nil))))))) pss_nil)
        (pss_cons (ps_if (PW.pt (pw_or (pt_cmpR op_ne (pe_callB call_isi (by rfl) T.isi (by decide +kernel) (pa_cons (pv 0) (pa_cons (pe_bltn (v := .ty "bool") (by rfl) T.bool (by decide +kernel) rfl) pa_nil))) (pe_callB call_isi (by rfl) T.isi (by decide +kernel) (pa_cons (pv 1) (pa_cons (pe_bltn (v := .ty "bool") (by rfl) T.bool (by decide +kernel) rfl) pa_nil))) (nomark _))
              (pw_or1 (pt_cmpR op_ne (pe_callB call_isi (by rfl) T.isi (by decide +kernel) (pa_cons (pv 0) (pa_cons (pe_bltn (v := .ty "int") (by rfl) T.int (by decide +kernel) rfl) pa_nil))) (pe_callB call_isi (by rfl) T.isi (by decide +kernel) (pa_cons (pv 1) (pa_cons (pe_bltn (v := .ty "int") (by rfl) T.int (by decide +kernel) rfl) pa_nil))) (nomark _)))))
            (pss_one (ps_ret pe_bl)) pss_nil)
        (pss_one (ps_ret (pe_and (pe_cmpR op_eq (pe_callB call_isi (by rfl) T.isi (by decide +kernel) (pa_cons (pv 0) (pa_cons (pe_bltn (v := .ty "str") (by rfl) T.str (by decide +kernel) rfl) pa_nil))) (pe_callB call_isi (by rfl) T.isi (by decide +kernel) (pa_cons (pv 1) (pa_cons (pe_bltn (v := .ty "str") (by rfl) T.str (by decide +kernel) rfl) pa_nil))) (nomark _))
          (pe_one (pe_cmpR op_eq (pv 0) (pv 1) (nomark _)))))))), ?_⟩
      rcases hxy with ⟨rfl, hfl⟩ | ⟨a, c, xs, ys, rfl, rfl, hsq, hlen, hmax, hall⟩
      · by_cases hn : x = .non
        · subst hn
          refine ⟨_, rfl, rfl, _, rfl, iteT (iteT ?_)⟩
          exact ⟨_, rfl, rfl, _, rfl, iteT ⟨_, rfl, rfl, k H (Same.refl H)⟩⟩
        · obtain ⟨t, b1, b2, b3, ty, l1, l2, l3, l4, l5, sc⟩ : ∃ (t : String) (b1 b2 b3 : Bool), (∀ G, TyX K G x (.type t)) ∧ kitB t "list" = some false ∧ kitB t "tuple" = some false ∧ kitB t "bool" = some b1 ∧ kitB t "int" = some b2 ∧ kitB t "str" = some b3 ∧ scal x x = true := by
            cases x with
            | non => exact absurd rfl hn
            | bl z => exact ⟨"bool", true, true, false, fun _ => .base (.bl z), by decide +kernel, by decide +kernel, by decide +kernel, by decide +kernel, by decide +kernel, rfl⟩
            | int z => exact ⟨"int", false, true, false, fun _ => .base (.int z), by decide +kernel, by decide +kernel, by decide +kernel, by decide +kernel, by decide +kernel, rfl⟩
            | str z => exact ⟨"str", false, false, true, fun _ => .base (.str z), by decide +kernel, by decide +kernel, by decide +kernel, by decide +kernel, by decide +kernel, rfl⟩
            | byt z => cases hfl
            | flt z => cases hfl
            | ref z => cases hfl
            | ty z => cases hfl
          refine ⟨_, rfl, rfl, _, rfl, ifF (decide_eq_false hn) ⟨_, rfl, rfl, _, rfl, ifF (decide_eq_false hn) ?_⟩⟩
          refine ⟨_, rfl, (by show 2 ≤ sizeLine; decide), fun p hp => ⟨x, p, _, _, _, false, rfl, upd_same, paired2, ty _, kitLT l1 l2, _, rfl, iteF ?_⟩⟩
          refine ⟨_, rfl, x, _, _, _, b1, rfl, .ty _, ty _, kit_ty l3, _, rfl, x, _, _, _, b1, rfl, .ty _, ty _, kit_ty l3, rfl, _, rfl, ifF (ne_bl b1) ?_⟩
          refine ⟨_, rfl, x, _, _, _, b2, rfl, .ty _, ty _, kit_ty l4, _, rfl, x, _, _, _, b2, rfl, .ty _, ty _, kit_ty l4, rfl, _, rfl, ifF (ne_bl b2) ?_⟩
          refine ⟨_, rfl, x, _, _, _, b3, rfl, .ty _, ty _, kit_ty l5, _, rfl, x, _, _, _, b3, rfl, .ty _, ty _, kit_ty l5, rfl, _, rfl, ifT (decide_eq_true rfl) ?_⟩
          refine ⟨_, rfl, _, rfl, sc, ?_⟩
          have e : decide (x = x) = true := decide_eq_true rfl
          show Q (V.bl (decide (x = x))) _
          rw [e]
          exact k _ (same_upd (Same.refl H) hp)
      · have na : V.ref a ≠ V.non := fun z => nomatch z
        have nc : V.ref c ≠ V.non := fun z => nomatch z
        obtain ⟨t, bL, bT, tyA, tyC, hk, l1, l2⟩ : ∃ (t : String) (bL bT : Bool), (∀ G, Same H G → TyX K G (.ref a) (.type t)) ∧ (∀ G, Same H G → TyX K G (.ref c) (.type t)) ∧ PySem.W.kitAny K (.type t) [.type "list", .type "tuple"] = some true ∧ kitB t "list" = some bL ∧ kitB t "tuple" = some bT := by
          rcases hsq with ⟨p, q⟩ | ⟨p, q⟩
          · exact ⟨"list", true, false, fun G e => ty_list (e.seq p), fun G e => ty_list (e.seq q), kitL (by decide +kernel), by decide +kernel, by decide +kernel⟩
          · exact ⟨"tuple", false, true, fun G e => ty_tup (seqT e p), fun G e => ty_tup (seqT e q), kitLT (by decide +kernel) (by decide +kernel), by decide +kernel, by decide +kernel⟩
        have lenA : ∀ G, Same H G → SqL K G a xs ∨ SqT K G a xs := fun G e => hsq.imp (fun q => e.seq q.1) (fun q => seqT e q.1)
        have lenC : ∀ G, Same H G → SqL K G c ys ∨ SqT K G c ys := fun G e => hsq.imp (fun q => e.seq q.2) (fun q => seqT e q.2)
        refine ⟨_, rfl, rfl, _, rfl, ifF (decide_eq_false nc) ⟨_, rfl, rfl, _, rfl, ifF (decide_eq_false na) ?_⟩⟩
        refine ⟨_, rfl, (by show 2 ≤ sizeLine; decide), fun p hp => ?_⟩
        have s1 : Same H (upd H p (.tup [V.ty "list", V.ty "tuple"])) := same_upd (Same.refl H) hp
        refine ⟨_, p, _, _, _, true, rfl, upd_same, paired2, tyC _ s1, hk, _, rfl, iteT ?_⟩
        refine ⟨_, rfl, _, _, _, _, bL, rfl, .ty _, tyA _ s1, kit_ty l1, _, rfl, _, _, _, _, bL, rfl, .ty _, tyC _ s1, kit_ty l1, rfl, _, rfl, ifF (ne_bl bL) ?_⟩
        refine ⟨_, rfl, _, _, _, _, bT, rfl, .ty _, tyA _ s1, kit_ty l2, _, rfl, _, _, _, _, bT, rfl, .ty _, tyC _ s1, kit_ty l2, rfl, _, rfl, ifF (ne_bl bT) ?_⟩
        refine ⟨_, rfl, a, xs, rfl, lenA _ s1, _, rfl, c, ys, rfl, lenC _ s1, rfl, _, rfl, ifT (decide_eq_true (by rw [hlen])) ?_⟩
        have turn : ∀ (D : Addr) (i : Nat) (v : V) (G G' : Hp) (τ : L2.St), (upd H p (.tup [V.ty "list", V.ty "tuple"])) D = none → (Same (upd H p (.tup [V.ty "list", V.ty "tuple"])) G ∧ G D = some (.lst (List.replicate i (V.bl true)))) → i < xs.length →
            YPair (fun i => xs[i]?) (fun i => ys[i]?) i G v G' → τ = [some (V.ref a), some (V.ref c), none, none] →
            gTup K 2 (gCons (gName 2) (gCons (gName 3) gNil)) v τ G' fun σ2 H2 => wipe σ2 [2, 3] = wipe τ [2, 3] ∧ tYes σ2 H2 fun b H3 =>
              if b = true then tCall (spSame K n) [] E0 (tCons (tVar 2) (tCons (tVar 3) tNil)) σ2 H3 fun y H4 => ∃ acc, H4 D = some (.lst acc) ∧ acc.length < sizeLine ∧ (Same (upd H p (.tup [V.ty "list", V.ty "tuple"])) (upd H4 D (.lst (acc ++ [y]))) ∧ (upd H4 D (.lst (acc ++ [y]))) D = some (.lst (List.replicate (i + 1) (V.bl true))))
              else (Same (upd H p (.tup [V.ty "list", V.ty "tuple"])) H3 ∧ H3 D = some (.lst (List.replicate (i + 1) (V.bl true)))) := by
          rintro D i v G G' τ hD ⟨e1, e2⟩ hi ⟨U, u, z, rfl, hU, rfl, hu, hz⟩ rfl
          refine ⟨U, [u, z], rfl, SqT.of upd_same, rfl, _, _, rfl, _, _, rfl, rfl, rfl, ?_⟩
          refine iteT (B := Same (upd H p (.tup [V.ty "list", V.ty "tuple"])) (upd G U (.tup [u, z])) ∧ upd G U (.tup [u, z]) D = some (.lst (List.replicate (i + 1) (V.bl true)))) ⟨_, rfl, _, rfl, u, z, rfl, ?_, fun G2 e3 => ?_⟩
          · exact (hall i u z hu hz).same (s1.trans (same_upd e1 hU))
          · have e4 : G2 D = some (.lst (List.replicate i (V.bl true))) := e3 _ _ (by rw [upd_ne (ne_of_none e2 hU)]; exact e2)
            refine ⟨_, e4, by rw [List.length_replicate, sizeLine_eq]; omega, same_updN ((same_upd e1 hU).trans e3) hD, ?_⟩
            rw [upd_same, List.replicate_succ']
        have last : ∀ (D : Addr) (G : Hp), (Same (upd H p (.tup [V.ty "list", V.ty "tuple"])) G ∧ G D = some (.lst (List.replicate xs.length (V.bl true)))) → rAll K [V.ref D] G Q := fun D G ⟨e1, e2⟩ => by
          refine ⟨D, List.replicate xs.length true, rfl, SqL.of (by rw [map_rep]; exact e2), ?_⟩
          rw [all_true]
          exact k G (s1.trans e1)
        rcases hsq with ⟨hA, hC⟩ | ⟨hA, hC⟩
        · refine ⟨_, rfl, _, rfl, a, c, xs, ys, rfl, .inl ⟨s1.seq hA, s1.seq hC, fun D hD => ?_⟩⟩
          exact lc_it (walk_zip (n := xs.length) (by omega)) (fun i G => Same (upd H p (.tup [V.ty "list", V.ty "tuple"])) G ∧ G D = some (.lst (List.replicate i (V.bl true)))) ⟨same_upd (Same.refl _) hD, upd_same⟩
            (fun i G _ q => ⟨q.1.seq (s1.seq hA), q.1.seq (s1.seq hC)⟩) (fun i v G G' hi q y => turn D i v G G' _ hD q hi y rfl) (fun G q => last D G q)
        · refine ⟨_, rfl, _, rfl, a, c, xs, ys, rfl, .inr ⟨seqT s1 hA, seqT s1 hC, fun D hD => ?_⟩⟩
          exact lc_it (walk_zipT hlen) (fun i G => Same (upd H p (.tup [V.ty "list", V.ty "tuple"])) G ∧ G D = some (.lst (List.replicate i (V.bl true)))) ⟨same_upd (Same.refl _) hD, upd_same⟩
            (fun i G _ q => ⟨seqT q.1 (seqT s1 hA), seqT q.1 (seqT s1 hC)⟩) (fun i v G G' hi q y => turn D i v G G' _ hD q hi y rfl) (fun G q => last D G q)
end
end K01
namespace Ew
open PySem PySem.Spec PyProof.Rows L2
/-! ## an error's field; what its class says stands in the reading -/
@[irreducible] def tXq (K : PySem.W.Frag) (a : Addr) (cls : Value) (d : Option Addr) (f : Str) (te : TE) : TE := fun σ H Q => te σ H fun x G => x = .ref a ∧ ∃ C, cls = .ref C ∧ XfC K C ∧ PySem.W.findIn K (.ref C) f = some none ∧ ∃ (dd : Addr) (fs : List (Str × V)) (v : V), d = some dd ∧ G dd = some (.xd fs) ∧ fs.lookup f = some v ∧ Q v G
theorem pe_xq {X : Cx} {a : Addr} {oe : Obj} {cls : Value} {d : Option Addr} {e : Expr} {te : TE} {pos : Pos} {n : Str} (hz : Zc cls d oe) (hf : ∃ vs, oe.data = .fields vs) (hpn : (a, oe) ∈ X.pn) (he : PE X e te) (hb : attributeBase e n X.env (eval e X.env) = eval e X.env := by rfl) :
    PE X (.Attribute e n pos) (tXq X.K a cls d n te) := by
  refine ⟨fun pins s σ H Q I h => ?_⟩
  unfold tXq at h
  refine attr_of hb (thn (he.run pins s σ H _ I h) fun u z1 ⟨x, G, I1, rx, ex, C, ec, T, hno, dd, fs, v, ed, ea, l, q⟩ => ?_)
  subst ex ec ed
  obtain rfl : u = Value.ref a := rx
  have ha := (I1.pin (a, oe) (List.mem_append_left _ hpn)).1
  obtain ⟨vs, hd⟩ := hf
  obtain ⟨mA, hns, hr⟩ := (show ObjOk X.prog X.w G z1.heap dd (.xd fs) from I1.hok dd _ ea)
  obtain ⟨od, ho, hl⟩ := lookIn_ns hns
  obtain ⟨u, hu, ru⟩ := RelO.some_of (v := v) (o := mA n) (by rw [← l]; exact hr n)
  have J : PySem.W.InstAt z1.heap a oe C (some od) := ⟨ha, hz.1, by unfold PySem.W.notCls; rw [hd] <;> rfl, by rw [hz.2]; exact ho⟩
  exact HandSPX.exc_get I1.kIn J T.ga T.gg T.exC (PySem.W.findObj_own T.hdC hno rfl (by rw [hl, hu])) (handed_of ru) ⟨v, G, I1.tok _, ru, q⟩
/-! ## a def of one parameter, called within an except suite with what is pinned there -/
theorem pe_callP {X : Cx} {k : Nat} {f : Addr} {nm name qual x0 : Str} {params : Arguments} {body : List Stmt} {scope : Scope} {dV kV doc pm cdv ct oc : Value} {an od : Option Addr} {osl : Array (Option Value)} {N : List Str} {sp : V → Hp → VK → Prop} {q pos : Pos} {e : Expr} {te : TE}
    (lk : X.K.lookup f = some ⟨oc, od, .func (PySem.W.fnOf name qual params body scope dV kV doc pm an cdv ct), osl⟩) (hcd : PySem.W.codeIn X.K cdv qual = true) (S : FnScope N [x0] scope) (p : Addr × Obj) (hp : p ∈ X.pn) (hr : L2H.RoomH (k + 1) X.A)
    (hg : Gl X nm) (hm : X.mg nm = some (.ref f)) (hk : PySem.W.keepIn X.K (.ref f) = true) (hb : Binds X.K (PySem.W.fnOf name qual params body scope dV kV doc pm an cdv ct) [x0] [])
    (hbody : ∀ (A : Around) (outer : List Env) (s : Shared) (H : Hp) (v : V) (Q : VK), L2H.RoomH k (A.deeper (envOfC qual scope s.heap.objs.size f cdv)) → sp v H Q → ∃ t, PSs (L2H.cxH CX0 X.prog X.w X.K X.mg X.base N qual scope f cdv A outer s H E0 p) body t ∧ t { nx := fun _ G => Q .non G, rt := Q } (L2.start N [v]) H)
    (he : PE X e te) (hdb : (nm == ("__debug__" : Str)) = false := by decide) (h1 : starEach [e] X.env = (false, eval e X.env) :: starEach [] X.env := by rfl) (h2 : (backTo pos (starEach [] X.env)).any (·.1) = false := by rfl) :
    PE X (.Call (.Name nm q) [e] [] pos) (fun σ H Q => tCons te tNil σ H fun vs G => ∃ v, vs = [v] ∧ sp v G Q) := by
  refine ⟨fun pins s σ H Q I h => ?_⟩
  refine wpAny_Call_Name_kw (ld_glob I hg hm ?_ hdb)
  refine PySem.W.callWith_K (h₀ := X.base) I.ok.mod.kin hk (thn ((pa_cons he pa_nil h1).run pos pins s σ H _ I h) fun us z ⟨vs, G, I1, r, v, ev, hsp⟩ => ⟨I1.kIn, ?_⟩) h1 h2
  subst ev
  obtain ⟨u, rfl, ru⟩ : ∃ u, us = [u] ∧ RelV v u := by
    cases r with
    | cons r1 r2 =>
      cases r2
      exact ⟨_, rfl, r1⟩
  have P1 := I1.pin p (List.mem_append_left _ hp)
  have hpin : L2H.PinOk X.stack G z p := ⟨P1.1, P1.2.1, fun hin => (List.mem_cons.mp (I1.stkSub p.1 hin)).elim P1.2.2.1 P1.2.2.2.1, P1.2.2.2.2⟩
  have run : codeAny (model X.prog X.w) X.A (.call (.ref f) ⟨[u], []⟩) (CR CX0 X.stack X.prog X.w G z Q E0) z := by
    have KX := I1.kIn
    have kinds : ∀ y ∈ [x0].zip [u], scope.names.lookup y.1 = some .local ∨ (scope.names.lookup y.1 = some .cell ∧ ((cellsFrom (z.heap.objs.size + 1) scope.names []).lookup y.1).isSome = true) := fun ⟨n, _⟩ hy => by
      rcases S.par n (List.of_mem_zip hy).1 with w1 | w1
      · exact .inl w1
      · exact .inr ⟨w1, PySem.W.cellsFrom_some _ _ _ (.inl w1)⟩
    have hbs := hb z [u] KX rfl
    refine codeAny_call_function hr.depth (KX _ _ lk) rfl S.co S.gen rfl (PySem.W.codeRec_of KX hcd) (hbs _ _ _ _ ?_)
    refine wpAny_newFunctionEnv_cells S.kind kinds fun env henv z2 x => ?_
    subst henv
    refine ⟨I1.nolimit.keeps x.toInCall.keep, codeAny_func ?_⟩
    obtain ⟨t, ht, hq⟩ := hbody X.A X.stack z G v Q (hr.deeper _) hsp
    have J := L2H.inv_startH (CX := CX0) (E := E0) S hpin I1.env0 (vs := [v]) rfl (.cons ru .nil) x
    refine wpAny_mono (ht.run [] z2 _ G _ J hq) (fun fl z3 hs => ?_) fun e z3 hs => hs
    cases fl with
    | ret u3 =>
      obtain ⟨v3, _, G3, J3, rv, q3⟩ := hs
      exact ⟨v3, G3, J3.os, J3.bare, J3.base, J3.hok, rv, q3⟩
    | next =>
      obtain ⟨_, G3, J3, q3⟩ := hs
      exact ⟨V.non, G3, J3.os, J3.bare, J3.base, J3.hok, rfl, q3⟩
    | brk =>
      obtain ⟨_, _, _, q3⟩ := hs
      exact q3.elim
    | cont =>
      obtain ⟨_, _, _, q3⟩ := hs
      exact q3.elim
  refine wpAny_call (codeAny_mono run fun res z4 hq => ?_)
  cases res with
  | error er => exact (show False from hq).elim
  | ok fl =>
    cases fl with
    | ret u4 => exact I1.after hq
    | next => exact hq.elim
    | brk => exact hq.elim
    | cont => exact hq.elim
/-! ## which field an error has -/
def tags5 : List V := [.str "CircularName", .str "InvalidName", .str "DuplicateName", .str "WrongKind", .str "UndefinedName"]
def tags2 : List V := [.str "InvalidText", .str "InvalidCommand"]
structure NoneTag (t : Str) : Prop where
  h5 : inV (.str t) tags5 = false
  h2 : inV (.str t) tags2 = false
  h3 : t ≠ "InvalidMachine"
  h4 : t ≠ "LimitReached"
  h6 : t ≠ "NameInUse"
  h7 : t ≠ "InvalidDocument"
def ErrAt (K : PySem.W.Frag) (G : Hp) (cls : Value) (d : Option Addr) (t : Str) : Prop := ∃ (C dd : Addr) (fs : List (Str × V)), cls = .ref C ∧ XfC K C ∧ PySem.W.findIn K (.ref C) "tag" = some none ∧ d = some dd ∧ G dd = some (.xd fs) ∧ fs.lookup ("tag" : Str) = some (V.str t)
theorem ErrAt.same {K : PySem.W.Frag} {G G' : Hp} {cls : Value} {d : Option Addr} {t : Str} (e : Same G G') (h : ErrAt K G cls d t) : ErrAt K G' cls d t := by
  obtain ⟨C, dd, fs, h1, h2, h3, h4, h5, h6⟩ := h
  exact ⟨C, dd, fs, h1, h2, h3, h4, e _ _ h5, h6⟩
theorem tag_read {K : PySem.W.Frag} {G : Hp} {cls : Value} {d : Option Addr} {t : Str} {a : Addr} {i : Nat} {σ : L2.St} {Q : VK} (h : ErrAt K G cls d t) (hs : σ[i]? = some (some (.ref a))) (q : Q (.str t) G) : tXq K a cls d "tag" (tVar i) σ G Q := by
  obtain ⟨C, dd, fs, h1, h2, h3, h4, h5, h6⟩ := h
  unfold tXq
  exact ⟨_, hs, rfl, C, h1, h2, h3, dd, fs, _, h4, h5, h6, q⟩
theorem ne_str {x y : Str} (h : x ≠ y) : decide (V.str x = V.str y) = false := by simp [h]
def spField (K : PySem.W.Frag) (a : Addr) (cls : Value) (d : Option Addr) : V → Hp → VK → Prop := fun v H Q => v = .ref a ∧ ∃ t, ErrAt K H cls d t ∧ NoneTag t ∧ ∀ G, Same H G → Q .non G
end Ew
namespace K01
open PySem PySem.Spec PyProof.Rows L2 Ew
abbrev sField : Stmt := top 14
abbrev sOutcome : Stmt := top 15
theorem scField : FnScope ["_law_e"] ["_law_e"] (defScope sField) := ⟨rfl, rfl, rfl, by decide +kernel, rfl, by decide +kernel, by decide +kernel⟩
theorem body_field {P : Program} {w : World} {K : PySem.W.Frag} {mg : Str → Option Value} {base : Heap} {f a : Addr} {cdv : Value} {oe : Obj} {cls : Value} {d : Option Addr} (hz : Zc cls d oe) (hf : ∃ vs, oe.data = .fields vs)
    (A : Around) (outer : List Env) (s : Shared) (H : Hp) (v : V) (Q : VK) (hr : L2H.RoomH 0 (A.deeper (envOfC "_law_field" (defScope sField) s.heap.objs.size f cdv))) (h : spField K a cls d v H Q) :
    ∃ t, PSs (L2H.cxH CX0 P w K mg base ["_law_e"] "_law_field" (defScope sField) f cdv A outer s H E0 (a, oe)) (defBody sField) t ∧ t { nx := fun _ G => Q .non G, rt := Q } (L2.start ["_law_e"] [v]) H := by
  obtain ⟨rfl, t, hE, hT, k⟩ := h
  have xe : ∀ {n : Str} {p1 p2 : Pos}, PE (L2H.cxH CX0 P w K mg base ["_law_e"] "_law_field" (defScope sField) f cdv A outer s H E0 (a, oe)) (.Attribute (.Name "_law_e" p1) n p2) (tXq K a cls d n (tVar 0)) := fun {n p1 p2} => by
    exact pe_xq hz hf List.mem_cons_self (pv 0)
  refine ⟨_, pss_cons (ps_if (pt_cmpR op_in_seq xe (pe_tup (pa_cons pe_str (pa_cons pe_str (pa_cons pe_str (pa_cons pe_str (pa_cons pe_str pa_nil)))))) (by rfl)) (pss_one (ps_ret xe)) pss_nil)
    (pss_cons (ps_if (pt_cmpR op_in_seq xe (pe_tup (pa_cons pe_str (pa_cons pe_str pa_nil))) (by rfl)) (pss_one (ps_ret xe)) pss_nil)
    (pss_cons (ps_if (pt_cmpR op_eq xe pe_str (nomark _)) (pss_one (ps_ret xe)) pss_nil)
    (pss_cons (ps_if (pt_cmpR op_eq xe pe_str (nomark _)) (pss_one (ps_ret xe)) pss_nil)
    (pss_cons (ps_if (pt_cmpR op_eq xe pe_str (nomark _)) (pss_one (ps_ret xe)) pss_nil)
    (pss_one (ps_ret (pe_ifExp (pt_cmpR op_eq xe pe_str (nomark _)) xe pe_non))))))), ?_⟩
  refine tag_read hE rfl ⟨(by show 5 ≤ sizeLine; decide), fun p hp => ?_⟩
  have s1 : Same H (upd H p (.tup tags5)) := same_upd (Same.refl H) hp
  refine ⟨p, tags5, rfl, .inr (SqT.of upd_same), rfl, rfl, _, rfl, ifF hT.h5 ?_⟩
  refine tag_read (hE.same s1) rfl ⟨(by show 2 ≤ sizeLine; decide), fun q hq => ?_⟩
  have s2 : Same H (upd (upd H p (.tup tags5)) q (.tup tags2)) := same_upd s1 hq
  refine ⟨q, tags2, rfl, .inr (SqT.of upd_same), rfl, rfl, _, rfl, ifF hT.h2 ?_⟩
  show tXq K a cls d "tag" (tVar 0) _ _ _
  refine tag_read (hE.same s2) rfl ⟨rfl, _, rfl, ifF (ne_str hT.h3) ?_⟩
  show tXq K a cls d "tag" (tVar 0) _ _ _
  refine tag_read (hE.same s2) rfl ⟨rfl, _, rfl, ifF (ne_str hT.h4) ?_⟩
  show tXq K a cls d "tag" (tVar 0) _ _ _
  refine tag_read (hE.same s2) rfl ⟨rfl, _, rfl, ifF (ne_str hT.h6) ?_⟩
  show tXq K a cls d "tag" (tVar 0) _ _ _
  refine tag_read (hE.same s2) rfl ⟨rfl, _, rfl, ifF (ne_str hT.h7) ?_⟩
  exact k _ s2
end K01
namespace Ew
open PySem PySem.Spec PyProof.Rows L2
/-! ## _law_outcome(lambda: ..): what is wanted of the lambda -/
def OutWish (K : PySem.W.Frag) (c1 c2 c3 : Value) (Q : VK) : XK := fun cls d G => PySem.W.exmAny K cls [c1, c2, c3] = some true ∧ ∃ t, ErrAt K G cls d t ∧ NoneTag t ∧ ∀ G' p, Same G G' → G' p = none → Q (.ref p) (upd G' p (.tup [.str t, .non]))
def TTo (K : PySem.W.Frag) (c1 c2 c3 : Value) : (XK → Hp → VK → Prop) → Hp → VK → Prop := fun tl H Q => tl (OutWish K c1 c2 c3 Q) H (fun v G => (2 : Nat) ≤ sizeLine ∧ ∀ p, G p = none → Q (.ref p) (upd G p (.tup [.str "", v])))
theorem pss_ex {X : Cx} {ι : Type} {C : ι → Prop} {b : List Stmt} {t : ι → TS} (h : ∀ i, C i → PSs X b (t i)) : PSs X b (fun D σ H => ∃ i, C i ∧ t i D σ H) :=
  ⟨fun pins s σ H D I ⟨i, hi, w⟩ => (h i hi).run pins s σ H D I w⟩
end Ew
namespace K01
open PySem PySem.Spec PyProof.Rows L2 Ew
theorem scOutcome : FnScope ["_law_ask", "_law_e"] ["_law_ask"] (defScope sOutcome) := ⟨rfl, rfl, rfl, by decide +kernel, rfl, by decide +kernel, by decide +kernel⟩
structure TxtO (K : PySem.W.Frag) (mg : Str → Option Value) (C1 C2 C3 fF : Addr) (fdF : FuncData) : Prop where
  g1 : mg "EarlyError" = some (.ref C1)
  g2 : mg "UndefinedName" = some (.ref C2)
  g3 : mg "EmptyHistory" = some (.ref C3)
  gF : mg "_law_field" = some (.ref fF)
  FF : Fun K "_law_field" "_law_field" sField fF fdF
  bF : Binds K fdF ["_law_e"] []
theorem outcome_gives {X : Cx} {g C1 C2 C3 fF : Addr} {fdF : FuncData} {cdg : Value} {q : Str} {k : Nat} (T : TxtO X.K X.mg C1 C2 C3 fF fdF) (hr : Room (k + 2) X.A) :
    LamX.GivesTo X ["_law_ask", "_law_e"] "_law_outcome" (defScope sOutcome) g cdg (defBody sOutcome) "_law_ask" q (TTo X.K (.ref C1) (.ref C2) (.ref C3)) := by
  intro f c' s H Q tl act hc h
  obtain ⟨oc, od, kV, doc, pm, an, cdF, ct, osl, rfl, lk, hcd⟩ := T.FF.ex
  have hrH : ∀ (e : Env) (a : Addr), L2H.RoomH 1 ((X.A.deeper e).mark (some (.ref a))) := fun e a => by
    have r := (hr.mono (show 2 ≤ k + 2 by omega)).deeper e
    exact ⟨r.dp, r.un⟩
  refine ⟨_, pss_one (ps_try_as3 (X := (cxOf C8.CX0 X.prog X.w X.K X.mg X.base ["_law_ask", "_law_e"] "_law_outcome" (defScope sOutcome) g cdg X.A X.stack s H C8.E0).nox) (i := 1)
      (c1 := .ref C1) (c2 := .ref C2) (c3 := .ref C3)
      (tb := fun W D σ G => ∃ Ech : XK, (∀ cls d σ' G', Ech cls d G' → W cls d σ' G') ∧ σ[0]? = some (some (.ref f)) ∧ G c' = some (LamX.CodeO c' q) ∧ tl Ech G (fun v G2 => (2 : Nat) ≤ sizeLine ∧ ∀ p, G2 p = none → D.rt (.ref p) (upd G2 p (.tup [.str "", v]))))
      (ts := fun a cls d => tRet (tTup (tCons (tXq X.K a cls d "tag" (tVar 1)) (tCons (fun σ G Q' => tCons (tVar 1) tNil σ G fun vs G2 => ∃ v, vs = [v] ∧ spField X.K a cls d v G2 Q') tNil))))
      rfl rfl scOutcome.nd rfl rfl ⟨rfl, by decide, .inl T.g1⟩ ⟨rfl, by decide, .inl T.g2⟩ ⟨rfl, by decide, .inl T.g3⟩ (fun W pn xe tk => ?_) (fun a oe cls d pn hz hf => ?_)), ?_⟩
  · refine pss_ex fun Ech hW => ?_
    exact pss_one (ps_ret (pe_tup (pa_cons pe_str (pa_cons (act W pn xe Ech _ _ tk hW) pa_nil))))
  · exact pss_one (ps_ret (pe_tup (pa_cons (pe_xq hz hf List.mem_cons_self (pv 1)) (pa_cons (pe_callP lk hcd scField (a, oe) List.mem_cons_self (hrH _ a) rfl T.gF T.FF.kp T.bF (fun A outer s H v Q hr h => body_field hz hf A outer s H v Q hr h) (pv 1)) pa_nil))))
  · refine ⟨OutWish X.K (.ref C1) (.ref C2) (.ref C3) Q, fun cls d σ' G hw => ⟨hw.1, fun a ha hl => ?_⟩, rfl, hc, ?_⟩
    · obtain ⟨_, t, hE, hT, kk⟩ := hw
      have at1 : (σ'.set 1 (some (V.ref a)))[1]? = some (some (V.ref a)) := List.getElem?_set_self (by rw [hl]; exact (by decide : 1 < 2))
      show tXq X.K a cls d "tag" (tVar 1) _ _ _
      refine tag_read hE at1 ?_
      exact ⟨_, at1, _, rfl, rfl, t, hE, hT, fun G' e => ⟨(by show 2 ≤ sizeLine; decide), fun p hp => kk G' p e hp⟩⟩
    · exact h
end K01
namespace Ew
open PySem PySem.Spec PyProof.Rows L2
/-! ## what is no list stays -/
def Keep (G G' : Hp) : Prop := ∀ b o, G b = some o → (∀ xs, o ≠ .lst xs) → G' b = some o
theorem Keep.of {G G' : Hp} (e : Same G G') : Keep G G' := fun b o h _ => e b o h
theorem Keep.trans {G G1 G2 : Hp} (a : Keep G G1) (b : Keep G1 G2) : Keep G G2 := fun c o h n => b c o (a c o h n) n
theorem Keep.put {G : Hp} {p : Addr} {xs : List V} {o : HO} (h : G p = some (.lst xs)) : Keep G (upd G p o) := fun b u q n => by
  rw [upd_ne (fun z => n xs (Option.some.inj (q.symm.trans (by rw [z]; exact h))))]
  exact q
theorem Keep.new {G : Hp} {p : Addr} {o : HO} (h : G p = none) : Keep G (upd G p o) := Keep.of (same_upd (Same.refl G) h)
theorem Keep.tabs {T : List (Addr × Str)} {G G' : Hp} (e : Keep G G') (h : LamX.Tabs T G) : LamX.Tabs T G' := fun p hp => by
  obtain ⟨ps, h1, h2, h3⟩ := h p hp
  refine ⟨ps, e _ _ h1 (fun xs z => nomatch z), h2, fun pos cv hc => ?_⟩
  obtain ⟨c, e1, e2⟩ := h3 pos cv hc
  exact ⟨c, e1, e _ _ e2 (fun xs z => by unfold LamX.CodeO at z; cases z)⟩
theorem RngAt.same {G G' : Hp} {p q : Addr} {ns : List Int} {i v sd : Int} (e : Same G G') (R : RngAt G p q ns i v sd) : RngAt G' p q ns i v sd := ⟨e _ _ R.at_p, e _ _ R.at_q, R.len, R.ok, R.ne⟩
theorem RngAt.extN {G G' : Hp} {p q : Addr} {ns : List Int} {i v sd : Int} (e : LamX.ExtN G G') (R : RngAt G p q ns i v sd) : RngAt G' p q ns i v sd :=
  ⟨e _ _ R.at_p (fun ps z => nomatch z), e _ _ R.at_q (fun ps z => nomatch z), R.len, R.ok, R.ne⟩
theorem not_true_if {A B : Prop} (h : B) : if (!true) = true then A else B := iteF h
theorem big_lt {n : Nat} {a : Int} (h : a.natAbs < 2 ^ n) (hn : n ≤ 8000) : a.natAbs < 2 ^ 8000 := Nat.lt_of_lt_of_le h (Nat.pow_le_pow_right (by decide) hn)
theorem log_small {m : Nat} (h : m ≤ 1000000000000000000000000000000) : m.log2 < 1920 := by
  have z : m < 2 ^ 100 := Nat.lt_of_le_of_lt h (by decide)
  exact Nat.lt_of_lt_of_le (PySem.Flt.log2_lt_of (by decide) z) (by decide)
theorem gcdI_one (a : Int) : gcdI a 1 = 1 := by unfold gcdI; rw [Int.natAbs_one, Nat.gcd_one_right]; rfl
theorem frN_one (a : Int) : frN a 1 = a := by unfold frN; rw [gcdI_one, if_neg (by decide), Int.ediv_one]
theorem frD_one (a : Int) : frD a 1 = 1 := by unfold frD; rw [gcdI_one, if_neg (by decide), Int.ediv_one]
theorem ediv_abs_le (a : Int) {g : Int} (hg : 0 < g) : (a / g).natAbs ≤ a.natAbs := by
  rcases Int.le_total 0 a with h | h
  · have h1 := Int.ediv_nonneg h (Int.le_of_lt hg)
    have h2 := Int.ediv_le_self g h
    omega
  · have h3 := Int.ediv_mul_le a (Int.ne_of_gt hg)
    have h4 : a / g ≤ 0 := by
      have := Int.ediv_le_ediv hg h
      rwa [Int.zero_ediv] at this
    have h5 := Int.lt_ediv_add_one_mul_self a hg
    -- a ≤ a / g
    have h6 : a ≤ a / g := by
      rcases Int.lt_or_le (a / g) a with q | q
      · exfalso
        have h7 : a / g + 1 ≤ a := by omega
        have h8 : (a / g + 1) * g ≤ (a / g + 1) * 1 ∨ (a / g + 1) > 0 := by
          rcases Int.lt_or_le 0 (a / g + 1) with z | z
          · exact .inr z
          · exact .inl (Int.mul_le_mul_of_nonpos_left z (by omega))
        rcases h8 with z | z
        · omega
        · omega
      · exact q
    omega
theorem frN_abs (a b : Int) (hb : b ≠ 0) : (frN a b).natAbs ≤ a.natAbs := by
  unfold frN
  have := ediv_abs_le (if b < 0 then -a else a) (gcdI_pos (a := a) hb)
  split at this <;> split <;> omega
theorem frD_abs (a b : Int) (hb : b ≠ 0) : (frD a b).natAbs ≤ b.natAbs := by
  unfold frD
  have := ediv_abs_le (if b < 0 then -b else b) (gcdI_pos (a := a) hb)
  split at this <;> split <;> omega
end Ew
namespace K01
open PySem PySem.Spec PyProof.Rows L2 Ew
abbrev sLaw : Stmt := top 17
def lawN : List Str := ["_law_script", "_law_rng", "_law_turn", "_law_size", "_law_due", "_law_value", "_law_shown", "_law_above", "_law_below"]
def lamQ : Str := ("law" : Str) ++ ".<locals>." ++ "<lambda>"
theorem scLaw : FnScope lawN ["_law_script"] (defScope sLaw) := ⟨rfl, rfl, rfl, by decide +kernel, rfl, by decide +kernel, by decide +kernel⟩
def spLaw (K : PySem.W.Frag) (PP : Addr) : Sp := fun vs H Q _ => ∃ (a : Addr) (ns : List Int), vs = [.ref a] ∧ SqL K H a (ns.map V.int) ∧ ns.length ≤ 63 ∧ H PP = some (.tbl #[]) ∧ ∀ G, Q (.bl true) G
/-- what is due of a and b stands at t -/
def DueAt (G : Hp) (t : Addr) (a b : Int) : Prop := (b = 0 → G t = some (.tup [.str "OutOfRange", .non])) ∧ (b ≠ 0 → ∃ t2, G t = some (.tup [.str "", .ref t2]) ∧ G t2 = some (.tup [.int (frN a b), .int (frD a b)]))
theorem DueAt.keep {G G' : Hp} {t : Addr} {a b : Int} (e : Keep G G') (h : DueAt G t a b) : DueAt G' t a b :=
  ⟨fun z => e _ _ (h.1 z) (fun xs q => nomatch q), fun z => let ⟨t2, h1, h2⟩ := h.2 z; ⟨t2, e _ _ h1 (fun xs q => nomatch q), e _ _ h2 (fun xs q => nomatch q)⟩⟩
theorem DueAt.extN {G G' : Hp} {t : Addr} {a b : Int} (e : LamX.ExtN G G') (h : DueAt G t a b) : DueAt G' t a b :=
  ⟨fun z => e _ _ (h.1 z) (fun xs q => nomatch q), fun z => let ⟨t2, h1, h2⟩ := h.2 z; ⟨t2, e _ _ h1 (fun xs q => nomatch q), e _ _ h2 (fun xs q => nomatch q)⟩⟩
theorem noneOut : NoneTag "OutOfRange" := ⟨by decide +kernel, by decide +kernel, by decide +kernel, by decide +kernel, by decide +kernel, by decide +kernel⟩
theorem two_at {xs ys : List V} {P : V → V → Prop} {x0 x1 y0 y1 : V} (hx : xs = [x0, x1]) (hy : ys = [y0, y1]) (h0 : P x0 y0) (h1 : P x1 y1) : ∀ (i : Nat) (u v : V), xs[i]? = some u → ys[i]? = some v → P u v := by
  subst hx hy
  intro i u v hu hv
  match i, hu, hv with
  | 0, hu, hv => cases hu; cases hv; exact h0
  | 1, hu, hv => cases hu; cases hv; exact h1
  | i + 2, hu, hv => cases hu
theorem same_two {K : PySem.W.Frag} {G : Hp} {n : Nat} {s t : Addr} {x0 x1 y0 y1 : V} (hs : G s = some (.tup [x0, x1])) (ht : G t = some (.tup [y0, y1])) (h0 : SameN K G n x0 y0) (h1 : SameN K G n x1 y1) : SameN K G (n + 1) (.ref s) (.ref t) :=
  .inr ⟨s, t, _, _, rfl, rfl, .inr ⟨SqT.of hs, SqT.of ht⟩, rfl, (by show 2 ≤ 1000; decide), two_at rfl rfl h0 h1⟩
/-- a def that stands at f and is called by its name -/
structure Def (P : Program) (w : World) (K : PySem.W.Frag) (mg : Str → Option Value) (base : Heap) (CX : CXT) (k : Nat) (x : Str) (f : Addr) (fd : FuncData) (ps : List Str) (sp : Sp) : Prop where
  ok : FnOk P w K mg base CX k f fd ps sp
  g : mg x = some (.ref f)
  k : PySem.W.keepIn K (.ref f) = true
  b : Binds K fd ps []
structure TxtL (K : PySem.W.Frag) (mg : Str → Option Value) : Prop where
  range : mg "range" = none
  str : mg "str" = none
theorem ok_law {P : Program} {w : World} {K : PySem.W.Frag} {mg : Str → Option Value} {base : Heap} {f c PP : Addr} {oc kV doc pm ct : Value} {od an : Option Addr} {osl : Array (Option Value)} {fB fD fP fS fL fFr fT fO fF C C1 C2 C3 : Addr} {fdB fdD fdP fdS fdL fdFr fdT fdO fdF : FuncData} {d1 : Value}
    (lk : K.lookup f = some ⟨oc, od, .func (PySem.W.fnOf "law" "law" (defArgs sLaw) (defBody sLaw) (defScope sLaw) .none kV doc pm an (.ref c) ct), osl⟩) (hcd : PySem.W.codeIn K (.ref c) "law" = true) (TB : LamX.TabB base mg c PP) (T : TxtL K mg)
    (B : Def P w K mg base CX0 1 "_law_begin" fB fdB ["_law_script"] (spBegin K)) (D : Def P w K mg base CX0 1 "_law_draw" fD fdD ["_law_rng", "_law_many"] spDraw) (Pk : Def P w K mg base CX0 2 "_law_pick" fP fdP ["_law_rng", "_law_items"] (spPick K))
    (S : Def P w K mg base CX0 3 "_law_same" fS fdS ["_law_found", "_law_due"] (spSame K 3)) (L : Def P w K mg base CX0 1 "_law_lowest" fL fdL ["_law_above", "_law_below"] spLow) (Tx : Def P w K mg base CX0 1 "fraction_text" fT fdT ["value"] (spText K))
    (Fr : Def P w K mg base (L2.CX P w) 3 "fraction" fFr fdFr ["numerator", "denominator"] (spFraction C)) (b1 : Binds K fdFr ["numerator", "denominator"] [d1]) (r1 : RelV (.int 1) d1)
    (FO : Fun K "_law_outcome" "_law_outcome" sOutcome fO fdO) (gO : mg "_law_outcome" = some (.ref fO)) (bO : Binds K fdO ["_law_ask"] []) (TO : TxtO K mg C1 C2 C3 fF fdF)
    (exm : PySem.W.exmAny K (.ref C) [.ref C1, .ref C2, .ref C3] = some true) (xf : XfC K C) (nT : PySem.W.findIn K (.ref C) "tag" = some none) :
    FnOk P w K mg base CX0 6 f (PySem.W.fnOf "law" "law" (defArgs sLaw) (defBody sLaw) (defScope sLaw) .none kV doc pm an (.ref c) ct) ["_law_script"] (spLaw K PP) := by
  refine fn_of lk hcd scLaw (fun vs H Q E h => ?_) (fun A outer s H vs Q E hr h => ?_)
  · obtain ⟨a, ns, rfl, _⟩ := h
    rfl
  · obtain ⟨a, ns, rfl, hS, hl, hPP, k⟩ := h
    obtain ⟨ocO, odO, kVO, docO, pmO, anO, cdO, ctO, slO, rfl, lkO, hcO⟩ := FO.ex
    have r1' : Room 1 _ := hr.mono (by decide)
    have r2' : Room 2 _ := hr.mono (by decide)
    have r3' : Room 3 _ := hr.mono (by decide)
    suffices hh : ∃ t, PSs (cxOf CX0 P w K mg base lawN "law" (defScope sLaw) f (.ref c) A outer s H E).nox (defBody sLaw) t ∧ t { nx := fun _ H' => Q .non H', rt := Q } (L2.start lawN [.ref a]) H by
      obtain ⟨t, h1, h2⟩ := hh
      exact ⟨t, h1.nox, h2⟩
    refine ⟨_, pss_cons (ps_set (i := 1) scLaw.nd rfl (Or.inl rfl) (pe_call B.ok r1' rfl B.g B.k B.b .nil pass0 (pa_cons (pv 0) pa_nil)))
      (pss_cons (ps_for PassesOwn.never rfl (pi_range1 rfl T.range (pa_cons pe_int pa_nil)) (pg_name (i := 2) scLaw.nd rfl (Or.inl rfl))
        (pss_cons (ps_set (i := 3) scLaw.nd rfl (Or.inl rfl) (pe_call Pk.ok r2' rfl Pk.g Pk.k Pk.b .nil pass0 (pa_cons (pv 1) (pa_cons (pe_lst (pa_cons pe_int (pa_cons pe_int (pa_cons (pe_op op_pow pe_int pe_int) pa_nil)))) pa_nil))))
        (pss_cons (ps_asg (pe_tup (pa_cons (pe_op op_sub (pe_call D.ok r1' rfl D.g D.k D.b .nil pass0 (pa_cons (pv 1) (pa_cons (pv 3) pa_nil))) (pe_op op_fdiv (pv 3) pe_int)) (pa_cons (pe_op op_sub (pe_call D.ok r1' rfl D.g D.k D.b .nil pass0 (pa_cons (pv 1) (pa_cons (pv 3) pa_nil))) (pe_op op_fdiv (pv 3) pe_int)) pa_nil)))
            (pg_tup rfl (pgs_cons (pg_name (i := 7) scLaw.nd rfl (Or.inr rfl)) (pgs_cons (pg_name (i := 8) scLaw.nd rfl (Or.inr rfl)) pgs_nil))))
        (C8.pss_cut (ps_set (i := 4) scLaw.nd rfl (Or.inl rfl) (pe_ifExp (pt_cmpR op_eq (pv 8) pe_int (nomark _)) (pe_tup (pa_cons pe_str (pa_cons pe_non pa_nil))) (pe_tup (pa_cons pe_str (pa_cons (pe_call L.ok r1' rfl L.g L.k L.b .nil pass0 (pa_cons (pv 7) (pa_cons (pv 8) pa_nil))) pa_nil)))))
        (C8.pss_cut (ps_if (pt_not (pt_val (pe_call S.ok r3' rfl S.g S.k S.b .nil pass0 (pa_cons
            (LamX.pe_lamcall (T := [(PP, lamQ)]) (TT := TTo K (.ref C1) (.ref C2) (.ref C3)) (a := "_law_ask") (k := 3) (t := fun E => tCall (spFraction C) [] E (tCons (tVar 7) (tCons (tVar 8) tNil))) rfl gO FO.kp lkO hcO bO scOutcome rfl (Or.inl rfl) (outcome_gives TO (k := 3) hr) TB rfl
              (List.mem_cons_self) (fun p hp _ => by cases List.mem_singleton.mp hp; rfl) hr (LamX.lamS_by (sc := defScope sLaw) (by decide +kernel)) rfl (fun _ _ _ _ _ => rfl)
              (fun A outer s H E f c' hr' => by exact pe_call Fr.ok hr' rfl Fr.g Fr.k Fr.b .nil (passes_call (takes_of rfl rfl rfl rfl) (fun _ _ _ _ h => h)) (pa_cons (pv 7) (pa_cons (pv 8) pa_nil))))
            (pa_cons (pv 4) pa_nil))))) (pss_one (ps_ret pe_bl)) pss_nil)
        (C8.pss_cut (ps_if (pt_not (pt_val (pe_call S.ok r3' rfl S.g S.k S.b .nil pass0 (pa_cons (pe_call Fr.ok r3' rfl Fr.g Fr.k b1 (.cons r1 .nil) passL (pa_cons (pv 7) pa_nil)) (pa_cons (pe_tup (pa_cons (pv 7) (pa_cons pe_int pa_nil))) pa_nil))))) (pss_one (ps_ret pe_bl)) pss_nil)
        (pss_one (ps_if (pt_cmpR op_ne (pv 8) pe_int (nomark _))
          (pss_cons (ps_set (i := 5) scLaw.nd rfl (Or.inl rfl) (pe_ix ix_tup (pv 4) pe_int (fun _ _ => rfl)))
          (C8.pss_cut (ps_set (i := 6) scLaw.nd rfl (Or.inl rfl) (pe_ifExp (pt_cmpR op_eq (pe_ix ix_tup (pv 5) pe_int (fun _ _ => rfl)) pe_int (nomark _)) (pe_callTy call_str_int (by rfl) T.str (by decide +kernel) (pa_cons (pe_ix ix_tup (pv 5) pe_int (fun _ _ => rfl)) pa_nil))
              (pe_op op_add_str (pe_op op_add_str (pe_callTy call_str_int (by rfl) T.str (by decide +kernel) (pa_cons (pe_ix ix_tup (pv 5) pe_int (fun _ _ => rfl)) pa_nil)) pe_str) (pe_callTy call_str_int (by rfl) T.str (by decide +kernel) (pa_cons (pe_ix ix_tup (pv 5) pe_int (fun _ _ => rfl)) pa_nil)))))
          (pss_one (ps_if (pt_not (pt_val (pe_call S.ok r3' rfl S.g S.k S.b .nil pass0 (pa_cons (pe_call Tx.ok r1' rfl Tx.g Tx.k Tx.b .nil pass0 (pa_cons (pv 5) pa_nil)) (pa_cons (pv 6) pa_nil))))) (pss_one (ps_ret pe_bl)) pss_nil)))) pss_nil))))))))
      (pss_one (ps_ret (pe_and (pe_cmpR (op_eqD hr.units) (pe_call Fr.ok r3' rfl Fr.g Fr.k Fr.b .nil passL (pa_cons pe_int (pa_cons (pe_un un_neg pe_int) pa_nil))) (pe_tup (pa_cons pe_int (pa_cons pe_int pa_nil))) (nomark _))
        (pe_one (pe_cmpR op_eq (pe_call Tx.ok r1' rfl Tx.g Tx.k Tx.b .nil pass0 (pa_cons (pe_tup (pa_cons (pe_un un_neg pe_int) (pa_cons pe_int pa_nil))) pa_nil)) pe_str (nomark _))))))), ?_⟩
    have cpow : CPow 10 30 := ⟨by decide, by decide, by decide⟩
    refine ⟨_, rfl, a, ns, rfl, hS, hl, fun G0 p q sd s0 R0 np nq => ?_⟩
    have tabs0 : LamX.Tabs [(PP, lamQ)] G0 := fun x hx => by
      cases List.mem_singleton.mp hx
      exact LamX.TabS.nil (s0 _ _ hPP)
    refine ⟨6, rfl, by decide, by decide, for_range (lo := 0) (n := 6) (fun _ σ G => ∃ (q : Addr) (i v sd : Int) (o2 o3 o4 o5 o6 o7 o8 : Option V), σ = [some (.ref a), some (.ref p), o2, o3, o4, o5, o6, o7, o8] ∧ RngAt G p q ns i v sd ∧ LamX.Tabs [(PP, lamQ)] G)
      ⟨q, 0, 0, sd, none, none, none, none, none, none, none, rfl, R0, tabs0⟩ ?_ ?_⟩
    · rintro j σ G _ ⟨q, i, v, sd, o2, o3, o4, o5, o6, o7, o8, rfl, R, tb⟩
      refine ⟨_, rfl, 10, 30, rfl, rfl, cpow, (by show 3 ≤ sizeLine; decide), fun l hl => ?_⟩
      have nlp : l ≠ p := fun e => by rw [e, R.at_p] at hl; cases hl
      have R1 := R.same (same_upd (o := .lst [.int 9, .int 60, .int (10 ^ (30 : Int).toNat)]) (Same.refl G) hl)
      refine ⟨p, q, l, ns, i, v, sd, _, rfl, R1, upd_same, nlp, (by simp), (by show 3 ≤ 1000; decide), fun x i1 v1 sd1 hx ok1 => ?_⟩
      obtain ⟨sz, rfl, z0, z1⟩ : ∃ sz : Int, x = .int sz ∧ 2 ≤ sz ∧ sz ≤ 1000000000000000000000000000000 := by
        rcases List.mem_cons.mp hx with e | hx
        · exact ⟨9, e, by decide, by decide⟩
        · rcases List.mem_cons.mp hx with e | hx
          · exact ⟨60, e, by decide, by decide⟩
          · rcases List.mem_cons.mp hx with e | hx
            · exact ⟨_, e, by decide, by decide⟩
            · cases hx
      have R2 := R1.next ok1
      have K2 : Keep G _ := (Keep.new (o := .lst [.int 9, .int 60, .int (10 ^ (30 : Int).toNat)]) hl).trans (Keep.put (o := .lst (rngL q i1 v1 sd1)) R1.at_p)
      have tb2 := K2.tabs tb
      generalize upd (upd G l (.lst [.int 9, .int 60, .int (10 ^ (30 : Int).toNat)])) p (.lst (rngL q i1 v1 sd1)) = G2 at R2 tb2
      clear K2 R1 R tb hl nlp
      have szb : sz.natAbs < 2 ^ 8000 := big_lt (n := 100) (Nat.lt_of_le_of_lt (by omega : sz.natAbs ≤ 1000000000000000000000000000000) (by decide)) (by decide)
      refine ⟨_, rfl, _, rfl, p, q, ns, i1, v1, sd1, sz, rfl, R2, by omega, szb, fun x1 i2 v2 sd2 a0 a1 ok2 => ?_⟩
      have R3 := R2.next ok2
      have tb3 := (Keep.put (o := .lst (rngL q i2 v2 sd2)) R2.at_p).tabs tb2
      generalize upd G2 p (.lst (rngL q i2 v2 sd2)) = G3 at R3 tb3
      refine ⟨_, rfl, sz, 2, rfl, rfl, ⟨by decide, by decide⟩, _, _, rfl, rfl, _, rfl, _, rfl, p, q, ns, i2, v2, sd2, sz, rfl, R3, by omega, szb, fun x2 i3 v3 sd3 c0 c1 ok3 => ?_⟩
      have R4 := R3.next ok3
      have tb4 := (Keep.put (o := .lst (rngL q i3 v3 sd3)) R3.at_p).tabs tb3
      generalize upd G3 p (.lst (rngL q i3 v3 sd3)) = G4 at R4 tb4
      refine ⟨_, rfl, sz, 2, rfl, rfl, ⟨by decide, by decide⟩, _, _, rfl, rfl, (by show 2 ≤ sizeLine; decide), fun t0 h0 => ?_⟩
      obtain ⟨na, ea⟩ : ∃ na : Int, na = x1 - sz / 2 := ⟨_, rfl⟩
      obtain ⟨nb, eb⟩ : ∃ nb : Int, nb = x2 - sz / 2 := ⟨_, rfl⟩
      have dv := Int.ediv_nonneg (show 0 ≤ sz by omega) (by decide : (0 : Int) ≤ 2)
      have dv2 := Int.ediv_le_self 2 (show 0 ≤ sz by omega)
      have la : na.natAbs ≤ 1000000000000000000000000000000 := by omega
      have lb : nb.natAbs ≤ 1000000000000000000000000000000 := by omega
      show gTup _ _ _ (V.ref t0) _ (upd G4 t0 (HO.tup [V.int (x1 - sz / 2), V.int (x2 - sz / 2)])) _
      rw [← ea, ← eb]
      have bb : nb.natAbs < 2 ^ 8000 := big_lt (n := 100) (Nat.lt_of_le_of_lt lb (by decide)) (by decide)
      have R5 := R4.same (same_upd (o := .tup [.int na, .int nb]) (Same.refl G4) h0)
      have tb5 := (Keep.new (o := .tup [.int na, .int nb]) h0).tabs tb4
      refine ⟨t0, _, rfl, SqT.of upd_same, rfl, _, _, rfl, _, _, rfl, rfl, ?_⟩
      generalize upd G4 t0 (.tup [.int na, .int nb]) = G5 at R5 tb5
      clear h0 R4 tb4 R3 tb3 R2 tb2
      refine ⟨fun σ G => ∃ t : Addr, σ = [some (.ref a), some (.ref p), some (.int (0 + (j : Int))), some (.int sz), some (.ref t), o5, o6, some (.int na), some (.int nb)] ∧ RngAt G p q ns i3 v3 sd3 ∧ LamX.Tabs [(PP, lamQ)] G ∧ DueAt G t na nb, ?_, ?_⟩
      · refine ⟨_, rfl, rfl, _, rfl, ?_⟩
        by_cases hb : nb = 0
        · subst hb
          refine ifT (decide_eq_true rfl) ⟨(by show 2 ≤ sizeLine; decide), fun t ht => ?_⟩
          exact ⟨t, rfl, R5.same (same_upd (Same.refl _) ht), (Keep.new ht).tabs tb5, fun _ => upd_same, fun z => absurd rfl z⟩
        · refine ifF (eq_int hb) ⟨_, rfl, _, rfl, na, nb, rfl, hb, bb, fun t2 h2 => ⟨(by show 2 ≤ sizeLine; decide), fun t ht => ?_⟩⟩
          have s2 : Same G5 (upd G5 t2 (.tup [.int (frN na nb), .int (frD na nb)])) := same_upd (Same.refl _) h2
          refine ⟨t, rfl, R5.same (same_upd s2 ht), (Keep.of (same_upd s2 ht)).tabs tb5, fun z => absurd z hb, fun _ => ⟨t2, upd_same, ?_⟩⟩
          rw [upd_ne (fun e => by rw [← e, upd_same] at ht; cases ht), upd_same]
      · rintro σ G6 ⟨t, rfl, R6, tb6, due6⟩
        refine ⟨fun σ G => σ = [some (.ref a), some (.ref p), some (.int (0 + (j : Int))), some (.int sz), some (.ref t), o5, o6, some (.int na), some (.int nb)] ∧ RngAt G p q ns i3 v3 sd3 ∧ LamX.Tabs [(PP, lamQ)] G ∧ DueAt G t na nb, ?_, ?_⟩
        · refine ⟨tb6, fun G7 eN tb7 => ?_⟩
          have R7 := R6.extN eN
          have due7 := due6.extN eN
          refine ⟨_, rfl, _, rfl, na, nb, rfl, bb, fun hb x hx => ?_, fun hb u hu => ?_⟩
          · refine ⟨exm, "OutOfRange", ⟨C, x, _, rfl, xf, nT, rfl, upd_same, rfl⟩, noneOut, fun G8 o e8 h8 => ?_⟩
            have s8 : Same G7 (upd G8 o (.tup [.str "OutOfRange", .non])) := same_upd ((same_upd (Same.refl _) hx).trans e8) h8
            refine ⟨_, rfl, _, _, rfl, same_two upd_same (s8 _ _ (due7.1 hb)) (.inl ⟨rfl, rfl⟩) (.inl ⟨rfl, rfl⟩), fun G9 e9 => ⟨true, rfl, iteF ?_⟩⟩
            exact ⟨rfl, R7.same (s8.trans e9), (Keep.of (s8.trans e9)).tabs tb7, due7.keep (Keep.of (s8.trans e9))⟩
          · obtain ⟨t2, d1, d2⟩ := due7.2 hb
            refine ⟨(by show 2 ≤ sizeLine; decide), fun o ho => ?_⟩
            have s8 : Same G7 (upd (upd G7 u (.tup [.int (frN na nb), .int (frD na nb)])) o (.tup [.str "", .ref u])) := same_upd (same_upd (Same.refl _) hu) ho
            have hu2 : upd (upd G7 u (.tup [.int (frN na nb), .int (frD na nb)])) o (.tup [.str "", .ref u]) u = some (.tup [.int (frN na nb), .int (frD na nb)]) := by
              rw [upd_ne (fun e => by rw [← e, upd_same] at ho; cases ho), upd_same]
            refine ⟨_, rfl, _, _, rfl, same_two upd_same (s8 _ _ d1) (.inl ⟨rfl, rfl⟩) (same_two hu2 (s8 _ _ d2) (.inl ⟨rfl, rfl⟩) (.inl ⟨rfl, rfl⟩)), fun G9 e9 => ⟨true, rfl, iteF ?_⟩⟩
            exact ⟨rfl, R7.same (s8.trans e9), (Keep.of (s8.trans e9)).tabs tb7, due7.keep (Keep.of (s8.trans e9))⟩
        · rintro σ G7 ⟨rfl, R7, tb7, due7⟩
          refine ⟨fun σ G => σ = [some (.ref a), some (.ref p), some (.int (0 + (j : Int))), some (.int sz), some (.ref t), o5, o6, some (.int na), some (.int nb)] ∧ RngAt G p q ns i3 v3 sd3 ∧ LamX.Tabs [(PP, lamQ)] G ∧ DueAt G t na nb, ?_, ?_⟩
          · refine ⟨_, rfl, na, 1, rfl, big_lt (n := 1) (by decide) (by decide), fun z => absurd z (by decide), fun _ u hu => ?_⟩
            rw [frN_one, frD_one]
            refine ⟨_, rfl, (by show 2 ≤ sizeLine; decide), fun o ho => ?_⟩
            have s8 : Same G7 (upd (upd G7 u (.tup [.int na, .int 1])) o (.tup [.int na, .int 1])) := same_upd (same_upd (Same.refl _) hu) ho
            have hu2 : upd (upd G7 u (.tup [.int na, .int 1])) o (.tup [.int na, .int 1]) u = some (.tup [.int na, .int 1]) := by
              rw [upd_ne (fun e => by rw [← e, upd_same] at ho; cases ho), upd_same]
            refine ⟨_, _, rfl, same_two hu2 upd_same (.inl ⟨rfl, rfl⟩) (.inl ⟨rfl, rfl⟩), fun G9 e9 => ⟨true, rfl, iteF ?_⟩⟩
            exact ⟨rfl, R7.same (s8.trans e9), (Keep.of (s8.trans e9)).tabs tb7, due7.keep (Keep.of (s8.trans e9))⟩
          · rintro σ G8 ⟨rfl, R8, tb8, due8⟩
            refine ⟨_, rfl, rfl, _, rfl, ?_⟩
            by_cases hb : nb = 0
            · subst hb
              refine iteNS rfl ?_
              exact ⟨q, i3, v3, sd3, _, _, _, _, _, _, _, rfl, R8, tb8⟩
            · refine ifT (ne_int hb) ?_
              obtain ⟨t2, d1, d2⟩ := due8.2 hb
              have ln : (frN na nb).natAbs.log2 < 1920 := log_small (Nat.le_trans (frN_abs na nb hb) la)
              have ld : (frD na nb).natAbs.log2 < 1920 := log_small (Nat.le_trans (frD_abs na nb hb) lb)
              refine ⟨_, rfl, t, _, _, _, rfl, rfl, SqT.of d1, rfl, ?_⟩
              refine ⟨fun σ G => G = G8 ∧ σ = [some (.ref a), some (.ref p), some (.int (0 + (j : Int))), some (.int sz), some (.ref t), some (.ref t2), some (.str (frText (frN na nb) (frD na nb))), some (.int na), some (.int nb)], ?_, ?_⟩
              · refine ⟨_, rfl, t2, _, _, _, rfl, rfl, SqT.of d2, rfl, rfl, _, rfl, ?_⟩
                unfold frText
                have lnn := int_text_len_1921 ln
                have ldd := int_text_len_1921 ld
                have l1 : (("/" : Str)).length = 1 := by decide +kernel
                by_cases c1 : frD na nb = 1
                · rw [if_pos c1]
                  exact ifT (decide_eq_true (by rw [c1])) ⟨_, rfl, t2, _, _, _, rfl, rfl, SqT.of d2, rfl, _, rfl, ln, rfl, rfl⟩
                · rw [if_neg c1]
                  refine ifF (eq_int c1) ⟨_, rfl, t2, _, _, _, rfl, rfl, SqT.of d2, rfl, _, rfl, ln, _, _, rfl, rfl, ?_, _, rfl, t2, _, _, _, rfl, rfl, SqT.of d2, rfl, _, rfl, ld, _, _, rfl, rfl, ?_, rfl, rfl⟩
                  · rw [sizeLine_eq]; omega
                  · rw [Str.length_append, sizeLine_eq]; omega
              · rintro σ G9 ⟨rfl, rfl⟩
                refine ⟨_, rfl, t2, _, _, rfl, SqT.of d2, ln, ld, _, rfl, _, _, rfl, .inl ⟨rfl, rfl⟩, fun G10 e10 => ⟨true, rfl, iteF ?_⟩⟩
                exact ⟨q, i3, v3, sd3, _, _, _, _, _, _, _, rfl, R8.same e10, (Keep.of e10).tabs tb8⟩
    · rintro σ G ⟨q, i, v, sd, o2, o3, o4, o5, o6, o7, o8, rfl, R, tb⟩
      refine ⟨5, rfl, 0, -5, rfl, big_lt (n := 10) (by decide) (by decide), fun z => absurd z (by decide), fun _ u hu => ?_⟩
      rw [show frN 0 (-5) = 0 by decide +kernel, show frD 0 (-5) = 1 by decide +kernel]
      refine ⟨(by show 2 ≤ sizeLine; decide), fun o ho => ?_⟩
      have hu2 : upd (upd G u (.tup [.int 0, .int 1])) o (.tup [.int 0, .int 1]) u = some (.tup [.int 0, .int 1]) := by
        rw [upd_ne (fun e => by rw [← e, upd_same] at ho; cases ho), upd_same]
      refine ⟨.tuple [.int 0, .int 1], .tuple [.int 0, .int 1], .tup (SqT.of hu2) (.cons (.int 0) (.cons (.int 1) .nil)), .tup (SqT.of upd_same) (.cons (.int 0) (.cons (.int 1) .nil)), by decide +kernel, by decide +kernel, ?_⟩
      refine ⟨_, rfl, ifT (by decide +kernel) ?_⟩
      refine ⟨3, rfl, (by show 2 ≤ sizeLine; decide), fun m hm => ?_⟩
      refine ⟨m, -3, 2, rfl, SqT.of upd_same, by decide +kernel, by decide +kernel, rfl, ?_⟩
      rw [show decide (V.str (frText (-3) 2) = V.str "-3/2") = true by decide +kernel]
      exact k _
end K01
namespace Ew
open PySem PySem.Spec PyProof.Rows L2
/-! ## what the head tells of a def, an error's class, the law's own code object -/
def DefAt (K : PySem.W.Frag) (x qual : Str) (st : Stmt) (f : Addr) : Prop := ∃ fd, Fun K x qual st f fd
theorem def_mk {K : PySem.W.Frag} {x qual : Str} {st : Stmt} {f : Addr} {oc kV doc pm cdv ct : Value} {od an : Option Addr} {osl : Array (Option Value)} (l : K.lookup f = some ⟨oc, od, .func (PySem.W.fnOf x qual (defArgs st) (defBody st) (defScope st) .none kV doc pm an cdv ct), osl⟩)
    (c : PySem.W.codeIn K cdv qual = true) (k : PySem.W.keepIn K (.ref f) = true) : DefAt K x qual st f := ⟨_, fun_mk l c k⟩
def DfltAt (K : PySem.W.Frag) (x : Str) (st : Stmt) (dv : V) (f : Addr) : Prop := ∃ fd, FunD K x x (defArgs st) (defBody st) (defScope st) [dv] [] f fd
theorem dflt_mk {K : PySem.W.Frag} {x : Str} {st : Stmt} {dv : V} {f TD : Addr} {oc kV doc pm cdv ct ot dw : Value} {od an odt : Option Addr} {osl slt : Array (Option Value)} {n : Nat} (l : K.lookup f = some ⟨oc, od, .func (PySem.W.fnOf x x (defArgs st) (defBody st) (defScope st) (.ref TD) kV doc pm an cdv ct), osl⟩)
    (c : PySem.W.codeIn K cdv x = true) (k : PySem.W.keepIn K (.ref f) = true) (t : K.lookup TD = some ⟨ot, odt, .seq #[dw] n, slt⟩) (r : RelV dv dw) : DfltAt K x st dv f :=
  ⟨_, ⟨⟨oc, od, .ref TD, kV, doc, pm, an, cdv, ct, osl, rfl, l, c, .inr ⟨by simp, TD, _, [dw], n, rfl, t, rfl, .cons r .nil⟩, .inl rfl⟩, k⟩⟩
theorem oex_mk {K : PySem.W.Frag} {C : Addr} {nm q : Str} {N : Addr} {bs bm : List Value} {sn : List Str} {sub : List Value} {ab : Bool} {col : Option Bool} {dd : Option Addr} {m0 m1 m2 m3 m5 : Option Value}
    (l : K.lookup C = some (excClassObj nm q C N bs bm true sn sub ab col dd m0 m1 m2 m3 m5 "ValueError.__new__")) (r : PySem.HandSPX.refsVE bm = true) (sa : PySem.W.findIn K (.ref C) "__setattr__" = some (some (.builtin "object.__setattr__")))
    (eC : PySem.W.subIn K (.ref C) (.type "BaseException") = some true) (tC : PySem.W.typeIn K (.ref C) = some (.type "type")) (kC : PySem.W.keepIn K (.ref C) = true) : OexC K C :=
  ⟨⟨nm, q, N, bs, bm, sn, sub, ab, col, dd, m0, m1, m2, m3, m5, l, r⟩, sa, eC, tC, kC⟩
/-- an own class that stands in an except clause, and whether the errors of the class at C are of it -/
structure ExmIn (K : PySem.W.Frag) (C D : Addr) (b : Bool) : Prop where
  e : PySem.W.subIn K (.ref D) (.type "BaseException") = some true
  d : PySem.W.hasDictIn K D = true
  t : PySem.W.typeIn K (.ref D) = some (.type "type")
  s : PySem.W.subIn K (.ref C) (.ref D) = some b
theorem exm_three {K : PySem.W.Frag} {C C1 C2 C3 : Addr} {b1 b2 b3 : Bool} (h1 : ExmIn K C C1 b1) (h2 : ExmIn K C C2 b2) (h3 : ExmIn K C C3 b3) (hb : (b1 || (b2 || (b3 || false))) = true) : PySem.W.exmAny K (.ref C) [.ref C1, .ref C2, .ref C3] = some true := by
  have e1 := PySem.W.exm_ref h1.e h1.d h1.t h1.s
  have e2 := PySem.W.exm_ref h2.e h2.d h2.t h2.s
  have e3 := PySem.W.exm_ref h3.e h3.d h3.t h3.s
  simp only [PySem.W.exmAny, e1, e2, e3, hb]
/-- the law's code object -/
structure CodeAt (K : PySem.W.Frag) (c PP : Addr) (vs : Array Value) (dd : Option Addr) (sl : Array (Option Value)) : Prop where
  l : K.lookup c = some ⟨.type "code", dd, .fields vs, sl⟩
  p : vs[11]? = some (.ref PP)
  g : ∃ file tf flags tg inF text tt, vs.getD 11 .none = .ref PP ∧ vs.getD 18 .none = .str file tf ∧ vs.getD 7 .none = .int flags tg ∧ vs.getD 9 .none = .bool inF ∧ vs.getD 10 .none = .int text tt
  n : K.lookup PP = none
theorem CodeAt.hd {K : PySem.W.Frag} {c PP : Addr} {vs : Array Value} {dd : Option Addr} {sl : Array (Option Value)} {h : Heap} (X : K.In h) (C : CodeAt K c PP vs dd sl) : PySem.W.CodeHd h c PP := by
  obtain ⟨file, tf, flags, tg, inF, text, tt, h1, h2, h3, h4, h5⟩ := C.g
  exact ⟨_, vs, file, tf, flags, tg, inF, text, tt, X _ _ C.l, rfl, rfl, C.p, h1, h2, h3, h4, h5, fun e => by
    have z := C.n
    rw [← e, C.l] at z
    cases z⟩
end Ew
namespace K01
open PySem PySem.Spec PyProof.Rows L2 Ew
theorem all_mk {l : PySem.W.OpenLaw} {w : World} {K : PySem.W.Frag} {h : Heap} {mg : Str → Option Value} {fa C C1 C2 C3 fI fFr fG fT fB fD fP fS fF fO fL fLaw c PP : Addr} (X : K.In h) (G : h.Ns mainGlobals mg) (hfa : mg "law" = some (.ref fa)) (own : LamX.OwnTab K fa h)
    {oc kV doc pm ct : Value} {od an dd : Option Addr} {osl sl : Array (Option Value)} {vs : Array Value}
    (n1 : PySem.W.nsIn K mainGlobals "EarlyError" = some (some (.ref C1))) (n2 : PySem.W.nsIn K mainGlobals "UndefinedName" = some (some (.ref C2))) (n3 : PySem.W.nsIn K mainGlobals "EmptyHistory" = some (some (.ref C3))) (nC : PySem.W.nsIn K mainGlobals "OutOfRange" = some (some (.ref C)))
    (oex : OexC K C) (xf : XfC K C) (nT : PySem.W.findIn K (.ref C) "tag" = some none) (iC : PySem.W.findIn K (.ref C) "__init__" = some (some (.ref fI))) (tI : PySem.W.typeIn K (.ref fI) = some (.type "function")) (dI : DefAt K "__init__" "OutOfRange.__init__" sOutInit fI)
    (x1 : ExmIn K C C1 true) (x2 : ExmIn K C C2 false) (x3 : ExmIn K C C3 false)
    (nFr : PySem.W.nsIn K mainGlobals "fraction" = some (some (.ref fFr))) (dFr : DfltAt K "fraction" sFraction (.int 1) fFr)
    (nG : PySem.W.nsIn K mainGlobals "common_divisor" = some (some (.ref fG))) (dG : DefAt K "common_divisor" "common_divisor" sGcd fG)
    (nTx : PySem.W.nsIn K mainGlobals "fraction_text" = some (some (.ref fT))) (dTx : DefAt K "fraction_text" "fraction_text" sText fT)
    (nB : PySem.W.nsIn K mainGlobals "_law_begin" = some (some (.ref fB))) (dB : DefAt K "_law_begin" "_law_begin" sBegin fB)
    (nD : PySem.W.nsIn K mainGlobals "_law_draw" = some (some (.ref fD))) (dD : DefAt K "_law_draw" "_law_draw" sDraw fD)
    (nP : PySem.W.nsIn K mainGlobals "_law_pick" = some (some (.ref fP))) (dP : DefAt K "_law_pick" "_law_pick" sPick fP)
    (nS : PySem.W.nsIn K mainGlobals "_law_same" = some (some (.ref fS))) (dS : DefAt K "_law_same" "_law_same" sSame fS)
    (nF : PySem.W.nsIn K mainGlobals "_law_field" = some (some (.ref fF))) (dF : DefAt K "_law_field" "_law_field" sField fF)
    (nO : PySem.W.nsIn K mainGlobals "_law_outcome" = some (some (.ref fO))) (dO : DefAt K "_law_outcome" "_law_outcome" sOutcome fO)
    (nL : PySem.W.nsIn K mainGlobals "_law_lowest" = some (some (.ref fL))) (dL : DefAt K "_law_lowest" "_law_lowest" sLowest fL)
    (nLaw : PySem.W.nsIn K mainGlobals "law" = some (some (.ref fLaw))) (lLaw : K.lookup fLaw = some ⟨oc, od, .func (PySem.W.fnOf "law" "law" (defArgs sLaw) (defBody sLaw) (defScope sLaw) .none kV doc pm an (.ref c) ct), osl⟩) (cLaw : PySem.W.codeIn K (.ref c) "law" = true) (code : CodeAt K c PP vs dd sl)
    (zabs : PySem.W.nsIn K mainGlobals "abs" = some none) (zlen : PySem.W.nsIn K mainGlobals "len" = some none) (zlist : PySem.W.nsIn K mainGlobals "list" = some none) (zisi : PySem.W.nsIn K mainGlobals "isinstance" = some none) (ztup : PySem.W.nsIn K mainGlobals "tuple" = some none)
    (zall : PySem.W.nsIn K mainGlobals "all" = some none) (zzip : PySem.W.nsIn K mainGlobals "zip" = some none) (zbool : PySem.W.nsIn K mainGlobals "bool" = some none) (zint : PySem.W.nsIn K mainGlobals "int" = some none) (zstr : PySem.W.nsIn K mainGlobals "str" = some none) (zrange : PySem.W.nsIn K mainGlobals "range" = some none) :
    LamX.LawAtS l w K CX0 6 63 "_law_script" mg fa h := by
  have e := hfa.symm.trans (PySem.W.mg_of X G nLaw)
  cases e
  obtain ⟨fdI, FI⟩ := dI
  obtain ⟨fdFr, FFr⟩ := dFr
  obtain ⟨fdG, FG⟩ := dG
  obtain ⟨fdT, FT⟩ := dTx
  obtain ⟨fdB, FB⟩ := dB
  obtain ⟨fdD, FD⟩ := dD
  obtain ⟨fdP, FP⟩ := dP
  obtain ⟨fdS, FS⟩ := dS
  obtain ⟨fdF, FF⟩ := dF
  obtain ⟨fdO, FO⟩ := dO
  obtain ⟨fdL, FL⟩ := dL
  have bI := FI.binds (ps := ["self"]) fun _ _ _ _ _ _ us hl => match us, hl with | [_], _ => rfl
  have bG := FG.binds (ps := ["one", "other"]) fun _ _ _ _ _ _ us hl => match us, hl with | [_, _], _ => rfl
  have bT := FT.binds (ps := ["value"]) fun _ _ _ _ _ _ us hl => match us, hl with | [_], _ => rfl
  have bB := FB.binds (ps := ["_law_script"]) fun _ _ _ _ _ _ us hl => match us, hl with | [_], _ => rfl
  have bD := FD.binds (ps := ["_law_rng", "_law_many"]) fun _ _ _ _ _ _ us hl => match us, hl with | [_, _], _ => rfl
  have bP := FP.binds (ps := ["_law_rng", "_law_items"]) fun _ _ _ _ _ _ us hl => match us, hl with | [_, _], _ => rfl
  have bS := FS.binds (ps := ["_law_found", "_law_due"]) fun _ _ _ _ _ _ us hl => match us, hl with | [_, _], _ => rfl
  have bF := FF.binds (ps := ["_law_e"]) fun _ _ _ _ _ _ us hl => match us, hl with | [_], _ => rfl
  have bO := FO.binds (ps := ["_law_ask"]) fun _ _ _ _ _ _ us hl => match us, hl with | [_], _ => rfl
  have bL := FL.binds (ps := ["_law_above", "_law_below"]) fun _ _ _ _ _ _ us hl => match us, hl with | [_, _], _ => rfl
  obtain ⟨ds2, rds2, bFr2⟩ := FFr.binds1 (ps := ["numerator", "denominator"]) 2 1 (by simp) rfl fun T kV doc pm an cdv ct us its hu hi => match us, its, hu, hi with | [_, _], [_], _, _ => ⟨_, rfl, rfl⟩
  obtain rfl : ds2 = [] := by
    cases rds2
    rfl
  obtain ⟨ds, rds, bFr1⟩ := FFr.binds1 (ps := ["numerator", "denominator"]) 1 0 (by simp) rfl fun T kV doc pm an cdv ct us its hu hi => match us, its, hu, hi with | [_], [_], _, _ => ⟨_, rfl, rfl⟩
  obtain ⟨d1, rfl, r1⟩ : ∃ d1, ds = [d1] ∧ RelV (.int 1) d1 := by
    cases rds with
    | cons r rr =>
      cases rr
      exact ⟨_, rfl, r⟩
  have no : ∀ {x : Str}, PySem.W.nsIn K mainGlobals x = some none → mg x = none := fun z => PySem.W.mg_none_of X G z
  have at_ : ∀ {x : Str} {v : Value}, PySem.W.nsIn K mainGlobals x = some (some v) → mg x = some v := fun z => PySem.W.mg_of X G z
  have TE : ErrT K mg "OutOfRange" C fI := ⟨at_ nC, oex, iC, tI, nT, xf⟩
  have TR : TxtR mg := ⟨no zlen, no zlist⟩
  refine ⟨PySem.W.fnOf "law" "law" (defArgs sLaw) (defBody sLaw) (defScope sLaw) .none kV doc pm an (.ref c) ct, [(c, PP)], spLaw K PP, fun p hp => ?_, fun p hp => ?_, fun p hp => ?_, fun s v => .of_eq rfl, fun H a ns hl _ hH hS => ?_, fun base _ _ TB => ?_⟩
  · cases List.mem_singleton.mp hp
    exact own c PP _ _ _ _ _ _ lLaw rfl rfl code.l code.p
  · cases List.mem_singleton.mp hp
    exact code.n
  · cases List.mem_singleton.mp hp
    exact code.hd X
  · exact ⟨a, ns, rfl, hS, hl, hH (c, PP) List.mem_cons_self, fun _ => rfl⟩
  · have okG : FnOk l.prog w K mg base CX0 1 fG fdG ["one", "other"] spGcd := ok_gcd FG
    have okI : FnOk l.prog w K mg base CX0 1 fI fdI ["self"] (spInitTag K C "OutOfRange") := ok_out FI TE
    have okD : FnOk l.prog w K mg base CX0 1 fD fdD ["_law_rng", "_law_many"] spDraw := ok_draw FD TR
    exact ok_law lLaw cLaw (TB (c, PP) List.mem_cons_self) ⟨no zrange, no zstr⟩
      ⟨ok_begin FB TR, at_ nB, FB.kp, bB⟩ ⟨okD, at_ nD, FD.kp, bD⟩ ⟨ok_pick FP ⟨no zlen, at_ nD, FD.kp⟩ okD bD, at_ nP, FP.kp, bP⟩
      ⟨ok_same FS bS ⟨no zisi, no zlist, no ztup, no zlen, no zall, no zzip, no zbool, no zint, no zstr, at_ nS, FS.kp⟩ 3, at_ nS, FS.kp, bS⟩
      ⟨ok_low FL ⟨no zabs⟩, at_ nL, FL.kp, bL⟩ ⟨ok_text FT, at_ nTx, FT.kp, bT⟩
      ⟨ok_fraction FFr ⟨no zabs, TE, at_ nG, FG.kp⟩ okI bI okG bG, at_ nFr, FFr.kp, bFr2⟩ bFr1 r1
      FO (at_ nO) bO ⟨at_ n1, at_ n2, at_ n3, at_ nF, FF, bF⟩ (exm_three x1 x2 x3 rfl) xf nT
theorem walk {l : PySem.W.OpenLaw} {q : Program} {loose : List Str} {XP : (Str → Option Value) → Heap → Prop} {YP : World → Heap → Prop} {d : DefRec} {K : Params → PySem.W.Frag} (hn : l.most = some 63) (hdf : d.params.defaults = []) (hrec : ((recsOf q).any fun e => e.name == d.name) = true)
    (hY : ∀ (w : World) (h : Heap), YP w h → (K w.params).In h)
    (F : ∀ (w : World) (mg : Str → Option Value) (fa : Addr) (h : Heap), YP w h → (K w.params).In h → h.Ns mainGlobals mg → mg d.name = some (.ref fa) → LamX.OwnTab (K w.params) fa h → LamX.LawAtS l w (K w.params) CX0 6 63 "_law_script" mg fa h) :
    PySem.W.WalkO q loose XP YP l.row.toRowW d [] (fun f vs => PySem.call f vs) :=
  LamX.walk_ofOwn (n := 63) (k := 6) (x := "_law_script") (CX := fun _ => CX0) hn (by decide) hdf ⟨rfl, by decide, by decide⟩ hrec hY F fun _ _ _ _ _ z => z
end K01
open PySem PySem.W PyProof.Rows in
set_option maxRecDepth 100000 in
set_option maxHeartbeats 0 in
theorem PySem.Challenge.cw_earlywrite_k01_fractions_and_their_texts_holds : PySem.Challenge.rw_earlywrite_k01_fractions_and_their_texts.Holds := by
  w_on; o_law; k_head; (case hw => w_witness2)
  k_fill
  refine K01.walk (l := PySem.Challenge.rw_earlywrite_k01_fractions_and_their_texts) rfl rfl ?hrec (fun w h Y => PySem.W.km_in_of Y) ?F
  case hrec => first | rfl | decide +kernel
  case F =>
    intro w mg fa h Y KX G hmg own
    refine' K01.all_mk KX G hmg own ?n1 ?n2 ?n3 ?nC ?oex ?xf ?nT ?iC ?tI ?dI ?x1 ?x2 ?x3 ?nFr ?dFr ?nG ?dG ?nTx ?dTx ?nB ?dB ?nD ?dD ?nP ?dP ?nS ?dS ?nF ?dF ?nO ?dO ?nL ?dL ?nLaw ?lLaw ?cLaw ?code ?zabs ?zlen ?zlist ?zisi ?ztup ?zall ?zzip ?zbool ?zint ?zstr ?zrange
    (case n1 => k_is)
    (case n2 => k_is)
    (case n3 => k_is)
    (case nC => k_is)
    (case oex => (refine' Ew.oex_mk ?l ?r ?sa ?e ?t ?k; (case l => k_is); (case r => decide +kernel); (case sa => k_is); (case e => k_is); (case t => k_is); (case k => k_is)))
    (case xf => (refine' ⟨?a, ?b, ?c, ?d⟩; (case a => k_is); (case b => k_is); (case c => k_is); (case d => k_is)))
    (case nT => k_is)
    (case iC => k_is)
    (case tI => k_is)
    (case dI => (refine' Ew.def_mk ?l ?c ?k; (case l => k_is); (case c => k_is); (case k => k_is)))
    (case x1 => (refine' ⟨?a, ?b, ?c, ?d⟩; (case a => k_is); (case b => k_is); (case c => k_is); (case d => k_is)))
    (case x2 => (refine' ⟨?a, ?b, ?c, ?d⟩; (case a => k_is); (case b => k_is); (case c => k_is); (case d => k_is)))
    (case x3 => (refine' ⟨?a, ?b, ?c, ?d⟩; (case a => k_is); (case b => k_is); (case c => k_is); (case d => k_is)))
    (case nFr => k_is)
    (case dFr => (refine' Ew.dflt_mk ?l ?c ?k ?t ?r; (case l => k_is); (case c => k_is); (case k => k_is); (case t => k_is); (case r => exact ⟨_, rfl⟩)))
    (case nG => k_is)
    (case dG => (refine' Ew.def_mk ?l ?c ?k; (case l => k_is); (case c => k_is); (case k => k_is)))
    (case nTx => k_is)
    (case dTx => (refine' Ew.def_mk ?l ?c ?k; (case l => k_is); (case c => k_is); (case k => k_is)))
    (case nB => k_is)
    (case dB => (refine' Ew.def_mk ?l ?c ?k; (case l => k_is); (case c => k_is); (case k => k_is)))
    (case nD => k_is)
    (case dD => (refine' Ew.def_mk ?l ?c ?k; (case l => k_is); (case c => k_is); (case k => k_is)))
    (case nP => k_is)
    (case dP => (refine' Ew.def_mk ?l ?c ?k; (case l => k_is); (case c => k_is); (case k => k_is)))
    (case nS => k_is)
    (case dS => (refine' Ew.def_mk ?l ?c ?k; (case l => k_is); (case c => k_is); (case k => k_is)))
    (case nF => k_is)
    (case dF => (refine' Ew.def_mk ?l ?c ?k; (case l => k_is); (case c => k_is); (case k => k_is)))
    (case nO => k_is)
    (case dO => (refine' Ew.def_mk ?l ?c ?k; (case l => k_is); (case c => k_is); (case k => k_is)))
    (case nL => k_is)
    (case dL => (refine' Ew.def_mk ?l ?c ?k; (case l => k_is); (case c => k_is); (case k => k_is)))
    (case nLaw => k_is)
    (case lLaw => k_is)
    (case cLaw => k_is)
    (case code => (refine' ⟨?a, ?b, ⟨_, _, _, _, _, _, _, ?c1, ?c2, ?c3, ?c4, ?c5⟩, ?d⟩; (case a => k_is); (case b => rfl); (case c1 => rfl); (case c2 => rfl); (case c3 => rfl); (case c4 => rfl); (case c5 => rfl); (case d => first | kernel_rfl | rfl)))
    (case zabs => k_is)
    (case zlen => k_is)
    (case zlist => k_is)
    (case zisi => k_is)
    (case ztup => k_is)
    (case zall => k_is)
    (case zzip => k_is)
    (case zbool => k_is)
    (case zint => k_is)
    (case zstr => k_is)
    (case zrange => k_is)
#print axioms PySem.Challenge.cw_earlywrite_k01_fractions_and_their_texts_holds
