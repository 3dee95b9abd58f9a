import PyProof.Rows.All
import Wide.All
import OpenK.AllK
import Wide.FinOn
import HandS.Base
import HandS.Call
import HandS.List
import HandS.Comp
import HandS.Iter
import HandS.Ends
import HandS.Words
import HandS.WordsList
import HandS.Exc
import HandS.ExcInit
import HandS.ExcValue
import HandS.ExcField
import HandS.IsInst
import HandS.Defaults
import HandS.MakeKwOnly
import KE.KExcIs
import HandS.Walk
import PyProof.Rows.SeqMore
import PySem.Challenge.RW_leastkeep_k04_exceptions
set_option Elab.async false
set_option linter.all false
set_option maxRecDepth 100000
set_option maxHeartbeats 4000000
namespace Lk
open PySem PySem.Spec PyProof.Rows L2
/-- a def that may be called by its name: it lets no error out -/
structure Cal (P : Program) (w : World) (K : PySem.W.Frag) (mg : Str → Option Value) (base : Heap) (k : Nat) (x : Str) (ps : List Str) (sp : Sp) : Prop where
  ex : ∃ f fd, mg x = some (.ref f) ∧ PySem.W.keepIn K (.ref f) = true ∧ Binds K fd ps [] ∧ FnOk P w K mg base CX0 k f fd ps sp
theorem pcal {X : Cx} {k j : Nat} {x : Str} {ps : List Str} {sp : Sp} {e : Expr} {es : List Expr} {t : TA} {p pos : Pos} (c : Cal X.prog X.w X.K X.mg X.base k x ps sp) (hr : Room j X.A) (hk : k ≤ j) (ha : PA X (e :: es) t) (hg : Gl X x := by rfl)
    (hdb : (x == ("__debug__" : Str)) = false := by decide) (he : starEach (e :: es) X.env = (false, eval e X.env) :: starEach es X.env := by rfl) (hpl : (backTo pos (starEach es X.env)).any (·.1) = false := by rfl) :
    PE X (.Call (.Name x p) (e :: es) [] pos) (tCall sp [] E0 t) := by
  obtain ⟨f, fd, hm, kp, b, F⟩ := c.ex
  exact pe_call F (hr.mono hk) hg hm kp b .nil pass0 ha hdb he hpl
section
variable {σ : L2.St} {H : Hp} {i j : Nat} {v x y : V} {Q : VK} {D : Ends} {ta tb te : TE} {t u : TS} {tt tu : TT} {tl tr : TA} {r : R2} {g : TG}
theorem sv (h : σ[i]? = some (some v)) (q : Q v H) : tVar i σ H Q := ⟨v, h, q⟩
theorem sc (q : Q v H) : tC v σ H Q := q
theorem ssq (q : t { D with nx := u D } σ H) : tSeq t u D σ H := q
theorem snx (q : D.nx σ H) : tNext D σ H := q
theorem sas (q : te σ H fun x H1 => g x σ H1 D.nx) : tAsg te g D σ H := q
theorem sgn {K : L2.St → Hp → Prop} (q : K (σ.set i (some v)) H) : gName i v σ H K := q
theorem sdr (q : te σ H fun _ H1 => D.nx σ H1) : tDrop te D σ H := q
theorem srt (q : te σ H D.rt) : tRet te D σ H := q
theorem sop (q : ta σ H fun x H1 => tb σ H1 fun y H2 => r x y H2 Q) : tOp r ta tb σ H Q := q
theorem sun {r : V → Hp → VK → Prop} (q : ta σ H fun x H1 => r x H1 Q) : tUn r ta σ H Q := q
theorem sI0 {f : Int → Int → V} {a b : Int} (q : Q (f a b) H) : rI0 f (.int a) (.int b) H Q := ⟨a, b, rfl, rfl, q⟩
theorem sI {C : Int → Int → Prop} {f : Int → Int → V} {a b : Int} (h : C a b) (q : Q (f a b) H) : rI C f (.int a) (.int b) H Q := ⟨a, b, rfl, rfl, h, q⟩
theorem sU {f : Int → V} {a : Int} (q : Q (f a) H) : rU f (.int a) H Q := ⟨a, rfl, q⟩
theorem sEq (h : scal x y = true) (q : Q (.bl (decide (x = y))) H) : rEq x y H Q := ⟨h, q⟩
theorem sNe (h : scal x y = true) (q : Q (.bl (!decide (x = y))) H) : rNe x y H Q := ⟨h, q⟩
theorem stt {Q : Bool → Hp → Prop} (q : te σ H fun x H' => ∃ k, x = .bl k ∧ Q k H') : tTest te σ H Q := q
theorem stB {Q : Bool → Hp → Prop} (q : te σ H fun x H' => ∃ k, x = .bl k ∧ Q k H') : tB te σ H Q := q
theorem sbl {b : Bool} {Q : Bool → Prop} (q : Q b) : ∃ k, V.bl b = .bl k ∧ Q k := ⟨b, rfl, q⟩
theorem snt {Q : Bool → Hp → Prop} (q : tt σ H fun c H1 => Q (!c) H1) : tNot tt σ H Q := q
theorem sif (q : tt σ H fun b H1 => if b = true then t D σ H1 else u D σ H1) : tIfS tt t u D σ H := q
theorem scB {r : List V → Hp → VK → Prop} (q : tl σ H fun vs H1 => r vs H1 Q) : tCB r tl σ H Q := q
theorem scn {Q : List V → Hp → Prop} (q : ta σ H fun x H1 => tr σ H1 fun xs H2 => Q (x :: xs) H2) : tCons ta tr σ H Q := q
theorem snl {Q : List V → Hp → Prop} (q : Q [] H) : tNil σ H Q := q
theorem scl {sp : Sp} {E : XK} (q : tl σ H fun vs H1 => sp (vs ++ []) H1 Q E) : tCall sp [] E tl σ H Q := q
theorem stu (q : tl σ H fun xs H1 => xs.length ≤ sizeLine ∧ ∀ p, H1 p = none → Q (.ref p) (upd H1 p (.tup xs))) : tTup tl σ H Q := q
theorem sli (q : tl σ H fun xs H1 => xs.length ≤ sizeLine ∧ ∀ p, H1 p = none → Q (.ref p) (upd H1 p (.lst xs))) : tLst tl σ H Q := q
theorem snw {n : Nat} {R : Addr → Prop} (h : n ≤ 1000) (q : ∀ p, H p = none → R p) : n ≤ sizeLine ∧ ∀ p, H p = none → R p := ⟨Nat.le_of_lt (small1000 h), q⟩
theorem sfr {K : PySem.W.Frag} {p : Addr} {xs : List V} {z : Int} (hp : SqL K H p xs) (hz : atI xs z = some v) (q : Q v H) : rIxL K (.ref p) (.int z) H Q := ⟨p, xs, z, v, rfl, rfl, hp, hz, q⟩
theorem sfg {s : TSet} {K : L2.St → Hp → Prop} (q : ta σ H fun o H1 => tb σ H1 fun z H2 => s o z v H2 fun H3 => K σ H3) : gSub ta tb s v σ H K := q
theorem ssl {p : Addr} {xs : List V} {z : Int} {j : Nat} {K : Hp → Prop} (hp : H p = some (.lst xs)) (hz : ixN xs.length z = some j) (q : K (upd H p (.lst (xs.set j v)))) : rSetL (.ref p) (.int z) v H K := ⟨p, xs, z, j, rfl, rfl, hp, hz, q⟩
theorem sI1 {a : Int} (q : Q (.int a) H) : (∃ i, [V.int a] = [.int i] ∧ Q (.int i) H) ∨ ∃ k, [V.int a] = [.bl k] ∧ Q (.int (if k then 1 else 0)) H := .inl ⟨a, rfl, q⟩
theorem sI2 {b : Bool} (q : Q (.int (if b then 1 else 0)) H) : (∃ i, [V.bl b] = [.int i] ∧ Q (.int i) H) ∨ ∃ k, [V.bl b] = [.bl k] ∧ Q (.int (if k then 1 else 0)) H := .inr ⟨b, rfl, q⟩
end
end Lk

/-! ### an error class with its own __init__, called with keywords: the keywords go by the base's __new__ and reach the own __init__ -/
namespace PySem.HandSPX
open Builtin Builtin.ObjectAttr
section
variable {prog : Program} {w : World} {Ar : Around} {E : Value → Shared → Prop} {R : Result → Shared → Prop} {hp : Heap} {gs : Array GenState} {dr : Drawn} {tk : Nat} {os : OsState}
variable {nm qn : Str} {C N : Addr} {bs bm bmB : List Value} {hdct ab : Bool} {sn : List Str} {sub us : List Value} {col : Option Bool} {dd : Option Addr} {m0 m1 m2 m3 m5 : Option Value} {B nid iid : String} {kw : List (Str × Value)}
/-- the check ahead of __new__ passes any keywords -/
theorem kw_check (F : ExcBaseFacts B nid iid bmB) (tl : ∀ Y : String, bm.contains (.type Y) = bmB.contains (.type Y)) (oC : hp.get? C = some (excClassObj nm qn C N bs bm hdct sn sub ab col dd m0 m1 m2 m3 m5 nid)) {Q : Unit → Shared → Prop} (q : Q () ⟨hp, gs, dr, tk, os⟩) :
    wpAny (model prog w) Ar (checkBuiltinCall nid ⟨.ref C :: us, kw⟩) Q E ⟨hp, gs, dr, tk, os⟩ := by
  have inB : (Value.ref C :: bm).contains (.type B) = true := (List.contains_cons).trans (by rw [tl, F.hasB]; exact Bool.or_true _)
  have star := F.noStar
  simp only [checkBuiltinCall, F.newSplit, F.newKind, F.newRow]
  repeat first
    | (refine wpAny_isSubtype_exc oC ?_
       rw [inB])
    | refine wpAny_madeBy_exc oC ?_
    | refine wpAny_staticBase_exc oC ?_
    | refine wpAny_loadPart_at oC ?_
    | simp only [Bool.false_eq_true, if_false, bne_self_eq_false]
    | wp_step
  exact q
/-- __new__ lays the args and the error, and looks at no keyword -/
theorem kw_new (F : ExcBaseFacts B nid iid bmB) (tl : ∀ Y : String, bm.contains (.type Y) = bmB.contains (.type Y)) (oC : hp.get? C = some (excClassObj nm qn C N bs bm hdct sn sub ab col dd m0 m1 m2 m3 m5 nid)) (len : us.length ≤ sizeLine)
    (q : R (.ok (.ret (.ref (hp.objs.size + 1)))) ⟨(hp.push (W.kdv_tup us)).push (excO C hp.objs.size), gs, dr, tk, os⟩) : codeAny (model prog w) Ar (.builtin nid ⟨.ref C :: us, kw⟩) R ⟨hp, gs, dr, tk, os⟩ := by
  have in1 : (Value.ref C :: bm).contains (.type B) = true := (List.contains_cons).trans (by rw [tl, F.hasB]; exact Bool.or_true _)
  have in2 : (Value.ref C :: bm).contains (.type "NameError") = false := (List.contains_cons).trans (by rw [tl, F.noName]; rfl)
  have in3 : (Value.ref C :: bm).contains (.type "AttributeError") = false := (List.contains_cons).trans (by rw [tl, F.noAttr]; rfl)
  have fin := F.ends
  refine codeAny_builtinAt F.entry ?_
  unfold Builtin.«BaseException.__new__»
  refine wpAt_bind (show wpAt _ _ _ (stack >>= _) _ _ _ from wpAt_bind (wpAt_stack fun _ _ => wpAt_of_wpAny ?_))
  wp_walk
  refine wpAt_of_wpAny ?_
  rw [F.owner]
  repeat first
    | with_reducible refine wpAny_loadPart_at oC ?_
    | with_reducible refine wpAny_madeHere_exc F.canon oC ?_
    | (with_reducible refine wpAny_isSubtype_exc oC ?_
       first | rw [in1] | rw [in2] | rw [in3])
    | wp_step
  show R _ _
  rw [Heap.size_push]
  exact q
/-- the whole call -/
theorem call_kw (F : ExcBaseFacts B nid iid bmB) (tl : ∀ Y : String, bm.contains (.type Y) = bmB.contains (.type Y)) {fI : Addr} (oC : hp.get? C = some (excClassObj nm qn C N bs bm hdct sn sub ab col dd m0 m1 m2 m3 m5 nid))
    (li : W.Looks (model prog w) hp (typeLookup (.ref C) "__init__") (some (.ref fI))) (lb : ∀ self, W.Looks (model prog w) hp (bindSpecial (.ref fI) self) (.ref fI, [self])) (len : us.length ≤ sizeLine)
    (q : codeAny (model prog w) (Ar.under (.builtin "type.__call__" ⟨.ref C :: us, kw⟩)) (.call (.ref fI) ⟨.ref (hp.objs.size + 1) :: us, kw⟩) (W.InitBack (hp.objs.size + 1) R) ⟨(hp.push (W.kdv_tup us)).push (excO C hp.objs.size), gs, dr, tk, os⟩) :
    codeAny (model prog w) Ar (.call (.ref C) ⟨us, kw⟩) R ⟨hp, gs, dr, tk, os⟩ := by
  have old : ∀ b o, hp.get? b = some o → ((hp.push (W.kdv_tup us)).push (excO C hp.objs.size)).get? b = some o := fun b o z => Heap.get?_push_of_some _ (Heap.get?_push_of_some _ z)
  have oE : ((hp.push (W.kdv_tup us)).push (excO C hp.objs.size)).get? (hp.objs.size + 1) = some (excO C hp.objs.size) := by heap_get
  have oC' := old _ _ oC
  have inC : (Value.ref C :: bm).contains (.ref C) = true := by simp
  have c1 := tc_lookup
  have c2 := tc_bind (.ref C)
  have c3 : (⟨hp, gs, dr, tk, os⟩ : Shared).TypeIs (.ref C) "type" := ⟨_, oC, rfl⟩
  refine codeAny_of_tree (show wpAny _ _ (callAny (.ref C) _) _ _ _ from ?_)
  repeat (any_goals (first | with_reducible refine wpAny_loadPart_at oC ?_ | assumption | wp_step))
  refine ⟨rfl, codeAny_call_builtin_at (Code.quiet_builtin _ (by decide +kernel)) entry_typeCall (wpAny_check_type_call_sub oC ?_)⟩
  repeat (first | with_reducible refine wpAny_madeBy_exc oC ?_ | with_reducible refine wpAny_loadPart_at oC ?_ | wp_step)
  refine codeAny_call_builtin_code (Code.quiet_builtin _ F.quiet) (kw_check (us := us) F tl oC (kw_new (us := us) F tl oC len ?_))
  show wpAny _ _ _ _ _ _
  unfold isInstance
  repeat first
    | with_reducible refine wpAny_loadPart_at oE ?_
    | (with_reducible refine wpAny_isSubtype_exc oC' ?_
       rw [inC])
    | wp_step
  show wpAny _ _ (typeLookup (.ref C) _) _ _ _
  refine (li.keeps old).at (wpAny_holding (wpAny_bind (((lb (.ref (hp.objs.size + 1))).keeps old).at (wpAny_bind (wpAny_call (codeAny_mono q fun r s' z => ?_))))))
  cases r with
  | error e => exact z
  | ok fl =>
    cases fl with
    | ret v =>
      obtain ⟨ev, z⟩ := z
      subst ev
      first
        | exact wpAny_pure (wpAny_pure z)
        | (wp_walk; exact z)
    | next => exact z.elim
    | brk => exact z.elim
    | cont => exact z.elim
end
end PySem.HandSPX

namespace Lk
open PySem PySem.Spec PyProof.Rows L2
/-- one error class of the program: its object, its own __init__, what isinstance and reading ask -/
structure ErC (K : PySem.W.Frag) (C fI : Addr) : Prop where
  ox : OexC K C
  ini : PySem.W.findIn K (.ref C) "__init__" = some (some (.ref fI))
  tyI : PySem.W.typeIn K (.ref fI) = some (.type "function")
/-- a made error of the class at C: the object at a, its dict, its fields -/
def erAt (H : Hp) (a C : Addr) (fs : List (Str × V)) : Prop := ∃ d, H a = some (exo a C (some d)) ∧ H d = some (exd d fs)
def tXm (C : Addr) (sp : Sp) (t : TA) : TE := fun σ H Q => t σ H fun vs H1 => vs.length ≤ 1000 ∧ ∀ a, H1 a = none → sp (.ref a :: vs) (upd H1 a (exo a C none)) (fun v H2 => v = .non ∧ Q (.ref a) H2) E0
def tXk (C : Addr) (m : Nat) (sp : Sp) (gV : List V → List V → List V) (tk : TA) : TE := fun σ H Q => tk σ H fun zs H1 => zs.length = m ∧ ∀ a, H1 a = none → sp (gV [.ref a] zs) (upd H1 a (exo a C none)) (fun v H2 => v = .non ∧ Q (.ref a) H2) E0
section
variable {X : Cx} {k : Nat} {fI C : Addr} {fd : FuncData} {ps ks : List Str} {sp : Sp} {x : Str} {p pos : Pos} {e : Expr} {es : List Expr} {kws : List Keyword} {t tk : TA} {g : List Value → List Value → List Value} {gV : List V → List V → List V}
theorem run_xm {pins : List (Addr × Obj)} {σ : L2.St} {H : Hp} {s : Shared} {Q : VK} {us : List Value} {kw : List (Str × Value)} {ls : List Value} {vv : Addr → List V} (T : ErC X.K C fI)
    (F1 : FnOk X.prog X.w X.K X.mg X.base CX0 k fI fd ps sp) (hr : Room (k + 1) X.A) (I : Inv X pins σ H s) (hus : us.length ≤ sizeLine)
    (hb : ∀ s' : Shared, X.K.In s'.heap → BindsTo s' fd ⟨.ref (s.heap.objs.size + 1) :: us, kw⟩ (ps.zip ls)) (hv : Vals (vv (s.heap.objs.size + 1)) ls)
    (h : ∀ a, H a = none → sp (vv a) (upd H a (exo a C none)) (fun v H2 => v = .non ∧ Q (.ref a) H2) E0) :
    wpAny (model X.prog X.w) X.A (call (.ref C) us kw) (EP X pins σ Q) X.xe s := by
  obtain ⟨nm, q, N, bs, bm, sn, sub, ab, col, dd, k0, k1, k2, k3, k5, hC, hbm⟩ := T.ox.cls
  obtain ⟨hp, gg, dr, tk, os⟩ := s
  have nw : H (hp.objs.size + 1) = none := I.hok.fresh (Nat.le_succ _)
  have kk : ∀ b o, hp.get? b = some o → ((hp.push (PySem.W.kdv_tup us)).push (PySem.HandSPX.excO C hp.objs.size)).get? b = some o := fun b o z => Heap.get?_push_of_some _ (Heap.get?_push_of_some _ z)
  have ob : ((hp.push (PySem.W.kdv_tup us)).push (PySem.HandSPX.excO C hp.objs.size)).get? (hp.objs.size + 1) = some (PySem.HandSPX.excO C hp.objs.size) := by heap_get
  have J : Inv X pins σ (upd H (hp.objs.size + 1) (exo (hp.objs.size + 1) C none)) ⟨(hp.push (PySem.W.kdv_tup us)).push (PySem.HandSPX.excO C hp.objs.size), gg, dr, tk, os⟩ := I.laid (t' := tk) kk (Nat.le_succ _) (exo_ok ob)
  refine wpAny_call (PySem.HandSPX.call_kw F.excBase_ValueError (fun Y => PySem.HandSPX.refsVE_contains Y bm hbm) (I.kIn _ _ hC) (PySem.W.looks_findIn I.kIn T.ini) (fun self => PySem.W.bind_fn I.kIn self T.tyI) hus
    (codeAny_mono (F1.run _ X.stack _ _ _ ls _ _ E0 (hr.make C us kw) (J.env0.make C us kw) (hb _ J.kIn) hv (h _ nw)) fun r s' z => ?_))
  cases r with
  | error er => exact z.elim
  | ok fl =>
    cases fl with
    | ret u =>
      obtain ⟨v, H', I3, rv, ev, q3⟩ := J.after z
      subst ev
      exact ⟨rv, ⟨.ref (hp.objs.size + 1), H', I3, rfl, q3⟩⟩
    | next => exact z.elim
    | brk => exact z.elim
    | cont => exact z.elim
/-- C(e, ..) as a value -/
theorem pe_xm (T : ErC X.K C fI) (F1 : FnOk X.prog X.w X.K X.mg X.base CX0 k fI fd ps sp) (hr : Room (k + 1) X.A) (hb : Binds X.K fd ps []) (hm : X.mg x = some (.ref C)) (ha : PA X (e :: es) t) (hg : Gl X x := by rfl)
    (hdb : (x == ("__debug__" : Str)) = false := by decide) (he : starEach (e :: es) X.env = (false, eval e X.env) :: starEach es X.env := by rfl) (hpl : (backTo pos (starEach es X.env)).any (·.1) = false := by rfl) :
    PE X (.Call (.Name x p) (e :: es) [] pos) (tXm C sp t) := by
  refine ⟨fun pins s σ H Q I h => wpAny_Call_Name_kw (ld_glob I hg hm ?_ hdb)⟩
  refine PySem.W.callWith_K (h₀ := X.base) I.ok.mod.kin T.ox.kC (thn (ha.run pos pins s σ H _ I h) fun us s1 ⟨vs, H1, I1, r1, hz, q1⟩ => ⟨I1.kIn, ?_⟩) he hpl
  have l1 : us.length ≤ sizeLine := by
    rw [← Paired.length r1, sizeLine_eq]
    omega
  have l2 : vs.length + 1 = ps.length := F1.len _ _ _ _ (q1 _ (I1.hok.fresh (Nat.le_refl _)))
  refine run_xm (vv := fun a => .ref a :: vs) (ls := .ref (s1.heap.objs.size + 1) :: us) T F1 hr I1 l1 (fun s' ks => ?_) (.cons rfl r1) q1
  have z := hb s' (.ref (s1.heap.objs.size + 1) :: us) ks (by rw [List.append_nil, List.length_cons, ← r1.length]; exact l2)
  rw [List.append_nil] at z
  exact z
/-- C(k = e, ..) as a value -/
theorem pe_xk (T : ErC X.K C fI) (F1 : FnOk X.prog X.w X.K X.mg X.base CX0 k fI fd ps sp) (hr : Room (k + 1) X.A) (hb : KBn X.K fd ps 1 ks g gV) (hm : X.mg x = some (.ref C)) (hkw : PK X kws tk) (hg : Gl X x := by rfl)
    (hall : (backToKw pos (keywordEach kws X.env)).all (·.1.isSome) = true := by rfl) (hks : (backToKw pos (keywordEach kws X.env)).filterMap (·.1) = ks := by rfl) (hdb : (x == ("__debug__" : Str)) = false := by decide)
    (hpl : ((backTo pos (starEach [] X.env)).any (·.1) || (backToKw pos (keywordEach kws X.env)).any (·.1.isNone)) = false := by rfl) :
    PE X (.Call (.Name x p) [] kws pos) (tXk C ks.length sp gV tk) := by
  refine ⟨fun pins s σ H Q I h => wpAny_Call_Name_kw (ld_glob I hg hm ?_ hdb)⟩
  refine PySem.W.callWith_KW0 (h₀ := X.base) I.ok.mod.kin T.ox.kC hall ?_ hpl
  refine thn (hkw.run pos pins s σ H _ I h) fun ws s2 ⟨zs, H2, I2, rz, l2, q2⟩ => ⟨I2.kIn, ?_⟩
  rw [hks]
  have r1 : Vals [V.ref (s2.heap.objs.size + 1)] [Value.ref (s2.heap.objs.size + 1)] := .cons rfl .nil
  exact run_xm (vv := fun a => gV [.ref a] zs) (us := []) T F1 hr I2 (Nat.zero_le _) (fun s' kin => hb.to s' _ ws kin rfl (rz.length.symm.trans l2)) (hb.rel r1 rz) q2
/-- C(), the class has no __init__ of its own -/
theorem pe_x0 {bmB : List Value} {B newId initId : String} (F : ExcBaseFacts B newId initId bmB) (q : PySem.W.excIn X.K C bmB newId = true) (gC : X.mg x = some (.ref C)) (kC : PySem.W.keepIn X.K (.ref C) = true) (hg : Gl X x := by rfl) (hdb : (x == ("__debug__" : Str)) = false := by decide) :
    PE X (.Call (.Name x p) [] [] pos) (fun σ H Q => ∀ a, H a = none → Q (.ref a) (upd H a (ExO (.ref C) a))) := by
  refine ⟨fun pins s σ H Q I h => wpAny_Call_Name_kw (ld_glob I hg gC ?_ hdb)⟩
  refine PySem.W.callWith_K0 I.kIn kC ?_
  show wpAny _ _ (call (.ref C) []) _ _ _
  obtain ⟨bm, N, nm, qn, bs, hdct, sn, sub, ab, col, dd, k0, k1, k2, k3, k5, mN, hC, hN, hni, T⟩ := exc_obj I.kIn q
  refine wpAny_call_exc_subT F T hC hN hni (fun h' a mk => ?_) (Nat.zero_le _)
  obtain ⟨t, ht, _, _⟩ := mk.there
  have nw : H a = none := I.hok.gone mk.new
  exact ⟨.ref a, _, I.laidN mk.keeps mk.new nw (exO_ok ht ⟨rfl, rfl⟩ rfl rfl rfl (show 4 < 6 by decide)), rfl, h a nw⟩
/-- ValueError(e) -/
def VeO (a : Addr) : HO := .ext fun h => PySem.W.KitAt a "ValueError" h
theorem pe_ve (hm : X.mg "ValueError" = none) (ha : PA X (e :: es) t) (hg : Gl X "ValueError" := by rfl)
    (he : starEach (e :: es) X.env = (false, eval e X.env) :: starEach es X.env := by rfl) (hpl : (backTo pos (starEach es X.env)).any (·.1) = false := by rfl) :
    PE X (.Call (.Name "ValueError" p) (e :: es) [] pos) (fun σ H Q => t σ H fun vs H1 => vs.length ≤ 1000 ∧ ∀ a, H1 a = none → Q (.ref a) (upd H1 a (VeO a))) := by
  refine ⟨fun pins s σ H Q I h => wpAny_Call_Name_kw (ld_blt I hg hm (u := .type "ValueError") (by decide +kernel) ?_)⟩
  refine PyProof.Rows.callWith_type1 (thn (ha.run pos pins s σ H _ I h) fun us s1 ⟨vs, H1, I1, r1, hz, q1⟩ => ?_) he hpl
  have l1 : us.length ≤ sizeLine := by
    rw [← Paired.length r1, sizeLine_eq]
    omega
  obtain ⟨hp, gg, dr, tk, os⟩ := s1
  refine wpAny_call_exc PySem.F.excCall_ValueError (fun h' a mk => ?_) l1
  obtain ⟨t0, ht, _, _⟩ := (PySem.Heap.MadeExc.of mk).there
  have nw : H1 a = none := I1.hok.gone mk.new
  refine ⟨.ref a, _, I1.laidN mk.keeps mk.new nw (o := VeO a) ⟨⟨_, ht, rfl⟩, ⟨_, ht⟩, fun h1 h2 ⟨o, z1, z2⟩ kp => ⟨o, kp o z1, z2⟩⟩, rfl, q1 a nw⟩
end
/-! ### what is asked of made errors -/
/-- an error that stands: its class, with a dict of its own or without -/
inductive ErV (H : Hp) : V → Addr → Prop where
  | d {a C d : Addr} {fs : List (Str × V)} (h : H a = some (exo a C (some d))) (h2 : H d = some (exd d fs)) : ErV H (.ref a) C
  | n {a C : Addr} (h : H a = some (ExO (.ref C) a)) : ErV H (.ref a) C
/-- what the class must say, so that isinstance asks its errors rightly -/
structure EkC (K : PySem.W.Frag) (C : Addr) : Prop where
  cl : (PySem.W.clsIn K C).isSome = true
  ga : PySem.W.findIn K (.ref C) "__getattribute__" = some (some (.builtin "BaseException.__getattribute__"))
  gt : PySem.W.findIn K (.ref C) "__getattr__" = some none
  su : PySem.W.subIn K (.ref C) (.type "BaseException") = some true
  ca : PySem.W.findIn K (.ref C) "__class__" = some (some (.builtin "object.__class__"))
  sp : PySem.W.specialIn K (.builtin "object.__class__") "__get__" = some (some (.builtin "getset_descriptor.__get__"))
  tk : PySem.W.takesIn K (.builtin "object.__class__") = some true
  mo : PySem.W.mroIn K C (.type "object") = some true
def rIsX (K : PySem.W.Frag) : List V → Hp → VK → Prop := fun xs H Q => ∃ (x c : V) (D : Addr) (cv : Value) (b : Bool), xs = [x, c] ∧ ErV H x D ∧ EkC K D ∧ ClsV c cv ∧ PySem.W.kitOne K (.ref D) cv = some b ∧ Q (.bl b) H
theorem call_isX {X : Cx} : CallR X (.builtin "isinstance") (rIsX X.K) := by
  intro pins s σ H xs us Q I r h
  obtain ⟨x, c, D, cv, b, rfl, hx, T, hc, e, q⟩ := h
  cases r with
  | cons r1 rr =>
    cases rr with
    | cons r2 rr =>
      cases rr
      have ec := hc.eq r2
      subst ec
      cases hx with
      | d h h2 =>
        cases r1
        obtain ⟨t1, g1⟩ := exo_at I.hok h
        obtain ⟨mA, ⟨od, es, ep, g2, _⟩, _⟩ := exd_at I.hok h2
        have J : PySem.W.InstAt s.heap _ _ D (some od) := ⟨g1, rfl, rfl, g2⟩
        exact PySem.W.kia_one (PySem.W.kitx_exc T.cl T.ga T.gt T.su T.ca T.sp T.tk T.mo) I.kIn J e (fun z => nomatch z) fun tk => ⟨.bl b, H, I.kept (t' := tk) fun _ _ z => z, rfl, q⟩
      | n h =>
        cases r1
        rename_i a0
        obtain ⟨⟨oe, vs, g1, hz, hd, _⟩, _, _⟩ := I.hok _ _ h
        have J : PySem.W.InstAt s.heap a0 oe D none := by
          obtain ⟨oc, od, oda, osl⟩ := oe
          obtain ⟨z1, z2⟩ := hz
          dsimp only at z1 z2 hd
          subst z1 z2 hd
          exact ⟨g1, rfl, rfl, trivial⟩
        exact PySem.W.kia_one (PySem.W.kitx_exc T.cl T.ga T.gt T.su T.ca T.sp T.tk T.mo) I.kIn J e (fun z => nomatch z) fun tk => ⟨.bl b, H, I.kept (t' := tk) fun _ _ z => z, rfl, q⟩
def rIsVe (K : PySem.W.Frag) : List V → Hp → VK → Prop := fun xs H Q => ∃ (a : Addr) (c : V) (cv : Value) (b : Bool), xs = [.ref a, c] ∧ H a = some (VeO a) ∧ ClsV c cv ∧ PySem.W.kitOne K (.type "ValueError") cv = some b ∧ Q (.bl b) H
theorem call_isVe {X : Cx} : CallR X (.builtin "isinstance") (rIsVe X.K) := by
  intro pins s σ H xs us Q I r h
  obtain ⟨a, c, cv, b, rfl, hx, hc, e, q⟩ := h
  cases r with
  | cons r1 rr =>
    cases rr with
    | cons r2 rr =>
      cases rr
      have ec := hc.eq r2
      subst ec
      cases r1
      obtain ⟨p, _, _⟩ := I.hok _ _ hx
      exact PySem.W.kia_one (PySem.W.kitx_bexc PySem.F.excAttr_ValueError PySem.F.lkClass_ValueError PySem.F.soClass_ValueError (by decide)) I.kIn p e (fun z => nomatch z) fun tk => ⟨.bl b, H, I.kept (t' := tk) fun _ _ z => z, rfl, q⟩
/-- e.f of a made error -/
structure EfC (K : PySem.W.Frag) (C : Addr) (f : Str) : Prop where
  k : EkC K C
  hd : PySem.W.hasDictIn K C = true
  no : PySem.W.findIn K (.ref C) f = some none
def tEf (K : PySem.W.Frag) (f : Str) (te : TE) : TE := fun σ H Q => te σ H fun x H1 => ∃ (a C d : Addr) (fs : List (Str × V)) (v : V), x = .ref a ∧ H1 a = some (exo a C (some d)) ∧ H1 d = some (exd d fs) ∧ EfC K C f ∧ fs.lookup f = some v ∧ Q v H1
theorem pe_ef {X : Cx} {e : Expr} {te : TE} {f : Str} {pos : Pos} (he : PE X e te) (hb : attributeBase e f X.env (eval e X.env) = eval e X.env := by rfl) : PE X (.Attribute e f pos) (tEf X.K f te) := by
  refine ⟨fun pins s σ H Q I h => attr_of hb (thn (he.run pins s σ H _ I h) fun u s1 ⟨x, H1, I1, rx, a, C, d, fs, v, ex, h1, h2, T, l, q⟩ => ?_)⟩
  subst ex
  obtain rfl : u = Value.ref a := rx
  obtain ⟨t1, g1⟩ := exo_at I1.hok h1
  obtain ⟨mA, hns, hrel⟩ := exd_at I1.hok h2
  obtain ⟨od, ho, hl⟩ := lookIn_ns hns
  obtain ⟨u, hu, ru⟩ := RelO.some_of (v := v) (o := mA f) (by rw [← l]; exact hrel f)
  have J : PySem.W.InstAt s1.heap a _ C (some od) := ⟨g1, rfl, rfl, ho⟩
  exact HandSPX.exc_get I1.kIn J T.k.ga T.k.gt T.k.su (PySem.W.findObj_own T.hd T.no rfl (by rw [hl, hu])) (handed_of ru) ⟨v, H1, I1.tok _, ru, q⟩
end Lk

namespace Lk
open PySem PySem.Spec PyProof.Rows L2
/-! ### the promises of __init__: one, two, three fields -/
def spI1 (C : Addr) (f : Str) : Sp := fun vs H Q _ => ∃ (a : Addr) (x : V), vs = [.ref a, x] ∧ H a = some (exo a C none) ∧
  ∀ (d : Addr) (H' : Hp), H d = none → d ≠ a → H' a = some (exo a C (some d)) → H' d = some (exd d [(f, x)]) → (∀ b, b ≠ a → b ≠ d → H' b = H b) → Q .non H'
def spI2 (C : Addr) (f g : Str) : Sp := fun vs H Q _ => ∃ (a : Addr) (x y : V), vs = [.ref a, x, y] ∧ H a = some (exo a C none) ∧
  ∀ (d : Addr) (H' : Hp), H d = none → d ≠ a → H' a = some (exo a C (some d)) → H' d = some (exd d [(g, y), (f, x)]) → (∀ b, b ≠ a → b ≠ d → H' b = H b) → Q .non H'
def spI3 (C : Addr) (f g h : Str) : Sp := fun vs H Q _ => ∃ (a : Addr) (x y z : V), vs = [.ref a, x, y, z] ∧ H a = some (exo a C none) ∧
  ∀ (d : Addr) (H' : Hp), H d = none → d ≠ a → H' a = some (exo a C (some d)) → H' d = some (exd d [(h, z), (g, y), (f, x)]) → (∀ b, b ≠ a → b ≠ d → H' b = H b) → Q .non H'
/-- the reading of the first store, of a later one -/
theorem st0 {K : PySem.W.Frag} {C a : Addr} {f : Str} {i j : Nat} {x : V} {D : Ends} {σ : L2.St} {H : Hp} (T : OexC K C) (n : PySem.W.findIn K (.ref C) f = some none) (hi : σ[i]? = some (some (.ref a))) (hj : σ[j]? = some (some x)) (ha : H a = some (exo a C none))
    (q : ∀ d, H d = none → d ≠ a → D.nx σ (upd (upd H d (exd d [(f, x)])) a (exo a C (some d)))) : tOst K f (tVar i) (tVar j) D σ H :=
  ⟨x, hj, .ref a, hi, a, C, rfl, T, n, .inl ⟨ha, q⟩⟩
theorem st1 {K : PySem.W.Frag} {C a d : Addr} {f : Str} {i j : Nat} {x : V} {fs : List (Str × V)} {D : Ends} {σ : L2.St} {H : Hp} (T : OexC K C) (n : PySem.W.findIn K (.ref C) f = some none) (hi : σ[i]? = some (some (.ref a))) (hj : σ[j]? = some (some x)) (ha : H a = some (exo a C (some d)))
    (hd : H d = some (exd d fs)) (hl : fs.length ≤ 900) (q : D.nx σ (upd H d (exd d ((f, x) :: fs)))) : tOst K f (tVar i) (tVar j) D σ H :=
  ⟨x, hj, .ref a, hi, a, C, rfl, T, n, .inr ⟨d, fs, ha, hd, hl, q⟩⟩
section
variable {K : PySem.W.Frag} {C a : Addr} {f g h : Str} {i1 i2 i3 : Nat} {x y z : V} {D : Ends} {σ : L2.St} {H : Hp}
theorem rd1 (T : OexC K C) (n : PySem.W.findIn K (.ref C) f = some none) (h0 : σ[0]? = some (some (.ref a))) (h1 : σ[1]? = some (some x)) (ha : H a = some (exo a C none))
    (k : ∀ (d : Addr) (H' : Hp), H d = none → d ≠ a → H' a = some (exo a C (some d)) → H' d = some (exd d [(f, x)]) → (∀ b, b ≠ a → b ≠ d → H' b = H b) → D.nx σ H') : tOst K f (tVar 0) (tVar 1) D σ H := by
  refine st0 T n h0 h1 ha fun d hd hne => k d _ hd hne upd_same (by rw [upd_ne hne, upd_same]) fun b n1 n2 => by rw [upd_ne n1, upd_ne n2]
theorem rd2 (T : OexC K C) (n : PySem.W.findIn K (.ref C) f = some none) (m : PySem.W.findIn K (.ref C) g = some none) (h0 : σ[0]? = some (some (.ref a))) (h1 : σ[1]? = some (some x)) (h2 : σ[2]? = some (some y)) (ha : H a = some (exo a C none))
    (k : ∀ (d : Addr) (H' : Hp), H d = none → d ≠ a → H' a = some (exo a C (some d)) → H' d = some (exd d [(g, y), (f, x)]) → (∀ b, b ≠ a → b ≠ d → H' b = H b) → D.nx σ H') :
    tSeq (tOst K f (tVar 0) (tVar 1)) (tOst K g (tVar 0) (tVar 2)) D σ H := by
  refine rd1 T n h0 h1 ha fun d H' hd hne e1 e2 e3 => ?_
  refine st1 T m h0 h2 e1 e2 (by show 1 ≤ 900; decide) (k d _ hd hne (by rw [upd_ne (Ne.symm hne)]; exact e1) upd_same fun b n1 n2 => by rw [upd_ne n2]; exact e3 b n1 n2)
theorem rd3 (T : OexC K C) (n : PySem.W.findIn K (.ref C) f = some none) (m : PySem.W.findIn K (.ref C) g = some none) (o : PySem.W.findIn K (.ref C) h = some none) (h0 : σ[0]? = some (some (.ref a))) (h1 : σ[1]? = some (some x)) (h2 : σ[2]? = some (some y)) (h3 : σ[3]? = some (some z)) (ha : H a = some (exo a C none))
    (k : ∀ (d : Addr) (H' : Hp), H d = none → d ≠ a → H' a = some (exo a C (some d)) → H' d = some (exd d [(h, z), (g, y), (f, x)]) → (∀ b, b ≠ a → b ≠ d → H' b = H b) → D.nx σ H') :
    tSeq (tOst K f (tVar 0) (tVar 1)) (tSeq (tOst K g (tVar 0) (tVar 2)) (tOst K h (tVar 0) (tVar 3))) D σ H := by
  refine rd2 T n m h0 h1 h2 ha fun d H' hd hne e1 e2 e3 => ?_
  refine st1 T o h0 h3 e1 e2 (by show 2 ≤ 900; decide) (k d _ hd hne (by rw [upd_ne (Ne.symm hne)]; exact e1) upd_same fun b n1 n2 => by rw [upd_ne n2]; exact e3 b n1 n2)
end
/-! ### keywords handed in the other way round -/
theorem vals_rev : ∀ {vs : List V} {us : List Value}, Vals vs us → Vals vs.reverse us.reverse
  | _, _, .nil => .nil
  | _, _, .cons r t => by
    rw [List.reverse_cons, List.reverse_cons]
    exact (vals_rev t).append (.cons r .nil)
theorem kb_rev {K : PySem.W.Frag} {fd : FuncData} {ps ks : List Str} (h : ∀ us ws : List Value, us.length = 1 → ws.length = ks.length → bindArgs fd ⟨us, ks.zip ws⟩ = pure (ps.zip (us ++ ws.reverse))) :
    KBn K fd ps 1 ks (fun us ws => us ++ ws.reverse) (fun us ws => us ++ ws.reverse) :=
  ⟨fun s us ws _ h1 h2 => .of_eq (h us ws h1 h2), fun r1 r2 => r1.append (vals_rev r2)⟩
/-! ### an error class as the top has left it -/
structure ErK (K : PySem.W.Frag) (mg : Str → Option Value) (x : Str) (C B : Addr) : Prop where
  g : mg x = some (.ref C)
  ob : ∃ nm q N bs sn sub ab col dd k0 k1 k2 k3 k5, K.lookup C = some (excClassObj nm q C N bs [.ref B, .type "ValueError", .type "Exception", .type "BaseException", .type "object"] true sn sub ab col dd k0 k1 k2 k3 k5 "ValueError.__new__")
  sa : PySem.W.findIn K (.ref C) "__setattr__" = some (some (.builtin "object.__setattr__"))
  ty : PySem.W.typeIn K (.ref C) = some (.type "type")
  kp : PySem.W.keepIn K (.ref C) = true
  ek : EkC K C
theorem ErK.ox {K : PySem.W.Frag} {mg : Str → Option Value} {x : Str} {C B : Addr} (E : ErK K mg x C B) : OexC K C := by
  obtain ⟨nm, q, N, bs, sn, sub, ab, col, dd, k0, k1, k2, k3, k5, h⟩ := E.ob
  exact ⟨⟨nm, q, N, bs, _, sn, sub, ab, col, dd, k0, k1, k2, k3, k5, h, rfl⟩, E.sa, E.ek.su, E.ty, E.kp⟩
theorem erk_cls {K : PySem.W.Frag} {mg : Str → Option Value} {x : Str} {C B : Addr} (E : ErK K mg x C B) : ∃ cd, PySem.W.clsIn K C = some cd ∧ cd.mro = [.ref C, .ref B, .type "ValueError", .type "Exception", .type "BaseException", .type "object"] := by
  obtain ⟨nm, q, N, bs, sn, sub, ab, col, dd, k0, k1, k2, k3, k5, h⟩ := E.ob
  refine ⟨_, by unfold PySem.W.clsIn; rw [h], rfl⟩
theorem rne {a b : Addr} (h : a ≠ b) : (Value.ref a == Value.ref b) = false := beq_eq_false_iff_ne.mpr fun z => h (Value.ref.inj z)
theorem rty {a : Addr} {n : String} : (Value.ref a == Value.type n) = false := beq_eq_false_iff_ne.mpr fun z => by cases z
/-- isinstance of an error of the class D, asked of another of these classes -/
theorem kit_er {K : PySem.W.Frag} {mg : Str → Option Value} {x y : Str} {C D B : Addr} (E : ErK K mg x D B) (F : ErK K mg y C B) (hn : C ≠ B) : PySem.W.kitOne K (.ref D) (.ref C) = some (decide (D = C)) := by
  obtain ⟨cd, e1, e2⟩ := erk_cls E
  obtain ⟨cd', e3, _⟩ := erk_cls F
  unfold PySem.W.kitOne
  by_cases h : D = C
  · subst h
    rw [if_pos (by simp), decide_eq_true rfl]
  · have h1 : ¬ ((Value.ref D == Value.ref C) = true) := fun z => h (Value.ref.inj (beq_iff_eq.mp z))
    rw [if_neg h1, decide_eq_false h]
    unfold PySem.W.kitCls
    have h2 : ((PySem.W.clsIn K C).isSome && PySem.W.typeIn K (.ref C) == some (.type "type")) = true := by rw [e3, F.ty]; rfl
    simp only []
    rw [if_pos h2]
    show PySem.W.mroIn K D (.ref C) = some false
    unfold PySem.W.mroIn
    rw [e1, Option.bind_some, e2]
    have h3 : ¬ C = D := fun z => h z.symm
    simp [List.contains, List.elem, rne h3, rne hn, rty]
theorem kit_ve {K : PySem.W.Frag} {mg : Str → Option Value} {x : Str} {D B : Addr} (E : ErK K mg x D B) : PySem.W.kitOne K (.ref D) (.type "ValueError") = some true := by
  obtain ⟨cd, e1, e2⟩ := erk_cls E
  unfold PySem.W.kitOne
  rw [if_neg (by intro z; cases beq_iff_eq.mp z)]
  unfold PySem.W.kitCls
  simp only []
  rw [if_pos (by decide +kernel)]
  show PySem.W.mroIn K D _ = some true
  unfold PySem.W.mroIn
  rw [e1, Option.bind_some, e2]
  rfl
/-- asked of their base -/
theorem kit_base {K : PySem.W.Frag} {mg : Str → Option Value} {x : Str} {D B : Addr} (E : ErK K mg x D B) (h1 : (PySem.W.clsIn K B).isSome = true) (h2 : PySem.W.typeIn K (.ref B) = some (.type "type")) (hn : D ≠ B) : PySem.W.kitOne K (.ref D) (.ref B) = some true := by
  obtain ⟨cd, e1, e2⟩ := erk_cls E
  unfold PySem.W.kitOne
  rw [if_neg (fun z => hn (Value.ref.inj (beq_iff_eq.mp z)))]
  unfold PySem.W.kitCls
  simp only []
  rw [if_pos (by rw [h1, h2]; rfl)]
  show PySem.W.mroIn K D _ = some true
  unfold PySem.W.mroIn
  rw [e1, Option.bind_some, e2]
  simp [List.contains, List.elem]
  cases Value.ref B == Value.ref D <;> rfl
theorem kit_veB {K : PySem.W.Frag} {B : Addr} (h1 : (PySem.W.clsIn K B).isSome = true) (h2 : PySem.W.typeIn K (.ref B) = some (.type "type")) : PySem.W.kitOne K (.type "ValueError") (.ref B) = some false := by
  unfold PySem.W.kitOne
  rw [if_neg (by intro z; cases beq_iff_eq.mp z)]
  unfold PySem.W.kitCls
  simp only []
  rw [if_pos (by rw [h1, h2]; rfl)]
  show (PySem.fastBuiltinMro "ValueError").map _ = some false
  have e : ∃ l, PySem.fastBuiltinMro "ValueError" = some l ∧ l = [.type "ValueError", .type "Exception", .type "BaseException", .type "object"] := ⟨_, by decide +kernel, rfl⟩
  obtain ⟨l, e, rfl⟩ := e
  rw [e]
  simp [List.contains, List.elem, rty]
end Lk

namespace Lk
open PySem PySem.Spec PyProof.Rows L2
theorem lkA {f : Str} {v : V} {r : List (Str × V)} : List.lookup f ((f, v) :: r) = some v := by simp [List.lookup]
theorem lkB {f g : Str} {v w : V} {r : List (Str × V)} (h : ¬ f = g) (t : List.lookup f r = some v) : List.lookup f ((g, w) :: r) = some v := by
  have e : (f == g) = false := by simpa using h
  simp [List.lookup, e, t]
theorem same_new {H : Hp} {p : Addr} {o : HO} (h : H p = none) : Same H (upd H p o) := fun b u e => by
  rw [upd_ne (ne_of_none e h)]
  exact e
theorem erv_same {H H' : Hp} {x : V} {C : Addr} (s : Same H H') (h : ErV H x C) : ErV H' x C := by
  cases h with
  | d h h2 => exact .d (s _ _ h) (s _ _ h2)
  | n h => exact .n (s _ _ h)
theorem erat_same {H H' : Hp} {a C : Addr} {fs : List (Str × V)} (s : Same H H') (h : erAt H a C fs) : erAt H' a C fs := by
  obtain ⟨d, h1, h2⟩ := h
  exact ⟨d, s _ _ h1, s _ _ h2⟩
/-! ### a value, a list of values, that leaves the heap as it is -/
def Pv (te : TE) (σ : L2.St) (H : Hp) (v : V) : Prop := ∀ H', Same H H' → ∀ Q : VK, Q v H' → te σ H' Q
def Pl (ta : TA) (σ : L2.St) (H : Hp) (vs : List V) : Prop := ∀ H', Same H H' → ∀ Q : List V → Hp → Prop, Q vs H' → ta σ H' Q
section
variable {σ : L2.St} {H : Hp} {te ta tb : TE} {tl : TA} {v : V} {vs us : List V} {i : Nat} {D : Ends} {p : Addr}
theorem pv_var (h : σ[i]? = some (some v)) : Pv (tVar i) σ H v := fun _ _ _ q => ⟨v, h, q⟩
theorem pv_c : Pv (tC v) σ H v := fun _ _ _ q => q
theorem pv_neg {n : Int} (h : Pv te σ H (.int n)) : Pv (tUn (rU fun i => .int (-i)) te) σ H (.int (-n)) := fun H' s Q q => h H' s _ ⟨n, rfl, q⟩
theorem pl_nil : Pl tNil σ H [] := fun _ _ _ q => q
theorem pl_cons (h : Pv te σ H v) (t : Pl tl σ H vs) : Pl (tCons te tl) σ H (v :: vs) := fun H' s Q q => h H' s _ (t H' s _ q)
theorem pv_isx {K : PySem.W.Frag} {x c : V} {D : Addr} {cv : Value} {b : Bool} (ha : Pv ta σ H x) (hb : Pv tb σ H c) (hx : ErV H x D) (hk : EkC K D) (hc : ClsV c cv) (e : PySem.W.kitOne K (.ref D) cv = some b) : Pv (tCB (rIsX K) (tCons ta (tCons tb tNil))) σ H (.bl b) := fun H' s Q q =>
  ha H' s _ (hb H' s _ ⟨x, c, D, cv, b, rfl, erv_same s hx, hk, hc, e, q⟩)
/-- x = [..]; x = x + [..] -/
theorem as_new (h : Pl tl σ H vs) (hl : vs.length ≤ 1000) (q : ∀ p H', Same H H' → H p = none → H' p = some (.lst vs) → D.nx (σ.set i (some (.ref p))) H') : tAsg (tLst tl) (gName i) D σ H :=
  h H (Same.refl H) _ ⟨Nat.le_of_lt (small1000 hl), fun p hp => q p _ (same_new hp) hp upd_same⟩
theorem as_cat (hi : σ[i]? = some (some (.ref p))) (hp : H p = some (.lst us)) (h : Pl tl σ H vs) (hl : us.length + vs.length ≤ 1000)
    (q : ∀ r H', Same H H' → H r = none → H' r = some (.lst (us ++ vs)) → D.nx (σ.set i (some (.ref r))) H') : tAsg (tOp rCat (tVar i) (tLst tl)) (gName i) D σ H := by
  refine ⟨_, hi, h H (Same.refl H) _ ⟨Nat.le_of_lt (small1000 (by omega)), fun b hb => ?_⟩⟩
  have s1 : Same H (upd H b (.lst vs)) := same_new hb
  refine ⟨p, b, us, vs, rfl, rfl, s1 _ _ hp, upd_same, Nat.le_of_lt (small1000 hl), fun r hr => q r _ (s1.trans (same_new hr)) (s1.free hr) upd_same⟩
end
section
variable {σ : L2.St} {H : Hp} {tl : TA} {vs us : List V} {i : Nat} {D : Ends} {p : Addr} {u : TS}
theorem ss_new (h : Pl tl σ H vs) (hl : vs.length ≤ 1000) (q : ∀ p H', Same H H' → H p = none → H' p = some (.lst vs) → u D (σ.set i (some (.ref p))) H') : tSeq (tAsg (tLst tl) (gName i)) u D σ H := as_new h hl q
theorem ss_cat (hi : σ[i]? = some (some (.ref p))) (hp : H p = some (.lst us)) (h : Pl tl σ H vs) (hl : us.length + vs.length ≤ 1000)
    (q : ∀ r H', Same H H' → H r = none → H' r = some (.lst (us ++ vs)) → u D (σ.set i (some (.ref r))) H') : tSeq (tAsg (tOp rCat (tVar i) (tLst tl)) (gName i)) u D σ H := as_cat hi hp h hl q
end
/-! ### errors that are made -/
def Mds (H : Hp) : List Addr → List (Addr × List (Str × V)) → Prop
  | [], [] => True
  | a :: as, r :: rs => erAt H a r.1 r.2 ∧ Mds H as rs
  | _, _ => False
theorem Mds.same {H H' : Hp} (s : Same H H') : ∀ {as : List Addr} {rs : List (Addr × List (Str × V))}, Mds H as rs → Mds H' as rs
  | [], [], _ => trivial
  | _ :: _, _ :: _, h => ⟨erat_same s h.1, Mds.same s h.2⟩
  | [], _ :: _, h => h.elim
  | _ :: _, [], h => h.elim
theorem Mds.append {H : Hp} : ∀ {as bs : List Addr} {rs qs : List (Addr × List (Str × V))}, Mds H as rs → Mds H bs qs → Mds H (as ++ bs) (rs ++ qs)
  | [], _, [], _, _, k => k
  | _ :: _, _, _ :: _, _, h, k => ⟨h.1, Mds.append h.2 k⟩
  | [], _, _ :: _, _, h, _ => h.elim
  | _ :: _, _, [], _, h, _ => h.elim
theorem Mds.len {H : Hp} : ∀ {as : List Addr} {rs : List (Addr × List (Str × V))}, Mds H as rs → as.length = rs.length
  | [], [], _ => rfl
  | _ :: _, _ :: _, h => congrArg Nat.succ (Mds.len h.2)
  | [], _ :: _, h => h.elim
  | _ :: _, [], h => h.elim
theorem Mds.at {H : Hp} : ∀ {as : List Addr} {rs : List (Addr × List (Str × V))} {i : Nat} {r : Addr × List (Str × V)}, Mds H as rs → rs[i]? = some r → ∃ a, as[i]? = some a ∧ erAt H a r.1 r.2
  | [], [], _, _, _, e => by simp at e
  | a :: _, _ :: _, 0, _, h, e => by
    simp at e
    subst e
    exact ⟨a, rfl, h.1⟩
  | _ :: as, _ :: rs, i + 1, _, h, e => by
    obtain ⟨a, e1, e2⟩ := Mds.at (as := as) (rs := rs) (i := i) h.2 (by simpa using e)
    exact ⟨a, by simpa using e1, e2⟩
  | [], _ :: _, _, _, h, _ => h.elim
  | _ :: _, [], _, _, h, _ => h.elim
def Mk1 (te : TE) (σ : L2.St) (C : Addr) (fs : List (Str × V)) : Prop := ∀ (H : Hp) (Q : VK), (∀ a H', Same H H' → erAt H' a C fs → Q (.ref a) H') → te σ H Q
def MkL (ta : TA) (σ : L2.St) (rs : List (Addr × List (Str × V))) : Prop := ∀ (H : Hp) (Q : List V → Hp → Prop), (∀ as H', Same H H' → Mds H' as rs → Q (as.map V.ref) H') → ta σ H Q
section
variable {σ : L2.St} {H : Hp} {te : TE} {tl : TA} {C : Addr} {fs : List (Str × V)} {rs qs : List (Addr × List (Str × V))} {i : Nat} {D : Ends} {p : Addr} {as : List Addr}
theorem mkl_nil : MkL tNil σ [] := fun H Q q => q [] H (Same.refl H) trivial
theorem mkl_cons (h : Mk1 te σ C fs) (t : MkL tl σ rs) : MkL (tCons te tl) σ ((C, fs) :: rs) := fun H Q q =>
  h H _ fun a H1 s1 e1 => t H1 _ fun as H2 s2 e2 => q (a :: as) H2 (s1.trans s2) ⟨erat_same s2 e1, e2⟩
theorem er_made {H H' : Hp} {a d : Addr} (ha : H a = none) (hd : upd H a (exo a C none) d = none) (hne : d ≠ a) (e3 : ∀ b, b ≠ a → b ≠ d → H' b = upd H a (exo a C none) b) : Same H H' := fun b o e => by
  have n1 : b ≠ a := ne_of_none e ha
  have n2 : b ≠ d := fun z => by
    rw [z] at e
    rw [upd_ne hne, e] at hd
    cases hd
  rw [e3 b n1 n2, upd_ne n1]
  exact e
theorem mk1 {f : Str} {x : V} {t : TA} (h : ∀ H, Pl t σ H [x]) : Mk1 (tXm C (spI1 C f) t) σ C [(f, x)] := fun H Q q => h H H (Same.refl H) _ ⟨by simp, fun a ha =>
  ⟨a, x, rfl, upd_same, fun d H' hd hne e1 e2 e3 => ⟨rfl, q a H' (er_made ha hd hne e3) ⟨d, e1, e2⟩⟩⟩⟩
theorem mk2 {f g : Str} {x y : V} {t : TA} (h : ∀ H, Pl t σ H [x, y]) : Mk1 (tXm C (spI2 C f g) t) σ C [(g, y), (f, x)] := fun H Q q => h H H (Same.refl H) _ ⟨by simp, fun a ha =>
  ⟨a, x, y, rfl, upd_same, fun d H' hd hne e1 e2 e3 => ⟨rfl, q a H' (er_made ha hd hne e3) ⟨d, e1, e2⟩⟩⟩⟩
theorem mk3 {f g l : Str} {x y z : V} {t : TA} (h : ∀ H, Pl t σ H [x, y, z]) : Mk1 (tXm C (spI3 C f g l) t) σ C [(l, z), (g, y), (f, x)] := fun H Q q => h H H (Same.refl H) _ ⟨by simp, fun a ha =>
  ⟨a, x, y, z, rfl, upd_same, fun d H' hd hne e1 e2 e3 => ⟨rfl, q a H' (er_made ha hd hne e3) ⟨d, e1, e2⟩⟩⟩⟩
theorem mk1k {f : Str} {x : V} {t : TA} (h : ∀ H, Pl t σ H [x]) : Mk1 (tXk C 1 (spI1 C f) (fun us ws => us ++ ws.reverse) t) σ C [(f, x)] := fun H Q q => h H H (Same.refl H) _ ⟨rfl, fun a ha =>
  ⟨a, x, rfl, upd_same, fun d H' hd hne e1 e2 e3 => ⟨rfl, q a H' (er_made ha hd hne e3) ⟨d, e1, e2⟩⟩⟩⟩
theorem mk2k {f g : Str} {x y : V} {t : TA} (h : ∀ H, Pl t σ H [y, x]) : Mk1 (tXk C 2 (spI2 C f g) (fun us ws => us ++ ws.reverse) t) σ C [(g, y), (f, x)] := fun H Q q => h H H (Same.refl H) _ ⟨rfl, fun a ha =>
  ⟨a, x, y, rfl, upd_same, fun d H' hd hne e1 e2 e3 => ⟨rfl, q a H' (er_made ha hd hne e3) ⟨d, e1, e2⟩⟩⟩⟩
theorem mk3k {f g l : Str} {x y z : V} {t : TA} (h : ∀ H, Pl t σ H [z, y, x]) : Mk1 (tXk C 3 (spI3 C f g l) (fun us ws => us ++ ws.reverse) t) σ C [(l, z), (g, y), (f, x)] := fun H Q q => h H H (Same.refl H) _ ⟨rfl, fun a ha =>
  ⟨a, x, y, z, rfl, upd_same, fun d H' hd hne e1 e2 e3 => ⟨rfl, q a H' (er_made ha hd hne e3) ⟨d, e1, e2⟩⟩⟩⟩
theorem as_mk (h : MkL tl σ rs) (hl : rs.length ≤ 1000) (q : ∀ p as H', Same H H' → H' p = some (.lst (as.map V.ref)) → Mds H' as rs → D.nx (σ.set i (some (.ref p))) H') : tAsg (tLst tl) (gName i) D σ H := by
  refine h H _ fun as H1 s1 e1 => ⟨Nat.le_of_lt (small1000 (by rw [List.length_map, e1.len]; exact hl)), fun p hp => ?_⟩
  exact q p as _ (s1.trans (same_new hp)) upd_same (e1.same (same_new hp))
theorem as_mkcat (hi : σ[i]? = some (some (.ref p))) (hp : H p = some (.lst (as.map V.ref))) (hm : Mds H as rs) (h : MkL tl σ qs) (hl : rs.length + qs.length ≤ 1000)
    (q : ∀ r bs H', Same H H' → H' r = some (.lst (bs.map V.ref)) → Mds H' bs (rs ++ qs) → D.nx (σ.set i (some (.ref r))) H') : tAsg (tOp rCat (tVar i) (tLst tl)) (gName i) D σ H := by
  refine ⟨_, hi, h H _ fun bs H1 s1 e1 => ⟨Nat.le_of_lt (small1000 (by rw [List.length_map, e1.len]; omega)), fun b hb => ?_⟩⟩
  have s2 : Same H1 (upd H1 b (.lst (bs.map V.ref))) := same_new hb
  refine ⟨p, b, as.map V.ref, bs.map V.ref, rfl, rfl, s2 _ _ (s1 _ _ hp), upd_same, Nat.le_of_lt (small1000 (by rw [List.length_map, List.length_map, hm.len, e1.len]; exact hl)), fun r hr => ?_⟩
  have s3 := (s1.trans s2).trans (same_new (o := .lst (as.map V.ref ++ bs.map V.ref)) hr)
  refine q r (as ++ bs) _ s3 (by rw [upd_same, List.map_append]) ((hm.same s3).append (e1.same (s2.trans (same_new hr))))
theorem ss_mk {u : TS} (h : MkL tl σ rs) (hl : rs.length ≤ 1000) (q : ∀ p as H', Same H H' → H' p = some (.lst (as.map V.ref)) → Mds H' as rs → u D (σ.set i (some (.ref p))) H') : tSeq (tAsg (tLst tl) (gName i)) u D σ H := as_mk h hl q
theorem ss_mkcat {u : TS} (hi : σ[i]? = some (some (.ref p))) (hp : H p = some (.lst (as.map V.ref))) (hm : Mds H as rs) (h : MkL tl σ qs) (hl : rs.length + qs.length ≤ 1000)
    (q : ∀ r bs H', Same H H' → H' r = some (.lst (bs.map V.ref)) → Mds H' bs (rs ++ qs) → u D (σ.set i (some (.ref r))) H') : tSeq (tAsg (tOp rCat (tVar i) (tLst tl)) (gName i)) u D σ H := as_mkcat hi hp hm h hl q
/-- e.f of the i-th -/
theorem pv_ef {K : PySem.W.Frag} {f : Str} {l : Addr} {j n : Nat} {v : V} (hi : σ[j]? = some (some (.ref l))) (hl : SqL K H l (as.map V.ref)) (hm : Mds H as rs) (hr : rs[n]? = some (C, fs)) (T : EfC K C f) (hf : fs.lookup f = some v) : Pv (tEf K f (tOp (rIxL K) (tVar j) (tC (.int (n : Nat))))) σ H v := fun H' s Q q => by
  obtain ⟨a, e1, d, h1, h2⟩ := hm.at hr
  refine ⟨_, hi, l, as.map V.ref, _, .ref a, rfl, rfl, s.seq hl, atI_nat (by rw [List.getElem?_map, e1]; rfl), a, C, d, fs, v, rfl, s _ _ h1, s _ _ h2, T, hf, q⟩
end
end Lk

namespace Lk
open PySem PySem.Spec PyProof.Rows L2
section
variable {K : PySem.W.Frag} {tl : TE} {ta : TA} {g : TG} {tb : TS} {D : Ends} {σ : L2.St} {H : Hp}
theorem sfor {wi : TI} (q : wi σ H fun J H1 => ∃ W : Nat → Nat → L2.St → Hp → Prop, (∃ m, W 0 m σ H1) ∧ ∀ i m σ H, W i m σ H →
    (J.stop i H ∧ D.nx σ H) ∨ (J.go i H ∧ ∃ N : L2.St → Hp → Prop, (∀ σ' H', N σ' H' → ∃ m', m' < m ∧ W (i + 1) m' σ' H') ∧ ∀ x H', J.yld i H x H' → g x σ H' fun σ2 H2 => tb { D with nx := N, ct := N, bk := D.nx } σ2 H2)) : tFor wi g tb D σ H := q
theorem sils {R : It → Hp → Prop} (q : tl σ H fun x H1 => ∃ a, x = .ref a ∧ (∃ xs, SqL K H1 a xs) ∧ R (Itl K a) H1) : iList K tl σ H R := q
theorem sien {R : It → Hp → Prop} (q : ta σ H fun vs H1 => ∃ a xs, vs = [.ref a] ∧ SqL K H1 a xs ∧ R (Ite K a) H1) : iEnum K ta σ H R := q
theorem en_by {a : Addr} {xs : List V} (I : Nat → L2.St → Hp → Prop) (h0 : I 0 σ H) (hl : ∀ i σ H, i ≤ xs.length → I i σ H → SqL K H a xs)
    (ht : ∀ i x p σ H, xs[i]? = some x → I i σ H → H p = none → g (.ref p) σ (upd H p (.tup [.int (i : Nat), x])) fun σ2 H2 => tb { D with nx := I (i + 1), ct := I (i + 1), bk := D.nx } σ2 H2) (hd : ∀ σ H, I xs.length σ H → D.nx σ H) :
    ∃ W : Nat → Nat → L2.St → Hp → Prop, (∃ m, W 0 m σ H) ∧ ∀ i m σ H, W i m σ H →
      ((Ite K a).stop i H ∧ D.nx σ H) ∨ ((Ite K a).go i H ∧ ∃ N : L2.St → Hp → Prop, (∀ σ' H', N σ' H' → ∃ m', m' < m ∧ W (i + 1) m' σ' H') ∧ ∀ x H', (Ite K a).yld i H x H' → g x σ H' fun σ2 H2 => tb { D with nx := N, ct := N, bk := D.nx } σ2 H2) := by
  refine for_it walk_enum I h0 hl (fun i v σ H H' hi hI hy => ?_) hd
  obtain ⟨T, x, y, rfl, hT, rfl, e1, e2⟩ := hy
  cases Option.some.inj e1
  exact ht i y T σ H e2 hI hT
/-- i, x = (i, x) -/
theorem g_pair {i j : Nat} {x y : V} {p : Addr} {R : L2.St → Hp → Prop} (h : SqT K H p [x, y]) (q : R ((σ.set i (some x)).set j (some y)) H) : gTup K 2 (gCons (gName i) (gCons (gName j) gNil)) (.ref p) σ H R :=
  ⟨p, [x, y], rfl, h, rfl, x, [y], rfl, y, [], rfl, rfl, q⟩
/-! ### data -/
theorem dp_same {H' : Hp} (s : Same H H') : ∀ {d : PyData} {v : V}, Dp K H v d → Dp K H' v d := fun {d v} h => by
  refine Dp.rec (motive_1 := fun v d _ => Dp K H' v d) (motive_2 := fun vs ds _ => DpAll K H' vs ds) .non .bl .int .str (fun hl _ ih => .lst (s.seq hl) ih) (fun ht _ ih => .tup ?_ ih) .nil (fun _ _ a b => .cons a b) h
  rcases ht with (e | ⟨o, e⟩) | e
  · exact .inl (.inl (s _ _ e))
  · exact .inl (.inr ⟨o, s _ _ e⟩)
  · exact .inr e
theorem dp_bools : ∀ bs : List Bool, DpAll K H (bs.map V.bl) (bs.map PyData.bool)
  | [] => .nil
  | b :: bs => .cons (.bl b) (dp_bools bs)
end
section
variable {tc tu : TT} {t u : TS} {D : Ends} {σ : L2.St} {H : Hp} {Q : Bool → Hp → Prop}
theorem sor (q : tc σ H fun c H1 => if c = true then Q true H1 else tu σ H1 Q) : tOr tc tu σ H Q := q
theorem san (q : tc σ H fun c H1 => if c = true then tu σ H1 Q else Q false H1) : tAnd tc tu σ H Q := q
end
end Lk

namespace Lk
open PySem PySem.Spec PyProof.Rows L2
/-- xs + ys, xs any list that may be read -/
def rCatL (K : PySem.W.Frag) : R2 := fun x y H Q => ∃ (l b : Addr) (xs zs : List V), x = .ref l ∧ y = .ref b ∧ SqL K H l xs ∧ H b = some (.lst zs) ∧ xs.length + zs.length ≤ sizeLine ∧ ∀ r, H r = none → Q (.ref r) (upd H r (.lst (xs ++ zs)))
theorem op_catL {X : Cx} : OpR X (binaryOp .Add) (rCatL X.K) := by
  intro pins s σ H x y v u Q I rx ry ⟨l, b, xs, zs, ex, ey, hS, hB, hz, q⟩
  subst ex ey
  cases rx
  cases ry
  obtain ⟨us, r1, ⟨⟨c1, d1, e1, f1⟩, n1, g1, h1, i1, j1⟩, _⟩ := I.list hS
  obtain ⟨_, ws, n2, r2, l2, g2⟩ := I.lstM hB
  dsimp only at h1 i1 j1
  subst h1 i1 j1
  have hl : us.toArray.size + ws.toArray.size ≤ sizeLine := by
    rw [List.size_toArray, List.size_toArray, ← r1.length, ← l2]
    exact hz
  refine concat_meets ⟨_, g1, rfl⟩ ⟨_, g2, rfl⟩ noFill_list_add seq_list_add
    PySem.F.slot_list_add PySem.F.entry_list_add (PySem.F.args_list_add_2 _ _)
    (list_addW l b us.toArray ws.toArray n1 n2 none none f1 #[] hl) ⟨g1, g2, ?_⟩
  rw [show us.toArray ++ ws.toArray = (us ++ ws).toArray by simp]
  exact ⟨.ref _, _, I.lnew (t' := s.toks) (r1.append r2) (by rw [List.length_append]; exact hz), rfl, q _ I.fresh⟩
end Lk

/-! ### the text by places -/
namespace K04
open PySem PySem.Spec PyProof.Rows L2 Lk
def top (i : Nat) : Stmt := PySem.Challenge.pw_leastkeep_k04_exceptions.main.body.getD i (.Pass ⟨0, 0, 0, 0⟩)
section
variable {P : Program} {w : World} {K : PySem.W.Frag} {mg : Str → Option Value} {base : Heap}
/-! ### each __init__ keeps its promise -/
abbrev s_NoProgram : Stmt := inClass (top 2) 0
theorem sc_NoProgram : FnScope ["self", "part", "index"] ["self", "part", "index"] (defScope s_NoProgram) := ⟨rfl, rfl, rfl, by decide +kernel, rfl, by decide +kernel, by decide +kernel⟩
theorem ini_NoProgram {f C : Addr} {fd : FuncData} (F : Fun K "__init__" "NoProgram.__init__" s_NoProgram f fd) (T : OexC K C) (n0 : PySem.W.findIn K (.ref C) "part" = some none) (n1 : PySem.W.findIn K (.ref C) "index" = some none) : FnOk P w K mg base CX0 1 f fd ["self", "part", "index"] (spI2 C "part" "index") := by
  refine F.ok sc_NoProgram (fun vs H Q E h => ?_) (fun cdv A outer s H vs Q E hr h => ?_)
  · obtain ⟨a, x, y, rfl, _⟩ := h
    rfl
  · obtain ⟨a, x, y, rfl, ha, k⟩ := h
    exact ⟨_, (pss_cons (ps_ost (pv 0) (pv 1)) (pss_one (ps_ost (pv 0) (pv 2)))), rd2 T n0 n1 rfl rfl rfl ha k⟩
abbrev s_NoRow : Stmt := inClass (top 3) 0
theorem sc_NoRow : FnScope ["self", "row"] ["self", "row"] (defScope s_NoRow) := ⟨rfl, rfl, rfl, by decide +kernel, rfl, by decide +kernel, by decide +kernel⟩
theorem ini_NoRow {f C : Addr} {fd : FuncData} (F : Fun K "__init__" "NoRow.__init__" s_NoRow f fd) (T : OexC K C) (n0 : PySem.W.findIn K (.ref C) "row" = some none) : FnOk P w K mg base CX0 1 f fd ["self", "row"] (spI1 C "row") := by
  refine F.ok sc_NoRow (fun vs H Q E h => ?_) (fun cdv A outer s H vs Q E hr h => ?_)
  · obtain ⟨a, x, rfl, _⟩ := h
    rfl
  · obtain ⟨a, x, rfl, ha, k⟩ := h
    exact ⟨_, (pss_one (ps_ost (pv 0) (pv 1))), rd1 T n0 rfl rfl ha k⟩
abbrev s_NoState : Stmt := inClass (top 4) 0
theorem sc_NoState : FnScope ["self", "index"] ["self", "index"] (defScope s_NoState) := ⟨rfl, rfl, rfl, by decide +kernel, rfl, by decide +kernel, by decide +kernel⟩
theorem ini_NoState {f C : Addr} {fd : FuncData} (F : Fun K "__init__" "NoState.__init__" s_NoState f fd) (T : OexC K C) (n0 : PySem.W.findIn K (.ref C) "index" = some none) : FnOk P w K mg base CX0 1 f fd ["self", "index"] (spI1 C "index") := by
  refine F.ok sc_NoState (fun vs H Q E h => ?_) (fun cdv A outer s H vs Q E hr h => ?_)
  · obtain ⟨a, x, rfl, _⟩ := h
    rfl
  · obtain ⟨a, x, rfl, ha, k⟩ := h
    exact ⟨_, (pss_one (ps_ost (pv 0) (pv 1))), rd1 T n0 rfl rfl ha k⟩
abbrev s_NoRun : Stmt := inClass (top 5) 0
theorem sc_NoRun : FnScope ["self", "index"] ["self", "index"] (defScope s_NoRun) := ⟨rfl, rfl, rfl, by decide +kernel, rfl, by decide +kernel, by decide +kernel⟩
theorem ini_NoRun {f C : Addr} {fd : FuncData} (F : Fun K "__init__" "NoRun.__init__" s_NoRun f fd) (T : OexC K C) (n0 : PySem.W.findIn K (.ref C) "index" = some none) : FnOk P w K mg base CX0 1 f fd ["self", "index"] (spI1 C "index") := by
  refine F.ok sc_NoRun (fun vs H Q E h => ?_) (fun cdv A outer s H vs Q E hr h => ?_)
  · obtain ⟨a, x, rfl, _⟩ := h
    rfl
  · obtain ⟨a, x, rfl, ha, k⟩ := h
    exact ⟨_, (pss_one (ps_ost (pv 0) (pv 1))), rd1 T n0 rfl rfl ha k⟩
abbrev s_NoCode : Stmt := inClass (top 6) 0
theorem sc_NoCode : FnScope ["self", "row", "part", "index"] ["self", "row", "part", "index"] (defScope s_NoCode) := ⟨rfl, rfl, rfl, by decide +kernel, rfl, by decide +kernel, by decide +kernel⟩
theorem ini_NoCode {f C : Addr} {fd : FuncData} (F : Fun K "__init__" "NoCode.__init__" s_NoCode f fd) (T : OexC K C) (n0 : PySem.W.findIn K (.ref C) "row" = some none) (n1 : PySem.W.findIn K (.ref C) "part" = some none) (n2 : PySem.W.findIn K (.ref C) "index" = some none) : FnOk P w K mg base CX0 1 f fd ["self", "row", "part", "index"] (spI3 C "row" "part" "index") := by
  refine F.ok sc_NoCode (fun vs H Q E h => ?_) (fun cdv A outer s H vs Q E hr h => ?_)
  · obtain ⟨a, x, y, z, rfl, _⟩ := h
    rfl
  · obtain ⟨a, x, y, z, rfl, ha, k⟩ := h
    exact ⟨_, (pss_cons (ps_ost (pv 0) (pv 1)) (pss_cons (ps_ost (pv 0) (pv 2)) (pss_one (ps_ost (pv 0) (pv 3))))), rd3 T n0 n1 n2 rfl rfl rfl rfl ha k⟩
abbrev s_NotOver : Stmt := inClass (top 7) 0
theorem sc_NotOver : FnScope ["self", "row"] ["self", "row"] (defScope s_NotOver) := ⟨rfl, rfl, rfl, by decide +kernel, rfl, by decide +kernel, by decide +kernel⟩
theorem ini_NotOver {f C : Addr} {fd : FuncData} (F : Fun K "__init__" "NotOver.__init__" s_NotOver f fd) (T : OexC K C) (n0 : PySem.W.findIn K (.ref C) "row" = some none) : FnOk P w K mg base CX0 1 f fd ["self", "row"] (spI1 C "row") := by
  refine F.ok sc_NotOver (fun vs H Q E h => ?_) (fun cdv A outer s H vs Q E hr h => ?_)
  · obtain ⟨a, x, rfl, _⟩ := h
    rfl
  · obtain ⟨a, x, rfl, ha, k⟩ := h
    exact ⟨_, (pss_one (ps_ost (pv 0) (pv 1))), rd1 T n0 rfl rfl ha k⟩
abbrev s_NoPaper : Stmt := inClass (top 8) 0
theorem sc_NoPaper : FnScope ["self", "part", "index"] ["self", "part", "index"] (defScope s_NoPaper) := ⟨rfl, rfl, rfl, by decide +kernel, rfl, by decide +kernel, by decide +kernel⟩
theorem ini_NoPaper {f C : Addr} {fd : FuncData} (F : Fun K "__init__" "NoPaper.__init__" s_NoPaper f fd) (T : OexC K C) (n0 : PySem.W.findIn K (.ref C) "part" = some none) (n1 : PySem.W.findIn K (.ref C) "index" = some none) : FnOk P w K mg base CX0 1 f fd ["self", "part", "index"] (spI2 C "part" "index") := by
  refine F.ok sc_NoPaper (fun vs H Q E h => ?_) (fun cdv A outer s H vs Q E hr h => ?_)
  · obtain ⟨a, x, y, rfl, _⟩ := h
    rfl
  · obtain ⟨a, x, y, rfl, ha, k⟩ := h
    exact ⟨_, (pss_cons (ps_ost (pv 0) (pv 1)) (pss_one (ps_ost (pv 0) (pv 2)))), rd2 T n0 n1 rfl rfl rfl ha k⟩
abbrev s_NoForm : Stmt := inClass (top 9) 0
theorem sc_NoForm : FnScope ["self", "index"] ["self", "index"] (defScope s_NoForm) := ⟨rfl, rfl, rfl, by decide +kernel, rfl, by decide +kernel, by decide +kernel⟩
theorem ini_NoForm {f C : Addr} {fd : FuncData} (F : Fun K "__init__" "NoForm.__init__" s_NoForm f fd) (T : OexC K C) (n0 : PySem.W.findIn K (.ref C) "index" = some none) : FnOk P w K mg base CX0 1 f fd ["self", "index"] (spI1 C "index") := by
  refine F.ok sc_NoForm (fun vs H Q E h => ?_) (fun cdv A outer s H vs Q E hr h => ?_)
  · obtain ⟨a, x, rfl, _⟩ := h
    rfl
  · obtain ⟨a, x, rfl, ha, k⟩ := h
    exact ⟨_, (pss_one (ps_ost (pv 0) (pv 1))), rd1 T n0 rfl rfl ha k⟩
abbrev s_NoCount : Stmt := inClass (top 11) 0
theorem sc_NoCount : FnScope ["self", "part"] ["self", "part"] (defScope s_NoCount) := ⟨rfl, rfl, rfl, by decide +kernel, rfl, by decide +kernel, by decide +kernel⟩
theorem ini_NoCount {f C : Addr} {fd : FuncData} (F : Fun K "__init__" "NoCount.__init__" s_NoCount f fd) (T : OexC K C) (n0 : PySem.W.findIn K (.ref C) "part" = some none) : FnOk P w K mg base CX0 1 f fd ["self", "part"] (spI1 C "part") := by
  refine F.ok sc_NoCount (fun vs H Q E h => ?_) (fun cdv A outer s H vs Q E hr h => ?_)
  · obtain ⟨a, x, rfl, _⟩ := h
    rfl
  · obtain ⟨a, x, rfl, ha, k⟩ := h
    exact ⟨_, (pss_one (ps_ost (pv 0) (pv 1))), rd1 T n0 rfl rfl ha k⟩
abbrev s_NoText : Stmt := inClass (top 12) 0
theorem sc_NoText : FnScope ["self", "line"] ["self", "line"] (defScope s_NoText) := ⟨rfl, rfl, rfl, by decide +kernel, rfl, by decide +kernel, by decide +kernel⟩
theorem ini_NoText {f C : Addr} {fd : FuncData} (F : Fun K "__init__" "NoText.__init__" s_NoText f fd) (T : OexC K C) (n0 : PySem.W.findIn K (.ref C) "line" = some none) : FnOk P w K mg base CX0 1 f fd ["self", "line"] (spI1 C "line") := by
  refine F.ok sc_NoText (fun vs H Q E h => ?_) (fun cdv A outer s H vs Q E hr h => ?_)
  · obtain ⟨a, x, rfl, _⟩ := h
    rfl
  · obtain ⟨a, x, rfl, ha, k⟩ := h
    exact ⟨_, (pss_one (ps_ost (pv 0) (pv 1))), rd1 T n0 rfl rfl ha k⟩
abbrev s_NoRows : Stmt := inClass (top 13) 0
theorem sc_NoRows : FnScope ["self", "part", "index"] ["self", "part", "index"] (defScope s_NoRows) := ⟨rfl, rfl, rfl, by decide +kernel, rfl, by decide +kernel, by decide +kernel⟩
theorem ini_NoRows {f C : Addr} {fd : FuncData} (F : Fun K "__init__" "NoRows.__init__" s_NoRows f fd) (T : OexC K C) (n0 : PySem.W.findIn K (.ref C) "part" = some none) (n1 : PySem.W.findIn K (.ref C) "index" = some none) : FnOk P w K mg base CX0 1 f fd ["self", "part", "index"] (spI2 C "part" "index") := by
  refine F.ok sc_NoRows (fun vs H Q E h => ?_) (fun cdv A outer s H vs Q E hr h => ?_)
  · obtain ⟨a, x, y, rfl, _⟩ := h
    rfl
  · obtain ⟨a, x, y, rfl, ha, k⟩ := h
    exact ⟨_, (pss_cons (ps_ost (pv 0) (pv 1)) (pss_one (ps_ost (pv 0) (pv 2)))), rd2 T n0 n1 rfl rfl rfl ha k⟩
abbrev s_NoAutomaton : Stmt := inClass (top 14) 0
theorem sc_NoAutomaton : FnScope ["self", "index"] ["self", "index"] (defScope s_NoAutomaton) := ⟨rfl, rfl, rfl, by decide +kernel, rfl, by decide +kernel, by decide +kernel⟩
theorem ini_NoAutomaton {f C : Addr} {fd : FuncData} (F : Fun K "__init__" "NoAutomaton.__init__" s_NoAutomaton f fd) (T : OexC K C) (n0 : PySem.W.findIn K (.ref C) "index" = some none) : FnOk P w K mg base CX0 1 f fd ["self", "index"] (spI1 C "index") := by
  refine F.ok sc_NoAutomaton (fun vs H Q E h => ?_) (fun cdv A outer s H vs Q E hr h => ?_)
  · obtain ⟨a, x, rfl, _⟩ := h
    rfl
  · obtain ⟨a, x, rfl, ha, k⟩ := h
    exact ⟨_, (pss_one (ps_ost (pv 0) (pv 1))), rd1 T n0 rfl rfl ha k⟩
abbrev s_NoCalls : Stmt := inClass (top 15) 0
theorem sc_NoCalls : FnScope ["self", "function", "part", "index"] ["self", "function", "part", "index"] (defScope s_NoCalls) := ⟨rfl, rfl, rfl, by decide +kernel, rfl, by decide +kernel, by decide +kernel⟩
theorem ini_NoCalls {f C : Addr} {fd : FuncData} (F : Fun K "__init__" "NoCalls.__init__" s_NoCalls f fd) (T : OexC K C) (n0 : PySem.W.findIn K (.ref C) "function" = some none) (n1 : PySem.W.findIn K (.ref C) "part" = some none) (n2 : PySem.W.findIn K (.ref C) "index" = some none) : FnOk P w K mg base CX0 1 f fd ["self", "function", "part", "index"] (spI3 C "function" "part" "index") := by
  refine F.ok sc_NoCalls (fun vs H Q E h => ?_) (fun cdv A outer s H vs Q E hr h => ?_)
  · obtain ⟨a, x, y, z, rfl, _⟩ := h
    rfl
  · obtain ⟨a, x, y, z, rfl, ha, k⟩ := h
    exact ⟨_, (pss_cons (ps_ost (pv 0) (pv 1)) (pss_cons (ps_ost (pv 0) (pv 2)) (pss_one (ps_ost (pv 0) (pv 3))))), rd3 T n0 n1 n2 rfl rfl rfl rfl ha k⟩
abbrev s_NoFunction : Stmt := inClass (top 16) 0
theorem sc_NoFunction : FnScope ["self", "function"] ["self", "function"] (defScope s_NoFunction) := ⟨rfl, rfl, rfl, by decide +kernel, rfl, by decide +kernel, by decide +kernel⟩
theorem ini_NoFunction {f C : Addr} {fd : FuncData} (F : Fun K "__init__" "NoFunction.__init__" s_NoFunction f fd) (T : OexC K C) (n0 : PySem.W.findIn K (.ref C) "function" = some none) : FnOk P w K mg base CX0 1 f fd ["self", "function"] (spI1 C "function") := by
  refine F.ok sc_NoFunction (fun vs H Q E h => ?_) (fun cdv A outer s H vs Q E hr h => ?_)
  · obtain ⟨a, x, rfl, _⟩ := h
    rfl
  · obtain ⟨a, x, rfl, ha, k⟩ := h
    exact ⟨_, (pss_one (ps_ost (pv 0) (pv 1))), rd1 T n0 rfl rfl ha k⟩
abbrev s_NoRecipe : Stmt := inClass (top 17) 0
theorem sc_NoRecipe : FnScope ["self", "index"] ["self", "index"] (defScope s_NoRecipe) := ⟨rfl, rfl, rfl, by decide +kernel, rfl, by decide +kernel, by decide +kernel⟩
theorem ini_NoRecipe {f C : Addr} {fd : FuncData} (F : Fun K "__init__" "NoRecipe.__init__" s_NoRecipe f fd) (T : OexC K C) (n0 : PySem.W.findIn K (.ref C) "index" = some none) : FnOk P w K mg base CX0 1 f fd ["self", "index"] (spI1 C "index") := by
  refine F.ok sc_NoRecipe (fun vs H Q E h => ?_) (fun cdv A outer s H vs Q E hr h => ?_)
  · obtain ⟨a, x, rfl, _⟩ := h
    rfl
  · obtain ⟨a, x, rfl, ha, k⟩ := h
    exact ⟨_, (pss_one (ps_ost (pv 0) (pv 1))), rd1 T n0 rfl rfl ha k⟩
abbrev s_NoGuess : Stmt := inClass (top 18) 0
theorem sc_NoGuess : FnScope ["self", "index"] ["self", "index"] (defScope s_NoGuess) := ⟨rfl, rfl, rfl, by decide +kernel, rfl, by decide +kernel, by decide +kernel⟩
theorem ini_NoGuess {f C : Addr} {fd : FuncData} (F : Fun K "__init__" "NoGuess.__init__" s_NoGuess f fd) (T : OexC K C) (n0 : PySem.W.findIn K (.ref C) "index" = some none) : FnOk P w K mg base CX0 1 f fd ["self", "index"] (spI1 C "index") := by
  refine F.ok sc_NoGuess (fun vs H Q E h => ?_) (fun cdv A outer s H vs Q E hr h => ?_)
  · obtain ⟨a, x, rfl, _⟩ := h
    rfl
  · obtain ⟨a, x, rfl, ha, k⟩ := h
    exact ⟨_, (pss_one (ps_ost (pv 0) (pv 1))), rd1 T n0 rfl rfl ha k⟩
abbrev s_Refused : Stmt := inClass (top 19) 0
theorem sc_Refused : FnScope ["self", "index"] ["self", "index"] (defScope s_Refused) := ⟨rfl, rfl, rfl, by decide +kernel, rfl, by decide +kernel, by decide +kernel⟩
theorem ini_Refused {f C : Addr} {fd : FuncData} (F : Fun K "__init__" "Refused.__init__" s_Refused f fd) (T : OexC K C) (n0 : PySem.W.findIn K (.ref C) "index" = some none) : FnOk P w K mg base CX0 1 f fd ["self", "index"] (spI1 C "index") := by
  refine F.ok sc_Refused (fun vs H Q E h => ?_) (fun cdv A outer s H vs Q E hr h => ?_)
  · obtain ⟨a, x, rfl, _⟩ := h
    rfl
  · obtain ⟨a, x, rfl, ha, k⟩ := h
    exact ⟨_, (pss_one (ps_ost (pv 0) (pv 1))), rd1 T n0 rfl rfl ha k⟩
abbrev s_NoGuessCode : Stmt := inClass (top 20) 0
theorem sc_NoGuessCode : FnScope ["self", "part", "index"] ["self", "part", "index"] (defScope s_NoGuessCode) := ⟨rfl, rfl, rfl, by decide +kernel, rfl, by decide +kernel, by decide +kernel⟩
theorem ini_NoGuessCode {f C : Addr} {fd : FuncData} (F : Fun K "__init__" "NoGuessCode.__init__" s_NoGuessCode f fd) (T : OexC K C) (n0 : PySem.W.findIn K (.ref C) "part" = some none) (n1 : PySem.W.findIn K (.ref C) "index" = some none) : FnOk P w K mg base CX0 1 f fd ["self", "part", "index"] (spI2 C "part" "index") := by
  refine F.ok sc_NoGuessCode (fun vs H Q E h => ?_) (fun cdv A outer s H vs Q E hr h => ?_)
  · obtain ⟨a, x, y, rfl, _⟩ := h
    rfl
  · obtain ⟨a, x, y, rfl, ha, k⟩ := h
    exact ⟨_, (pss_cons (ps_ost (pv 0) (pv 1)) (pss_one (ps_ost (pv 0) (pv 2)))), rd2 T n0 n1 rfl rfl rfl ha k⟩
abbrev s_NoNumber : Stmt := inClass (top 21) 0
theorem sc_NoNumber : FnScope ["self", "number"] ["self", "number"] (defScope s_NoNumber) := ⟨rfl, rfl, rfl, by decide +kernel, rfl, by decide +kernel, by decide +kernel⟩
theorem ini_NoNumber {f C : Addr} {fd : FuncData} (F : Fun K "__init__" "NoNumber.__init__" s_NoNumber f fd) (T : OexC K C) (n0 : PySem.W.findIn K (.ref C) "number" = some none) : FnOk P w K mg base CX0 1 f fd ["self", "number"] (spI1 C "number") := by
  refine F.ok sc_NoNumber (fun vs H Q E h => ?_) (fun cdv A outer s H vs Q E hr h => ?_)
  · obtain ⟨a, x, rfl, _⟩ := h
    rfl
  · obtain ⟨a, x, rfl, ha, k⟩ := h
    exact ⟨_, (pss_one (ps_ost (pv 0) (pv 1))), rd1 T n0 rfl rfl ha k⟩
end
/-- an error class with 1 fields, as the top has left it -/
structure Er1 (P : Program) (w : World) (K : PySem.W.Frag) (mg : Str → Option Value) (base : Heap) (x : Str) (B C : Addr) (f : Str) : Prop where
  k : ErK K mg x C B
  i : ∃ fI fd, ErC K C fI ∧ FnOk P w K mg base CX0 1 fI fd ["self", f] (spI1 C f) ∧ Binds K fd ["self", f] [] ∧ KBn K fd ["self", f] 1 [f] (fun us ws => us ++ ws.reverse) (fun us ws => us ++ ws.reverse)
  nf : EfC K C f
section
variable {X : Cx} {j : Nat} {x : Str} {B C : Addr} {f : Str} {e : Expr} {es : List Expr} {kws : List Keyword} {t : TA} {p pos : Pos}
theorem Er1.pe (E : Er1 X.prog X.w X.K X.mg X.base x B C f) (hr : Room j X.A) (hj : 2 ≤ j) (ha : PA X (e :: es) t) (hg : Gl X x := by rfl) (hdb : (x == ("__debug__" : Str)) = false := by decide) (he : starEach (e :: es) X.env = (false, eval e X.env) :: starEach es X.env := by rfl)
    (hpl : (backTo pos (starEach es X.env)).any (·.1) = false := by rfl) : PE X (.Call (.Name x p) (e :: es) [] pos) (tXm C (spI1 C f) t) := by
  obtain ⟨fI, fd, T, F, b, kb⟩ := E.i
  exact pe_xm T F (hr.mono hj) b E.k.g ha hg hdb he hpl
theorem Er1.pk (E : Er1 X.prog X.w X.K X.mg X.base x B C f) (hr : Room j X.A) (hj : 2 ≤ j) (ha : PK X kws t) (hg : Gl X x := by rfl) (hall : (backToKw pos (keywordEach kws X.env)).all (·.1.isSome) = true := by rfl) (hks : (backToKw pos (keywordEach kws X.env)).filterMap (·.1) = [f] := by rfl)
    (hdb : (x == ("__debug__" : Str)) = false := by decide) (hpl : ((backTo pos (starEach [] X.env)).any (·.1) || (backToKw pos (keywordEach kws X.env)).any (·.1.isNone)) = false := by rfl) : PE X (.Call (.Name x p) [] kws pos) (tXk C 1 (spI1 C f) (fun us ws => us ++ ws.reverse) t) := by
  obtain ⟨fI, fd, T, F, b, kb⟩ := E.i
  exact pe_xk T F (hr.mono hj) kb E.k.g ha hg hall hks hdb hpl
end
/-- an error class with 2 fields, as the top has left it -/
structure Er2 (P : Program) (w : World) (K : PySem.W.Frag) (mg : Str → Option Value) (base : Heap) (x : Str) (B C : Addr) (f g : Str) : Prop where
  k : ErK K mg x C B
  i : ∃ fI fd, ErC K C fI ∧ FnOk P w K mg base CX0 1 fI fd ["self", f, g] (spI2 C f g) ∧ Binds K fd ["self", f, g] [] ∧ KBn K fd ["self", f, g] 1 [g, f] (fun us ws => us ++ ws.reverse) (fun us ws => us ++ ws.reverse)
  nf : EfC K C f
  ng : EfC K C g
section
variable {X : Cx} {j : Nat} {x : Str} {B C : Addr} {f g : Str} {e : Expr} {es : List Expr} {kws : List Keyword} {t : TA} {p pos : Pos}
theorem Er2.pe (E : Er2 X.prog X.w X.K X.mg X.base x B C f g) (hr : Room j X.A) (hj : 2 ≤ j) (ha : PA X (e :: es) t) (hg : Gl X x := by rfl) (hdb : (x == ("__debug__" : Str)) = false := by decide) (he : starEach (e :: es) X.env = (false, eval e X.env) :: starEach es X.env := by rfl)
    (hpl : (backTo pos (starEach es X.env)).any (·.1) = false := by rfl) : PE X (.Call (.Name x p) (e :: es) [] pos) (tXm C (spI2 C f g) t) := by
  obtain ⟨fI, fd, T, F, b, kb⟩ := E.i
  exact pe_xm T F (hr.mono hj) b E.k.g ha hg hdb he hpl
theorem Er2.pk (E : Er2 X.prog X.w X.K X.mg X.base x B C f g) (hr : Room j X.A) (hj : 2 ≤ j) (ha : PK X kws t) (hg : Gl X x := by rfl) (hall : (backToKw pos (keywordEach kws X.env)).all (·.1.isSome) = true := by rfl) (hks : (backToKw pos (keywordEach kws X.env)).filterMap (·.1) = [g, f] := by rfl)
    (hdb : (x == ("__debug__" : Str)) = false := by decide) (hpl : ((backTo pos (starEach [] X.env)).any (·.1) || (backToKw pos (keywordEach kws X.env)).any (·.1.isNone)) = false := by rfl) : PE X (.Call (.Name x p) [] kws pos) (tXk C 2 (spI2 C f g) (fun us ws => us ++ ws.reverse) t) := by
  obtain ⟨fI, fd, T, F, b, kb⟩ := E.i
  exact pe_xk T F (hr.mono hj) kb E.k.g ha hg hall hks hdb hpl
end
/-- an error class with 3 fields, as the top has left it -/
structure Er3 (P : Program) (w : World) (K : PySem.W.Frag) (mg : Str → Option Value) (base : Heap) (x : Str) (B C : Addr) (f g l : Str) : Prop where
  k : ErK K mg x C B
  i : ∃ fI fd, ErC K C fI ∧ FnOk P w K mg base CX0 1 fI fd ["self", f, g, l] (spI3 C f g l) ∧ Binds K fd ["self", f, g, l] [] ∧ KBn K fd ["self", f, g, l] 1 [l, g, f] (fun us ws => us ++ ws.reverse) (fun us ws => us ++ ws.reverse)
  nf : EfC K C f
  ng : EfC K C g
  nl : EfC K C l
section
variable {X : Cx} {j : Nat} {x : Str} {B C : Addr} {f g l : Str} {e : Expr} {es : List Expr} {kws : List Keyword} {t : TA} {p pos : Pos}
theorem Er3.pe (E : Er3 X.prog X.w X.K X.mg X.base x B C f g l) (hr : Room j X.A) (hj : 2 ≤ j) (ha : PA X (e :: es) t) (hg : Gl X x := by rfl) (hdb : (x == ("__debug__" : Str)) = false := by decide) (he : starEach (e :: es) X.env = (false, eval e X.env) :: starEach es X.env := by rfl)
    (hpl : (backTo pos (starEach es X.env)).any (·.1) = false := by rfl) : PE X (.Call (.Name x p) (e :: es) [] pos) (tXm C (spI3 C f g l) t) := by
  obtain ⟨fI, fd, T, F, b, kb⟩ := E.i
  exact pe_xm T F (hr.mono hj) b E.k.g ha hg hdb he hpl
theorem Er3.pk (E : Er3 X.prog X.w X.K X.mg X.base x B C f g l) (hr : Room j X.A) (hj : 2 ≤ j) (ha : PK X kws t) (hg : Gl X x := by rfl) (hall : (backToKw pos (keywordEach kws X.env)).all (·.1.isSome) = true := by rfl) (hks : (backToKw pos (keywordEach kws X.env)).filterMap (·.1) = [l, g, f] := by rfl)
    (hdb : (x == ("__debug__" : Str)) = false := by decide) (hpl : ((backTo pos (starEach [] X.env)).any (·.1) || (backToKw pos (keywordEach kws X.env)).any (·.1.isNone)) = false := by rfl) : PE X (.Call (.Name x p) [] kws pos) (tXk C 3 (spI3 C f g l) (fun us ws => us ++ ws.reverse) t) := by
  obtain ⟨fI, fd, T, F, b, kb⟩ := E.i
  exact pe_xk T F (hr.mono hj) kb E.k.g ha hg hall hks hdb hpl
end
/-! ### what the top has left -/
/-- the error classes by their addresses -/
structure Ad where
  KeepError : Addr
  NoProgram : Addr
  NoRow : Addr
  NoState : Addr
  NoRun : Addr
  NoCode : Addr
  NotOver : Addr
  NoPaper : Addr
  NoForm : Addr
  NoRound : Addr
  NoCount : Addr
  NoText : Addr
  NoRows : Addr
  NoAutomaton : Addr
  NoCalls : Addr
  NoFunction : Addr
  NoRecipe : Addr
  NoGuess : Addr
  Refused : Addr
  NoGuessCode : Addr
  NoNumber : Addr
  NoKept : Addr
def Ad.cs (A : Ad) : List Addr := [A.NoProgram, A.NoRow, A.NoState, A.NoRun, A.NoCode, A.NotOver, A.NoPaper, A.NoForm, A.NoCount, A.NoText, A.NoRows, A.NoAutomaton, A.NoCalls, A.NoFunction, A.NoRecipe, A.NoGuess, A.Refused, A.NoGuessCode, A.NoNumber]
structure Txt (P : Program) (w : World) (K : PySem.W.Frag) (mg : Str → Option Value) (base : Heap) (A : Ad) : Prop where
  e_NoProgram : Er2 P w K mg base "NoProgram" A.KeepError A.NoProgram "part" "index"
  e_NoRow : Er1 P w K mg base "NoRow" A.KeepError A.NoRow "row"
  e_NoState : Er1 P w K mg base "NoState" A.KeepError A.NoState "index"
  e_NoRun : Er1 P w K mg base "NoRun" A.KeepError A.NoRun "index"
  e_NoCode : Er3 P w K mg base "NoCode" A.KeepError A.NoCode "row" "part" "index"
  e_NotOver : Er1 P w K mg base "NotOver" A.KeepError A.NotOver "row"
  e_NoPaper : Er2 P w K mg base "NoPaper" A.KeepError A.NoPaper "part" "index"
  e_NoForm : Er1 P w K mg base "NoForm" A.KeepError A.NoForm "index"
  e_NoCount : Er1 P w K mg base "NoCount" A.KeepError A.NoCount "part"
  e_NoText : Er1 P w K mg base "NoText" A.KeepError A.NoText "line"
  e_NoRows : Er2 P w K mg base "NoRows" A.KeepError A.NoRows "part" "index"
  e_NoAutomaton : Er1 P w K mg base "NoAutomaton" A.KeepError A.NoAutomaton "index"
  e_NoCalls : Er3 P w K mg base "NoCalls" A.KeepError A.NoCalls "function" "part" "index"
  e_NoFunction : Er1 P w K mg base "NoFunction" A.KeepError A.NoFunction "function"
  e_NoRecipe : Er1 P w K mg base "NoRecipe" A.KeepError A.NoRecipe "index"
  e_NoGuess : Er1 P w K mg base "NoGuess" A.KeepError A.NoGuess "index"
  e_Refused : Er1 P w K mg base "Refused" A.KeepError A.Refused "index"
  e_NoGuessCode : Er2 P w K mg base "NoGuessCode" A.KeepError A.NoGuessCode "part" "index"
  e_NoNumber : Er1 P w K mg base "NoNumber" A.KeepError A.NoNumber "number"
  e_NoRound : ErK K mg "NoRound" A.NoRound A.KeepError
  x_NoRound : PySem.W.excIn K A.NoRound [.type "ValueError", .type "Exception", .type "BaseException", .type "object"] "ValueError.__new__" = true
  e_NoKept : ErK K mg "NoKept" A.NoKept A.KeepError
  x_NoKept : PySem.W.excIn K A.NoKept [.type "ValueError", .type "Exception", .type "BaseException", .type "object"] "ValueError.__new__" = true
  g_KeepError : mg "KeepError" = some (.ref A.KeepError)
  b1 : (PySem.W.clsIn K A.KeepError).isSome = true
  b2 : PySem.W.typeIn K (.ref A.KeepError) = some (.type "type")
  nd : (A.KeepError :: A.NoRound :: A.NoKept :: A.cs).Nodup
  z_int : mg "int" = none
  z_len : mg "len" = none
  z_isinstance : mg "isinstance" = none
  z_range : mg "range" = none
  z_enumerate : mg "enumerate" = none
  z_ValueError : mg "ValueError" = none
theorem Txt.g_NoProgram {P : Program} {w : World} {K : PySem.W.Frag} {mg : Str → Option Value} {base : Heap} {A : Ad} (T : Txt P w K mg base A) : mg "NoProgram" = some (.ref A.NoProgram) := T.e_NoProgram.k.g
theorem Txt.g_NoRow {P : Program} {w : World} {K : PySem.W.Frag} {mg : Str → Option Value} {base : Heap} {A : Ad} (T : Txt P w K mg base A) : mg "NoRow" = some (.ref A.NoRow) := T.e_NoRow.k.g
theorem Txt.g_NoState {P : Program} {w : World} {K : PySem.W.Frag} {mg : Str → Option Value} {base : Heap} {A : Ad} (T : Txt P w K mg base A) : mg "NoState" = some (.ref A.NoState) := T.e_NoState.k.g
theorem Txt.g_NoRun {P : Program} {w : World} {K : PySem.W.Frag} {mg : Str → Option Value} {base : Heap} {A : Ad} (T : Txt P w K mg base A) : mg "NoRun" = some (.ref A.NoRun) := T.e_NoRun.k.g
theorem Txt.g_NoCode {P : Program} {w : World} {K : PySem.W.Frag} {mg : Str → Option Value} {base : Heap} {A : Ad} (T : Txt P w K mg base A) : mg "NoCode" = some (.ref A.NoCode) := T.e_NoCode.k.g
theorem Txt.g_NotOver {P : Program} {w : World} {K : PySem.W.Frag} {mg : Str → Option Value} {base : Heap} {A : Ad} (T : Txt P w K mg base A) : mg "NotOver" = some (.ref A.NotOver) := T.e_NotOver.k.g
theorem Txt.g_NoPaper {P : Program} {w : World} {K : PySem.W.Frag} {mg : Str → Option Value} {base : Heap} {A : Ad} (T : Txt P w K mg base A) : mg "NoPaper" = some (.ref A.NoPaper) := T.e_NoPaper.k.g
theorem Txt.g_NoForm {P : Program} {w : World} {K : PySem.W.Frag} {mg : Str → Option Value} {base : Heap} {A : Ad} (T : Txt P w K mg base A) : mg "NoForm" = some (.ref A.NoForm) := T.e_NoForm.k.g
theorem Txt.g_NoCount {P : Program} {w : World} {K : PySem.W.Frag} {mg : Str → Option Value} {base : Heap} {A : Ad} (T : Txt P w K mg base A) : mg "NoCount" = some (.ref A.NoCount) := T.e_NoCount.k.g
theorem Txt.g_NoText {P : Program} {w : World} {K : PySem.W.Frag} {mg : Str → Option Value} {base : Heap} {A : Ad} (T : Txt P w K mg base A) : mg "NoText" = some (.ref A.NoText) := T.e_NoText.k.g
theorem Txt.g_NoRows {P : Program} {w : World} {K : PySem.W.Frag} {mg : Str → Option Value} {base : Heap} {A : Ad} (T : Txt P w K mg base A) : mg "NoRows" = some (.ref A.NoRows) := T.e_NoRows.k.g
theorem Txt.g_NoAutomaton {P : Program} {w : World} {K : PySem.W.Frag} {mg : Str → Option Value} {base : Heap} {A : Ad} (T : Txt P w K mg base A) : mg "NoAutomaton" = some (.ref A.NoAutomaton) := T.e_NoAutomaton.k.g
theorem Txt.g_NoCalls {P : Program} {w : World} {K : PySem.W.Frag} {mg : Str → Option Value} {base : Heap} {A : Ad} (T : Txt P w K mg base A) : mg "NoCalls" = some (.ref A.NoCalls) := T.e_NoCalls.k.g
theorem Txt.g_NoFunction {P : Program} {w : World} {K : PySem.W.Frag} {mg : Str → Option Value} {base : Heap} {A : Ad} (T : Txt P w K mg base A) : mg "NoFunction" = some (.ref A.NoFunction) := T.e_NoFunction.k.g
theorem Txt.g_NoRecipe {P : Program} {w : World} {K : PySem.W.Frag} {mg : Str → Option Value} {base : Heap} {A : Ad} (T : Txt P w K mg base A) : mg "NoRecipe" = some (.ref A.NoRecipe) := T.e_NoRecipe.k.g
theorem Txt.g_NoGuess {P : Program} {w : World} {K : PySem.W.Frag} {mg : Str → Option Value} {base : Heap} {A : Ad} (T : Txt P w K mg base A) : mg "NoGuess" = some (.ref A.NoGuess) := T.e_NoGuess.k.g
theorem Txt.g_Refused {P : Program} {w : World} {K : PySem.W.Frag} {mg : Str → Option Value} {base : Heap} {A : Ad} (T : Txt P w K mg base A) : mg "Refused" = some (.ref A.Refused) := T.e_Refused.k.g
theorem Txt.g_NoGuessCode {P : Program} {w : World} {K : PySem.W.Frag} {mg : Str → Option Value} {base : Heap} {A : Ad} (T : Txt P w K mg base A) : mg "NoGuessCode" = some (.ref A.NoGuessCode) := T.e_NoGuessCode.k.g
theorem Txt.g_NoNumber {P : Program} {w : World} {K : PySem.W.Frag} {mg : Str → Option Value} {base : Heap} {A : Ad} (T : Txt P w K mg base A) : mg "NoNumber" = some (.ref A.NoNumber) := T.e_NoNumber.k.g
theorem Txt.g_NoRound {P : Program} {w : World} {K : PySem.W.Frag} {mg : Str → Option Value} {base : Heap} {A : Ad} (T : Txt P w K mg base A) : mg "NoRound" = some (.ref A.NoRound) := T.e_NoRound.g
theorem Txt.g_NoKept {P : Program} {w : World} {K : PySem.W.Frag} {mg : Str → Option Value} {base : Heap} {A : Ad} (T : Txt P w K mg base A) : mg "NoKept" = some (.ref A.NoKept) := T.e_NoKept.g
end K04

namespace K04
open PySem PySem.Spec PyProof.Rows L2 Lk
local macro_rules | `(tactic| walk_at "lk") => `(tactic| (repeat (first
  | with_reducible refine ssq ?_ | with_reducible refine sas ?_ | with_reducible refine sgn ?_ | ((with_reducible show tVar _ _ _ _); refine sv rfl ?_) | with_reducible refine sc ?_ | with_reducible refine sop ?_ | with_reducible refine sun ?_
  | with_reducible refine sI0 ?_ | with_reducible refine sU ?_ | with_reducible refine stt ?_ | with_reducible refine stB ?_ | with_reducible refine sbl ?_ | with_reducible refine snt ?_ | with_reducible refine sif ?_ | with_reducible refine scB ?_
  | with_reducible refine scn ?_ | with_reducible refine snl ?_ | with_reducible refine scl ?_ | with_reducible refine stu ?_ | with_reducible refine sli ?_ | with_reducible refine sdr ?_ | with_reducible refine srt ?_ | with_reducible refine snx ?_ | with_reducible refine sfg ?_
  | ((with_reducible show Or _ _); first | refine Or.inl ⟨_, rfl, ?_⟩ | refine Or.inr ⟨_, rfl, ?_⟩))))

/-- the promise of _law_draw: a number below m, and some well -/
def spDraw : Sp := fun vs H Q _ => ∃ (p : Addr) (m a b c : Int), vs = [.ref p, .int m] ∧ 0 < m ∧ m < 1073741824 ∧ H p = some (.lst [.int a, .int b, .int c]) ∧
  ∀ r a' b' c' : Int, 0 ≤ r → r < m → Q (.int r) (upd H p (.lst [.int a', .int b', .int c']))
/-- of _law_one: one of the items -/
def spOne : Sp := fun vs H Q _ => ∃ (p l : Addr) (a b c : Int) (xs : List V), vs = [.ref p, .ref l] ∧ l ≠ p ∧ H p = some (.lst [.int a, .int b, .int c]) ∧ H l = some (.lst xs) ∧ 0 < xs.length ∧ xs.length ≤ 1000 ∧
  ∀ (v : V) (a' b' c' : Int), v ∈ xs → Q v (upd H p (.lst [.int a', .int b', .int c']))
/-- of _law_taken: for each class whether it is the error's own -/
def spTaken (K : PySem.W.Frag) (mg : Str → Option Value) (A : Ad) : Sp := fun vs H Q _ => ∃ (x : V) (D : Addr) (y : Str), vs = [x] ∧ ErV H x D ∧ ErK K mg y D A.KeepError ∧
  ∀ (p : Addr) (H' : Hp), Same H H' → H p = none → H' p = some (.lst (A.cs.map fun C => V.bl (decide (D = C)))) → Q (.ref p) H'
def rows (A : Ad) (x : V) : List (Addr × List (Str × V)) := [(A.NoProgram, [("index", .int 7), ("part", x)]), (A.NoRow, [("row", x)]), (A.NoState, [("index", x)]), (A.NoRun, [("index", x)]), (A.NoCode, [("index", .int 8), ("part", .int 7), ("row", x)]), (A.NotOver, [("row", x)]), (A.NoPaper, [("index", .int 7), ("part", x)]), (A.NoForm, [("index", x)]), (A.NoCount, [("part", x)]), (A.NoText, [("line", x)]), (A.NoRows, [("index", .int 7), ("part", x)]), (A.NoAutomaton, [("index", x)]), (A.NoCalls, [("index", .int 8), ("part", .int 7), ("function", x)]), (A.NoFunction, [("function", x)]), (A.NoRecipe, [("index", x)]), (A.NoGuess, [("index", x)]), (A.Refused, [("index", x)]), (A.NoGuessCode, [("index", .int 7), ("part", x)]), (A.NoNumber, [("number", x)])]
/-- of _law_by_place and _law_by_name: errors of all classes -/
def spMade (A : Ad) : Sp := fun vs H Q _ => ∃ x : V, vs = [x] ∧ ∀ (p : Addr) (as : List Addr) (H' : Hp), Same H H' → H' p = some (.lst (as.map V.ref)) → Mds H' as (rows A x) → Q (.ref p) H'
def due (x : V) : List V := [x, .int 7, x, x, x, x, .int 7, .int 8, x, x, .int 7, x, x, x, x, .int 7, x, x, .int 7, .int 8, x, x, x, x, x, .int 7, x]
/-- of _law_fields -/
def spFields (K : PySem.W.Frag) (A : Ad) : Sp := fun vs H Q _ => ∃ (l : Addr) (as : List Addr) (x : V), vs = [.ref l] ∧ SqL K H l (as.map V.ref) ∧ Mds H as (rows A x) ∧
  ∀ (p : Addr) (H' : Hp), Same H H' → H p = none → H' p = some (.lst (due x)) → Q (.ref p) H'
section
variable {P : Program} {w : World} {K : PySem.W.Frag} {mg : Str → Option Value} {base : Heap} {A : Ad}
abbrev s__law_draw : Stmt := top 24
theorem sc__law_draw : FnScope ["_law_well", "_law_many", "_law_figure", "_law_found"] ["_law_well", "_law_many"] (defScope s__law_draw) := ⟨rfl, rfl, rfl, by decide +kernel, rfl, by decide +kernel, by decide +kernel⟩
theorem ok_draw {f : Addr} {fd : FuncData} (F : Fun K "_law_draw" "_law_draw" s__law_draw f fd) (T : Txt P w K mg base A) : FnOk P w K mg base CX0 1 f fd ["_law_well", "_law_many"] spDraw := by
  refine F.ok sc__law_draw (fun vs H Q E h => ?_) (fun cdv Ar outer s H vs Q E hr h => ?_)
  · obtain ⟨p, m, a, b, c, rfl, _⟩ := h
    rfl
  · obtain ⟨p, m, a, b, c, rfl, m0, m1, hp, k⟩ := h
    refine ⟨_, (pss_cons (ps_if (pt_cmpR op_gt (pe_ix ix_list (pv 0) pe_int (fun _ _ => rfl)) pe_int (nomark _)) (pss_cons (ps_set (i := 3) sc__law_draw.nd rfl (Or.inl rfl) (pe_op op_mod (pe_callTy call_int1 (by rfl) T.z_int (by decide +kernel) (pa_cons (pe_ix ix_list (pv 0) pe_int (fun _ _ => rfl)) pa_nil)) (pv 1)))
        (pss_cons (ps_asg (pe_op op_fdivN (pe_ix ix_list (pv 0) pe_int (fun _ _ => rfl)) (pv 1)) (pg_sub (pv 0) pe_int set_list))
        (pss_one (ps_ret (pv 3))))) pss_nil)
        (pss_cons (ps_asg (pe_op op_add (pe_ix ix_list (pv 0) pe_int (fun _ _ => rfl)) pe_int) (pg_sub (pv 0) pe_int set_list))
        (pss_cons (ps_set (i := 2) sc__law_draw.nd rfl (Or.inl rfl) (pe_op op_mod (pe_callTy call_int1 (by rfl) T.z_int (by decide +kernel) (pa_cons (pe_op op_mul (pe_op op_add (pe_op op_add (pe_ix ix_list (pv 0) pe_int (fun _ _ => rfl)) (pe_op op_mul pe_int (pe_ix ix_list (pv 0) pe_int (fun _ _ => rfl)))) pe_int) pe_int) pa_nil)) pe_int))
        (pss_cons (ps_set (i := 2) sc__law_draw.nd rfl (Or.inl rfl) (pe_op op_mod (pe_callTy call_int1 (by rfl) T.z_int (by decide +kernel) (pa_cons (pe_op op_mul (pv 2) (pe_op op_add (pe_op op_fdiv (pv 2) pe_int) pe_int)) pa_nil)) pe_int))
        (pss_one (ps_ret (pe_op op_mod (pe_callTy call_int1 (by rfl) T.z_int (by decide +kernel) (pa_cons (pe_op op_mod (pe_callTy call_int1 (by rfl) T.z_int (by decide +kernel) (pa_cons (pe_op op_mul (pv 2) (pe_op op_add (pe_op op_fdiv (pv 2) pe_int) pe_int)) pa_nil)) pe_int) pa_nil)) (pv 1)))))))), ?_⟩
    walk_at "lk"
    refine sfr (SqL.of hp) (by rfl) ?_
    walk_at "lk"
    refine ite2 (fun z => ?_) (fun z => ?_)
    · walk_at "lk"
      refine sfr (SqL.of hp) (by rfl) ?_
      walk_at "lk"
      refine sI m0 ?_
      walk_at "lk"
      refine sfr (SqL.of hp) (by rfl) ?_
      walk_at "lk"
      refine sI ⟨by omega, by omega⟩ ?_
      walk_at "lk"
      refine ssl hp (by rfl) ?_
      walk_at "lk"
      exact k _ _ _ _ (Int.emod_nonneg _ (by omega)) (Int.emod_lt_of_pos _ m0)
    · walk_at "lk"
      refine sfr (SqL.of hp) (by rfl) ?_
      walk_at "lk"
      refine ssl hp (by rfl) ?_
      walk_at "lk"
      refine sfr (SqL.of upd_same) (by rfl) ?_
      walk_at "lk"
      refine sfr (SqL.of upd_same) (by rfl) ?_
      refine sI (.inl ⟨by decide, by decide⟩) ?_
      walk_at "lk"
      refine sI (.inr ⟨by decide, by decide⟩) ?_
      walk_at "lk"
      refine sI (by decide) ?_
      walk_at "lk"
      refine sI ⟨by decide, by decide⟩ ?_
      walk_at "lk"
      refine sI (.inl ⟨by omega, by omega⟩) ?_
      walk_at "lk"
      refine sI (by decide) ?_
      walk_at "lk"
      refine sI ⟨by decide, by decide⟩ ?_
      walk_at "lk"
      refine sI (.inl ⟨by omega, by omega⟩) ?_
      walk_at "lk"
      refine sI (by decide) ?_
      walk_at "lk"
      refine sI m0 ?_
      walk_at "lk"
      exact k _ a b (c + 1) (Int.emod_nonneg _ (by omega)) (Int.emod_lt_of_pos _ m0)

abbrev s__law_one : Stmt := top 25
theorem sc__law_one : FnScope ["_law_well", "_law_some"] ["_law_well", "_law_some"] (defScope s__law_one) := ⟨rfl, rfl, rfl, by decide +kernel, rfl, by decide +kernel, by decide +kernel⟩
theorem ok_one {f : Addr} {fd : FuncData} (F : Fun K "_law_one" "_law_one" s__law_one f fd) (T : Txt P w K mg base A) (c__law_draw : Cal P w K mg base 1 "_law_draw" ["_law_well", "_law_many"] spDraw) : FnOk P w K mg base CX0 2 f fd ["_law_well", "_law_some"] spOne := by
  refine F.ok sc__law_one (fun vs H Q E h => ?_) (fun cdv Ar outer s H vs Q E hr h => ?_)
  · obtain ⟨p, l, a, b, c, xs, rfl, _⟩ := h
    rfl
  · obtain ⟨p, l, a, b, c, xs, rfl, hn, hp, hl, x0, x1, k⟩ := h
    refine ⟨_, (pss_one (ps_ret (pe_ix ix_list (pv 1) (pcal c__law_draw hr (by decide) (pa_cons (pv 0) (pa_cons (pe_callB call_len_seq (by rfl) T.z_len PySem.boot_len (pa_cons (pv 1) pa_nil)) pa_nil))) (fun _ _ => rfl)))), ?_⟩
    walk_at "lk"
    refine ⟨_, _, rfl, .inl (SqL.of hl), ?_⟩
    walk_at "lk"
    refine ⟨p, _, a, b, c, rfl, by omega, by omega, hp, fun r a' b' c' r0 r1 => ?_⟩
    obtain ⟨n, rfl⟩ := Int.eq_ofNat_of_zero_le r0
    have hnx : n < xs.length := by omega
    refine sfr (SqL.of (by rw [upd_ne hn]; exact hl)) (atI_nat (List.getElem?_eq_getElem hnx)) ?_
    exact k _ _ _ _ (List.getElem_mem hnx)
abbrev s__law_taken : Stmt := top 26
theorem sc__law_taken : FnScope ["_law_e", "_law_found"] ["_law_e"] (defScope s__law_taken) := ⟨rfl, rfl, rfl, by decide +kernel, rfl, by decide +kernel, by decide +kernel⟩
theorem ok_taken {f : Addr} {fd : FuncData} (F : Fun K "_law_taken" "_law_taken" s__law_taken f fd) (T : Txt P w K mg base A) : FnOk P w K mg base CX0 1 f fd ["_law_e"] (spTaken K mg A) := by
  refine F.ok sc__law_taken (fun vs H Q E h => ?_) (fun cdv Ar outer s H vs Q E hr h => ?_)
  · obtain ⟨x, D, y, rfl, _⟩ := h
    rfl
  · obtain ⟨x, D, y, rfl, hx, G, k⟩ := h
    have nk : ∀ C ∈ A.NoRound :: A.NoKept :: A.cs, C ≠ A.KeepError := fun C hC z => (List.nodup_cons.mp T.nd).1 (z ▸ hC)
    refine ⟨_, (pss_cons (ps_set (i := 1) sc__law_taken.nd rfl (Or.inl rfl) (pe_lst (pa_cons (pe_callB call_isX (by rfl) T.z_isinstance (by decide +kernel) (pa_cons (pv 0) (pa_cons (pe_glob (v := .ref A.NoProgram) (by rfl) T.g_NoProgram rfl) pa_nil))) (pa_cons (pe_callB call_isX (by rfl) T.z_isinstance (by decide +kernel) (pa_cons (pv 0) (pa_cons (pe_glob (v := .ref A.NoRow) (by rfl) T.g_NoRow rfl) pa_nil))) (pa_cons (pe_callB call_isX (by rfl) T.z_isinstance (by decide +kernel) (pa_cons (pv 0) (pa_cons (pe_glob (v := .ref A.NoState) (by rfl) T.g_NoState rfl) pa_nil))) pa_nil)))))
        (pss_cons (ps_set (i := 1) sc__law_taken.nd rfl (Or.inl rfl) (pe_op op_cat (pv 1) (pe_lst (pa_cons (pe_callB call_isX (by rfl) T.z_isinstance (by decide +kernel) (pa_cons (pv 0) (pa_cons (pe_glob (v := .ref A.NoRun) (by rfl) T.g_NoRun rfl) pa_nil))) (pa_cons (pe_callB call_isX (by rfl) T.z_isinstance (by decide +kernel) (pa_cons (pv 0) (pa_cons (pe_glob (v := .ref A.NoCode) (by rfl) T.g_NoCode rfl) pa_nil))) (pa_cons (pe_callB call_isX (by rfl) T.z_isinstance (by decide +kernel) (pa_cons (pv 0) (pa_cons (pe_glob (v := .ref A.NotOver) (by rfl) T.g_NotOver rfl) pa_nil))) pa_nil))))))
        (pss_cons (ps_set (i := 1) sc__law_taken.nd rfl (Or.inl rfl) (pe_op op_cat (pv 1) (pe_lst (pa_cons (pe_callB call_isX (by rfl) T.z_isinstance (by decide +kernel) (pa_cons (pv 0) (pa_cons (pe_glob (v := .ref A.NoPaper) (by rfl) T.g_NoPaper rfl) pa_nil))) (pa_cons (pe_callB call_isX (by rfl) T.z_isinstance (by decide +kernel) (pa_cons (pv 0) (pa_cons (pe_glob (v := .ref A.NoForm) (by rfl) T.g_NoForm rfl) pa_nil))) (pa_cons (pe_callB call_isX (by rfl) T.z_isinstance (by decide +kernel) (pa_cons (pv 0) (pa_cons (pe_glob (v := .ref A.NoCount) (by rfl) T.g_NoCount rfl) pa_nil))) pa_nil))))))
        (pss_cons (ps_set (i := 1) sc__law_taken.nd rfl (Or.inl rfl) (pe_op op_cat (pv 1) (pe_lst (pa_cons (pe_callB call_isX (by rfl) T.z_isinstance (by decide +kernel) (pa_cons (pv 0) (pa_cons (pe_glob (v := .ref A.NoText) (by rfl) T.g_NoText rfl) pa_nil))) (pa_cons (pe_callB call_isX (by rfl) T.z_isinstance (by decide +kernel) (pa_cons (pv 0) (pa_cons (pe_glob (v := .ref A.NoRows) (by rfl) T.g_NoRows rfl) pa_nil))) (pa_cons (pe_callB call_isX (by rfl) T.z_isinstance (by decide +kernel) (pa_cons (pv 0) (pa_cons (pe_glob (v := .ref A.NoAutomaton) (by rfl) T.g_NoAutomaton rfl) pa_nil))) pa_nil))))))
        (pss_cons (ps_set (i := 1) sc__law_taken.nd rfl (Or.inl rfl) (pe_op op_cat (pv 1) (pe_lst (pa_cons (pe_callB call_isX (by rfl) T.z_isinstance (by decide +kernel) (pa_cons (pv 0) (pa_cons (pe_glob (v := .ref A.NoCalls) (by rfl) T.g_NoCalls rfl) pa_nil))) (pa_cons (pe_callB call_isX (by rfl) T.z_isinstance (by decide +kernel) (pa_cons (pv 0) (pa_cons (pe_glob (v := .ref A.NoFunction) (by rfl) T.g_NoFunction rfl) pa_nil))) (pa_cons (pe_callB call_isX (by rfl) T.z_isinstance (by decide +kernel) (pa_cons (pv 0) (pa_cons (pe_glob (v := .ref A.NoRecipe) (by rfl) T.g_NoRecipe rfl) pa_nil))) pa_nil))))))
        (pss_cons (ps_set (i := 1) sc__law_taken.nd rfl (Or.inl rfl) (pe_op op_cat (pv 1) (pe_lst (pa_cons (pe_callB call_isX (by rfl) T.z_isinstance (by decide +kernel) (pa_cons (pv 0) (pa_cons (pe_glob (v := .ref A.NoGuess) (by rfl) T.g_NoGuess rfl) pa_nil))) (pa_cons (pe_callB call_isX (by rfl) T.z_isinstance (by decide +kernel) (pa_cons (pv 0) (pa_cons (pe_glob (v := .ref A.Refused) (by rfl) T.g_Refused rfl) pa_nil))) (pa_cons (pe_callB call_isX (by rfl) T.z_isinstance (by decide +kernel) (pa_cons (pv 0) (pa_cons (pe_glob (v := .ref A.NoGuessCode) (by rfl) T.g_NoGuessCode rfl) pa_nil))) pa_nil))))))
        (pss_cons (ps_set (i := 1) sc__law_taken.nd rfl (Or.inl rfl) (pe_op op_cat (pv 1) (pe_lst (pa_cons (pe_callB call_isX (by rfl) T.z_isinstance (by decide +kernel) (pa_cons (pv 0) (pa_cons (pe_glob (v := .ref A.NoNumber) (by rfl) T.g_NoNumber rfl) pa_nil))) pa_nil))))
        (pss_one (ps_ret (pv 1)))))))))), ?_⟩
    refine ss_new (vs := [V.bl (decide (D = A.NoProgram)), V.bl (decide (D = A.NoRow)), V.bl (decide (D = A.NoState))]) (pl_cons (pv_isx (x := x) (c := .ref A.NoProgram) (pv_var rfl) pv_c hx G.ek (.own _) (kit_er G T.e_NoProgram.k (nk _ (by simp [Ad.cs])))) (pl_cons (pv_isx (x := x) (c := .ref A.NoRow) (pv_var rfl) pv_c hx G.ek (.own _) (kit_er G T.e_NoRow.k (nk _ (by simp [Ad.cs])))) (pl_cons (pv_isx (x := x) (c := .ref A.NoState) (pv_var rfl) pv_c hx G.ek (.own _) (kit_er G T.e_NoState.k (nk _ (by simp [Ad.cs])))) pl_nil))) (Nat.le_of_ble_eq_true rfl) fun p0 H0 s0 f0 h0 => ?_
    have t0 := s0
    refine ss_cat (vs := [V.bl (decide (D = A.NoRun)), V.bl (decide (D = A.NoCode)), V.bl (decide (D = A.NotOver))]) rfl h0 (pl_cons (pv_isx (x := x) (c := .ref A.NoRun) (pv_var rfl) pv_c (erv_same t0 hx) G.ek (.own _) (kit_er G T.e_NoRun.k (nk _ (by simp [Ad.cs])))) (pl_cons (pv_isx (x := x) (c := .ref A.NoCode) (pv_var rfl) pv_c (erv_same t0 hx) G.ek (.own _) (kit_er G T.e_NoCode.k (nk _ (by simp [Ad.cs])))) (pl_cons (pv_isx (x := x) (c := .ref A.NotOver) (pv_var rfl) pv_c (erv_same t0 hx) G.ek (.own _) (kit_er G T.e_NotOver.k (nk _ (by simp [Ad.cs])))) pl_nil))) (Nat.le_of_ble_eq_true rfl) fun p1 H1 s1 f1 h1 => ?_
    have t1 := t0.trans s1
    refine ss_cat (vs := [V.bl (decide (D = A.NoPaper)), V.bl (decide (D = A.NoForm)), V.bl (decide (D = A.NoCount))]) rfl h1 (pl_cons (pv_isx (x := x) (c := .ref A.NoPaper) (pv_var rfl) pv_c (erv_same t1 hx) G.ek (.own _) (kit_er G T.e_NoPaper.k (nk _ (by simp [Ad.cs])))) (pl_cons (pv_isx (x := x) (c := .ref A.NoForm) (pv_var rfl) pv_c (erv_same t1 hx) G.ek (.own _) (kit_er G T.e_NoForm.k (nk _ (by simp [Ad.cs])))) (pl_cons (pv_isx (x := x) (c := .ref A.NoCount) (pv_var rfl) pv_c (erv_same t1 hx) G.ek (.own _) (kit_er G T.e_NoCount.k (nk _ (by simp [Ad.cs])))) pl_nil))) (Nat.le_of_ble_eq_true rfl) fun p2 H2 s2 f2 h2 => ?_
    have t2 := t1.trans s2
    refine ss_cat (vs := [V.bl (decide (D = A.NoText)), V.bl (decide (D = A.NoRows)), V.bl (decide (D = A.NoAutomaton))]) rfl h2 (pl_cons (pv_isx (x := x) (c := .ref A.NoText) (pv_var rfl) pv_c (erv_same t2 hx) G.ek (.own _) (kit_er G T.e_NoText.k (nk _ (by simp [Ad.cs])))) (pl_cons (pv_isx (x := x) (c := .ref A.NoRows) (pv_var rfl) pv_c (erv_same t2 hx) G.ek (.own _) (kit_er G T.e_NoRows.k (nk _ (by simp [Ad.cs])))) (pl_cons (pv_isx (x := x) (c := .ref A.NoAutomaton) (pv_var rfl) pv_c (erv_same t2 hx) G.ek (.own _) (kit_er G T.e_NoAutomaton.k (nk _ (by simp [Ad.cs])))) pl_nil))) (Nat.le_of_ble_eq_true rfl) fun p3 H3 s3 f3 h3 => ?_
    have t3 := t2.trans s3
    refine ss_cat (vs := [V.bl (decide (D = A.NoCalls)), V.bl (decide (D = A.NoFunction)), V.bl (decide (D = A.NoRecipe))]) rfl h3 (pl_cons (pv_isx (x := x) (c := .ref A.NoCalls) (pv_var rfl) pv_c (erv_same t3 hx) G.ek (.own _) (kit_er G T.e_NoCalls.k (nk _ (by simp [Ad.cs])))) (pl_cons (pv_isx (x := x) (c := .ref A.NoFunction) (pv_var rfl) pv_c (erv_same t3 hx) G.ek (.own _) (kit_er G T.e_NoFunction.k (nk _ (by simp [Ad.cs])))) (pl_cons (pv_isx (x := x) (c := .ref A.NoRecipe) (pv_var rfl) pv_c (erv_same t3 hx) G.ek (.own _) (kit_er G T.e_NoRecipe.k (nk _ (by simp [Ad.cs])))) pl_nil))) (Nat.le_of_ble_eq_true rfl) fun p4 H4 s4 f4 h4 => ?_
    have t4 := t3.trans s4
    refine ss_cat (vs := [V.bl (decide (D = A.NoGuess)), V.bl (decide (D = A.Refused)), V.bl (decide (D = A.NoGuessCode))]) rfl h4 (pl_cons (pv_isx (x := x) (c := .ref A.NoGuess) (pv_var rfl) pv_c (erv_same t4 hx) G.ek (.own _) (kit_er G T.e_NoGuess.k (nk _ (by simp [Ad.cs])))) (pl_cons (pv_isx (x := x) (c := .ref A.Refused) (pv_var rfl) pv_c (erv_same t4 hx) G.ek (.own _) (kit_er G T.e_Refused.k (nk _ (by simp [Ad.cs])))) (pl_cons (pv_isx (x := x) (c := .ref A.NoGuessCode) (pv_var rfl) pv_c (erv_same t4 hx) G.ek (.own _) (kit_er G T.e_NoGuessCode.k (nk _ (by simp [Ad.cs])))) pl_nil))) (Nat.le_of_ble_eq_true rfl) fun p5 H5 s5 f5 h5 => ?_
    have t5 := t4.trans s5
    refine ss_cat (vs := [V.bl (decide (D = A.NoNumber))]) rfl h5 (pl_cons (pv_isx (x := x) (c := .ref A.NoNumber) (pv_var rfl) pv_c (erv_same t5 hx) G.ek (.own _) (kit_er G T.e_NoNumber.k (nk _ (by simp [Ad.cs])))) pl_nil) (Nat.le_of_ble_eq_true rfl) fun p6 H6 s6 f6 h6 => ?_
    have t6 := t5.trans s6
    walk_at "lk"
    exact k _ _ t6 (t5.free f6) h6
abbrev s__law_by_place : Stmt := top 27
theorem sc__law_by_place : FnScope ["_law_x", "_law_some"] ["_law_x"] (defScope s__law_by_place) := ⟨rfl, rfl, rfl, by decide +kernel, rfl, by decide +kernel, by decide +kernel⟩
theorem ok_by_place {f : Addr} {fd : FuncData} (F : Fun K "_law_by_place" "_law_by_place" s__law_by_place f fd) (T : Txt P w K mg base A) : FnOk P w K mg base CX0 3 f fd ["_law_x"] (spMade A) := by
  refine F.ok sc__law_by_place (fun vs H Q E h => ?_) (fun cdv Ar outer s H vs Q E hr h => ?_)
  · obtain ⟨x, rfl, _⟩ := h
    rfl
  · obtain ⟨x, rfl, k⟩ := h
    refine ⟨_, (pss_cons (ps_set (i := 1) sc__law_by_place.nd rfl (Or.inl rfl) (pe_lst (pa_cons (T.e_NoProgram.pe hr (by decide) (pa_cons (pv 0) (pa_cons pe_int pa_nil))) (pa_cons (T.e_NoRow.pe hr (by decide) (pa_cons (pv 0) pa_nil)) (pa_cons (T.e_NoState.pe hr (by decide) (pa_cons (pv 0) pa_nil)) (pa_cons (T.e_NoRun.pe hr (by decide) (pa_cons (pv 0) pa_nil)) pa_nil))))))
        (pss_cons (ps_set (i := 1) sc__law_by_place.nd rfl (Or.inl rfl) (pe_op op_cat (pv 1) (pe_lst (pa_cons (T.e_NoCode.pe hr (by decide) (pa_cons (pv 0) (pa_cons pe_int (pa_cons pe_int pa_nil)))) (pa_cons (T.e_NotOver.pe hr (by decide) (pa_cons (pv 0) pa_nil)) (pa_cons (T.e_NoPaper.pe hr (by decide) (pa_cons (pv 0) (pa_cons pe_int pa_nil))) (pa_cons (T.e_NoForm.pe hr (by decide) (pa_cons (pv 0) pa_nil)) pa_nil)))))))
        (pss_cons (ps_set (i := 1) sc__law_by_place.nd rfl (Or.inl rfl) (pe_op op_cat (pv 1) (pe_lst (pa_cons (T.e_NoCount.pe hr (by decide) (pa_cons (pv 0) pa_nil)) (pa_cons (T.e_NoText.pe hr (by decide) (pa_cons (pv 0) pa_nil)) (pa_cons (T.e_NoRows.pe hr (by decide) (pa_cons (pv 0) (pa_cons pe_int pa_nil))) (pa_cons (T.e_NoAutomaton.pe hr (by decide) (pa_cons (pv 0) pa_nil)) pa_nil)))))))
        (pss_cons (ps_set (i := 1) sc__law_by_place.nd rfl (Or.inl rfl) (pe_op op_cat (pv 1) (pe_lst (pa_cons (T.e_NoCalls.pe hr (by decide) (pa_cons (pv 0) (pa_cons pe_int (pa_cons pe_int pa_nil)))) (pa_cons (T.e_NoFunction.pe hr (by decide) (pa_cons (pv 0) pa_nil)) (pa_cons (T.e_NoRecipe.pe hr (by decide) (pa_cons (pv 0) pa_nil)) (pa_cons (T.e_NoGuess.pe hr (by decide) (pa_cons (pv 0) pa_nil)) pa_nil)))))))
        (pss_cons (ps_set (i := 1) sc__law_by_place.nd rfl (Or.inl rfl) (pe_op op_cat (pv 1) (pe_lst (pa_cons (T.e_Refused.pe hr (by decide) (pa_cons (pv 0) pa_nil)) (pa_cons (T.e_NoGuessCode.pe hr (by decide) (pa_cons (pv 0) (pa_cons pe_int pa_nil))) (pa_cons (T.e_NoNumber.pe hr (by decide) (pa_cons (pv 0) pa_nil)) pa_nil))))))
        (pss_one (ps_ret (pv 1)))))))), ?_⟩
    refine ss_mk (rs := [(A.NoProgram, [("index", .int 7), ("part", x)]), (A.NoRow, [("row", x)]), (A.NoState, [("index", x)]), (A.NoRun, [("index", x)])]) (mkl_cons (mk2 fun _ => (pl_cons (pv_var rfl) (pl_cons pv_c pl_nil))) (mkl_cons (mk1 fun _ => (pl_cons (pv_var rfl) pl_nil)) (mkl_cons (mk1 fun _ => (pl_cons (pv_var rfl) pl_nil)) (mkl_cons (mk1 fun _ => (pl_cons (pv_var rfl) pl_nil)) mkl_nil)))) (Nat.le_of_ble_eq_true rfl) fun p0 a0 H0 s0 h0 m0 => ?_
    have t0 := s0
    refine ss_mkcat (qs := [(A.NoCode, [("index", .int 8), ("part", .int 7), ("row", x)]), (A.NotOver, [("row", x)]), (A.NoPaper, [("index", .int 7), ("part", x)]), (A.NoForm, [("index", x)])]) rfl h0 m0 (mkl_cons (mk3 fun _ => (pl_cons (pv_var rfl) (pl_cons pv_c (pl_cons pv_c pl_nil)))) (mkl_cons (mk1 fun _ => (pl_cons (pv_var rfl) pl_nil)) (mkl_cons (mk2 fun _ => (pl_cons (pv_var rfl) (pl_cons pv_c pl_nil))) (mkl_cons (mk1 fun _ => (pl_cons (pv_var rfl) pl_nil)) mkl_nil)))) (Nat.le_of_ble_eq_true rfl) fun p1 a1 H1 s1 h1 m1 => ?_
    have t1 := t0.trans s1
    refine ss_mkcat (qs := [(A.NoCount, [("part", x)]), (A.NoText, [("line", x)]), (A.NoRows, [("index", .int 7), ("part", x)]), (A.NoAutomaton, [("index", x)])]) rfl h1 m1 (mkl_cons (mk1 fun _ => (pl_cons (pv_var rfl) pl_nil)) (mkl_cons (mk1 fun _ => (pl_cons (pv_var rfl) pl_nil)) (mkl_cons (mk2 fun _ => (pl_cons (pv_var rfl) (pl_cons pv_c pl_nil))) (mkl_cons (mk1 fun _ => (pl_cons (pv_var rfl) pl_nil)) mkl_nil)))) (Nat.le_of_ble_eq_true rfl) fun p2 a2 H2 s2 h2 m2 => ?_
    have t2 := t1.trans s2
    refine ss_mkcat (qs := [(A.NoCalls, [("index", .int 8), ("part", .int 7), ("function", x)]), (A.NoFunction, [("function", x)]), (A.NoRecipe, [("index", x)]), (A.NoGuess, [("index", x)])]) rfl h2 m2 (mkl_cons (mk3 fun _ => (pl_cons (pv_var rfl) (pl_cons pv_c (pl_cons pv_c pl_nil)))) (mkl_cons (mk1 fun _ => (pl_cons (pv_var rfl) pl_nil)) (mkl_cons (mk1 fun _ => (pl_cons (pv_var rfl) pl_nil)) (mkl_cons (mk1 fun _ => (pl_cons (pv_var rfl) pl_nil)) mkl_nil)))) (Nat.le_of_ble_eq_true rfl) fun p3 a3 H3 s3 h3 m3 => ?_
    have t3 := t2.trans s3
    refine ss_mkcat (qs := [(A.Refused, [("index", x)]), (A.NoGuessCode, [("index", .int 7), ("part", x)]), (A.NoNumber, [("number", x)])]) rfl h3 m3 (mkl_cons (mk1 fun _ => (pl_cons (pv_var rfl) pl_nil)) (mkl_cons (mk2 fun _ => (pl_cons (pv_var rfl) (pl_cons pv_c pl_nil))) (mkl_cons (mk1 fun _ => (pl_cons (pv_var rfl) pl_nil)) mkl_nil))) (Nat.le_of_ble_eq_true rfl) fun p4 a4 H4 s4 h4 m4 => ?_
    have t4 := t3.trans s4
    walk_at "lk"
    exact k _ _ _ t4 h4 m4
abbrev s__law_by_name : Stmt := top 28
theorem sc__law_by_name : FnScope ["_law_x", "_law_some"] ["_law_x"] (defScope s__law_by_name) := ⟨rfl, rfl, rfl, by decide +kernel, rfl, by decide +kernel, by decide +kernel⟩
theorem ok_by_name {f : Addr} {fd : FuncData} (F : Fun K "_law_by_name" "_law_by_name" s__law_by_name f fd) (T : Txt P w K mg base A) : FnOk P w K mg base CX0 3 f fd ["_law_x"] (spMade A) := by
  refine F.ok sc__law_by_name (fun vs H Q E h => ?_) (fun cdv Ar outer s H vs Q E hr h => ?_)
  · obtain ⟨x, rfl, _⟩ := h
    rfl
  · obtain ⟨x, rfl, k⟩ := h
    refine ⟨_, (pss_cons (ps_set (i := 1) sc__law_by_name.nd rfl (Or.inl rfl) (pe_lst (pa_cons (T.e_NoProgram.pk hr (by decide) (pk_cons pe_int (pk_cons (pv 0) pk_nil))) (pa_cons (T.e_NoRow.pk hr (by decide) (pk_cons (pv 0) pk_nil)) (pa_cons (T.e_NoState.pk hr (by decide) (pk_cons (pv 0) pk_nil)) pa_nil)))))
        (pss_cons (ps_set (i := 1) sc__law_by_name.nd rfl (Or.inl rfl) (pe_op op_cat (pv 1) (pe_lst (pa_cons (T.e_NoRun.pk hr (by decide) (pk_cons (pv 0) pk_nil)) (pa_cons (T.e_NoCode.pk hr (by decide) (pk_cons pe_int (pk_cons pe_int (pk_cons (pv 0) pk_nil)))) (pa_cons (T.e_NotOver.pk hr (by decide) (pk_cons (pv 0) pk_nil)) pa_nil))))))
        (pss_cons (ps_set (i := 1) sc__law_by_name.nd rfl (Or.inl rfl) (pe_op op_cat (pv 1) (pe_lst (pa_cons (T.e_NoPaper.pk hr (by decide) (pk_cons pe_int (pk_cons (pv 0) pk_nil))) (pa_cons (T.e_NoForm.pk hr (by decide) (pk_cons (pv 0) pk_nil)) (pa_cons (T.e_NoCount.pk hr (by decide) (pk_cons (pv 0) pk_nil)) pa_nil))))))
        (pss_cons (ps_set (i := 1) sc__law_by_name.nd rfl (Or.inl rfl) (pe_op op_cat (pv 1) (pe_lst (pa_cons (T.e_NoText.pk hr (by decide) (pk_cons (pv 0) pk_nil)) (pa_cons (T.e_NoRows.pk hr (by decide) (pk_cons pe_int (pk_cons (pv 0) pk_nil))) (pa_cons (T.e_NoAutomaton.pk hr (by decide) (pk_cons (pv 0) pk_nil)) pa_nil))))))
        (pss_cons (ps_set (i := 1) sc__law_by_name.nd rfl (Or.inl rfl) (pe_op op_cat (pv 1) (pe_lst (pa_cons (T.e_NoCalls.pk hr (by decide) (pk_cons pe_int (pk_cons pe_int (pk_cons (pv 0) pk_nil)))) (pa_cons (T.e_NoFunction.pk hr (by decide) (pk_cons (pv 0) pk_nil)) (pa_cons (T.e_NoRecipe.pk hr (by decide) (pk_cons (pv 0) pk_nil)) pa_nil))))))
        (pss_cons (ps_set (i := 1) sc__law_by_name.nd rfl (Or.inl rfl) (pe_op op_cat (pv 1) (pe_lst (pa_cons (T.e_NoGuess.pk hr (by decide) (pk_cons (pv 0) pk_nil)) (pa_cons (T.e_Refused.pk hr (by decide) (pk_cons (pv 0) pk_nil)) (pa_cons (T.e_NoGuessCode.pk hr (by decide) (pk_cons pe_int (pk_cons (pv 0) pk_nil))) pa_nil))))))
        (pss_cons (ps_set (i := 1) sc__law_by_name.nd rfl (Or.inl rfl) (pe_op op_cat (pv 1) (pe_lst (pa_cons (T.e_NoNumber.pk hr (by decide) (pk_cons (pv 0) pk_nil)) pa_nil))))
        (pss_one (ps_ret (pv 1)))))))))), ?_⟩
    refine ss_mk (rs := [(A.NoProgram, [("index", .int 7), ("part", x)]), (A.NoRow, [("row", x)]), (A.NoState, [("index", x)])]) (mkl_cons (mk2k fun _ => (pl_cons pv_c (pl_cons (pv_var rfl) pl_nil))) (mkl_cons (mk1k fun _ => (pl_cons (pv_var rfl) pl_nil)) (mkl_cons (mk1k fun _ => (pl_cons (pv_var rfl) pl_nil)) mkl_nil))) (Nat.le_of_ble_eq_true rfl) fun p0 a0 H0 s0 h0 m0 => ?_
    have t0 := s0
    refine ss_mkcat (qs := [(A.NoRun, [("index", x)]), (A.NoCode, [("index", .int 8), ("part", .int 7), ("row", x)]), (A.NotOver, [("row", x)])]) rfl h0 m0 (mkl_cons (mk1k fun _ => (pl_cons (pv_var rfl) pl_nil)) (mkl_cons (mk3k fun _ => (pl_cons pv_c (pl_cons pv_c (pl_cons (pv_var rfl) pl_nil)))) (mkl_cons (mk1k fun _ => (pl_cons (pv_var rfl) pl_nil)) mkl_nil))) (Nat.le_of_ble_eq_true rfl) fun p1 a1 H1 s1 h1 m1 => ?_
    have t1 := t0.trans s1
    refine ss_mkcat (qs := [(A.NoPaper, [("index", .int 7), ("part", x)]), (A.NoForm, [("index", x)]), (A.NoCount, [("part", x)])]) rfl h1 m1 (mkl_cons (mk2k fun _ => (pl_cons pv_c (pl_cons (pv_var rfl) pl_nil))) (mkl_cons (mk1k fun _ => (pl_cons (pv_var rfl) pl_nil)) (mkl_cons (mk1k fun _ => (pl_cons (pv_var rfl) pl_nil)) mkl_nil))) (Nat.le_of_ble_eq_true rfl) fun p2 a2 H2 s2 h2 m2 => ?_
    have t2 := t1.trans s2
    refine ss_mkcat (qs := [(A.NoText, [("line", x)]), (A.NoRows, [("index", .int 7), ("part", x)]), (A.NoAutomaton, [("index", x)])]) rfl h2 m2 (mkl_cons (mk1k fun _ => (pl_cons (pv_var rfl) pl_nil)) (mkl_cons (mk2k fun _ => (pl_cons pv_c (pl_cons (pv_var rfl) pl_nil))) (mkl_cons (mk1k fun _ => (pl_cons (pv_var rfl) pl_nil)) mkl_nil))) (Nat.le_of_ble_eq_true rfl) fun p3 a3 H3 s3 h3 m3 => ?_
    have t3 := t2.trans s3
    refine ss_mkcat (qs := [(A.NoCalls, [("index", .int 8), ("part", .int 7), ("function", x)]), (A.NoFunction, [("function", x)]), (A.NoRecipe, [("index", x)])]) rfl h3 m3 (mkl_cons (mk3k fun _ => (pl_cons pv_c (pl_cons pv_c (pl_cons (pv_var rfl) pl_nil)))) (mkl_cons (mk1k fun _ => (pl_cons (pv_var rfl) pl_nil)) (mkl_cons (mk1k fun _ => (pl_cons (pv_var rfl) pl_nil)) mkl_nil))) (Nat.le_of_ble_eq_true rfl) fun p4 a4 H4 s4 h4 m4 => ?_
    have t4 := t3.trans s4
    refine ss_mkcat (qs := [(A.NoGuess, [("index", x)]), (A.Refused, [("index", x)]), (A.NoGuessCode, [("index", .int 7), ("part", x)])]) rfl h4 m4 (mkl_cons (mk1k fun _ => (pl_cons (pv_var rfl) pl_nil)) (mkl_cons (mk1k fun _ => (pl_cons (pv_var rfl) pl_nil)) (mkl_cons (mk2k fun _ => (pl_cons pv_c (pl_cons (pv_var rfl) pl_nil))) mkl_nil))) (Nat.le_of_ble_eq_true rfl) fun p5 a5 H5 s5 h5 m5 => ?_
    have t5 := t4.trans s5
    refine ss_mkcat (qs := [(A.NoNumber, [("number", x)])]) rfl h5 m5 (mkl_cons (mk1k fun _ => (pl_cons (pv_var rfl) pl_nil)) mkl_nil) (Nat.le_of_ble_eq_true rfl) fun p6 a6 H6 s6 h6 m6 => ?_
    have t6 := t5.trans s6
    walk_at "lk"
    exact k _ _ _ t6 h6 m6
abbrev s__law_fields : Stmt := top 29
theorem sc__law_fields : FnScope ["_law_some", "_law_found"] ["_law_some"] (defScope s__law_fields) := ⟨rfl, rfl, rfl, by decide +kernel, rfl, by decide +kernel, by decide +kernel⟩
theorem ok_fields {f : Addr} {fd : FuncData} (F : Fun K "_law_fields" "_law_fields" s__law_fields f fd) (T : Txt P w K mg base A) : FnOk P w K mg base CX0 1 f fd ["_law_some"] (spFields K A) := by
  refine F.ok sc__law_fields (fun vs H Q E h => ?_) (fun cdv Ar outer s H vs Q E hr h => ?_)
  · obtain ⟨l, as, x, rfl, _⟩ := h
    rfl
  · obtain ⟨l, as, x, rfl, hl, hm, k⟩ := h
    refine ⟨_, (pss_cons (ps_set (i := 1) sc__law_fields.nd rfl (Or.inl rfl) (pe_lst (pa_cons (pe_ef (pe_ix ix_list (pv 0) pe_int (fun _ _ => rfl))) (pa_cons (pe_ef (pe_ix ix_list (pv 0) pe_int (fun _ _ => rfl))) (pa_cons (pe_ef (pe_ix ix_list (pv 0) pe_int (fun _ _ => rfl))) (pa_cons (pe_ef (pe_ix ix_list (pv 0) pe_int (fun _ _ => rfl))) pa_nil))))))
        (pss_cons (ps_set (i := 1) sc__law_fields.nd rfl (Or.inl rfl) (pe_op op_cat (pv 1) (pe_lst (pa_cons (pe_ef (pe_ix ix_list (pv 0) pe_int (fun _ _ => rfl))) (pa_cons (pe_ef (pe_ix ix_list (pv 0) pe_int (fun _ _ => rfl))) (pa_cons (pe_ef (pe_ix ix_list (pv 0) pe_int (fun _ _ => rfl))) (pa_cons (pe_ef (pe_ix ix_list (pv 0) pe_int (fun _ _ => rfl))) pa_nil)))))))
        (pss_cons (ps_set (i := 1) sc__law_fields.nd rfl (Or.inl rfl) (pe_op op_cat (pv 1) (pe_lst (pa_cons (pe_ef (pe_ix ix_list (pv 0) pe_int (fun _ _ => rfl))) (pa_cons (pe_ef (pe_ix ix_list (pv 0) pe_int (fun _ _ => rfl))) (pa_cons (pe_ef (pe_ix ix_list (pv 0) pe_int (fun _ _ => rfl))) (pa_cons (pe_ef (pe_ix ix_list (pv 0) pe_int (fun _ _ => rfl))) pa_nil)))))))
        (pss_cons (ps_set (i := 1) sc__law_fields.nd rfl (Or.inl rfl) (pe_op op_cat (pv 1) (pe_lst (pa_cons (pe_ef (pe_ix ix_list (pv 0) pe_int (fun _ _ => rfl))) (pa_cons (pe_ef (pe_ix ix_list (pv 0) pe_int (fun _ _ => rfl))) (pa_cons (pe_ef (pe_ix ix_list (pv 0) pe_int (fun _ _ => rfl))) (pa_cons (pe_ef (pe_ix ix_list (pv 0) pe_int (fun _ _ => rfl))) pa_nil)))))))
        (pss_cons (ps_set (i := 1) sc__law_fields.nd rfl (Or.inl rfl) (pe_op op_cat (pv 1) (pe_lst (pa_cons (pe_ef (pe_ix ix_list (pv 0) pe_int (fun _ _ => rfl))) (pa_cons (pe_ef (pe_ix ix_list (pv 0) pe_int (fun _ _ => rfl))) (pa_cons (pe_ef (pe_ix ix_list (pv 0) pe_int (fun _ _ => rfl))) (pa_cons (pe_ef (pe_ix ix_list (pv 0) pe_int (fun _ _ => rfl))) pa_nil)))))))
        (pss_cons (ps_set (i := 1) sc__law_fields.nd rfl (Or.inl rfl) (pe_op op_cat (pv 1) (pe_lst (pa_cons (pe_ef (pe_ix ix_list (pv 0) pe_int (fun _ _ => rfl))) (pa_cons (pe_ef (pe_ix ix_list (pv 0) pe_int (fun _ _ => rfl))) (pa_cons (pe_ef (pe_ix ix_list (pv 0) pe_int (fun _ _ => rfl))) (pa_cons (pe_ef (pe_ix ix_list (pv 0) pe_int (fun _ _ => rfl))) pa_nil)))))))
        (pss_cons (ps_set (i := 1) sc__law_fields.nd rfl (Or.inl rfl) (pe_op op_cat (pv 1) (pe_lst (pa_cons (pe_ef (pe_ix ix_list (pv 0) pe_int (fun _ _ => rfl))) (pa_cons (pe_ef (pe_ix ix_list (pv 0) pe_int (fun _ _ => rfl))) (pa_cons (pe_ef (pe_ix ix_list (pv 0) pe_int (fun _ _ => rfl))) pa_nil))))))
        (pss_one (ps_ret (pv 1)))))))))), ?_⟩
    refine ss_new (vs := [x, .int 7, x, x]) (pl_cons (pv_ef (n := 0) (l := l) (C := A.NoProgram) (fs := [("index", .int 7), ("part", x)]) rfl hl hm rfl T.e_NoProgram.nf (lkB (by decide +kernel) lkA)) (pl_cons (pv_ef (n := 0) (l := l) (C := A.NoProgram) (fs := [("index", .int 7), ("part", x)]) rfl hl hm rfl T.e_NoProgram.ng lkA) (pl_cons (pv_ef (n := 1) (l := l) (C := A.NoRow) (fs := [("row", x)]) rfl hl hm rfl T.e_NoRow.nf lkA) (pl_cons (pv_ef (n := 2) (l := l) (C := A.NoState) (fs := [("index", x)]) rfl hl hm rfl T.e_NoState.nf lkA) pl_nil)))) (Nat.le_of_ble_eq_true rfl) fun p0 H0 s0 f0 h0 => ?_
    have t0 := s0
    refine ss_cat (vs := [x, x, .int 7, .int 8]) rfl h0 (pl_cons (pv_ef (n := 3) (l := l) (C := A.NoRun) (fs := [("index", x)]) rfl (t0.seq hl) (hm.same t0) rfl T.e_NoRun.nf lkA) (pl_cons (pv_ef (n := 4) (l := l) (C := A.NoCode) (fs := [("index", .int 8), ("part", .int 7), ("row", x)]) rfl (t0.seq hl) (hm.same t0) rfl T.e_NoCode.nf (lkB (by decide +kernel) (lkB (by decide +kernel) lkA))) (pl_cons (pv_ef (n := 4) (l := l) (C := A.NoCode) (fs := [("index", .int 8), ("part", .int 7), ("row", x)]) rfl (t0.seq hl) (hm.same t0) rfl T.e_NoCode.ng (lkB (by decide +kernel) lkA)) (pl_cons (pv_ef (n := 4) (l := l) (C := A.NoCode) (fs := [("index", .int 8), ("part", .int 7), ("row", x)]) rfl (t0.seq hl) (hm.same t0) rfl T.e_NoCode.nl lkA) pl_nil)))) (Nat.le_of_ble_eq_true rfl) fun p1 H1 s1 f1 h1 => ?_
    have t1 := t0.trans s1
    refine ss_cat (vs := [x, x, .int 7, x]) rfl h1 (pl_cons (pv_ef (n := 5) (l := l) (C := A.NotOver) (fs := [("row", x)]) rfl (t1.seq hl) (hm.same t1) rfl T.e_NotOver.nf lkA) (pl_cons (pv_ef (n := 6) (l := l) (C := A.NoPaper) (fs := [("index", .int 7), ("part", x)]) rfl (t1.seq hl) (hm.same t1) rfl T.e_NoPaper.nf (lkB (by decide +kernel) lkA)) (pl_cons (pv_ef (n := 6) (l := l) (C := A.NoPaper) (fs := [("index", .int 7), ("part", x)]) rfl (t1.seq hl) (hm.same t1) rfl T.e_NoPaper.ng lkA) (pl_cons (pv_ef (n := 7) (l := l) (C := A.NoForm) (fs := [("index", x)]) rfl (t1.seq hl) (hm.same t1) rfl T.e_NoForm.nf lkA) pl_nil)))) (Nat.le_of_ble_eq_true rfl) fun p2 H2 s2 f2 h2 => ?_
    have t2 := t1.trans s2
    refine ss_cat (vs := [x, x, x, .int 7]) rfl h2 (pl_cons (pv_ef (n := 8) (l := l) (C := A.NoCount) (fs := [("part", x)]) rfl (t2.seq hl) (hm.same t2) rfl T.e_NoCount.nf lkA) (pl_cons (pv_ef (n := 9) (l := l) (C := A.NoText) (fs := [("line", x)]) rfl (t2.seq hl) (hm.same t2) rfl T.e_NoText.nf lkA) (pl_cons (pv_ef (n := 10) (l := l) (C := A.NoRows) (fs := [("index", .int 7), ("part", x)]) rfl (t2.seq hl) (hm.same t2) rfl T.e_NoRows.nf (lkB (by decide +kernel) lkA)) (pl_cons (pv_ef (n := 10) (l := l) (C := A.NoRows) (fs := [("index", .int 7), ("part", x)]) rfl (t2.seq hl) (hm.same t2) rfl T.e_NoRows.ng lkA) pl_nil)))) (Nat.le_of_ble_eq_true rfl) fun p3 H3 s3 f3 h3 => ?_
    have t3 := t2.trans s3
    refine ss_cat (vs := [x, x, .int 7, .int 8]) rfl h3 (pl_cons (pv_ef (n := 11) (l := l) (C := A.NoAutomaton) (fs := [("index", x)]) rfl (t3.seq hl) (hm.same t3) rfl T.e_NoAutomaton.nf lkA) (pl_cons (pv_ef (n := 12) (l := l) (C := A.NoCalls) (fs := [("index", .int 8), ("part", .int 7), ("function", x)]) rfl (t3.seq hl) (hm.same t3) rfl T.e_NoCalls.nf (lkB (by decide +kernel) (lkB (by decide +kernel) lkA))) (pl_cons (pv_ef (n := 12) (l := l) (C := A.NoCalls) (fs := [("index", .int 8), ("part", .int 7), ("function", x)]) rfl (t3.seq hl) (hm.same t3) rfl T.e_NoCalls.ng (lkB (by decide +kernel) lkA)) (pl_cons (pv_ef (n := 12) (l := l) (C := A.NoCalls) (fs := [("index", .int 8), ("part", .int 7), ("function", x)]) rfl (t3.seq hl) (hm.same t3) rfl T.e_NoCalls.nl lkA) pl_nil)))) (Nat.le_of_ble_eq_true rfl) fun p4 H4 s4 f4 h4 => ?_
    have t4 := t3.trans s4
    refine ss_cat (vs := [x, x, x, x]) rfl h4 (pl_cons (pv_ef (n := 13) (l := l) (C := A.NoFunction) (fs := [("function", x)]) rfl (t4.seq hl) (hm.same t4) rfl T.e_NoFunction.nf lkA) (pl_cons (pv_ef (n := 14) (l := l) (C := A.NoRecipe) (fs := [("index", x)]) rfl (t4.seq hl) (hm.same t4) rfl T.e_NoRecipe.nf lkA) (pl_cons (pv_ef (n := 15) (l := l) (C := A.NoGuess) (fs := [("index", x)]) rfl (t4.seq hl) (hm.same t4) rfl T.e_NoGuess.nf lkA) (pl_cons (pv_ef (n := 16) (l := l) (C := A.Refused) (fs := [("index", x)]) rfl (t4.seq hl) (hm.same t4) rfl T.e_Refused.nf lkA) pl_nil)))) (Nat.le_of_ble_eq_true rfl) fun p5 H5 s5 f5 h5 => ?_
    have t5 := t4.trans s5
    refine ss_cat (vs := [x, .int 7, x]) rfl h5 (pl_cons (pv_ef (n := 17) (l := l) (C := A.NoGuessCode) (fs := [("index", .int 7), ("part", x)]) rfl (t5.seq hl) (hm.same t5) rfl T.e_NoGuessCode.nf (lkB (by decide +kernel) lkA)) (pl_cons (pv_ef (n := 17) (l := l) (C := A.NoGuessCode) (fs := [("index", .int 7), ("part", x)]) rfl (t5.seq hl) (hm.same t5) rfl T.e_NoGuessCode.ng lkA) (pl_cons (pv_ef (n := 18) (l := l) (C := A.NoNumber) (fs := [("number", x)]) rfl (t5.seq hl) (hm.same t5) rfl T.e_NoNumber.nf lkA) pl_nil))) (Nat.le_of_ble_eq_true rfl) fun p6 H6 s6 f6 h6 => ?_
    have t6 := t5.trans s6
    walk_at "lk"
    exact k _ _ t6 (t5.free f6) h6
end
end K04

namespace K04
open PySem PySem.Spec PyProof.Rows L2 Lk
local macro_rules | `(tactic| walk_at "lk") => `(tactic| (repeat (first
  | with_reducible refine ssq ?_ | with_reducible refine sas ?_ | with_reducible refine sgn ?_ | ((with_reducible show tVar _ _ _ _); refine sv rfl ?_) | with_reducible refine sc ?_ | with_reducible refine sop ?_ | with_reducible refine sun ?_
  | with_reducible refine sI0 ?_ | with_reducible refine sU ?_ | with_reducible refine stt ?_ | with_reducible refine stB ?_ | with_reducible refine sbl ?_ | with_reducible refine snt ?_ | with_reducible refine sif ?_ | with_reducible refine scB ?_
  | with_reducible refine scn ?_ | with_reducible refine snl ?_ | with_reducible refine scl ?_ | with_reducible refine stu ?_ | with_reducible refine sli ?_ | with_reducible refine sdr ?_ | with_reducible refine srt ?_ | with_reducible refine snx ?_ | with_reducible refine sfor ?_ | with_reducible refine sils ?_ | with_reducible refine sien ?_ | with_reducible refine sor ?_ | with_reducible refine sfg ?_
  | ((with_reducible show Or _ _); first | refine Or.inl ⟨_, rfl, ?_⟩ | refine Or.inr ⟨_, rfl, ?_⟩))))

def dueD (d : PyData) : List PyData := [d, .int 7, d, d, d, d, .int 7, .int 8, d, d, .int 7, d, d, d, d, .int 7, d, d, .int 7, .int 8, d, d, d, d, d, .int 7, d]
/-- a value that may be handed in: none, an int, a text, a tuple of two ois -/
def XOk (K : PySem.W.Frag) (H : Hp) (x : V) : Prop := ∃ d, SeqAt.shaped (.list (dueD d)) = true ∧ Dp K H x d
theorem dp_due {K : PySem.W.Frag} {H : Hp} {x : V} {d : PyData} (hx : Dp K H x d) : DpAll K H (due x) (dueD d) := (.cons hx (.cons (.int _) (.cons hx (.cons hx (.cons hx (.cons hx (.cons (.int _) (.cons (.int _) (.cons hx (.cons hx (.cons (.int _) (.cons hx (.cons hx (.cons hx (.cons hx (.cons (.int _) (.cons hx (.cons hx (.cons (.int _) (.cons (.int _) (.cons hx (.cons hx (.cons hx (.cons hx (.cons hx (.cons (.int _) (.cons hx .nil)))))))))))))))))))))))))))
theorem xok_same {K : PySem.W.Frag} {H H' : Hp} {x : V} (s : Same H H') (h : XOk K H x) : XOk K H' x := by
  obtain ⟨d, h1, h2⟩ := h
  exact ⟨d, h1, dp_same s h2⟩
theorem xok_of {K : PySem.W.Frag} {H : Hp} {x : V} {r : Int} {t : Addr} (ht : H t = some (.tup [.int 0, .int 1])) (hx : x ∈ [V.int r, .int (-1), .non, .str "v", .ref t]) : XOk K H x := by
  simp only [List.mem_cons, List.not_mem_nil, or_false] at hx
  rcases hx with rfl | rfl | rfl | rfl | rfl
  · exact ⟨.int r, rfl, .int r⟩
  · exact ⟨.int (-1), rfl, .int _⟩
  · exact ⟨.none, rfl, .non⟩
  · exact ⟨.str "v", by decide +kernel, .str _⟩
  · exact ⟨.tuple [.int 0, .int 1], rfl, .tup (SqT.of ht) (.cons (.int _) (.cons (.int _) .nil))⟩
/-- of _law_right: it tells True, and keeps all but the well -/
def spRight : Sp := fun vs H Q _ => ∃ (p : Addr) (a b c : Int), vs = [.ref p] ∧ H p = some (.lst [.int a, .int b, .int c]) ∧ ∀ H', (∀ b o, b ≠ p → H b = some o → H' b = some o) → Q (.bl true) H'
theorem row_ok {P : Program} {w : World} {K : PySem.W.Frag} {mg : Str → Option Value} {base : Heap} {A : Ad} (T : Txt P w K mg base A) {x : V} : ∀ r ∈ rows A x, ∃ y, ErK K mg y r.1 A.KeepError := fun r hr => by
  simp only [rows, List.mem_cons, List.not_mem_nil, or_false] at hr
  rcases hr with rfl | rfl | rfl | rfl | rfl | rfl | rfl | rfl | rfl | rfl | rfl | rfl | rfl | rfl | rfl | rfl | rfl | rfl | rfl
  · exact ⟨_, T.e_NoProgram.k⟩
  · exact ⟨_, T.e_NoRow.k⟩
  · exact ⟨_, T.e_NoState.k⟩
  · exact ⟨_, T.e_NoRun.k⟩
  · exact ⟨_, T.e_NoCode.k⟩
  · exact ⟨_, T.e_NotOver.k⟩
  · exact ⟨_, T.e_NoPaper.k⟩
  · exact ⟨_, T.e_NoForm.k⟩
  · exact ⟨_, T.e_NoCount.k⟩
  · exact ⟨_, T.e_NoText.k⟩
  · exact ⟨_, T.e_NoRows.k⟩
  · exact ⟨_, T.e_NoAutomaton.k⟩
  · exact ⟨_, T.e_NoCalls.k⟩
  · exact ⟨_, T.e_NoFunction.k⟩
  · exact ⟨_, T.e_NoRecipe.k⟩
  · exact ⟨_, T.e_NoGuess.k⟩
  · exact ⟨_, T.e_Refused.k⟩
  · exact ⟨_, T.e_NoGuessCode.k⟩
  · exact ⟨_, T.e_NoNumber.k⟩
section
variable {P : Program} {w : World} {K : PySem.W.Frag} {mg : Str → Option Value} {base : Heap} {A : Ad}
abbrev s__law_right : Stmt := top 30
theorem sc__law_right : FnScope ["_law_well", "_law_x", "_law_due", "_law_some", "_law_e", "_law_spot", "_law_k"] ["_law_well"] (defScope s__law_right) := ⟨rfl, rfl, rfl, by decide +kernel, rfl, by decide +kernel, by decide +kernel⟩
theorem ok_right {f : Addr} {fd : FuncData} (F : Fun K "_law_right" "_law_right" s__law_right f fd) (T : Txt P w K mg base A) (c__law_draw : Cal P w K mg base 1 "_law_draw" ["_law_well", "_law_many"] spDraw) (c__law_one : Cal P w K mg base 2 "_law_one" ["_law_well", "_law_some"] spOne)
    (c__law_taken : Cal P w K mg base 1 "_law_taken" ["_law_e"] (spTaken K mg A)) (c__law_by_place : Cal P w K mg base 3 "_law_by_place" ["_law_x"] (spMade A)) (c__law_by_name : Cal P w K mg base 3 "_law_by_name" ["_law_x"] (spMade A)) (c__law_fields : Cal P w K mg base 1 "_law_fields" ["_law_some"] (spFields K A)) :
    FnOk P w K mg base CX0 4 f fd ["_law_well"] spRight := by
  refine F.ok sc__law_right (fun vs H Q E h => ?_) (fun cdv Ar outer s H vs Q E hr h => ?_)
  · obtain ⟨p, a, b, c, rfl, _⟩ := h
    rfl
  · obtain ⟨p, a, b, c, rfl, hp, k⟩ := h
    refine ⟨_, (pss_cons (ps_set (i := 1) sc__law_right.nd rfl (Or.inl rfl) (pcal c__law_one hr (by decide) (pa_cons (pv 0) (pa_cons (pe_lst (pa_cons (pcal c__law_draw hr (by decide) (pa_cons (pv 0) (pa_cons pe_int pa_nil))) (pa_cons (pe_un un_neg pe_int) (pa_cons pe_non (pa_cons pe_str (pa_cons (pe_tup (pa_cons pe_int (pa_cons pe_int pa_nil))) pa_nil)))))) pa_nil))))
        (pss_cons (ps_set (i := 2) sc__law_right.nd rfl (Or.inl rfl) (pe_lst (pa_cons (pv 1) (pa_cons pe_int (pa_cons (pv 1) (pa_cons (pv 1) (pa_cons (pv 1) (pa_cons (pv 1) (pa_cons pe_int (pa_cons pe_int (pa_cons (pv 1) (pa_cons (pv 1) (pa_cons pe_int (pa_cons (pv 1) (pa_cons (pv 1) (pa_cons (pv 1) (pa_cons (pv 1) (pa_cons pe_int (pa_cons (pv 1) (pa_cons (pv 1) (pa_cons pe_int (pa_cons pe_int pa_nil))))))))))))))))))))))
        (pss_cons (ps_set (i := 2) sc__law_right.nd rfl (Or.inl rfl) (pe_op op_cat (pv 2) (pe_lst (pa_cons (pv 1) (pa_cons (pv 1) (pa_cons (pv 1) (pa_cons (pv 1) (pa_cons (pv 1) (pa_cons pe_int (pa_cons (pv 1) pa_nil))))))))))
        (pss_cons (ps_for PassesOwn.never rfl (pi_list (pe_lst (pa_cons (pcal c__law_by_place hr (by decide) (pa_cons (pv 1) pa_nil)) (pa_cons (pcal c__law_by_name hr (by decide) (pa_cons (pv 1) pa_nil)) pa_nil)))) (pg_name (i := 3) sc__law_right.nd rfl (Or.inl rfl)) (pss_cons (ps_if (pt_cmpR (op_neD hr.units) (pcal c__law_fields hr (by decide) (pa_cons (pv 3) pa_nil)) (pv 2) (nomark _)) (pss_one (ps_ret pe_bl)) pss_nil)
        (pss_one (ps_for PassesOwn.never rfl (pi_enum (by rfl) T.z_enumerate (pa_cons (pv 3) pa_nil)) (pg_tup rfl (pgs_cons (pg_name (i := 5) sc__law_right.nd rfl (Or.inr rfl)) (pgs_cons (pg_name (i := 4) sc__law_right.nd rfl (Or.inl rfl)) pgs_nil))) (pss_cons (ps_if (pt_cmpR (op_neD hr.units) (pcal c__law_taken hr (by decide) (pa_cons (pv 4) pa_nil)) (pe_lc (own := [("_law_k", 6)]) (g := gName 6) (tt := tYes) rfl sc__law_right.nd (pi_range1 (by rfl) T.z_range (pa_cons (pe_callB call_len_seq (by rfl) T.z_len PySem.boot_len (pa_cons (pv 3) pa_nil)) pa_nil)) (blkOk_by (own := [("_law_k", 6)]) (N := ["_law_well", "_law_x", "_law_due", "_law_some", "_law_e", "_law_spot", "_law_k"]) (sc := defScope s__law_right) (by decide +kernel)) (fun _ _ _ _ _ => pg_name (i := 6) sc__law_right.nd rfl (Or.inl rfl)) (fun _ _ _ _ _ => pts_nil) (fun _ _ _ _ _ => (pe_cmpR op_eq (pv 6) (pv 5) (nomark _)))) (nomark _)) (pss_one (ps_ret pe_bl)) pss_nil)
        (pss_one (ps_if (PW.pt (pw_or (pt_not (pt_val (pe_callB call_isX (by rfl) T.z_isinstance (by decide +kernel) (pa_cons (pv 4) (pa_cons (pe_glob (v := .ref A.KeepError) (by rfl) T.g_KeepError rfl) pa_nil))))) (pw_or1 (pt_not (pt_val (pe_callB call_isX (by rfl) T.z_isinstance (by decide +kernel) (pa_cons (pv 4) (pa_cons (pe_bltn (v := .ty "ValueError") (by rfl) T.z_ValueError (by first | exact PySem.boot_ValueError | decide +kernel) rfl) pa_nil)))))))) (pss_one (ps_ret pe_bl)) pss_nil)))))))
        (pss_cons (ps_for PassesOwn.never rfl (pi_list (pe_lst (pa_cons (pe_x0 PySem.F.excBase_ValueError T.x_NoKept T.g_NoKept T.e_NoKept.kp) (pa_cons (pe_x0 PySem.F.excBase_ValueError T.x_NoRound T.g_NoRound T.e_NoRound.kp) pa_nil)))) (pg_name (i := 4) sc__law_right.nd rfl (Or.inl rfl)) (pss_one (ps_if (PW.pt (pw_or (pt_cmpR op_in_seq pe_bl (pcal c__law_taken hr (by decide) (pa_cons (pv 4) pa_nil)) (by rfl)) (pw_or1 (pt_not (pt_val (pe_callB call_isX (by rfl) T.z_isinstance (by decide +kernel) (pa_cons (pv 4) (pa_cons (pe_glob (v := .ref A.KeepError) (by rfl) T.g_KeepError rfl) pa_nil)))))))) (pss_one (ps_ret pe_bl)) pss_nil)))
        (pss_cons (ps_if (PW.pt (pw_or (pt_val (pe_callB call_isX (by rfl) T.z_isinstance (by decide +kernel) (pa_cons (pe_x0 PySem.F.excBase_ValueError T.x_NoKept T.g_NoKept T.e_NoKept.kp) (pa_cons (pe_glob (v := .ref A.NoRound) (by rfl) T.g_NoRound rfl) pa_nil)))) (pw_or1 (pt_val (pe_callB call_isX (by rfl) T.z_isinstance (by decide +kernel) (pa_cons (pe_x0 PySem.F.excBase_ValueError T.x_NoRound T.g_NoRound T.e_NoRound.kp) (pa_cons (pe_glob (v := .ref A.NoKept) (by rfl) T.g_NoKept rfl) pa_nil))))))) (pss_one (ps_ret pe_bl)) pss_nil)
        (pss_one (ps_ret (pe_not (pe_callB call_isVe (by rfl) T.z_isinstance (by decide +kernel) (pa_cons (pe_ve T.z_ValueError (pa_cons pe_str pa_nil)) (pa_cons (pe_glob (v := .ref A.KeepError) (by rfl) T.g_KeepError rfl) pa_nil)))))))))))), ?_⟩
    walk_at "lk"
    refine ⟨p, 1000, a, b, c, rfl, by decide, by decide, hp, fun r a1 b1 c1 r0 r1 => ?_⟩
    walk_at "lk"
    refine snw (Nat.le_of_ble_eq_true rfl) fun t ht => ?_
    walk_at "lk"
    refine snw (Nat.le_of_ble_eq_true rfl) fun l hl => ?_
    walk_at "lk"
    have ntp : t ≠ p := fun z => by
      rw [z, upd_same] at ht
      cases ht
    have nlt : l ≠ t := fun z => by
      rw [z, upd_same] at hl
      cases hl
    have nlp : l ≠ p := fun z => by
      rw [z, upd_ne (Ne.symm ntp), upd_same] at hl
      cases hl
    refine ⟨p, l, a1, b1, c1, _, rfl, nlp, (by rw [upd_ne (Ne.symm nlp), upd_ne (Ne.symm ntp), upd_same]), upd_same, Nat.le_of_ble_eq_true rfl, Nat.le_of_ble_eq_true rfl, fun x a2 b2 c2 hx => ?_⟩
    have fr : ∀ b o, b ≠ p → H b = some o → (upd (upd (upd (upd H p (.lst [.int a1, .int b1, .int c1])) t (.tup [.int 0, .int 1])) l (.lst [.int r, .int (-1), .non, .str "v", .ref t])) p (.lst [.int a2, .int b2, .int c2])) b = some o := fun b o n e => by
      have n1 : b ≠ t := fun z => by
        rw [z] at e n
        rw [upd_ne n, e] at ht
        cases ht
      have n2 : b ≠ l := fun z => by
        rw [z] at e n n1
        rw [upd_ne n1, upd_ne n, e] at hl
        cases hl
      rw [upd_ne n, upd_ne n2, upd_ne n1, upd_ne n]
      exact e
    have xk : XOk K (upd (upd (upd (upd H p (.lst [.int a1, .int b1, .int c1])) t (.tup [.int 0, .int 1])) l (.lst [.int r, .int (-1), .non, .str "v", .ref t])) p (.lst [.int a2, .int b2, .int c2])) x := xok_of (r := r) (t := t) (by rw [upd_ne ntp, upd_ne (Ne.symm nlt), upd_same]) hx
    generalize upd (upd (upd (upd H p (.lst [.int a1, .int b1, .int c1])) t (.tup [.int 0, .int 1])) l (.lst [.int r, .int (-1), .non, .str "v", .ref t])) p (.lst [.int a2, .int b2, .int c2]) = H4 at fr xk ⊢
    walk_at "lk"
    refine snw (Nat.le_of_ble_eq_true rfl) fun d1 hd1 => ?_
    walk_at "lk"
    refine snw (Nat.le_of_ble_eq_true rfl) fun d2 hd2 => ?_
    refine ⟨d1, d2, _, _, rfl, rfl, same_new hd2 _ _ upd_same, upd_same, Nat.le_of_lt (small1000 (Nat.le_of_ble_eq_true rfl)), fun d3 hd3 => ?_⟩
    have s7 := ((same_new (o := .lst [x, .int 7, x, x, x, x, .int 7, .int 8, x, x, .int 7, x, x, x, x, .int 7, x, x, .int 7, .int 8]) hd1).trans (same_new (o := .lst [x, x, x, x, x, .int 7, x]) hd2)).trans (same_new (o := .lst (due x)) hd3)
    have e7 : (upd (upd (upd H4 d1 (.lst [x, .int 7, x, x, x, x, .int 7, .int 8, x, x, .int 7, x, x, x, x, .int 7, x, x, .int 7, .int 8])) d2 (.lst [x, x, x, x, x, .int 7, x])) d3 (.lst (due x))) d3 = some (.lst (due x)) := upd_same
    show gName 2 (.ref d3) _ (upd (upd (upd H4 d1 (.lst [x, .int 7, x, x, x, x, .int 7, .int 8, x, x, .int 7, x, x, x, x, .int 7, x, x, .int 7, .int 8])) d2 (.lst [x, x, x, x, x, .int 7, x])) d3 (.lst (due x))) _
    generalize (upd (upd (upd H4 d1 (.lst [x, .int 7, x, x, x, x, .int 7, .int 8, x, x, .int 7, x, x, x, x, .int 7, x, x, .int 7, .int 8])) d2 (.lst [x, x, x, x, x, .int 7, x])) d3 (.lst (due x))) = H7 at s7 e7 ⊢
    walk_at "lk"
    refine ⟨x, rfl, fun p1 as1 H8 s8 h8 m8 => ?_⟩
    walk_at "lk"
    refine ⟨x, rfl, fun p2 as2 H9 s9 h9 m9 => ?_⟩
    walk_at "lk"
    refine snw (Nat.le_of_ble_eq_true rfl) fun l9 hl9 => ?_
    have sB : Same H9 (upd H9 l9 (.lst [.ref p1, .ref p2])) := same_new hl9
    have eB : (upd H9 l9 (.lst [.ref p1, .ref p2])) l9 = some (.lst [.ref p1, .ref p2]) := upd_same
    generalize upd H9 l9 (.lst [.ref p1, .ref p2]) = HB at sB eB ⊢
    have nk : ∀ C ∈ A.NoRound :: A.NoKept :: A.cs, C ≠ A.KeepError := fun C hC z => (List.nodup_cons.mp T.nd).1 (z ▸ hC)
    have xB : XOk K HB x := xok_same (((s7.trans s8).trans s9).trans sB) xk
    have eD : HB d3 = some (.lst (due x)) := sB _ _ (s9 _ _ (s8 _ _ e7))
    have fB : ∀ b o, b ≠ p → H b = some o → HB b = some o := fun b o n e => sB _ _ (s9 _ _ (s8 _ _ (s7 _ _ (fr b o n e))))
    have mB : ∀ y : V, y ∈ [V.ref p1, V.ref p2] → ∃ (q : Addr) (as : List Addr), y = .ref q ∧ HB q = some (.lst (as.map V.ref)) ∧ Mds HB as (rows A x) := fun y hy => by
      simp only [List.mem_cons, List.not_mem_nil, or_false] at hy
      rcases hy with rfl | rfl
      · exact ⟨p1, as1, rfl, sB _ _ (s9 _ _ h8), m8.same (s9.trans sB)⟩
      · exact ⟨p2, as2, rfl, sB _ _ h9, m9.same sB⟩
    clear h8 h9 m8 m9 s8 s9 s7 e7 hd1 hd2 hd3 hl9 sB xk fr
    refine ⟨l9, rfl, ⟨_, SqL.of eB⟩, for_list (xs := [.ref p1, .ref p2]) (fun i σ H' => (∃ e3 e4 e5 e6, σ = [some (.ref p), some x, some (.ref d3), e3, e4, e5, e6]) ∧ Same HB H') ⟨⟨none, none, none, none, rfl⟩, Same.refl _⟩ (fun i σ H' _ h => SqL.of (h.2 _ _ eB)) ?_ ?_⟩
    · rintro i y σ H1 hi ⟨⟨e3, e4, e5, e6, rfl⟩, sA⟩
      obtain ⟨q, as, rfl, hq, hm⟩ := mB y (List.mem_of_getElem? hi)
      obtain ⟨d, shd, hd⟩ := xB
      have hlen : as.length = 19 := hm.len
      walk_at "lk"
      refine ⟨q, as, x, rfl, SqL.of (sA _ _ hq), hm.same sA, fun pf H2 sF fF hF => ?_⟩
      walk_at "lk"
      have sAF := sA.trans sF
      refine ⟨.list (dueD d), .list (dueD d), .lst (SqL.of hF) (dp_due (dp_same sAF hd)), .lst (SqL.of (sAF _ _ eD)) (dp_due (dp_same sAF hd)), shd, shd, ?_⟩
      rw [SeqAt.eqv_refl _ (SeqAt.canLay_of_shaped shd)]
      walk_at "lk"
      refine iteF ?_
      walk_at "lk"
      refine ⟨q, _, rfl, SqL.of (sAF _ _ hq), en_by (fun j σ H' => (∃ e4 e5 e6, σ = [some (.ref p), some x, some (.ref d3), some (.ref q), e4, e5, e6]) ∧ Same HB H') ⟨⟨e4, e5, e6, rfl⟩, sAF⟩ (fun j σ H' _ h => SqL.of (h.2 _ _ hq)) ?_ ?_⟩
      · rintro j z pp σ H3 hz ⟨⟨e4, e5, e6, rfl⟩, sC⟩ hpp
        rw [List.getElem?_map] at hz
        obtain ⟨aj, haj, rfl⟩ := Option.map_eq_some_iff.mp hz
        obtain ⟨rj, hrj⟩ : ∃ rj, (rows A x)[j]? = some rj := ⟨_, List.getElem?_eq_getElem (by rw [← hm.len]; exact (List.getElem?_eq_some_iff.mp haj).1)⟩
        obtain ⟨aj', haj', dj, g1, g2⟩ := hm.at hrj
        rw [haj] at haj'
        cases haj'
        obtain ⟨yj, EJ⟩ := row_ok T rj (List.mem_of_getElem? hrj)
        have hcj : A.cs[j]? = some rj.1 := by
          have z : ((rows A x).map (·.1))[j]? = some rj.1 := by rw [List.getElem?_map, hrj]; rfl
          exact z
        refine g_pair (SqT.of upd_same) ?_
        have sD : Same HB (upd H3 pp (.tup [.int (j : Nat), .ref aj])) := sC.trans (same_new hpp)
        generalize upd H3 pp (.tup [.int (j : Nat), .ref aj]) = H4' at sD ⊢
        walk_at "lk"
        refine ⟨.ref aj, rj.1, yj, rfl, .d (sD _ _ g1) (sD _ _ g2), EJ, fun pt H5 sE fE hE => ?_⟩
        have sF2 := sD.trans sE
        walk_at "lk"
        with_reducible show tLc _ _ _ _ _ _ _ _
        unfold tLc iRng1
        walk_at "lk"
        refine ⟨_, _, rfl, .inl (SqL.of (sF2 _ _ hq)), ?_⟩
        walk_at "lk"
        rw [List.length_map, hlen]
        refine ⟨_, rfl, by decide, by decide, fun Dl hDl => lc_range (lo := 0) (n := 19) (fun m H' => Same H5 H' ∧ H' Dl = some (.lst ((List.range m).map fun i => V.bl (decide (i = j))))) ⟨same_new hDl, upd_same⟩ ?_ ?_⟩
        · rintro m H6 hm6 ⟨sG, eG⟩
          refine ⟨rfl, ?_⟩
          unfold tYes
          simp only [if_true]
          walk_at "lk"
          refine sEq rfl ?_
          refine ⟨_, eG, by rw [List.length_map, List.length_range]; exact small1000 (by omega), fun b o e => ?_, ?_⟩
          · rw [upd_ne (ne_of_none e hDl)]
            exact sG b o e
          · rw [upd_same, List.range_succ, List.map_append]
            have e9 : decide (V.int (0 + (m : Nat)) = V.int (j : Nat)) = decide (m = j) := by
              refine decide_eq_decide.mpr ⟨fun z => ?_, fun z => ?_⟩
              · have z2 := V.int.inj z
                omega
              · subst z
                rw [Int.zero_add]
            rw [e9]
            rfl
        · rintro H6 ⟨sG, eG⟩
          have eqL : ((List.range 19).map fun i => V.bl (decide (i = j))) = (A.cs.map fun C => decide (rj.1 = C)).map V.bl := by
            have nd : A.cs.Nodup := (List.nodup_cons.mp (List.nodup_cons.mp (List.nodup_cons.mp T.nd).2).2).2
            refine List.ext_getElem? fun i => ?_
            rw [List.getElem?_map, List.getElem?_map, List.getElem?_map]
            by_cases hi : i < 19
            · obtain ⟨c, hc⟩ : ∃ c, A.cs[i]? = some c := ⟨_, List.getElem?_eq_getElem (show i < A.cs.length from hi)⟩
              rw [hc, List.getElem?_range hi]
              refine congrArg (fun b => some (V.bl b)) ?_
              refine decide_eq_decide.mpr ⟨fun z => ?_, fun z => ?_⟩
              · subst z
                rw [hcj] at hc
                exact Option.some.inj hc
              · exact nd_ix nd hc (z ▸ hcj)
            · rw [List.getElem?_eq_none (show A.cs.length ≤ i from Nat.not_lt.mp hi), List.getElem?_eq_none (by rw [List.length_range]; omega)]
              rfl
          have hE2 : H5 pt = some (.lst ((A.cs.map fun C => decide (rj.1 = C)).map V.bl)) := by
            rw [hE, List.map_map]
            rfl
          rw [eqL] at eG
          have shb : SeqAt.shaped (.list ((A.cs.map fun C => decide (rj.1 = C)).map PyData.bool)) = true := rfl
          refine ⟨.list ((A.cs.map fun C => decide (rj.1 = C)).map PyData.bool), .list ((A.cs.map fun C => decide (rj.1 = C)).map PyData.bool), .lst (SqL.of (sG _ _ hE2)) (dp_bools _), .lst (SqL.of eG) (dp_bools _), shb, shb, ?_⟩
          rw [SeqAt.eqv_refl _ (SeqAt.canLay_of_shaped shb)]
          have sH := sF2.trans sG
          walk_at "lk"
          refine iteF ?_
          walk_at "lk"
          refine ⟨.ref aj, .ref A.KeepError, rj.1, _, true, rfl, .d (sH _ _ g1) (sH _ _ g2), EJ.ek, .own _, kit_base EJ T.b1 T.b2 (fun z => nk _ (List.mem_cons_of_mem _ (List.mem_cons_of_mem _ (List.mem_of_getElem? hcj))) z), ?_⟩
          walk_at "lk"
          refine iteF ?_
          walk_at "lk"
          refine ⟨.ref aj, .ty "ValueError", rj.1, _, true, rfl, .d (sH _ _ g1) (sH _ _ g2), EJ.ek, .ty _, kit_ve EJ, ?_⟩
          walk_at "lk"
          refine iteF ?_
          exact ⟨⟨_, _, _, rfl⟩, sH⟩
      · rintro σ H3 ⟨⟨e4, e5, e6, rfl⟩, sC⟩
        exact ⟨⟨_, _, _, _, rfl⟩, sC⟩
    · rintro σ H1 ⟨⟨e3, e4, e5, e6, rfl⟩, sA⟩
      walk_at "lk"
      intro x1 hx1
      walk_at "lk"
      intro x2 hx2
      walk_at "lk"
      refine snw (Nat.le_of_ble_eq_true rfl) fun l2 hl2 => ?_
      have s1 : Same H1 (upd (upd (upd H1 x1 (ExO (.ref A.NoKept) x1)) x2 (ExO (.ref A.NoRound) x2)) l2 (.lst [.ref x1, .ref x2])) := ((same_new hx1).trans (same_new hx2)).trans (same_new hl2)
      have g1 : (upd (upd (upd H1 x1 (ExO (.ref A.NoKept) x1)) x2 (ExO (.ref A.NoRound) x2)) l2 (.lst [.ref x1, .ref x2])) x1 = some (ExO (.ref A.NoKept) x1) := same_new hl2 _ _ (same_new hx2 _ _ upd_same)
      have g2 : (upd (upd (upd H1 x1 (ExO (.ref A.NoKept) x1)) x2 (ExO (.ref A.NoRound) x2)) l2 (.lst [.ref x1, .ref x2])) x2 = some (ExO (.ref A.NoRound) x2) := same_new hl2 _ _ upd_same
      have g3 : (upd (upd (upd H1 x1 (ExO (.ref A.NoKept) x1)) x2 (ExO (.ref A.NoRound) x2)) l2 (.lst [.ref x1, .ref x2])) l2 = some (.lst [.ref x1, .ref x2]) := upd_same
      generalize upd (upd (upd H1 x1 (ExO (.ref A.NoKept) x1)) x2 (ExO (.ref A.NoRound) x2)) l2 (.lst [.ref x1, .ref x2]) = HC at s1 g1 g2 g3 ⊢
      have nd := List.nodup_cons.mp T.nd
      have nd2 := List.nodup_cons.mp nd.2
      have nd3 := List.nodup_cons.mp nd2.2
      have mC : ∀ y : V, y ∈ [V.ref x1, V.ref x2] → ∃ (z : Addr) (C : Addr) (n : Str), y = .ref z ∧ HC z = some (ExO (.ref C) z) ∧ ErK K mg n C A.KeepError ∧ C ∉ A.cs ∧ C ≠ A.KeepError := fun y hy => by
        simp only [List.mem_cons, List.not_mem_nil, or_false] at hy
        rcases hy with rfl | rfl
        · exact ⟨x1, _, _, rfl, g1, T.e_NoKept, nd3.1, nk _ (by simp)⟩
        · exact ⟨x2, _, _, rfl, g2, T.e_NoRound, fun z => nd2.1 (List.mem_cons_of_mem _ z), nk _ (by simp)⟩
      refine ⟨l2, rfl, ⟨_, SqL.of g3⟩, for_list (xs := [.ref x1, .ref x2]) (fun i σ H' => (∃ e4 e5 e6, σ = [some (.ref p), some x, some (.ref d3), e3, e4, e5, e6]) ∧ Same HC H') ⟨⟨_, _, _, rfl⟩, Same.refl _⟩ (fun i σ H' _ h => SqL.of (h.2 _ _ g3)) ?_ ?_⟩
      · rintro i y σ H2 hi ⟨⟨e4, e5, e6, rfl⟩, s2⟩
        obtain ⟨z, C, n, rfl, hz, EC, nC, nB⟩ := mC y (List.mem_of_getElem? hi)
        walk_at "lk"
        refine ⟨.ref z, C, n, rfl, .n (s2 _ _ hz), EC, fun pt H3 s3 f3 h3 => ?_⟩
        have eL : (A.cs.map fun D => V.bl (decide (C = D))) = A.cs.map fun _ => V.bl false := List.map_congr_left fun D hD => by
          rw [decide_eq_false]
          rintro rfl
          exact nC hD
        rw [eL] at h3
        walk_at "lk"
        refine ⟨pt, _, rfl, .inl (SqL.of h3), rfl, rfl, ?_⟩
        walk_at "lk"
        refine iteF ?_
        walk_at "lk"
        refine ⟨.ref z, .ref A.KeepError, C, _, true, rfl, .n (s3 _ _ (s2 _ _ hz)), EC.ek, .own _, kit_base EC T.b1 T.b2 nB, ?_⟩
        walk_at "lk"
        refine iteF ?_
        exact ⟨⟨_, _, _, rfl⟩, s2.trans s3⟩
      · rintro σ H2 ⟨⟨e4, e5, e6, rfl⟩, s2⟩
        walk_at "lk"
        intro y1 hy1
        walk_at "lk"
        refine ⟨.ref y1, .ref A.NoRound, A.NoKept, _, _, rfl, .n upd_same, T.e_NoKept.ek, .own _, kit_er T.e_NoKept T.e_NoRound (nk _ (by simp)), ?_⟩
        rw [decide_eq_false (show ¬ A.NoKept = A.NoRound from fun z => nd2.1 (z ▸ List.mem_cons_self ..))]
        walk_at "lk"
        refine iteF ?_
        walk_at "lk"
        intro y2 hy2
        walk_at "lk"
        refine ⟨.ref y2, .ref A.NoKept, A.NoRound, _, _, rfl, .n upd_same, T.e_NoRound.ek, .own _, kit_er T.e_NoRound T.e_NoKept (nk _ (by simp)), ?_⟩
        rw [decide_eq_false (show ¬ A.NoRound = A.NoKept from fun z => nd2.1 (z ▸ List.mem_cons_self ..))]
        walk_at "lk"
        refine iteF ?_
        walk_at "lk"
        show tCB _ _ _ _ _
        walk_at "lk"
        refine ⟨Nat.le_of_ble_eq_true rfl, fun y3 hy3 => ?_⟩
        walk_at "lk"
        refine ⟨y3, .ref A.KeepError, _, false, rfl, upd_same, .own _, kit_veB T.b1 T.b2, _, rfl, ?_⟩
        exact k _ fun b o n e => same_new hy3 _ _ (same_new hy2 _ _ (same_new hy1 _ _ (s2 _ _ (s1 _ _ (sA _ _ (fB b o n e))))))
end
end K04

namespace Lk
open PySem PySem.Spec PyProof.Rows L2
section
variable {σ : L2.St} {H : Hp} {te : TE} {tl th : TO} {r : V → Option Int → Option Int → Hp → VK → Prop} {Q : VK}
theorem ssli (q : te σ H fun x H1 => tl σ H1 fun l H2 => th σ H2 fun u H3 => r x l u H3 Q) : tSl r te tl th σ H Q := q
theorem snp {Q : Option Int → Hp → Prop} (q : Q none H) : tNoPart σ H Q := q
theorem spt {Q : Option Int → Hp → Prop} (q : te σ H fun x H1 => ∃ i, x = .int i ∧ Q (some i) H1) : tPart te σ H Q := q
end
end Lk
namespace K04
open PySem PySem.Spec PyProof.Rows L2 Lk
local macro_rules | `(tactic| walk_at "lk") => `(tactic| (repeat (first
  | with_reducible refine ssq ?_ | with_reducible refine sas ?_ | with_reducible refine sgn ?_ | ((with_reducible show tVar _ _ _ _); refine sv rfl ?_) | with_reducible refine sc ?_ | with_reducible refine sop ?_ | with_reducible refine sun ?_
  | with_reducible refine sI0 ?_ | with_reducible refine sU ?_ | with_reducible refine stt ?_ | with_reducible refine stB ?_ | with_reducible refine sbl ?_ | with_reducible refine snt ?_ | with_reducible refine sif ?_ | with_reducible refine scB ?_
  | with_reducible refine scn ?_ | with_reducible refine snl ?_ | with_reducible refine scl ?_ | with_reducible refine stu ?_ | with_reducible refine sli ?_ | with_reducible refine sdr ?_ | with_reducible refine srt ?_ | with_reducible refine snx ?_ | with_reducible refine sfor ?_ | with_reducible refine sils ?_ | with_reducible refine sien ?_ | with_reducible refine sor ?_ | with_reducible refine ssli ?_ | with_reducible refine snp ?_ | with_reducible refine spt ?_ | with_reducible refine sfg ?_
  | ((with_reducible show Or _ _); first | refine Or.inl ⟨_, rfl, ?_⟩ | refine Or.inr ⟨_, rfl, ?_⟩))))

def spLaw (K : PySem.W.Frag) : Sp := fun vs H Q _ => ∃ (a : Addr) (ns : List Int), vs = [.ref a] ∧ SqL K H a (ns.map V.int) ∧ ns.length ≤ 63 ∧ ∀ H', Q (.bl true) H'
section
variable {P : Program} {w : World} {K : PySem.W.Frag} {mg : Str → Option Value} {base : Heap} {A : Ad}
abbrev s_law : Stmt := top 31
theorem sc_law : FnScope ["_law_script", "_law_k", "_law_cell", "_law_well"] ["_law_script"] (defScope s_law) := ⟨rfl, rfl, rfl, by decide +kernel, rfl, by decide +kernel, by decide +kernel⟩
theorem ok_law {f : Addr} {fd : FuncData} (F : Fun K "law" "law" s_law f fd) (T : Txt P w K mg base A) (c__law_right : Cal P w K mg base 4 "_law_right" ["_law_well"] spRight) : FnOk P w K mg base CX0 5 f fd ["_law_script"] (spLaw K) := by
  refine F.ok sc_law (fun vs H Q E h => ?_) (fun cdv Ar outer s H vs Q E hr h => ?_)
  · obtain ⟨a, ns, rfl, _⟩ := h
    rfl
  · obtain ⟨a, ns, rfl, hS, hlen, k⟩ := h
    refine ⟨_, (pss_cons (ps_for PassesOwn.never rfl (pi_enum (by rfl) T.z_enumerate (pa_cons (pe_slice sl_list (pe_op op_catL (pv 0) (pe_lst (pa_cons pe_int pa_nil))) po_none (po_some pe_int)) pa_nil)) (pg_tup rfl (pgs_cons (pg_name (i := 1) sc_law.nd rfl (Or.inl rfl)) (pgs_cons (pg_name (i := 2) sc_law.nd rfl (Or.inl rfl)) pgs_nil))) (pss_cons (ps_set (i := 3) sc_law.nd rfl (Or.inl rfl) (pe_lst (pa_cons (pe_op op_mul (pv 2) (pe_callTy call_int1 (by rfl) T.z_int (by decide +kernel) (pa_cons (pe_cmpR op_ge (pv 2) (pe_op op_pow pe_int pe_int) (nomark _)) pa_nil))) (pa_cons (pe_op op_add (pe_op op_mod (pe_callTy call_int1 (by rfl) T.z_int (by decide +kernel) (pa_cons (pv 2) pa_nil)) pe_int) (pe_op op_mul pe_int (pv 1))) (pa_cons pe_int pa_nil)))))
        (pss_one (ps_if (pt_not (pt_val (pcal c__law_right hr (by decide) (pa_cons (pv 3) pa_nil)))) (pss_one (ps_ret pe_bl)) pss_nil))))
        (pss_one (ps_ret pe_bl))), ?_⟩
    walk_at "lk"
    refine snw (Nat.le_of_ble_eq_true rfl) fun z hz => ?_
    refine ⟨a, z, _, _, rfl, rfl, (same_new hz).seq hS, upd_same, Nat.le_of_lt (small1000 (by rw [List.length_map]; show ns.length + 1 ≤ 1000; omega)), fun l1 hl1 => ?_⟩
    walk_at "lk"
    refine ⟨_, rfl, ?_⟩
    refine ⟨l1, _, rfl, SqL.of upd_same, fun l2 hl2 => ?_⟩
    have ois : ∀ y ∈ cutV (ns.map V.int ++ [V.int 0]) none (some 4), ∃ n, y = V.int n := fun y hy => by
      have h1 : y ∈ ns.map V.int ++ [V.int 0] := List.mem_of_mem_drop (List.mem_of_mem_take hy)
      rcases List.mem_append.mp h1 with h2 | h2
      · obtain ⟨n, _, rfl⟩ := List.mem_map.mp h2
        exact ⟨n, rfl⟩
      · exact ⟨0, List.mem_singleton.mp h2⟩
    generalize cutV (ns.map V.int ++ [V.int 0]) none (some 4) = xs at ois ⊢
    walk_at "lk"
    refine ⟨l2, xs, rfl, SqL.of upd_same, ?_⟩
    generalize hHL : upd (upd (upd H z (.lst [.int 0])) l1 (.lst (ns.map V.int ++ [V.int 0]))) l2 (.lst xs) = HL
    have e2 : HL l2 = some (.lst xs) := by rw [← hHL, upd_same]
    refine en_by (fun i σ H' => (∃ e1 e2 e3, σ = [some (.ref a), e1, e2, e3]) ∧ Same HL H') ⟨⟨_, _, _, rfl⟩, Same.refl _⟩ (fun i σ H' _ h => SqL.of (h.2 _ _ e2)) ?_ ?_
    · rintro i y p σ H1 hi ⟨⟨u1, u2, u3, rfl⟩, s1⟩ hp
      obtain ⟨n, rfl⟩ := ois y (List.mem_of_getElem? hi)
      refine g_pair (SqT.of upd_same) ?_
      have s2 : Same HL (upd H1 p (.tup [.int (i : Nat), .int n])) := s1.trans (same_new hp)
      generalize upd H1 p (.tup [.int (i : Nat), .int n]) = H2 at s2 ⊢
      walk_at "lk"
      refine sI ⟨by decide, by decide, by decide⟩ ?_
      walk_at "lk"
      refine sI (.inr ⟨by split <;> decide, by split <;> decide⟩) ?_
      walk_at "lk"
      refine sI (by decide) ?_
      walk_at "lk"
      refine sI (.inl ⟨by decide, by decide⟩) ?_
      walk_at "lk"
      refine snw (Nat.le_of_ble_eq_true rfl) fun q hq => ?_
      walk_at "lk"
      refine ⟨q, _, _, _, rfl, upd_same, fun H3 fr => ?_⟩
      walk_at "lk"
      refine iteF ?_
      walk_at "lk"
      refine ⟨⟨_, _, _, rfl⟩, fun b o e => fr b o ?_ ?_⟩
      · exact ne_of_none (s2 b o e) hq
      · exact same_new hq _ _ (s2 b o e)
    · rintro σ H1 ⟨⟨u1, u2, u3, rfl⟩, s1⟩
      walk_at "lk"
      exact k _
end
end K04

namespace K04
open PySem PySem.Spec PyProof.Rows L2 Lk
section
variable {P : Program} {w : World} {K : PySem.W.Frag} {mg : Str → Option Value} {base : Heap} {h : Heap}
theorem erk_mk {x nm q : Str} {C B N : Addr} {bs : List Value} {sn : List Str} {sub : List Value} {ab : Bool} {col : Option Bool} {dd : Option Addr} {m0 m1 m2 m3 m5 : Option Value} (X : K.In h) (G : h.Ns mainGlobals mg)
    (aC : PySem.W.nsIn K mainGlobals x = some (some (.ref C))) (xL : K.lookup C = some (excClassObj nm q C N bs [.ref B, .type "ValueError", .type "Exception", .type "BaseException", .type "object"] true sn sub ab col dd m0 m1 m2 m3 m5 "ValueError.__new__"))
    (sa : PySem.W.findIn K (.ref C) "__setattr__" = some (some (.builtin "object.__setattr__"))) (ty : PySem.W.typeIn K (.ref C) = some (.type "type")) (kp : PySem.W.keepIn K (.ref C) = true)
    (ga : PySem.W.findIn K (.ref C) "__getattribute__" = some (some (.builtin "BaseException.__getattribute__"))) (gt : PySem.W.findIn K (.ref C) "__getattr__" = some none) (su : PySem.W.subIn K (.ref C) (.type "BaseException") = some true)
    (ca : PySem.W.findIn K (.ref C) "__class__" = some (some (.builtin "object.__class__"))) (sp : PySem.W.specialIn K (.builtin "object.__class__") "__get__" = some (some (.builtin "getset_descriptor.__get__"))) (tk : PySem.W.takesIn K (.builtin "object.__class__") = some true)
    (mo : PySem.W.mroIn K C (.type "object") = some true) : ErK K mg x C B :=
  ⟨PySem.W.mg_of X G aC, ⟨nm, q, N, bs, sn, sub, ab, col, dd, m0, m1, m2, m3, m5, xL⟩, sa, ty, kp, ⟨by unfold PySem.W.clsIn; rw [xL]; rfl, ga, gt, su, ca, sp, tk, mo⟩⟩
theorem er1_mk {x qual : Str} {B C fI : Addr} {f : Str} {st : Stmt} {oc kV doc pm cdv ct : Value} {od an : Option Addr} {osl : Array (Option Value)} (E : ErK K mg x C B) (hd : PySem.W.hasDictIn K C = true)
    (a1 : PySem.W.findIn K (.ref C) "__init__" = some (some (.ref fI))) (t1 : PySem.W.typeIn K (.ref fI) = some (.type "function")) (l1 : K.lookup fI = some ⟨oc, od, .func (PySem.W.fnOf "__init__" qual (defArgs st) (defBody st) (defScope st) .none kV doc pm an cdv ct), osl⟩)
    (c1 : PySem.W.codeIn K cdv qual = true) (kf : PySem.W.keepIn K (.ref fI) = true) (nf : PySem.W.findIn K (.ref C) f = some none)
    (hini : ∀ {fa : Addr} {fda : FuncData}, Fun K "__init__" qual st fa fda → OexC K C → FnOk P w K mg base CX0 1 fa fda ["self", f] (spI1 C f))
    (hb : ∀ (kV doc pm : Value) (an : Option Addr) (cdv ct : Value) (us : List Value), us.length = (["self", f] : List Str).length → bindArgs (PySem.W.fnOf "__init__" qual (defArgs st) (defBody st) (defScope st) .none kV doc pm an cdv ct) ⟨us, []⟩ = pure ((["self", f] : List Str).zip us))
    (hk : ∀ (kV doc pm : Value) (an : Option Addr) (cdv ct : Value) (us ws : List Value), us.length = 1 → ws.length = ([f] : List Str).length → bindArgs (PySem.W.fnOf "__init__" qual (defArgs st) (defBody st) (defScope st) .none kV doc pm an cdv ct) ⟨us, ([f] : List Str).zip ws⟩ = pure ((["self", f] : List Str).zip (us ++ ws.reverse))) :
    Er1 P w K mg base x B C f := by
  have F := fun_mk (st := st) l1 c1 kf
  exact ⟨E, ⟨_, _, ⟨E.ox, a1, t1⟩, hini F E.ox, F.binds hb, kb_rev fun us ws h1 h2 => hk _ _ _ _ _ _ us ws h1 h2⟩, ⟨E.ek, hd, nf⟩⟩
theorem er2_mk {x qual : Str} {B C fI : Addr} {f g : Str} {st : Stmt} {oc kV doc pm cdv ct : Value} {od an : Option Addr} {osl : Array (Option Value)} (E : ErK K mg x C B) (hd : PySem.W.hasDictIn K C = true)
    (a1 : PySem.W.findIn K (.ref C) "__init__" = some (some (.ref fI))) (t1 : PySem.W.typeIn K (.ref fI) = some (.type "function")) (l1 : K.lookup fI = some ⟨oc, od, .func (PySem.W.fnOf "__init__" qual (defArgs st) (defBody st) (defScope st) .none kV doc pm an cdv ct), osl⟩)
    (c1 : PySem.W.codeIn K cdv qual = true) (kf : PySem.W.keepIn K (.ref fI) = true) (nf : PySem.W.findIn K (.ref C) f = some none) (ng : PySem.W.findIn K (.ref C) g = some none)
    (hini : ∀ {fa : Addr} {fda : FuncData}, Fun K "__init__" qual st fa fda → OexC K C → FnOk P w K mg base CX0 1 fa fda ["self", f, g] (spI2 C f g))
    (hb : ∀ (kV doc pm : Value) (an : Option Addr) (cdv ct : Value) (us : List Value), us.length = (["self", f, g] : List Str).length → bindArgs (PySem.W.fnOf "__init__" qual (defArgs st) (defBody st) (defScope st) .none kV doc pm an cdv ct) ⟨us, []⟩ = pure ((["self", f, g] : List Str).zip us))
    (hk : ∀ (kV doc pm : Value) (an : Option Addr) (cdv ct : Value) (us ws : List Value), us.length = 1 → ws.length = ([g, f] : List Str).length → bindArgs (PySem.W.fnOf "__init__" qual (defArgs st) (defBody st) (defScope st) .none kV doc pm an cdv ct) ⟨us, ([g, f] : List Str).zip ws⟩ = pure ((["self", f, g] : List Str).zip (us ++ ws.reverse))) :
    Er2 P w K mg base x B C f g := by
  have F := fun_mk (st := st) l1 c1 kf
  exact ⟨E, ⟨_, _, ⟨E.ox, a1, t1⟩, hini F E.ox, F.binds hb, kb_rev fun us ws h1 h2 => hk _ _ _ _ _ _ us ws h1 h2⟩, ⟨E.ek, hd, nf⟩, ⟨E.ek, hd, ng⟩⟩
theorem er3_mk {x qual : Str} {B C fI : Addr} {f g l : Str} {st : Stmt} {oc kV doc pm cdv ct : Value} {od an : Option Addr} {osl : Array (Option Value)} (E : ErK K mg x C B) (hd : PySem.W.hasDictIn K C = true)
    (a1 : PySem.W.findIn K (.ref C) "__init__" = some (some (.ref fI))) (t1 : PySem.W.typeIn K (.ref fI) = some (.type "function")) (l1 : K.lookup fI = some ⟨oc, od, .func (PySem.W.fnOf "__init__" qual (defArgs st) (defBody st) (defScope st) .none kV doc pm an cdv ct), osl⟩)
    (c1 : PySem.W.codeIn K cdv qual = true) (kf : PySem.W.keepIn K (.ref fI) = true) (nf : PySem.W.findIn K (.ref C) f = some none) (ng : PySem.W.findIn K (.ref C) g = some none) (nl : PySem.W.findIn K (.ref C) l = some none)
    (hini : ∀ {fa : Addr} {fda : FuncData}, Fun K "__init__" qual st fa fda → OexC K C → FnOk P w K mg base CX0 1 fa fda ["self", f, g, l] (spI3 C f g l))
    (hb : ∀ (kV doc pm : Value) (an : Option Addr) (cdv ct : Value) (us : List Value), us.length = (["self", f, g, l] : List Str).length → bindArgs (PySem.W.fnOf "__init__" qual (defArgs st) (defBody st) (defScope st) .none kV doc pm an cdv ct) ⟨us, []⟩ = pure ((["self", f, g, l] : List Str).zip us))
    (hk : ∀ (kV doc pm : Value) (an : Option Addr) (cdv ct : Value) (us ws : List Value), us.length = 1 → ws.length = ([l, g, f] : List Str).length → bindArgs (PySem.W.fnOf "__init__" qual (defArgs st) (defBody st) (defScope st) .none kV doc pm an cdv ct) ⟨us, ([l, g, f] : List Str).zip ws⟩ = pure ((["self", f, g, l] : List Str).zip (us ++ ws.reverse))) :
    Er3 P w K mg base x B C f g l := by
  have F := fun_mk (st := st) l1 c1 kf
  exact ⟨E, ⟨_, _, ⟨E.ox, a1, t1⟩, hini F E.ox, F.binds hb, kb_rev fun us ws h1 h2 => hk _ _ _ _ _ _ us ws h1 h2⟩, ⟨E.ek, hd, nf⟩, ⟨E.ek, hd, ng⟩, ⟨E.ek, hd, nl⟩⟩
end
theorem all_mk {P : Program} {w : World} {K : PySem.W.Frag} {h : Heap} {mg : Str → Option Value} {fa : Addr} {A : Ad} (X : K.In h) (G : h.Ns mainGlobals mg) (hfa : mg "law" = some (.ref fa)) (TT : ∀ base, Txt P w K mg base A)
    {f0 : Addr} {od0 an0 : Option Addr} {sl0 : Array (Option Value)} {oc0 kV0 dc0 pm0 cd0 ct0 : Value} (a0 : PySem.W.nsIn K mainGlobals "_law_draw" = some (some (.ref f0))) (l0 : K.lookup f0 = some ⟨oc0, od0, .func (PySem.W.fnOf "_law_draw" "_law_draw" (defArgs s__law_draw) (defBody s__law_draw) (defScope s__law_draw) .none kV0 dc0 pm0 an0 cd0 ct0), sl0⟩) (c0 : PySem.W.codeIn K cd0 "_law_draw" = true) (k0 : PySem.W.keepIn K (.ref f0) = true)
    {f1 : Addr} {od1 an1 : Option Addr} {sl1 : Array (Option Value)} {oc1 kV1 dc1 pm1 cd1 ct1 : Value} (a1 : PySem.W.nsIn K mainGlobals "_law_one" = some (some (.ref f1))) (l1 : K.lookup f1 = some ⟨oc1, od1, .func (PySem.W.fnOf "_law_one" "_law_one" (defArgs s__law_one) (defBody s__law_one) (defScope s__law_one) .none kV1 dc1 pm1 an1 cd1 ct1), sl1⟩) (c1 : PySem.W.codeIn K cd1 "_law_one" = true) (k1 : PySem.W.keepIn K (.ref f1) = true)
    {f2 : Addr} {od2 an2 : Option Addr} {sl2 : Array (Option Value)} {oc2 kV2 dc2 pm2 cd2 ct2 : Value} (a2 : PySem.W.nsIn K mainGlobals "_law_taken" = some (some (.ref f2))) (l2 : K.lookup f2 = some ⟨oc2, od2, .func (PySem.W.fnOf "_law_taken" "_law_taken" (defArgs s__law_taken) (defBody s__law_taken) (defScope s__law_taken) .none kV2 dc2 pm2 an2 cd2 ct2), sl2⟩) (c2 : PySem.W.codeIn K cd2 "_law_taken" = true) (k2 : PySem.W.keepIn K (.ref f2) = true)
    {f3 : Addr} {od3 an3 : Option Addr} {sl3 : Array (Option Value)} {oc3 kV3 dc3 pm3 cd3 ct3 : Value} (a3 : PySem.W.nsIn K mainGlobals "_law_by_place" = some (some (.ref f3))) (l3 : K.lookup f3 = some ⟨oc3, od3, .func (PySem.W.fnOf "_law_by_place" "_law_by_place" (defArgs s__law_by_place) (defBody s__law_by_place) (defScope s__law_by_place) .none kV3 dc3 pm3 an3 cd3 ct3), sl3⟩) (c3 : PySem.W.codeIn K cd3 "_law_by_place" = true) (k3 : PySem.W.keepIn K (.ref f3) = true)
    {f4 : Addr} {od4 an4 : Option Addr} {sl4 : Array (Option Value)} {oc4 kV4 dc4 pm4 cd4 ct4 : Value} (a4 : PySem.W.nsIn K mainGlobals "_law_by_name" = some (some (.ref f4))) (l4 : K.lookup f4 = some ⟨oc4, od4, .func (PySem.W.fnOf "_law_by_name" "_law_by_name" (defArgs s__law_by_name) (defBody s__law_by_name) (defScope s__law_by_name) .none kV4 dc4 pm4 an4 cd4 ct4), sl4⟩) (c4 : PySem.W.codeIn K cd4 "_law_by_name" = true) (k4 : PySem.W.keepIn K (.ref f4) = true)
    {f5 : Addr} {od5 an5 : Option Addr} {sl5 : Array (Option Value)} {oc5 kV5 dc5 pm5 cd5 ct5 : Value} (a5 : PySem.W.nsIn K mainGlobals "_law_fields" = some (some (.ref f5))) (l5 : K.lookup f5 = some ⟨oc5, od5, .func (PySem.W.fnOf "_law_fields" "_law_fields" (defArgs s__law_fields) (defBody s__law_fields) (defScope s__law_fields) .none kV5 dc5 pm5 an5 cd5 ct5), sl5⟩) (c5 : PySem.W.codeIn K cd5 "_law_fields" = true) (k5 : PySem.W.keepIn K (.ref f5) = true)
    {f6 : Addr} {od6 an6 : Option Addr} {sl6 : Array (Option Value)} {oc6 kV6 dc6 pm6 cd6 ct6 : Value} (a6 : PySem.W.nsIn K mainGlobals "_law_right" = some (some (.ref f6))) (l6 : K.lookup f6 = some ⟨oc6, od6, .func (PySem.W.fnOf "_law_right" "_law_right" (defArgs s__law_right) (defBody s__law_right) (defScope s__law_right) .none kV6 dc6 pm6 an6 cd6 ct6), sl6⟩) (c6 : PySem.W.codeIn K cd6 "_law_right" = true) (k6 : PySem.W.keepIn K (.ref f6) = true)
    {f7 : Addr} {od7 an7 : Option Addr} {sl7 : Array (Option Value)} {oc7 kV7 dc7 pm7 cd7 ct7 : Value} (a7 : PySem.W.nsIn K mainGlobals "law" = some (some (.ref f7))) (l7 : K.lookup f7 = some ⟨oc7, od7, .func (PySem.W.fnOf "law" "law" (defArgs s_law) (defBody s_law) (defScope s_law) .none kV7 dc7 pm7 an7 cd7 ct7), sl7⟩) (c7 : PySem.W.codeIn K cd7 "law" = true) (k7 : PySem.W.keepIn K (.ref f7) = true)
    : ∃ fd : FuncData, (∀ (s : Shared) (v : Value), BindsTo s fd ⟨[v], []⟩ [("_law_script", v)]) ∧ ∀ base : Heap, K.In base → base.Ns mainGlobals mg → FnOk P w K mg base CX0 5 fa fd ["_law_script"] (spLaw K) := by
  have e := hfa.symm.trans (PySem.W.mg_of X G a7)
  cases e
  refine ⟨PySem.W.fnOf "law" "law" (defArgs s_law) (defBody s_law) (defScope s_law) .none kV7 dc7 pm7 an7 cd7 ct7, fun s v => .of_eq rfl, fun base _ _ => ?_⟩
  have T := TT base
  have F0 := fun_mk (st := s__law_draw) l0 c0 k0
  have b0 := F0.binds (ps := ["_law_well", "_law_many"]) fun _ _ _ _ _ _ us hl => match us, hl with | [_, _], _ => rfl
  have c__law_draw : Cal P w K mg base 1 "_law_draw" ["_law_well", "_law_many"] spDraw := ⟨_, _, PySem.W.mg_of X G a0, k0, b0, ok_draw F0 T⟩
  have F1 := fun_mk (st := s__law_one) l1 c1 k1
  have b1 := F1.binds (ps := ["_law_well", "_law_some"]) fun _ _ _ _ _ _ us hl => match us, hl with | [_, _], _ => rfl
  have c__law_one : Cal P w K mg base 2 "_law_one" ["_law_well", "_law_some"] spOne := ⟨_, _, PySem.W.mg_of X G a1, k1, b1, ok_one F1 T c__law_draw⟩
  have F2 := fun_mk (st := s__law_taken) l2 c2 k2
  have b2 := F2.binds (ps := ["_law_e"]) fun _ _ _ _ _ _ us hl => match us, hl with | [_], _ => rfl
  have c__law_taken : Cal P w K mg base 1 "_law_taken" ["_law_e"] (spTaken K mg A) := ⟨_, _, PySem.W.mg_of X G a2, k2, b2, ok_taken F2 T⟩
  have F3 := fun_mk (st := s__law_by_place) l3 c3 k3
  have b3 := F3.binds (ps := ["_law_x"]) fun _ _ _ _ _ _ us hl => match us, hl with | [_], _ => rfl
  have c__law_by_place : Cal P w K mg base 3 "_law_by_place" ["_law_x"] (spMade A) := ⟨_, _, PySem.W.mg_of X G a3, k3, b3, ok_by_place F3 T⟩
  have F4 := fun_mk (st := s__law_by_name) l4 c4 k4
  have b4 := F4.binds (ps := ["_law_x"]) fun _ _ _ _ _ _ us hl => match us, hl with | [_], _ => rfl
  have c__law_by_name : Cal P w K mg base 3 "_law_by_name" ["_law_x"] (spMade A) := ⟨_, _, PySem.W.mg_of X G a4, k4, b4, ok_by_name F4 T⟩
  have F5 := fun_mk (st := s__law_fields) l5 c5 k5
  have b5 := F5.binds (ps := ["_law_some"]) fun _ _ _ _ _ _ us hl => match us, hl with | [_], _ => rfl
  have c__law_fields : Cal P w K mg base 1 "_law_fields" ["_law_some"] (spFields K A) := ⟨_, _, PySem.W.mg_of X G a5, k5, b5, ok_fields F5 T⟩
  have F6 := fun_mk (st := s__law_right) l6 c6 k6
  have b6 := F6.binds (ps := ["_law_well"]) fun _ _ _ _ _ _ us hl => match us, hl with | [_], _ => rfl
  have c__law_right : Cal P w K mg base 4 "_law_right" ["_law_well"] spRight := ⟨_, _, PySem.W.mg_of X G a6, k6, b6, ok_right F6 T c__law_draw c__law_one c__law_taken c__law_by_place c__law_by_name c__law_fields⟩
  exact ok_law (fun_mk (st := s_law) l7 c7 k7) T c__law_right
theorem walk {l : PySem.W.OpenLaw} {q : Program} {loose : List Str} {XP : (Str → Option Value) → Heap → Prop} {YP : World → Heap → Prop} {d : DefRec} {K : Params → PySem.W.Frag} (hn : l.most = some 63) (hdf : d.params.defaults = [])
    (hY : ∀ (w : World) (h : Heap), YP w h → (K w.params).In h)
    (F : ∀ (w : World) (mg : Str → Option Value) (fa : Addr) (h : Heap), (K w.params).In h → h.Ns mainGlobals mg → mg d.name = some (.ref fa) →
      ∃ fd : FuncData, (∀ (s : Shared) (u : Value), BindsTo s fd ⟨[u], []⟩ [("_law_script", u)]) ∧ ∀ base : Heap, (K w.params).In base → base.Ns mainGlobals mg → FnOk l.prog w (K w.params) mg base CX0 5 fa fd ["_law_script"] (spLaw (K w.params))) :
    PySem.W.WalkO q loose XP YP l.row.toRowW d [] (fun f vs => PySem.call f vs) :=
  L2.walk_of (n := 63) (k := 5) (x := "_law_script") (CX := fun _ => CX0) (sp := fun w => spLaw (K w.params)) hn (by decide) hdf ⟨rfl, by decide, by decide⟩ hY F (fun _ _ a ns hl _ hS => ⟨a, ns, rfl, hS, hl, fun _ => rfl⟩) fun _ _ _ _ _ z => z
end K04
namespace K04
open PySem PySem.Spec PyProof.Rows L2 Lk
theorem txt_mk {P : Program} {w : World} {K : PySem.W.Frag} {mg : Str → Option Value} {h : Heap} {cKeepError cNoProgram cNoRow cNoState cNoRun cNoCode cNotOver cNoPaper cNoForm cNoRound cNoCount cNoText cNoRows cNoAutomaton cNoCalls cNoFunction cNoRecipe cNoGuess cRefused cNoGuessCode cNoNumber cNoKept : Addr} (X : K.In h) (G : h.Ns mainGlobals mg)
    (e_NoProgram : ∀ base, Er2 P w K mg base "NoProgram" cKeepError cNoProgram "part" "index")
    (e_NoRow : ∀ base, Er1 P w K mg base "NoRow" cKeepError cNoRow "row")
    (e_NoState : ∀ base, Er1 P w K mg base "NoState" cKeepError cNoState "index")
    (e_NoRun : ∀ base, Er1 P w K mg base "NoRun" cKeepError cNoRun "index")
    (e_NoCode : ∀ base, Er3 P w K mg base "NoCode" cKeepError cNoCode "row" "part" "index")
    (e_NotOver : ∀ base, Er1 P w K mg base "NotOver" cKeepError cNotOver "row")
    (e_NoPaper : ∀ base, Er2 P w K mg base "NoPaper" cKeepError cNoPaper "part" "index")
    (e_NoForm : ∀ base, Er1 P w K mg base "NoForm" cKeepError cNoForm "index")
    (e_NoCount : ∀ base, Er1 P w K mg base "NoCount" cKeepError cNoCount "part")
    (e_NoText : ∀ base, Er1 P w K mg base "NoText" cKeepError cNoText "line")
    (e_NoRows : ∀ base, Er2 P w K mg base "NoRows" cKeepError cNoRows "part" "index")
    (e_NoAutomaton : ∀ base, Er1 P w K mg base "NoAutomaton" cKeepError cNoAutomaton "index")
    (e_NoCalls : ∀ base, Er3 P w K mg base "NoCalls" cKeepError cNoCalls "function" "part" "index")
    (e_NoFunction : ∀ base, Er1 P w K mg base "NoFunction" cKeepError cNoFunction "function")
    (e_NoRecipe : ∀ base, Er1 P w K mg base "NoRecipe" cKeepError cNoRecipe "index")
    (e_NoGuess : ∀ base, Er1 P w K mg base "NoGuess" cKeepError cNoGuess "index")
    (e_Refused : ∀ base, Er1 P w K mg base "Refused" cKeepError cRefused "index")
    (e_NoGuessCode : ∀ base, Er2 P w K mg base "NoGuessCode" cKeepError cNoGuessCode "part" "index")
    (e_NoNumber : ∀ base, Er1 P w K mg base "NoNumber" cKeepError cNoNumber "number")
    (e_NoRound : ErK K mg "NoRound" cNoRound cKeepError) (x_NoRound : PySem.W.excIn K cNoRound [.type "ValueError", .type "Exception", .type "BaseException", .type "object"] "ValueError.__new__" = true)
    (e_NoKept : ErK K mg "NoKept" cNoKept cKeepError) (x_NoKept : PySem.W.excIn K cNoKept [.type "ValueError", .type "Exception", .type "BaseException", .type "object"] "ValueError.__new__" = true)
    {od : Option Addr} {cd : ClassData} {sl : Array (Option Value)} (gK : PySem.W.nsIn K mainGlobals "KeepError" = some (some (.ref cKeepError))) (lK : K.lookup cKeepError = some ⟨.type "type", od, .cls cd, sl⟩)
    (nd : (cKeepError :: cNoRound :: cNoKept :: [cNoProgram, cNoRow, cNoState, cNoRun, cNoCode, cNotOver, cNoPaper, cNoForm, cNoCount, cNoText, cNoRows, cNoAutomaton, cNoCalls, cNoFunction, cNoRecipe, cNoGuess, cRefused, cNoGuessCode, cNoNumber]).Nodup)
    (z_int : PySem.W.nsIn K mainGlobals "int" = some none) (z_len : PySem.W.nsIn K mainGlobals "len" = some none) (z_isinstance : PySem.W.nsIn K mainGlobals "isinstance" = some none) (z_range : PySem.W.nsIn K mainGlobals "range" = some none) (z_enumerate : PySem.W.nsIn K mainGlobals "enumerate" = some none) (z_ValueError : PySem.W.nsIn K mainGlobals "ValueError" = some none)
    (base : Heap) : Txt P w K mg base ⟨cKeepError, cNoProgram, cNoRow, cNoState, cNoRun, cNoCode, cNotOver, cNoPaper, cNoForm, cNoRound, cNoCount, cNoText, cNoRows, cNoAutomaton, cNoCalls, cNoFunction, cNoRecipe, cNoGuess, cRefused, cNoGuessCode, cNoNumber, cNoKept⟩ :=
  ⟨e_NoProgram base, e_NoRow base, e_NoState base, e_NoRun base, e_NoCode base, e_NotOver base, e_NoPaper base, e_NoForm base, e_NoCount base, e_NoText base, e_NoRows base, e_NoAutomaton base, e_NoCalls base, e_NoFunction base, e_NoRecipe base, e_NoGuess base, e_Refused base, e_NoGuessCode base, e_NoNumber base, e_NoRound, x_NoRound, e_NoKept, x_NoKept, PySem.W.mg_of X G gK, by unfold PySem.W.clsIn; rw [lK]; rfl, by show (K.lookup cKeepError).map (·.cls) = _; rw [lK]; rfl, nd, PySem.W.mg_none_of X G z_int, PySem.W.mg_none_of X G z_len, PySem.W.mg_none_of X G z_isinstance, PySem.W.mg_none_of X G z_range, PySem.W.mg_none_of X G z_enumerate, PySem.W.mg_none_of X G z_ValueError⟩
end K04
open PySem PySem.W PyProof.Rows in
set_option maxRecDepth 100000 in
set_option maxHeartbeats 0 in
theorem PySem.Challenge.cw_leastkeep_k04_exceptions_holds : PySem.Challenge.rw_leastkeep_k04_exceptions.Holds := by
  w_on; o_law; k_head; (case hw => w_witness2)
  k_fill
  refine K04.walk (l := PySem.Challenge.rw_leastkeep_k04_exceptions) rfl rfl (fun w h Y => PySem.W.kIn_of Y) ?F
  case F =>
    intro w mg fa h KX G hmg
    refine' K04.all_mk KX G hmg (K04.txt_mk KX G ?eNoProgram ?eNoRow ?eNoState ?eNoRun ?eNoCode ?eNotOver ?eNoPaper ?eNoForm ?eNoCount ?eNoText ?eNoRows ?eNoAutomaton ?eNoCalls ?eNoFunction ?eNoRecipe ?eNoGuess ?eRefused ?eNoGuessCode ?eNoNumber ?eNoRound ?xNoRound ?eNoKept ?xNoKept ?gK ?lK ?nd ?zint ?zlen ?zisinstance ?zrange ?zenumerate ?zValueError) ?a0 ?l0 ?c0 ?k0 ?a1 ?l1 ?c1 ?k1 ?a2 ?l2 ?c2 ?k2 ?a3 ?l3 ?c3 ?k3 ?a4 ?l4 ?c4 ?k4 ?a5 ?l5 ?c5 ?k5 ?a6 ?l6 ?c6 ?k6 ?a7 ?l7 ?c7 ?k7
    (case gK => k_is); (case lK => k_is)
    (case eNoProgram => (intro base; refine' K04.er2_mk (st := K04.s_NoProgram) (K04.erk_mk KX G ?q0NoProgram ?q1NoProgram ?q2NoProgram ?q3NoProgram ?q4NoProgram ?q5NoProgram ?q6NoProgram ?q7NoProgram ?q8NoProgram ?q9NoProgram ?q10NoProgram ?q11NoProgram) ?hdNoProgram ?r0NoProgram ?r1NoProgram ?r2NoProgram ?r3NoProgram ?r4NoProgram ?n0NoProgram ?n1NoProgram (fun F T => K04.ini_NoProgram F T ?n0NoProgram ?n1NoProgram) (fun _ _ _ _ _ _ us hl => match us, hl with | [_, _, _], _ => rfl) (fun _ _ _ _ _ _ us ws hl hm => match us, ws, hl, hm with | [_], [_, _], _, _ => rfl); (case q0NoProgram => k_is); (case q1NoProgram => k_is); (case q2NoProgram => k_is); (case q3NoProgram => k_is); (case q4NoProgram => k_is); (case q5NoProgram => k_is); (case q6NoProgram => k_is); (case q7NoProgram => k_is); (case q8NoProgram => k_is); (case q9NoProgram => k_is); (case q10NoProgram => k_is); (case q11NoProgram => k_is); (case hdNoProgram => k_is); (case r0NoProgram => k_is); (case r1NoProgram => k_is); (case r2NoProgram => k_is); (case r3NoProgram => k_is); (case r4NoProgram => k_is); (case n0NoProgram => k_is); (case n1NoProgram => k_is)))
    (case eNoRow => (intro base; refine' K04.er1_mk (st := K04.s_NoRow) (K04.erk_mk KX G ?q0NoRow ?q1NoRow ?q2NoRow ?q3NoRow ?q4NoRow ?q5NoRow ?q6NoRow ?q7NoRow ?q8NoRow ?q9NoRow ?q10NoRow ?q11NoRow) ?hdNoRow ?r0NoRow ?r1NoRow ?r2NoRow ?r3NoRow ?r4NoRow ?n0NoRow (fun F T => K04.ini_NoRow F T ?n0NoRow) (fun _ _ _ _ _ _ us hl => match us, hl with | [_, _], _ => rfl) (fun _ _ _ _ _ _ us ws hl hm => match us, ws, hl, hm with | [_], [_], _, _ => rfl); (case q0NoRow => k_is); (case q1NoRow => k_is); (case q2NoRow => k_is); (case q3NoRow => k_is); (case q4NoRow => k_is); (case q5NoRow => k_is); (case q6NoRow => k_is); (case q7NoRow => k_is); (case q8NoRow => k_is); (case q9NoRow => k_is); (case q10NoRow => k_is); (case q11NoRow => k_is); (case hdNoRow => k_is); (case r0NoRow => k_is); (case r1NoRow => k_is); (case r2NoRow => k_is); (case r3NoRow => k_is); (case r4NoRow => k_is); (case n0NoRow => k_is)))
    (case eNoState => (intro base; refine' K04.er1_mk (st := K04.s_NoState) (K04.erk_mk KX G ?q0NoState ?q1NoState ?q2NoState ?q3NoState ?q4NoState ?q5NoState ?q6NoState ?q7NoState ?q8NoState ?q9NoState ?q10NoState ?q11NoState) ?hdNoState ?r0NoState ?r1NoState ?r2NoState ?r3NoState ?r4NoState ?n0NoState (fun F T => K04.ini_NoState F T ?n0NoState) (fun _ _ _ _ _ _ us hl => match us, hl with | [_, _], _ => rfl) (fun _ _ _ _ _ _ us ws hl hm => match us, ws, hl, hm with | [_], [_], _, _ => rfl); (case q0NoState => k_is); (case q1NoState => k_is); (case q2NoState => k_is); (case q3NoState => k_is); (case q4NoState => k_is); (case q5NoState => k_is); (case q6NoState => k_is); (case q7NoState => k_is); (case q8NoState => k_is); (case q9NoState => k_is); (case q10NoState => k_is); (case q11NoState => k_is); (case hdNoState => k_is); (case r0NoState => k_is); (case r1NoState => k_is); (case r2NoState => k_is); (case r3NoState => k_is); (case r4NoState => k_is); (case n0NoState => k_is)))
    (case eNoRun => (intro base; refine' K04.er1_mk (st := K04.s_NoRun) (K04.erk_mk KX G ?q0NoRun ?q1NoRun ?q2NoRun ?q3NoRun ?q4NoRun ?q5NoRun ?q6NoRun ?q7NoRun ?q8NoRun ?q9NoRun ?q10NoRun ?q11NoRun) ?hdNoRun ?r0NoRun ?r1NoRun ?r2NoRun ?r3NoRun ?r4NoRun ?n0NoRun (fun F T => K04.ini_NoRun F T ?n0NoRun) (fun _ _ _ _ _ _ us hl => match us, hl with | [_, _], _ => rfl) (fun _ _ _ _ _ _ us ws hl hm => match us, ws, hl, hm with | [_], [_], _, _ => rfl); (case q0NoRun => k_is); (case q1NoRun => k_is); (case q2NoRun => k_is); (case q3NoRun => k_is); (case q4NoRun => k_is); (case q5NoRun => k_is); (case q6NoRun => k_is); (case q7NoRun => k_is); (case q8NoRun => k_is); (case q9NoRun => k_is); (case q10NoRun => k_is); (case q11NoRun => k_is); (case hdNoRun => k_is); (case r0NoRun => k_is); (case r1NoRun => k_is); (case r2NoRun => k_is); (case r3NoRun => k_is); (case r4NoRun => k_is); (case n0NoRun => k_is)))
    (case eNoCode => (intro base; refine' K04.er3_mk (st := K04.s_NoCode) (K04.erk_mk KX G ?q0NoCode ?q1NoCode ?q2NoCode ?q3NoCode ?q4NoCode ?q5NoCode ?q6NoCode ?q7NoCode ?q8NoCode ?q9NoCode ?q10NoCode ?q11NoCode) ?hdNoCode ?r0NoCode ?r1NoCode ?r2NoCode ?r3NoCode ?r4NoCode ?n0NoCode ?n1NoCode ?n2NoCode (fun F T => K04.ini_NoCode F T ?n0NoCode ?n1NoCode ?n2NoCode) (fun _ _ _ _ _ _ us hl => match us, hl with | [_, _, _, _], _ => rfl) (fun _ _ _ _ _ _ us ws hl hm => match us, ws, hl, hm with | [_], [_, _, _], _, _ => rfl); (case q0NoCode => k_is); (case q1NoCode => k_is); (case q2NoCode => k_is); (case q3NoCode => k_is); (case q4NoCode => k_is); (case q5NoCode => k_is); (case q6NoCode => k_is); (case q7NoCode => k_is); (case q8NoCode => k_is); (case q9NoCode => k_is); (case q10NoCode => k_is); (case q11NoCode => k_is); (case hdNoCode => k_is); (case r0NoCode => k_is); (case r1NoCode => k_is); (case r2NoCode => k_is); (case r3NoCode => k_is); (case r4NoCode => k_is); (case n0NoCode => k_is); (case n1NoCode => k_is); (case n2NoCode => k_is)))
    (case eNotOver => (intro base; refine' K04.er1_mk (st := K04.s_NotOver) (K04.erk_mk KX G ?q0NotOver ?q1NotOver ?q2NotOver ?q3NotOver ?q4NotOver ?q5NotOver ?q6NotOver ?q7NotOver ?q8NotOver ?q9NotOver ?q10NotOver ?q11NotOver) ?hdNotOver ?r0NotOver ?r1NotOver ?r2NotOver ?r3NotOver ?r4NotOver ?n0NotOver (fun F T => K04.ini_NotOver F T ?n0NotOver) (fun _ _ _ _ _ _ us hl => match us, hl with | [_, _], _ => rfl) (fun _ _ _ _ _ _ us ws hl hm => match us, ws, hl, hm with | [_], [_], _, _ => rfl); (case q0NotOver => k_is); (case q1NotOver => k_is); (case q2NotOver => k_is); (case q3NotOver => k_is); (case q4NotOver => k_is); (case q5NotOver => k_is); (case q6NotOver => k_is); (case q7NotOver => k_is); (case q8NotOver => k_is); (case q9NotOver => k_is); (case q10NotOver => k_is); (case q11NotOver => k_is); (case hdNotOver => k_is); (case r0NotOver => k_is); (case r1NotOver => k_is); (case r2NotOver => k_is); (case r3NotOver => k_is); (case r4NotOver => k_is); (case n0NotOver => k_is)))
    (case eNoPaper => (intro base; refine' K04.er2_mk (st := K04.s_NoPaper) (K04.erk_mk KX G ?q0NoPaper ?q1NoPaper ?q2NoPaper ?q3NoPaper ?q4NoPaper ?q5NoPaper ?q6NoPaper ?q7NoPaper ?q8NoPaper ?q9NoPaper ?q10NoPaper ?q11NoPaper) ?hdNoPaper ?r0NoPaper ?r1NoPaper ?r2NoPaper ?r3NoPaper ?r4NoPaper ?n0NoPaper ?n1NoPaper (fun F T => K04.ini_NoPaper F T ?n0NoPaper ?n1NoPaper) (fun _ _ _ _ _ _ us hl => match us, hl with | [_, _, _], _ => rfl) (fun _ _ _ _ _ _ us ws hl hm => match us, ws, hl, hm with | [_], [_, _], _, _ => rfl); (case q0NoPaper => k_is); (case q1NoPaper => k_is); (case q2NoPaper => k_is); (case q3NoPaper => k_is); (case q4NoPaper => k_is); (case q5NoPaper => k_is); (case q6NoPaper => k_is); (case q7NoPaper => k_is); (case q8NoPaper => k_is); (case q9NoPaper => k_is); (case q10NoPaper => k_is); (case q11NoPaper => k_is); (case hdNoPaper => k_is); (case r0NoPaper => k_is); (case r1NoPaper => k_is); (case r2NoPaper => k_is); (case r3NoPaper => k_is); (case r4NoPaper => k_is); (case n0NoPaper => k_is); (case n1NoPaper => k_is)))
    (case eNoForm => (intro base; refine' K04.er1_mk (st := K04.s_NoForm) (K04.erk_mk KX G ?q0NoForm ?q1NoForm ?q2NoForm ?q3NoForm ?q4NoForm ?q5NoForm ?q6NoForm ?q7NoForm ?q8NoForm ?q9NoForm ?q10NoForm ?q11NoForm) ?hdNoForm ?r0NoForm ?r1NoForm ?r2NoForm ?r3NoForm ?r4NoForm ?n0NoForm (fun F T => K04.ini_NoForm F T ?n0NoForm) (fun _ _ _ _ _ _ us hl => match us, hl with | [_, _], _ => rfl) (fun _ _ _ _ _ _ us ws hl hm => match us, ws, hl, hm with | [_], [_], _, _ => rfl); (case q0NoForm => k_is); (case q1NoForm => k_is); (case q2NoForm => k_is); (case q3NoForm => k_is); (case q4NoForm => k_is); (case q5NoForm => k_is); (case q6NoForm => k_is); (case q7NoForm => k_is); (case q8NoForm => k_is); (case q9NoForm => k_is); (case q10NoForm => k_is); (case q11NoForm => k_is); (case hdNoForm => k_is); (case r0NoForm => k_is); (case r1NoForm => k_is); (case r2NoForm => k_is); (case r3NoForm => k_is); (case r4NoForm => k_is); (case n0NoForm => k_is)))
    (case eNoCount => (intro base; refine' K04.er1_mk (st := K04.s_NoCount) (K04.erk_mk KX G ?q0NoCount ?q1NoCount ?q2NoCount ?q3NoCount ?q4NoCount ?q5NoCount ?q6NoCount ?q7NoCount ?q8NoCount ?q9NoCount ?q10NoCount ?q11NoCount) ?hdNoCount ?r0NoCount ?r1NoCount ?r2NoCount ?r3NoCount ?r4NoCount ?n0NoCount (fun F T => K04.ini_NoCount F T ?n0NoCount) (fun _ _ _ _ _ _ us hl => match us, hl with | [_, _], _ => rfl) (fun _ _ _ _ _ _ us ws hl hm => match us, ws, hl, hm with | [_], [_], _, _ => rfl); (case q0NoCount => k_is); (case q1NoCount => k_is); (case q2NoCount => k_is); (case q3NoCount => k_is); (case q4NoCount => k_is); (case q5NoCount => k_is); (case q6NoCount => k_is); (case q7NoCount => k_is); (case q8NoCount => k_is); (case q9NoCount => k_is); (case q10NoCount => k_is); (case q11NoCount => k_is); (case hdNoCount => k_is); (case r0NoCount => k_is); (case r1NoCount => k_is); (case r2NoCount => k_is); (case r3NoCount => k_is); (case r4NoCount => k_is); (case n0NoCount => k_is)))
    (case eNoText => (intro base; refine' K04.er1_mk (st := K04.s_NoText) (K04.erk_mk KX G ?q0NoText ?q1NoText ?q2NoText ?q3NoText ?q4NoText ?q5NoText ?q6NoText ?q7NoText ?q8NoText ?q9NoText ?q10NoText ?q11NoText) ?hdNoText ?r0NoText ?r1NoText ?r2NoText ?r3NoText ?r4NoText ?n0NoText (fun F T => K04.ini_NoText F T ?n0NoText) (fun _ _ _ _ _ _ us hl => match us, hl with | [_, _], _ => rfl) (fun _ _ _ _ _ _ us ws hl hm => match us, ws, hl, hm with | [_], [_], _, _ => rfl); (case q0NoText => k_is); (case q1NoText => k_is); (case q2NoText => k_is); (case q3NoText => k_is); (case q4NoText => k_is); (case q5NoText => k_is); (case q6NoText => k_is); (case q7NoText => k_is); (case q8NoText => k_is); (case q9NoText => k_is); (case q10NoText => k_is); (case q11NoText => k_is); (case hdNoText => k_is); (case r0NoText => k_is); (case r1NoText => k_is); (case r2NoText => k_is); (case r3NoText => k_is); (case r4NoText => k_is); (case n0NoText => k_is)))
    (case eNoRows => (intro base; refine' K04.er2_mk (st := K04.s_NoRows) (K04.erk_mk KX G ?q0NoRows ?q1NoRows ?q2NoRows ?q3NoRows ?q4NoRows ?q5NoRows ?q6NoRows ?q7NoRows ?q8NoRows ?q9NoRows ?q10NoRows ?q11NoRows) ?hdNoRows ?r0NoRows ?r1NoRows ?r2NoRows ?r3NoRows ?r4NoRows ?n0NoRows ?n1NoRows (fun F T => K04.ini_NoRows F T ?n0NoRows ?n1NoRows) (fun _ _ _ _ _ _ us hl => match us, hl with | [_, _, _], _ => rfl) (fun _ _ _ _ _ _ us ws hl hm => match us, ws, hl, hm with | [_], [_, _], _, _ => rfl); (case q0NoRows => k_is); (case q1NoRows => k_is); (case q2NoRows => k_is); (case q3NoRows => k_is); (case q4NoRows => k_is); (case q5NoRows => k_is); (case q6NoRows => k_is); (case q7NoRows => k_is); (case q8NoRows => k_is); (case q9NoRows => k_is); (case q10NoRows => k_is); (case q11NoRows => k_is); (case hdNoRows => k_is); (case r0NoRows => k_is); (case r1NoRows => k_is); (case r2NoRows => k_is); (case r3NoRows => k_is); (case r4NoRows => k_is); (case n0NoRows => k_is); (case n1NoRows => k_is)))
    (case eNoAutomaton => (intro base; refine' K04.er1_mk (st := K04.s_NoAutomaton) (K04.erk_mk KX G ?q0NoAutomaton ?q1NoAutomaton ?q2NoAutomaton ?q3NoAutomaton ?q4NoAutomaton ?q5NoAutomaton ?q6NoAutomaton ?q7NoAutomaton ?q8NoAutomaton ?q9NoAutomaton ?q10NoAutomaton ?q11NoAutomaton) ?hdNoAutomaton ?r0NoAutomaton ?r1NoAutomaton ?r2NoAutomaton ?r3NoAutomaton ?r4NoAutomaton ?n0NoAutomaton (fun F T => K04.ini_NoAutomaton F T ?n0NoAutomaton) (fun _ _ _ _ _ _ us hl => match us, hl with | [_, _], _ => rfl) (fun _ _ _ _ _ _ us ws hl hm => match us, ws, hl, hm with | [_], [_], _, _ => rfl); (case q0NoAutomaton => k_is); (case q1NoAutomaton => k_is); (case q2NoAutomaton => k_is); (case q3NoAutomaton => k_is); (case q4NoAutomaton => k_is); (case q5NoAutomaton => k_is); (case q6NoAutomaton => k_is); (case q7NoAutomaton => k_is); (case q8NoAutomaton => k_is); (case q9NoAutomaton => k_is); (case q10NoAutomaton => k_is); (case q11NoAutomaton => k_is); (case hdNoAutomaton => k_is); (case r0NoAutomaton => k_is); (case r1NoAutomaton => k_is); (case r2NoAutomaton => k_is); (case r3NoAutomaton => k_is); (case r4NoAutomaton => k_is); (case n0NoAutomaton => k_is)))
    (case eNoCalls => (intro base; refine' K04.er3_mk (st := K04.s_NoCalls) (K04.erk_mk KX G ?q0NoCalls ?q1NoCalls ?q2NoCalls ?q3NoCalls ?q4NoCalls ?q5NoCalls ?q6NoCalls ?q7NoCalls ?q8NoCalls ?q9NoCalls ?q10NoCalls ?q11NoCalls) ?hdNoCalls ?r0NoCalls ?r1NoCalls ?r2NoCalls ?r3NoCalls ?r4NoCalls ?n0NoCalls ?n1NoCalls ?n2NoCalls (fun F T => K04.ini_NoCalls F T ?n0NoCalls ?n1NoCalls ?n2NoCalls) (fun _ _ _ _ _ _ us hl => match us, hl with | [_, _, _, _], _ => rfl) (fun _ _ _ _ _ _ us ws hl hm => match us, ws, hl, hm with | [_], [_, _, _], _, _ => rfl); (case q0NoCalls => k_is); (case q1NoCalls => k_is); (case q2NoCalls => k_is); (case q3NoCalls => k_is); (case q4NoCalls => k_is); (case q5NoCalls => k_is); (case q6NoCalls => k_is); (case q7NoCalls => k_is); (case q8NoCalls => k_is); (case q9NoCalls => k_is); (case q10NoCalls => k_is); (case q11NoCalls => k_is); (case hdNoCalls => k_is); (case r0NoCalls => k_is); (case r1NoCalls => k_is); (case r2NoCalls => k_is); (case r3NoCalls => k_is); (case r4NoCalls => k_is); (case n0NoCalls => k_is); (case n1NoCalls => k_is); (case n2NoCalls => k_is)))
    (case eNoFunction => (intro base; refine' K04.er1_mk (st := K04.s_NoFunction) (K04.erk_mk KX G ?q0NoFunction ?q1NoFunction ?q2NoFunction ?q3NoFunction ?q4NoFunction ?q5NoFunction ?q6NoFunction ?q7NoFunction ?q8NoFunction ?q9NoFunction ?q10NoFunction ?q11NoFunction) ?hdNoFunction ?r0NoFunction ?r1NoFunction ?r2NoFunction ?r3NoFunction ?r4NoFunction ?n0NoFunction (fun F T => K04.ini_NoFunction F T ?n0NoFunction) (fun _ _ _ _ _ _ us hl => match us, hl with | [_, _], _ => rfl) (fun _ _ _ _ _ _ us ws hl hm => match us, ws, hl, hm with | [_], [_], _, _ => rfl); (case q0NoFunction => k_is); (case q1NoFunction => k_is); (case q2NoFunction => k_is); (case q3NoFunction => k_is); (case q4NoFunction => k_is); (case q5NoFunction => k_is); (case q6NoFunction => k_is); (case q7NoFunction => k_is); (case q8NoFunction => k_is); (case q9NoFunction => k_is); (case q10NoFunction => k_is); (case q11NoFunction => k_is); (case hdNoFunction => k_is); (case r0NoFunction => k_is); (case r1NoFunction => k_is); (case r2NoFunction => k_is); (case r3NoFunction => k_is); (case r4NoFunction => k_is); (case n0NoFunction => k_is)))
    (case eNoRecipe => (intro base; refine' K04.er1_mk (st := K04.s_NoRecipe) (K04.erk_mk KX G ?q0NoRecipe ?q1NoRecipe ?q2NoRecipe ?q3NoRecipe ?q4NoRecipe ?q5NoRecipe ?q6NoRecipe ?q7NoRecipe ?q8NoRecipe ?q9NoRecipe ?q10NoRecipe ?q11NoRecipe) ?hdNoRecipe ?r0NoRecipe ?r1NoRecipe ?r2NoRecipe ?r3NoRecipe ?r4NoRecipe ?n0NoRecipe (fun F T => K04.ini_NoRecipe F T ?n0NoRecipe) (fun _ _ _ _ _ _ us hl => match us, hl with | [_, _], _ => rfl) (fun _ _ _ _ _ _ us ws hl hm => match us, ws, hl, hm with | [_], [_], _, _ => rfl); (case q0NoRecipe => k_is); (case q1NoRecipe => k_is); (case q2NoRecipe => k_is); (case q3NoRecipe => k_is); (case q4NoRecipe => k_is); (case q5NoRecipe => k_is); (case q6NoRecipe => k_is); (case q7NoRecipe => k_is); (case q8NoRecipe => k_is); (case q9NoRecipe => k_is); (case q10NoRecipe => k_is); (case q11NoRecipe => k_is); (case hdNoRecipe => k_is); (case r0NoRecipe => k_is); (case r1NoRecipe => k_is); (case r2NoRecipe => k_is); (case r3NoRecipe => k_is); (case r4NoRecipe => k_is); (case n0NoRecipe => k_is)))
    (case eNoGuess => (intro base; refine' K04.er1_mk (st := K04.s_NoGuess) (K04.erk_mk KX G ?q0NoGuess ?q1NoGuess ?q2NoGuess ?q3NoGuess ?q4NoGuess ?q5NoGuess ?q6NoGuess ?q7NoGuess ?q8NoGuess ?q9NoGuess ?q10NoGuess ?q11NoGuess) ?hdNoGuess ?r0NoGuess ?r1NoGuess ?r2NoGuess ?r3NoGuess ?r4NoGuess ?n0NoGuess (fun F T => K04.ini_NoGuess F T ?n0NoGuess) (fun _ _ _ _ _ _ us hl => match us, hl with | [_, _], _ => rfl) (fun _ _ _ _ _ _ us ws hl hm => match us, ws, hl, hm with | [_], [_], _, _ => rfl); (case q0NoGuess => k_is); (case q1NoGuess => k_is); (case q2NoGuess => k_is); (case q3NoGuess => k_is); (case q4NoGuess => k_is); (case q5NoGuess => k_is); (case q6NoGuess => k_is); (case q7NoGuess => k_is); (case q8NoGuess => k_is); (case q9NoGuess => k_is); (case q10NoGuess => k_is); (case q11NoGuess => k_is); (case hdNoGuess => k_is); (case r0NoGuess => k_is); (case r1NoGuess => k_is); (case r2NoGuess => k_is); (case r3NoGuess => k_is); (case r4NoGuess => k_is); (case n0NoGuess => k_is)))
    (case eRefused => (intro base; refine' K04.er1_mk (st := K04.s_Refused) (K04.erk_mk KX G ?q0Refused ?q1Refused ?q2Refused ?q3Refused ?q4Refused ?q5Refused ?q6Refused ?q7Refused ?q8Refused ?q9Refused ?q10Refused ?q11Refused) ?hdRefused ?r0Refused ?r1Refused ?r2Refused ?r3Refused ?r4Refused ?n0Refused (fun F T => K04.ini_Refused F T ?n0Refused) (fun _ _ _ _ _ _ us hl => match us, hl with | [_, _], _ => rfl) (fun _ _ _ _ _ _ us ws hl hm => match us, ws, hl, hm with | [_], [_], _, _ => rfl); (case q0Refused => k_is); (case q1Refused => k_is); (case q2Refused => k_is); (case q3Refused => k_is); (case q4Refused => k_is); (case q5Refused => k_is); (case q6Refused => k_is); (case q7Refused => k_is); (case q8Refused => k_is); (case q9Refused => k_is); (case q10Refused => k_is); (case q11Refused => k_is); (case hdRefused => k_is); (case r0Refused => k_is); (case r1Refused => k_is); (case r2Refused => k_is); (case r3Refused => k_is); (case r4Refused => k_is); (case n0Refused => k_is)))
    (case eNoGuessCode => (intro base; refine' K04.er2_mk (st := K04.s_NoGuessCode) (K04.erk_mk KX G ?q0NoGuessCode ?q1NoGuessCode ?q2NoGuessCode ?q3NoGuessCode ?q4NoGuessCode ?q5NoGuessCode ?q6NoGuessCode ?q7NoGuessCode ?q8NoGuessCode ?q9NoGuessCode ?q10NoGuessCode ?q11NoGuessCode) ?hdNoGuessCode ?r0NoGuessCode ?r1NoGuessCode ?r2NoGuessCode ?r3NoGuessCode ?r4NoGuessCode ?n0NoGuessCode ?n1NoGuessCode (fun F T => K04.ini_NoGuessCode F T ?n0NoGuessCode ?n1NoGuessCode) (fun _ _ _ _ _ _ us hl => match us, hl with | [_, _, _], _ => rfl) (fun _ _ _ _ _ _ us ws hl hm => match us, ws, hl, hm with | [_], [_, _], _, _ => rfl); (case q0NoGuessCode => k_is); (case q1NoGuessCode => k_is); (case q2NoGuessCode => k_is); (case q3NoGuessCode => k_is); (case q4NoGuessCode => k_is); (case q5NoGuessCode => k_is); (case q6NoGuessCode => k_is); (case q7NoGuessCode => k_is); (case q8NoGuessCode => k_is); (case q9NoGuessCode => k_is); (case q10NoGuessCode => k_is); (case q11NoGuessCode => k_is); (case hdNoGuessCode => k_is); (case r0NoGuessCode => k_is); (case r1NoGuessCode => k_is); (case r2NoGuessCode => k_is); (case r3NoGuessCode => k_is); (case r4NoGuessCode => k_is); (case n0NoGuessCode => k_is); (case n1NoGuessCode => k_is)))
    (case eNoNumber => (intro base; refine' K04.er1_mk (st := K04.s_NoNumber) (K04.erk_mk KX G ?q0NoNumber ?q1NoNumber ?q2NoNumber ?q3NoNumber ?q4NoNumber ?q5NoNumber ?q6NoNumber ?q7NoNumber ?q8NoNumber ?q9NoNumber ?q10NoNumber ?q11NoNumber) ?hdNoNumber ?r0NoNumber ?r1NoNumber ?r2NoNumber ?r3NoNumber ?r4NoNumber ?n0NoNumber (fun F T => K04.ini_NoNumber F T ?n0NoNumber) (fun _ _ _ _ _ _ us hl => match us, hl with | [_, _], _ => rfl) (fun _ _ _ _ _ _ us ws hl hm => match us, ws, hl, hm with | [_], [_], _, _ => rfl); (case q0NoNumber => k_is); (case q1NoNumber => k_is); (case q2NoNumber => k_is); (case q3NoNumber => k_is); (case q4NoNumber => k_is); (case q5NoNumber => k_is); (case q6NoNumber => k_is); (case q7NoNumber => k_is); (case q8NoNumber => k_is); (case q9NoNumber => k_is); (case q10NoNumber => k_is); (case q11NoNumber => k_is); (case hdNoNumber => k_is); (case r0NoNumber => k_is); (case r1NoNumber => k_is); (case r2NoNumber => k_is); (case r3NoNumber => k_is); (case r4NoNumber => k_is); (case n0NoNumber => k_is)))
    (case eNoRound => (refine' K04.erk_mk KX G ?q0NoRound ?q1NoRound ?q2NoRound ?q3NoRound ?q4NoRound ?q5NoRound ?q6NoRound ?q7NoRound ?q8NoRound ?q9NoRound ?q10NoRound ?q11NoRound; (case q0NoRound => k_is); (case q1NoRound => k_is); (case q2NoRound => k_is); (case q3NoRound => k_is); (case q4NoRound => k_is); (case q5NoRound => k_is); (case q6NoRound => k_is); (case q7NoRound => k_is); (case q8NoRound => k_is); (case q9NoRound => k_is); (case q10NoRound => k_is); (case q11NoRound => k_is))); (case xNoRound => first | k_is | k_exc)
    (case eNoKept => (refine' K04.erk_mk KX G ?q0NoKept ?q1NoKept ?q2NoKept ?q3NoKept ?q4NoKept ?q5NoKept ?q6NoKept ?q7NoKept ?q8NoKept ?q9NoKept ?q10NoKept ?q11NoKept; (case q0NoKept => k_is); (case q1NoKept => k_is); (case q2NoKept => k_is); (case q3NoKept => k_is); (case q4NoKept => k_is); (case q5NoKept => k_is); (case q6NoKept => k_is); (case q7NoKept => k_is); (case q8NoKept => k_is); (case q9NoKept => k_is); (case q10NoKept => k_is); (case q11NoKept => k_is))); (case xNoKept => first | k_is | k_exc)
    (case nd => decide)
    (case zint => k_is); (case zlen => k_is); (case zisinstance => k_is); (case zrange => k_is); (case zenumerate => k_is); (case zValueError => k_is)
    (case a0 => k_is); (case l0 => k_is); (case c0 => k_is); (case k0 => k_is); (case a1 => k_is); (case l1 => k_is); (case c1 => k_is); (case k1 => k_is); (case a2 => k_is); (case l2 => k_is); (case c2 => k_is); (case k2 => k_is); (case a3 => k_is); (case l3 => k_is); (case c3 => k_is); (case k3 => k_is); (case a4 => k_is); (case l4 => k_is); (case c4 => k_is); (case k4 => k_is); (case a5 => k_is); (case l5 => k_is); (case c5 => k_is); (case k5 => k_is); (case a6 => k_is); (case l6 => k_is); (case c6 => k_is); (case k6 => k_is); (case a7 => k_is); (case l7 => k_is); (case c7 => k_is); (case k7 => k_is)
