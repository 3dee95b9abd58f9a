import PyProof.Rows.All
import Wide.All
import OpenK.AllK
import Wide.FinOn
import HandS.Base
import HandS.Call
import HandS.List
import HandS.Comp
import HandS.Iter
import HandS.Ends
import HandS.Words
import HandS.WordsList
import HandS.Exc
import HandS.ExcInit
import HandS.ExcValue
import HandS.ExcField
import HandS.IsInst
import HandS.Defaults
import HandS.MakeKwOnly
import KE.KExcIs
import HandS.Walk
import PyProof.Rows.SeqMore
import KE.GoesMore
import HandS.Wide
import HandS.WideBits
import HandS.TupMul
import HandS.TupAny
import HandS.Text
import HandS.Flow
import HandS.OwnEq
import HandS.More
import OpenK.KOps
import OpenK.KMeth
import PyProof.InstNe
import PyProof.P3Eq
import PySem.Challenge.RW_leastkeep_k01_programs_made
import KE.RegKIsAll
set_option Elab.async false
set_option linter.all false
set_option maxRecDepth 100000
set_option maxHeartbeats 4000000
namespace Lk
open PySem PySem.Spec PyProof.Rows L2
/-- a def that may be called by its name: it lets no error out -/
structure Cal (P : Program) (w : World) (K : PySem.W.Frag) (mg : Str → Option Value) (base : Heap) (k : Nat) (x : Str) (ps : List Str) (sp : Sp) : Prop where
  ex : ∃ f fd, mg x = some (.ref f) ∧ PySem.W.keepIn K (.ref f) = true ∧ Binds K fd ps [] ∧ FnOk P w K mg base CX0 k f fd ps sp
theorem pcal {X : Cx} {k j : Nat} {x : Str} {ps : List Str} {sp : Sp} {e : Expr} {es : List Expr} {t : TA} {p pos : Pos} (c : Cal X.prog X.w X.K X.mg X.base k x ps sp) (hr : Room j X.A) (hk : k ≤ j) (ha : PA X (e :: es) t) (hg : Gl X x := by rfl)
    (hdb : (x == ("__debug__" : Str)) = false := by decide) (he : starEach (e :: es) X.env = (false, eval e X.env) :: starEach es X.env := by rfl) (hpl : (backTo pos (starEach es X.env)).any (·.1) = false := by rfl) :
    PE X (.Call (.Name x p) (e :: es) [] pos) (tCall sp [] E0 t) := by
  obtain ⟨f, fd, hm, kp, b, F⟩ := c.ex
  exact pe_call F (hr.mono hk) hg hm kp b .nil pass0 ha hdb he hpl
section
variable {σ : L2.St} {H : Hp} {i j : Nat} {v x y : V} {Q : VK} {D : Ends} {ta tb te : TE} {t u : TS} {tt tu : TT} {tl tr : TA} {r : R2} {g : TG}
theorem sv (h : σ[i]? = some (some v)) (q : Q v H) : tVar i σ H Q := ⟨v, h, q⟩
theorem sc (q : Q v H) : tC v σ H Q := q
theorem ssq (q : t { D with nx := u D } σ H) : tSeq t u D σ H := q
theorem snx (q : D.nx σ H) : tNext D σ H := q
theorem sas (q : te σ H fun x H1 => g x σ H1 D.nx) : tAsg te g D σ H := q
theorem sgn {K : L2.St → Hp → Prop} (q : K (σ.set i (some v)) H) : gName i v σ H K := q
theorem sdr (q : te σ H fun _ H1 => D.nx σ H1) : tDrop te D σ H := q
theorem srt (q : te σ H D.rt) : tRet te D σ H := q
theorem sop (q : ta σ H fun x H1 => tb σ H1 fun y H2 => r x y H2 Q) : tOp r ta tb σ H Q := q
theorem sun {r : V → Hp → VK → Prop} (q : ta σ H fun x H1 => r x H1 Q) : tUn r ta σ H Q := q
theorem sI0 {f : Int → Int → V} {a b : Int} (q : Q (f a b) H) : rI0 f (.int a) (.int b) H Q := ⟨a, b, rfl, rfl, q⟩
theorem sI {C : Int → Int → Prop} {f : Int → Int → V} {a b : Int} (h : C a b) (q : Q (f a b) H) : rI C f (.int a) (.int b) H Q := ⟨a, b, rfl, rfl, h, q⟩
theorem sU {f : Int → V} {a : Int} (q : Q (f a) H) : rU f (.int a) H Q := ⟨a, rfl, q⟩
theorem sEq (h : scal x y = true) (q : Q (.bl (decide (x = y))) H) : rEq x y H Q := ⟨h, q⟩
theorem sNe (h : scal x y = true) (q : Q (.bl (!decide (x = y))) H) : rNe x y H Q := ⟨h, q⟩
theorem stt {Q : Bool → Hp → Prop} (q : te σ H fun x H' => ∃ k, x = .bl k ∧ Q k H') : tTest te σ H Q := q
theorem stB {Q : Bool → Hp → Prop} (q : te σ H fun x H' => ∃ k, x = .bl k ∧ Q k H') : tB te σ H Q := q
theorem sbl {b : Bool} {Q : Bool → Prop} (q : Q b) : ∃ k, V.bl b = .bl k ∧ Q k := ⟨b, rfl, q⟩
theorem snt {Q : Bool → Hp → Prop} (q : tt σ H fun c H1 => Q (!c) H1) : tNot tt σ H Q := q
theorem sif (q : tt σ H fun b H1 => if b = true then t D σ H1 else u D σ H1) : tIfS tt t u D σ H := q
theorem scB {r : List V → Hp → VK → Prop} (q : tl σ H fun vs H1 => r vs H1 Q) : tCB r tl σ H Q := q
theorem scn {Q : List V → Hp → Prop} (q : ta σ H fun x H1 => tr σ H1 fun xs H2 => Q (x :: xs) H2) : tCons ta tr σ H Q := q
theorem snl {Q : List V → Hp → Prop} (q : Q [] H) : tNil σ H Q := q
theorem scl {sp : Sp} {E : XK} (q : tl σ H fun vs H1 => sp (vs ++ []) H1 Q E) : tCall sp [] E tl σ H Q := q
theorem stu (q : tl σ H fun xs H1 => xs.length ≤ sizeLine ∧ ∀ p, H1 p = none → Q (.ref p) (upd H1 p (.tup xs))) : tTup tl σ H Q := q
theorem sli (q : tl σ H fun xs H1 => xs.length ≤ sizeLine ∧ ∀ p, H1 p = none → Q (.ref p) (upd H1 p (.lst xs))) : tLst tl σ H Q := q
theorem snw {n : Nat} {R : Addr → Prop} (h : n ≤ 1000) (q : ∀ p, H p = none → R p) : n ≤ sizeLine ∧ ∀ p, H p = none → R p := ⟨Nat.le_of_lt (small1000 h), q⟩
theorem sfr {K : PySem.W.Frag} {p : Addr} {xs : List V} {z : Int} (hp : SqL K H p xs) (hz : atI xs z = some v) (q : Q v H) : rIxL K (.ref p) (.int z) H Q := ⟨p, xs, z, v, rfl, rfl, hp, hz, q⟩
theorem sfg {s : TSet} {K : L2.St → Hp → Prop} (q : ta σ H fun o H1 => tb σ H1 fun z H2 => s o z v H2 fun H3 => K σ H3) : gSub ta tb s v σ H K := q
theorem ssl {p : Addr} {xs : List V} {z : Int} {j : Nat} {K : Hp → Prop} (hp : H p = some (.lst xs)) (hz : ixN xs.length z = some j) (q : K (upd H p (.lst (xs.set j v)))) : rSetL (.ref p) (.int z) v H K := ⟨p, xs, z, j, rfl, rfl, hp, hz, q⟩
theorem sI1 {a : Int} (q : Q (.int a) H) : (∃ i, [V.int a] = [.int i] ∧ Q (.int i) H) ∨ ∃ k, [V.int a] = [.bl k] ∧ Q (.int (if k then 1 else 0)) H := .inl ⟨a, rfl, q⟩
theorem sI2 {b : Bool} (q : Q (.int (if b then 1 else 0)) H) : (∃ i, [V.bl b] = [.int i] ∧ Q (.int i) H) ∨ ∃ k, [V.bl b] = [.bl k] ∧ Q (.int (if k then 1 else 0)) H := .inr ⟨b, rfl, q⟩
end
end Lk

/-! ### an error class with its own __init__, called with keywords: the keywords go by the base's __new__ and reach the own __init__ -/
namespace PySem.HandSPX
open Builtin Builtin.ObjectAttr
section
variable {prog : Program} {w : World} {Ar : Around} {E : Value → Shared → Prop} {R : Result → Shared → Prop} {hp : Heap} {gs : Array GenState} {dr : Drawn} {tk : Nat} {os : OsState}
variable {nm qn : Str} {C N : Addr} {bs bm bmB : List Value} {hdct ab : Bool} {sn : List Str} {sub us : List Value} {col : Option Bool} {dd : Option Addr} {m0 m1 m2 m3 m5 : Option Value} {B nid iid : String} {kw : List (Str × Value)}
/-- the check ahead of __new__ passes any keywords -/
theorem kw_check (F : ExcBaseFacts B nid iid bmB) (tl : ∀ Y : String, bm.contains (.type Y) = bmB.contains (.type Y)) (oC : hp.get? C = some (excClassObj nm qn C N bs bm hdct sn sub ab col dd m0 m1 m2 m3 m5 nid)) {Q : Unit → Shared → Prop} (q : Q () ⟨hp, gs, dr, tk, os⟩) :
    wpAny (model prog w) Ar (checkBuiltinCall nid ⟨.ref C :: us, kw⟩) Q E ⟨hp, gs, dr, tk, os⟩ := by
  have inB : (Value.ref C :: bm).contains (.type B) = true := (List.contains_cons).trans (by rw [tl, F.hasB]; exact Bool.or_true _)
  have star := F.noStar
  simp only [checkBuiltinCall, F.newSplit, F.newKind, F.newRow]
  repeat first
    | (refine wpAny_isSubtype_exc oC ?_
       rw [inB])
    | refine wpAny_madeBy_exc oC ?_
    | refine wpAny_staticBase_exc oC ?_
    | refine wpAny_loadPart_at oC ?_
    | simp only [Bool.false_eq_true, if_false, bne_self_eq_false]
    | wp_step
  exact q
/-- __new__ lays the args and the error, and looks at no keyword -/
theorem kw_new (F : ExcBaseFacts B nid iid bmB) (tl : ∀ Y : String, bm.contains (.type Y) = bmB.contains (.type Y)) (oC : hp.get? C = some (excClassObj nm qn C N bs bm hdct sn sub ab col dd m0 m1 m2 m3 m5 nid)) (len : us.length ≤ sizeLine)
    (q : R (.ok (.ret (.ref (hp.objs.size + 1)))) ⟨(hp.push (W.kdv_tup us)).push (excO C hp.objs.size), gs, dr, tk, os⟩) : codeAny (model prog w) Ar (.builtin nid ⟨.ref C :: us, kw⟩) R ⟨hp, gs, dr, tk, os⟩ := by
  have in1 : (Value.ref C :: bm).contains (.type B) = true := (List.contains_cons).trans (by rw [tl, F.hasB]; exact Bool.or_true _)
  have in2 : (Value.ref C :: bm).contains (.type "NameError") = false := (List.contains_cons).trans (by rw [tl, F.noName]; rfl)
  have in3 : (Value.ref C :: bm).contains (.type "AttributeError") = false := (List.contains_cons).trans (by rw [tl, F.noAttr]; rfl)
  have fin := F.ends
  refine codeAny_builtinAt F.entry ?_
  unfold Builtin.«BaseException.__new__»
  refine wpAt_bind (show wpAt _ _ _ (stack >>= _) _ _ _ from wpAt_bind (wpAt_stack fun _ _ => wpAt_of_wpAny ?_))
  wp_walk
  refine wpAt_of_wpAny ?_
  rw [F.owner]
  repeat first
    | with_reducible refine wpAny_loadPart_at oC ?_
    | with_reducible refine wpAny_madeHere_exc F.canon oC ?_
    | (with_reducible refine wpAny_isSubtype_exc oC ?_
       first | rw [in1] | rw [in2] | rw [in3])
    | wp_step
  show R _ _
  rw [Heap.size_push]
  exact q
/-- the whole call -/
theorem call_kw (F : ExcBaseFacts B nid iid bmB) (tl : ∀ Y : String, bm.contains (.type Y) = bmB.contains (.type Y)) {fI : Addr} (oC : hp.get? C = some (excClassObj nm qn C N bs bm hdct sn sub ab col dd m0 m1 m2 m3 m5 nid))
    (li : W.Looks (model prog w) hp (typeLookup (.ref C) "__init__") (some (.ref fI))) (lb : ∀ self, W.Looks (model prog w) hp (bindSpecial (.ref fI) self) (.ref fI, [self])) (len : us.length ≤ sizeLine)
    (q : codeAny (model prog w) (Ar.under (.builtin "type.__call__" ⟨.ref C :: us, kw⟩)) (.call (.ref fI) ⟨.ref (hp.objs.size + 1) :: us, kw⟩) (W.InitBack (hp.objs.size + 1) R) ⟨(hp.push (W.kdv_tup us)).push (excO C hp.objs.size), gs, dr, tk, os⟩) :
    codeAny (model prog w) Ar (.call (.ref C) ⟨us, kw⟩) R ⟨hp, gs, dr, tk, os⟩ := by
  have old : ∀ b o, hp.get? b = some o → ((hp.push (W.kdv_tup us)).push (excO C hp.objs.size)).get? b = some o := fun b o z => Heap.get?_push_of_some _ (Heap.get?_push_of_some _ z)
  have oE : ((hp.push (W.kdv_tup us)).push (excO C hp.objs.size)).get? (hp.objs.size + 1) = some (excO C hp.objs.size) := by heap_get
  have oC' := old _ _ oC
  have inC : (Value.ref C :: bm).contains (.ref C) = true := by simp
  have c1 := tc_lookup
  have c2 := tc_bind (.ref C)
  have c3 : (⟨hp, gs, dr, tk, os⟩ : Shared).TypeIs (.ref C) "type" := ⟨_, oC, rfl⟩
  refine codeAny_of_tree (show wpAny _ _ (callAny (.ref C) _) _ _ _ from ?_)
  repeat (any_goals (first | with_reducible refine wpAny_loadPart_at oC ?_ | assumption | wp_step))
  refine ⟨rfl, codeAny_call_builtin_at (Code.quiet_builtin _ (by decide +kernel)) entry_typeCall (wpAny_check_type_call_sub oC ?_)⟩
  repeat (first | with_reducible refine wpAny_madeBy_exc oC ?_ | with_reducible refine wpAny_loadPart_at oC ?_ | wp_step)
  refine codeAny_call_builtin_code (Code.quiet_builtin _ F.quiet) (kw_check (us := us) F tl oC (kw_new (us := us) F tl oC len ?_))
  show wpAny _ _ _ _ _ _
  unfold isInstance
  repeat first
    | with_reducible refine wpAny_loadPart_at oE ?_
    | (with_reducible refine wpAny_isSubtype_exc oC' ?_
       rw [inC])
    | wp_step
  show wpAny _ _ (typeLookup (.ref C) _) _ _ _
  refine (li.keeps old).at (wpAny_holding (wpAny_bind (((lb (.ref (hp.objs.size + 1))).keeps old).at (wpAny_bind (wpAny_call (codeAny_mono q fun r s' z => ?_))))))
  cases r with
  | error e => exact z
  | ok fl =>
    cases fl with
    | ret v =>
      obtain ⟨ev, z⟩ := z
      subst ev
      first
        | exact wpAny_pure (wpAny_pure z)
        | (wp_walk; exact z)
    | next => exact z.elim
    | brk => exact z.elim
    | cont => exact z.elim
end
end PySem.HandSPX

namespace Lk
open PySem PySem.Spec PyProof.Rows L2
/-- one error class of the program: its object, its own __init__, what isinstance and reading ask -/
structure ErC (K : PySem.W.Frag) (C fI : Addr) : Prop where
  ox : OexC K C
  ini : PySem.W.findIn K (.ref C) "__init__" = some (some (.ref fI))
  tyI : PySem.W.typeIn K (.ref fI) = some (.type "function")
/-- a made error of the class at C: the object at a, its dict, its fields -/
def erAt (H : Hp) (a C : Addr) (fs : List (Str × V)) : Prop := ∃ d, H a = some (exo a C (some d)) ∧ H d = some (exd d fs)
def tXm (C : Addr) (sp : Sp) (t : TA) : TE := fun σ H Q => t σ H fun vs H1 => vs.length ≤ 1000 ∧ ∀ a, H1 a = none → sp (.ref a :: vs) (upd H1 a (exo a C none)) (fun v H2 => v = .non ∧ Q (.ref a) H2) E0
def tXk (C : Addr) (m : Nat) (sp : Sp) (gV : List V → List V → List V) (tk : TA) : TE := fun σ H Q => tk σ H fun zs H1 => zs.length = m ∧ ∀ a, H1 a = none → sp (gV [.ref a] zs) (upd H1 a (exo a C none)) (fun v H2 => v = .non ∧ Q (.ref a) H2) E0
section
variable {X : Cx} {k : Nat} {fI C : Addr} {fd : FuncData} {ps ks : List Str} {sp : Sp} {x : Str} {p pos : Pos} {e : Expr} {es : List Expr} {kws : List Keyword} {t tk : TA} {g : List Value → List Value → List Value} {gV : List V → List V → List V}
theorem run_xm {pins : List (Addr × Obj)} {σ : L2.St} {H : Hp} {s : Shared} {Q : VK} {us : List Value} {kw : List (Str × Value)} {ls : List Value} {vv : Addr → List V} (T : ErC X.K C fI)
    (F1 : FnOk X.prog X.w X.K X.mg X.base CX0 k fI fd ps sp) (hr : Room (k + 1) X.A) (I : Inv X pins σ H s) (hus : us.length ≤ sizeLine)
    (hb : ∀ s' : Shared, X.K.In s'.heap → BindsTo s' fd ⟨.ref (s.heap.objs.size + 1) :: us, kw⟩ (ps.zip ls)) (hv : Vals (vv (s.heap.objs.size + 1)) ls)
    (h : ∀ a, H a = none → sp (vv a) (upd H a (exo a C none)) (fun v H2 => v = .non ∧ Q (.ref a) H2) E0) :
    wpAny (model X.prog X.w) X.A (call (.ref C) us kw) (EP X pins σ Q) X.xe s := by
  obtain ⟨nm, q, N, bs, bm, sn, sub, ab, col, dd, k0, k1, k2, k3, k5, hC, hbm⟩ := T.ox.cls
  obtain ⟨hp, gg, dr, tk, os⟩ := s
  have nw : H (hp.objs.size + 1) = none := I.hok.fresh (Nat.le_succ _)
  have kk : ∀ b o, hp.get? b = some o → ((hp.push (PySem.W.kdv_tup us)).push (PySem.HandSPX.excO C hp.objs.size)).get? b = some o := fun b o z => Heap.get?_push_of_some _ (Heap.get?_push_of_some _ z)
  have ob : ((hp.push (PySem.W.kdv_tup us)).push (PySem.HandSPX.excO C hp.objs.size)).get? (hp.objs.size + 1) = some (PySem.HandSPX.excO C hp.objs.size) := by heap_get
  have J : Inv X pins σ (upd H (hp.objs.size + 1) (exo (hp.objs.size + 1) C none)) ⟨(hp.push (PySem.W.kdv_tup us)).push (PySem.HandSPX.excO C hp.objs.size), gg, dr, tk, os⟩ := I.laid (t' := tk) kk (Nat.le_succ _) (exo_ok ob)
  refine wpAny_call (PySem.HandSPX.call_kw F.excBase_ValueError (fun Y => PySem.HandSPX.refsVE_contains Y bm hbm) (I.kIn _ _ hC) (PySem.W.looks_findIn I.kIn T.ini) (fun self => PySem.W.bind_fn I.kIn self T.tyI) hus
    (codeAny_mono (F1.run _ X.stack _ _ _ ls _ _ E0 (hr.make C us kw) (J.env0.make C us kw) (hb _ J.kIn) hv (h _ nw)) fun r s' z => ?_))
  cases r with
  | error er => exact z.elim
  | ok fl =>
    cases fl with
    | ret u =>
      obtain ⟨v, H', I3, rv, ev, q3⟩ := J.after z
      subst ev
      exact ⟨rv, ⟨.ref (hp.objs.size + 1), H', I3, rfl, q3⟩⟩
    | next => exact z.elim
    | brk => exact z.elim
    | cont => exact z.elim
/-- C(e, ..) as a value -/
theorem pe_xm (T : ErC X.K C fI) (F1 : FnOk X.prog X.w X.K X.mg X.base CX0 k fI fd ps sp) (hr : Room (k + 1) X.A) (hb : Binds X.K fd ps []) (hm : X.mg x = some (.ref C)) (ha : PA X (e :: es) t) (hg : Gl X x := by rfl)
    (hdb : (x == ("__debug__" : Str)) = false := by decide) (he : starEach (e :: es) X.env = (false, eval e X.env) :: starEach es X.env := by rfl) (hpl : (backTo pos (starEach es X.env)).any (·.1) = false := by rfl) :
    PE X (.Call (.Name x p) (e :: es) [] pos) (tXm C sp t) := by
  refine ⟨fun pins s σ H Q I h => wpAny_Call_Name_kw (ld_glob I hg hm ?_ hdb)⟩
  refine PySem.W.callWith_K (h₀ := X.base) I.ok.mod.kin T.ox.kC (thn (ha.run pos pins s σ H _ I h) fun us s1 ⟨vs, H1, I1, r1, hz, q1⟩ => ⟨I1.kIn, ?_⟩) he hpl
  have l1 : us.length ≤ sizeLine := by
    rw [← Paired.length r1, sizeLine_eq]
    omega
  have l2 : vs.length + 1 = ps.length := F1.len _ _ _ _ (q1 _ (I1.hok.fresh (Nat.le_refl _)))
  refine run_xm (vv := fun a => .ref a :: vs) (ls := .ref (s1.heap.objs.size + 1) :: us) T F1 hr I1 l1 (fun s' ks => ?_) (.cons rfl r1) q1
  have z := hb s' (.ref (s1.heap.objs.size + 1) :: us) ks (by rw [List.append_nil, List.length_cons, ← r1.length]; exact l2)
  rw [List.append_nil] at z
  exact z
/-- C(k = e, ..) as a value -/
theorem pe_xk (T : ErC X.K C fI) (F1 : FnOk X.prog X.w X.K X.mg X.base CX0 k fI fd ps sp) (hr : Room (k + 1) X.A) (hb : KBn X.K fd ps 1 ks g gV) (hm : X.mg x = some (.ref C)) (hkw : PK X kws tk) (hg : Gl X x := by rfl)
    (hall : (backToKw pos (keywordEach kws X.env)).all (·.1.isSome) = true := by rfl) (hks : (backToKw pos (keywordEach kws X.env)).filterMap (·.1) = ks := by rfl) (hdb : (x == ("__debug__" : Str)) = false := by decide)
    (hpl : ((backTo pos (starEach [] X.env)).any (·.1) || (backToKw pos (keywordEach kws X.env)).any (·.1.isNone)) = false := by rfl) :
    PE X (.Call (.Name x p) [] kws pos) (tXk C ks.length sp gV tk) := by
  refine ⟨fun pins s σ H Q I h => wpAny_Call_Name_kw (ld_glob I hg hm ?_ hdb)⟩
  refine PySem.W.callWith_KW0 (h₀ := X.base) I.ok.mod.kin T.ox.kC hall ?_ hpl
  refine thn (hkw.run pos pins s σ H _ I h) fun ws s2 ⟨zs, H2, I2, rz, l2, q2⟩ => ⟨I2.kIn, ?_⟩
  rw [hks]
  have r1 : Vals [V.ref (s2.heap.objs.size + 1)] [Value.ref (s2.heap.objs.size + 1)] := .cons rfl .nil
  exact run_xm (vv := fun a => gV [.ref a] zs) (us := []) T F1 hr I2 (Nat.zero_le _) (fun s' kin => hb.to s' _ ws kin rfl (rz.length.symm.trans l2)) (hb.rel r1 rz) q2
/-- C(), the class has no __init__ of its own -/
theorem pe_x0 {bmB : List Value} {B newId initId : String} (F : ExcBaseFacts B newId initId bmB) (q : PySem.W.excIn X.K C bmB newId = true) (gC : X.mg x = some (.ref C)) (kC : PySem.W.keepIn X.K (.ref C) = true) (hg : Gl X x := by rfl) (hdb : (x == ("__debug__" : Str)) = false := by decide) :
    PE X (.Call (.Name x p) [] [] pos) (fun σ H Q => ∀ a, H a = none → Q (.ref a) (upd H a (ExO (.ref C) a))) := by
  refine ⟨fun pins s σ H Q I h => wpAny_Call_Name_kw (ld_glob I hg gC ?_ hdb)⟩
  refine PySem.W.callWith_K0 I.kIn kC ?_
  show wpAny _ _ (call (.ref C) []) _ _ _
  obtain ⟨bm, N, nm, qn, bs, hdct, sn, sub, ab, col, dd, k0, k1, k2, k3, k5, mN, hC, hN, hni, T⟩ := exc_obj I.kIn q
  refine wpAny_call_exc_subT F T hC hN hni (fun h' a mk => ?_) (Nat.zero_le _)
  obtain ⟨t, ht, _, _⟩ := mk.there
  have nw : H a = none := I.hok.gone mk.new
  exact ⟨.ref a, _, I.laidN mk.keeps mk.new nw (exO_ok ht ⟨rfl, rfl⟩ rfl rfl rfl (show 4 < 6 by decide)), rfl, h a nw⟩
/-- ValueError(e) -/
def VeO (a : Addr) : HO := .ext fun h => PySem.W.KitAt a "ValueError" h
theorem pe_ve (hm : X.mg "ValueError" = none) (ha : PA X (e :: es) t) (hg : Gl X "ValueError" := by rfl)
    (he : starEach (e :: es) X.env = (false, eval e X.env) :: starEach es X.env := by rfl) (hpl : (backTo pos (starEach es X.env)).any (·.1) = false := by rfl) :
    PE X (.Call (.Name "ValueError" p) (e :: es) [] pos) (fun σ H Q => t σ H fun vs H1 => vs.length ≤ 1000 ∧ ∀ a, H1 a = none → Q (.ref a) (upd H1 a (VeO a))) := by
  refine ⟨fun pins s σ H Q I h => wpAny_Call_Name_kw (ld_blt I hg hm (u := .type "ValueError") (by decide +kernel) ?_)⟩
  refine PyProof.Rows.callWith_type1 (thn (ha.run pos pins s σ H _ I h) fun us s1 ⟨vs, H1, I1, r1, hz, q1⟩ => ?_) he hpl
  have l1 : us.length ≤ sizeLine := by
    rw [← Paired.length r1, sizeLine_eq]
    omega
  obtain ⟨hp, gg, dr, tk, os⟩ := s1
  refine wpAny_call_exc PySem.F.excCall_ValueError (fun h' a mk => ?_) l1
  obtain ⟨t0, ht, _, _⟩ := (PySem.Heap.MadeExc.of mk).there
  have nw : H1 a = none := I1.hok.gone mk.new
  refine ⟨.ref a, _, I1.laidN mk.keeps mk.new nw (o := VeO a) ⟨⟨_, ht, rfl⟩, ⟨_, ht⟩, fun h1 h2 ⟨o, z1, z2⟩ kp => ⟨o, kp o z1, z2⟩⟩, rfl, q1 a nw⟩
end
/-! ### what is asked of made errors -/
/-- an error that stands: its class, with a dict of its own or without -/
inductive ErV (H : Hp) : V → Addr → Prop where
  | d {a C d : Addr} {fs : List (Str × V)} (h : H a = some (exo a C (some d))) (h2 : H d = some (exd d fs)) : ErV H (.ref a) C
  | n {a C : Addr} (h : H a = some (ExO (.ref C) a)) : ErV H (.ref a) C
/-- what the class must say, so that isinstance asks its errors rightly -/
structure EkC (K : PySem.W.Frag) (C : Addr) : Prop where
  cl : (PySem.W.clsIn K C).isSome = true
  ga : PySem.W.findIn K (.ref C) "__getattribute__" = some (some (.builtin "BaseException.__getattribute__"))
  gt : PySem.W.findIn K (.ref C) "__getattr__" = some none
  su : PySem.W.subIn K (.ref C) (.type "BaseException") = some true
  ca : PySem.W.findIn K (.ref C) "__class__" = some (some (.builtin "object.__class__"))
  sp : PySem.W.specialIn K (.builtin "object.__class__") "__get__" = some (some (.builtin "getset_descriptor.__get__"))
  tk : PySem.W.takesIn K (.builtin "object.__class__") = some true
  mo : PySem.W.mroIn K C (.type "object") = some true
def rIsX (K : PySem.W.Frag) : List V → Hp → VK → Prop := fun xs H Q => ∃ (x c : V) (D : Addr) (cv : Value) (b : Bool), xs = [x, c] ∧ ErV H x D ∧ EkC K D ∧ ClsV c cv ∧ PySem.W.kitOne K (.ref D) cv = some b ∧ Q (.bl b) H
theorem call_isX {X : Cx} : CallR X (.builtin "isinstance") (rIsX X.K) := by
  intro pins s σ H xs us Q I r h
  obtain ⟨x, c, D, cv, b, rfl, hx, T, hc, e, q⟩ := h
  cases r with
  | cons r1 rr =>
    cases rr with
    | cons r2 rr =>
      cases rr
      have ec := hc.eq r2
      subst ec
      cases hx with
      | d h h2 =>
        cases r1
        obtain ⟨t1, g1⟩ := exo_at I.hok h
        obtain ⟨mA, ⟨od, es, ep, g2, _⟩, _⟩ := exd_at I.hok h2
        have J : PySem.W.InstAt s.heap _ _ D (some od) := ⟨g1, rfl, rfl, g2⟩
        exact PySem.W.kia_one (PySem.W.kitx_exc T.cl T.ga T.gt T.su T.ca T.sp T.tk T.mo) I.kIn J e (fun z => nomatch z) fun tk => ⟨.bl b, H, I.kept (t' := tk) fun _ _ z => z, rfl, q⟩
      | n h =>
        cases r1
        rename_i a0
        obtain ⟨⟨oe, vs, g1, hz, hd, _⟩, _, _⟩ := I.hok _ _ h
        have J : PySem.W.InstAt s.heap a0 oe D none := by
          obtain ⟨oc, od, oda, osl⟩ := oe
          obtain ⟨z1, z2⟩ := hz
          dsimp only at z1 z2 hd
          subst z1 z2 hd
          exact ⟨g1, rfl, rfl, trivial⟩
        exact PySem.W.kia_one (PySem.W.kitx_exc T.cl T.ga T.gt T.su T.ca T.sp T.tk T.mo) I.kIn J e (fun z => nomatch z) fun tk => ⟨.bl b, H, I.kept (t' := tk) fun _ _ z => z, rfl, q⟩
def rIsVe (K : PySem.W.Frag) : List V → Hp → VK → Prop := fun xs H Q => ∃ (a : Addr) (c : V) (cv : Value) (b : Bool), xs = [.ref a, c] ∧ H a = some (VeO a) ∧ ClsV c cv ∧ PySem.W.kitOne K (.type "ValueError") cv = some b ∧ Q (.bl b) H
theorem call_isVe {X : Cx} : CallR X (.builtin "isinstance") (rIsVe X.K) := by
  intro pins s σ H xs us Q I r h
  obtain ⟨a, c, cv, b, rfl, hx, hc, e, q⟩ := h
  cases r with
  | cons r1 rr =>
    cases rr with
    | cons r2 rr =>
      cases rr
      have ec := hc.eq r2
      subst ec
      cases r1
      obtain ⟨p, _, _⟩ := I.hok _ _ hx
      exact PySem.W.kia_one (PySem.W.kitx_bexc PySem.F.excAttr_ValueError PySem.F.lkClass_ValueError PySem.F.soClass_ValueError (by decide)) I.kIn p e (fun z => nomatch z) fun tk => ⟨.bl b, H, I.kept (t' := tk) fun _ _ z => z, rfl, q⟩
/-- e.f of a made error -/
structure EfC (K : PySem.W.Frag) (C : Addr) (f : Str) : Prop where
  k : EkC K C
  hd : PySem.W.hasDictIn K C = true
  no : PySem.W.findIn K (.ref C) f = some none
def tEf (K : PySem.W.Frag) (f : Str) (te : TE) : TE := fun σ H Q => te σ H fun x H1 => ∃ (a C d : Addr) (fs : List (Str × V)) (v : V), x = .ref a ∧ H1 a = some (exo a C (some d)) ∧ H1 d = some (exd d fs) ∧ EfC K C f ∧ fs.lookup f = some v ∧ Q v H1
theorem pe_ef {X : Cx} {e : Expr} {te : TE} {f : Str} {pos : Pos} (he : PE X e te) (hb : attributeBase e f X.env (eval e X.env) = eval e X.env := by rfl) : PE X (.Attribute e f pos) (tEf X.K f te) := by
  refine ⟨fun pins s σ H Q I h => attr_of hb (thn (he.run pins s σ H _ I h) fun u s1 ⟨x, H1, I1, rx, a, C, d, fs, v, ex, h1, h2, T, l, q⟩ => ?_)⟩
  subst ex
  obtain rfl : u = Value.ref a := rx
  obtain ⟨t1, g1⟩ := exo_at I1.hok h1
  obtain ⟨mA, hns, hrel⟩ := exd_at I1.hok h2
  obtain ⟨od, ho, hl⟩ := lookIn_ns hns
  obtain ⟨u, hu, ru⟩ := RelO.some_of (v := v) (o := mA f) (by rw [← l]; exact hrel f)
  have J : PySem.W.InstAt s1.heap a _ C (some od) := ⟨g1, rfl, rfl, ho⟩
  exact HandSPX.exc_get I1.kIn J T.k.ga T.k.gt T.k.su (PySem.W.findObj_own T.hd T.no rfl (by rw [hl, hu])) (handed_of ru) ⟨v, H1, I1.tok _, ru, q⟩
end Lk

namespace Lk
open PySem PySem.Spec PyProof.Rows L2
/-! ### the promises of __init__: one, two, three fields -/
def spI1 (C : Addr) (f : Str) : Sp := fun vs H Q _ => ∃ (a : Addr) (x : V), vs = [.ref a, x] ∧ H a = some (exo a C none) ∧
  ∀ (d : Addr) (H' : Hp), H d = none → d ≠ a → H' a = some (exo a C (some d)) → H' d = some (exd d [(f, x)]) → (∀ b, b ≠ a → b ≠ d → H' b = H b) → Q .non H'
def spI2 (C : Addr) (f g : Str) : Sp := fun vs H Q _ => ∃ (a : Addr) (x y : V), vs = [.ref a, x, y] ∧ H a = some (exo a C none) ∧
  ∀ (d : Addr) (H' : Hp), H d = none → d ≠ a → H' a = some (exo a C (some d)) → H' d = some (exd d [(g, y), (f, x)]) → (∀ b, b ≠ a → b ≠ d → H' b = H b) → Q .non H'
def spI3 (C : Addr) (f g h : Str) : Sp := fun vs H Q _ => ∃ (a : Addr) (x y z : V), vs = [.ref a, x, y, z] ∧ H a = some (exo a C none) ∧
  ∀ (d : Addr) (H' : Hp), H d = none → d ≠ a → H' a = some (exo a C (some d)) → H' d = some (exd d [(h, z), (g, y), (f, x)]) → (∀ b, b ≠ a → b ≠ d → H' b = H b) → Q .non H'
/-- the reading of the first store, of a later one -/
theorem st0 {K : PySem.W.Frag} {C a : Addr} {f : Str} {i j : Nat} {x : V} {D : Ends} {σ : L2.St} {H : Hp} (T : OexC K C) (n : PySem.W.findIn K (.ref C) f = some none) (hi : σ[i]? = some (some (.ref a))) (hj : σ[j]? = some (some x)) (ha : H a = some (exo a C none))
    (q : ∀ d, H d = none → d ≠ a → D.nx σ (upd (upd H d (exd d [(f, x)])) a (exo a C (some d)))) : tOst K f (tVar i) (tVar j) D σ H :=
  ⟨x, hj, .ref a, hi, a, C, rfl, T, n, .inl ⟨ha, q⟩⟩
theorem st1 {K : PySem.W.Frag} {C a d : Addr} {f : Str} {i j : Nat} {x : V} {fs : List (Str × V)} {D : Ends} {σ : L2.St} {H : Hp} (T : OexC K C) (n : PySem.W.findIn K (.ref C) f = some none) (hi : σ[i]? = some (some (.ref a))) (hj : σ[j]? = some (some x)) (ha : H a = some (exo a C (some d)))
    (hd : H d = some (exd d fs)) (hl : fs.length ≤ 900) (q : D.nx σ (upd H d (exd d ((f, x) :: fs)))) : tOst K f (tVar i) (tVar j) D σ H :=
  ⟨x, hj, .ref a, hi, a, C, rfl, T, n, .inr ⟨d, fs, ha, hd, hl, q⟩⟩
section
variable {K : PySem.W.Frag} {C a : Addr} {f g h : Str} {i1 i2 i3 : Nat} {x y z : V} {D : Ends} {σ : L2.St} {H : Hp}
theorem rd1 (T : OexC K C) (n : PySem.W.findIn K (.ref C) f = some none) (h0 : σ[0]? = some (some (.ref a))) (h1 : σ[1]? = some (some x)) (ha : H a = some (exo a C none))
    (k : ∀ (d : Addr) (H' : Hp), H d = none → d ≠ a → H' a = some (exo a C (some d)) → H' d = some (exd d [(f, x)]) → (∀ b, b ≠ a → b ≠ d → H' b = H b) → D.nx σ H') : tOst K f (tVar 0) (tVar 1) D σ H := by
  refine st0 T n h0 h1 ha fun d hd hne => k d _ hd hne upd_same (by rw [upd_ne hne, upd_same]) fun b n1 n2 => by rw [upd_ne n1, upd_ne n2]
theorem rd2 (T : OexC K C) (n : PySem.W.findIn K (.ref C) f = some none) (m : PySem.W.findIn K (.ref C) g = some none) (h0 : σ[0]? = some (some (.ref a))) (h1 : σ[1]? = some (some x)) (h2 : σ[2]? = some (some y)) (ha : H a = some (exo a C none))
    (k : ∀ (d : Addr) (H' : Hp), H d = none → d ≠ a → H' a = some (exo a C (some d)) → H' d = some (exd d [(g, y), (f, x)]) → (∀ b, b ≠ a → b ≠ d → H' b = H b) → D.nx σ H') :
    tSeq (tOst K f (tVar 0) (tVar 1)) (tOst K g (tVar 0) (tVar 2)) D σ H := by
  refine rd1 T n h0 h1 ha fun d H' hd hne e1 e2 e3 => ?_
  refine st1 T m h0 h2 e1 e2 (by show 1 ≤ 900; decide) (k d _ hd hne (by rw [upd_ne (Ne.symm hne)]; exact e1) upd_same fun b n1 n2 => by rw [upd_ne n2]; exact e3 b n1 n2)
theorem rd3 (T : OexC K C) (n : PySem.W.findIn K (.ref C) f = some none) (m : PySem.W.findIn K (.ref C) g = some none) (o : PySem.W.findIn K (.ref C) h = some none) (h0 : σ[0]? = some (some (.ref a))) (h1 : σ[1]? = some (some x)) (h2 : σ[2]? = some (some y)) (h3 : σ[3]? = some (some z)) (ha : H a = some (exo a C none))
    (k : ∀ (d : Addr) (H' : Hp), H d = none → d ≠ a → H' a = some (exo a C (some d)) → H' d = some (exd d [(h, z), (g, y), (f, x)]) → (∀ b, b ≠ a → b ≠ d → H' b = H b) → D.nx σ H') :
    tSeq (tOst K f (tVar 0) (tVar 1)) (tSeq (tOst K g (tVar 0) (tVar 2)) (tOst K h (tVar 0) (tVar 3))) D σ H := by
  refine rd2 T n m h0 h1 h2 ha fun d H' hd hne e1 e2 e3 => ?_
  refine st1 T o h0 h3 e1 e2 (by show 2 ≤ 900; decide) (k d _ hd hne (by rw [upd_ne (Ne.symm hne)]; exact e1) upd_same fun b n1 n2 => by rw [upd_ne n2]; exact e3 b n1 n2)
end
/-! ### keywords handed in the other way round -/
theorem vals_rev : ∀ {vs : List V} {us : List Value}, Vals vs us → Vals vs.reverse us.reverse
  | _, _, .nil => .nil
  | _, _, .cons r t => by
    rw [List.reverse_cons, List.reverse_cons]
    exact (vals_rev t).append (.cons r .nil)
theorem kb_rev {K : PySem.W.Frag} {fd : FuncData} {ps ks : List Str} (h : ∀ us ws : List Value, us.length = 1 → ws.length = ks.length → bindArgs fd ⟨us, ks.zip ws⟩ = pure (ps.zip (us ++ ws.reverse))) :
    KBn K fd ps 1 ks (fun us ws => us ++ ws.reverse) (fun us ws => us ++ ws.reverse) :=
  ⟨fun s us ws _ h1 h2 => .of_eq (h us ws h1 h2), fun r1 r2 => r1.append (vals_rev r2)⟩
/-! ### an error class as the top has left it -/
structure ErK (K : PySem.W.Frag) (mg : Str → Option Value) (x : Str) (C B : Addr) : Prop where
  g : mg x = some (.ref C)
  ob : ∃ nm q N bs sn sub ab col dd k0 k1 k2 k3 k5, K.lookup C = some (excClassObj nm q C N bs [.ref B, .type "ValueError", .type "Exception", .type "BaseException", .type "object"] true sn sub ab col dd k0 k1 k2 k3 k5 "ValueError.__new__")
  sa : PySem.W.findIn K (.ref C) "__setattr__" = some (some (.builtin "object.__setattr__"))
  ty : PySem.W.typeIn K (.ref C) = some (.type "type")
  kp : PySem.W.keepIn K (.ref C) = true
  ek : EkC K C
theorem ErK.ox {K : PySem.W.Frag} {mg : Str → Option Value} {x : Str} {C B : Addr} (E : ErK K mg x C B) : OexC K C := by
  obtain ⟨nm, q, N, bs, sn, sub, ab, col, dd, k0, k1, k2, k3, k5, h⟩ := E.ob
  exact ⟨⟨nm, q, N, bs, _, sn, sub, ab, col, dd, k0, k1, k2, k3, k5, h, rfl⟩, E.sa, E.ek.su, E.ty, E.kp⟩
theorem erk_cls {K : PySem.W.Frag} {mg : Str → Option Value} {x : Str} {C B : Addr} (E : ErK K mg x C B) : ∃ cd, PySem.W.clsIn K C = some cd ∧ cd.mro = [.ref C, .ref B, .type "ValueError", .type "Exception", .type "BaseException", .type "object"] := by
  obtain ⟨nm, q, N, bs, sn, sub, ab, col, dd, k0, k1, k2, k3, k5, h⟩ := E.ob
  refine ⟨_, by unfold PySem.W.clsIn; rw [h], rfl⟩
theorem rne {a b : Addr} (h : a ≠ b) : (Value.ref a == Value.ref b) = false := beq_eq_false_iff_ne.mpr fun z => h (Value.ref.inj z)
theorem rty {a : Addr} {n : String} : (Value.ref a == Value.type n) = false := beq_eq_false_iff_ne.mpr fun z => by cases z
/-- isinstance of an error of the class D, asked of another of these classes -/
theorem kit_er {K : PySem.W.Frag} {mg : Str → Option Value} {x y : Str} {C D B : Addr} (E : ErK K mg x D B) (F : ErK K mg y C B) (hn : C ≠ B) : PySem.W.kitOne K (.ref D) (.ref C) = some (decide (D = C)) := by
  obtain ⟨cd, e1, e2⟩ := erk_cls E
  obtain ⟨cd', e3, _⟩ := erk_cls F
  unfold PySem.W.kitOne
  by_cases h : D = C
  · subst h
    rw [if_pos (by simp), decide_eq_true rfl]
  · have h1 : ¬ ((Value.ref D == Value.ref C) = true) := fun z => h (Value.ref.inj (beq_iff_eq.mp z))
    rw [if_neg h1, decide_eq_false h]
    unfold PySem.W.kitCls
    have h2 : ((PySem.W.clsIn K C).isSome && PySem.W.typeIn K (.ref C) == some (.type "type")) = true := by rw [e3, F.ty]; rfl
    simp only []
    rw [if_pos h2]
    show PySem.W.mroIn K D (.ref C) = some false
    unfold PySem.W.mroIn
    rw [e1, Option.bind_some, e2]
    have h3 : ¬ C = D := fun z => h z.symm
    simp [List.contains, List.elem, rne h3, rne hn, rty]
theorem kit_ve {K : PySem.W.Frag} {mg : Str → Option Value} {x : Str} {D B : Addr} (E : ErK K mg x D B) : PySem.W.kitOne K (.ref D) (.type "ValueError") = some true := by
  obtain ⟨cd, e1, e2⟩ := erk_cls E
  unfold PySem.W.kitOne
  rw [if_neg (by intro z; cases beq_iff_eq.mp z)]
  unfold PySem.W.kitCls
  simp only []
  rw [if_pos (by decide +kernel)]
  show PySem.W.mroIn K D _ = some true
  unfold PySem.W.mroIn
  rw [e1, Option.bind_some, e2]
  rfl
/-- asked of their base -/
theorem kit_base {K : PySem.W.Frag} {mg : Str → Option Value} {x : Str} {D B : Addr} (E : ErK K mg x D B) (h1 : (PySem.W.clsIn K B).isSome = true) (h2 : PySem.W.typeIn K (.ref B) = some (.type "type")) (hn : D ≠ B) : PySem.W.kitOne K (.ref D) (.ref B) = some true := by
  obtain ⟨cd, e1, e2⟩ := erk_cls E
  unfold PySem.W.kitOne
  rw [if_neg (fun z => hn (Value.ref.inj (beq_iff_eq.mp z)))]
  unfold PySem.W.kitCls
  simp only []
  rw [if_pos (by rw [h1, h2]; rfl)]
  show PySem.W.mroIn K D _ = some true
  unfold PySem.W.mroIn
  rw [e1, Option.bind_some, e2]
  simp [List.contains, List.elem]
  cases Value.ref B == Value.ref D <;> rfl
theorem kit_veB {K : PySem.W.Frag} {B : Addr} (h1 : (PySem.W.clsIn K B).isSome = true) (h2 : PySem.W.typeIn K (.ref B) = some (.type "type")) : PySem.W.kitOne K (.type "ValueError") (.ref B) = some false := by
  unfold PySem.W.kitOne
  rw [if_neg (by intro z; cases beq_iff_eq.mp z)]
  unfold PySem.W.kitCls
  simp only []
  rw [if_pos (by rw [h1, h2]; rfl)]
  show (PySem.fastBuiltinMro "ValueError").map _ = some false
  have e : ∃ l, PySem.fastBuiltinMro "ValueError" = some l ∧ l = [.type "ValueError", .type "Exception", .type "BaseException", .type "object"] := ⟨_, by decide +kernel, rfl⟩
  obtain ⟨l, e, rfl⟩ := e
  rw [e]
  simp [List.contains, List.elem, rty]
end Lk

namespace Lk
open PySem PySem.Spec PyProof.Rows L2
theorem lkA {f : Str} {v : V} {r : List (Str × V)} : List.lookup f ((f, v) :: r) = some v := by simp [List.lookup]
theorem lkB {f g : Str} {v w : V} {r : List (Str × V)} (h : ¬ f = g) (t : List.lookup f r = some v) : List.lookup f ((g, w) :: r) = some v := by
  have e : (f == g) = false := by simpa using h
  simp [List.lookup, e, t]
theorem same_new {H : Hp} {p : Addr} {o : HO} (h : H p = none) : Same H (upd H p o) := fun b u e => by
  rw [upd_ne (ne_of_none e h)]
  exact e
theorem erv_same {H H' : Hp} {x : V} {C : Addr} (s : Same H H') (h : ErV H x C) : ErV H' x C := by
  cases h with
  | d h h2 => exact .d (s _ _ h) (s _ _ h2)
  | n h => exact .n (s _ _ h)
theorem erat_same {H H' : Hp} {a C : Addr} {fs : List (Str × V)} (s : Same H H') (h : erAt H a C fs) : erAt H' a C fs := by
  obtain ⟨d, h1, h2⟩ := h
  exact ⟨d, s _ _ h1, s _ _ h2⟩
/-! ### a value, a list of values, that leaves the heap as it is -/
def Pv (te : TE) (σ : L2.St) (H : Hp) (v : V) : Prop := ∀ H', Same H H' → ∀ Q : VK, Q v H' → te σ H' Q
def Pl (ta : TA) (σ : L2.St) (H : Hp) (vs : List V) : Prop := ∀ H', Same H H' → ∀ Q : List V → Hp → Prop, Q vs H' → ta σ H' Q
section
variable {σ : L2.St} {H : Hp} {te ta tb : TE} {tl : TA} {v : V} {vs us : List V} {i : Nat} {D : Ends} {p : Addr}
theorem pv_var (h : σ[i]? = some (some v)) : Pv (tVar i) σ H v := fun _ _ _ q => ⟨v, h, q⟩
theorem pv_c : Pv (tC v) σ H v := fun _ _ _ q => q
theorem pv_neg {n : Int} (h : Pv te σ H (.int n)) : Pv (tUn (rU fun i => .int (-i)) te) σ H (.int (-n)) := fun H' s Q q => h H' s _ ⟨n, rfl, q⟩
theorem pl_nil : Pl tNil σ H [] := fun _ _ _ q => q
theorem pl_cons (h : Pv te σ H v) (t : Pl tl σ H vs) : Pl (tCons te tl) σ H (v :: vs) := fun H' s Q q => h H' s _ (t H' s _ q)
theorem pv_isx {K : PySem.W.Frag} {x c : V} {D : Addr} {cv : Value} {b : Bool} (ha : Pv ta σ H x) (hb : Pv tb σ H c) (hx : ErV H x D) (hk : EkC K D) (hc : ClsV c cv) (e : PySem.W.kitOne K (.ref D) cv = some b) : Pv (tCB (rIsX K) (tCons ta (tCons tb tNil))) σ H (.bl b) := fun H' s Q q =>
  ha H' s _ (hb H' s _ ⟨x, c, D, cv, b, rfl, erv_same s hx, hk, hc, e, q⟩)
/-- x = [..]; x = x + [..] -/
theorem as_new (h : Pl tl σ H vs) (hl : vs.length ≤ 1000) (q : ∀ p H', Same H H' → H p = none → H' p = some (.lst vs) → D.nx (σ.set i (some (.ref p))) H') : tAsg (tLst tl) (gName i) D σ H :=
  h H (Same.refl H) _ ⟨Nat.le_of_lt (small1000 hl), fun p hp => q p _ (same_new hp) hp upd_same⟩
theorem as_cat (hi : σ[i]? = some (some (.ref p))) (hp : H p = some (.lst us)) (h : Pl tl σ H vs) (hl : us.length + vs.length ≤ 1000)
    (q : ∀ r H', Same H H' → H r = none → H' r = some (.lst (us ++ vs)) → D.nx (σ.set i (some (.ref r))) H') : tAsg (tOp rCat (tVar i) (tLst tl)) (gName i) D σ H := by
  refine ⟨_, hi, h H (Same.refl H) _ ⟨Nat.le_of_lt (small1000 (by omega)), fun b hb => ?_⟩⟩
  have s1 : Same H (upd H b (.lst vs)) := same_new hb
  refine ⟨p, b, us, vs, rfl, rfl, s1 _ _ hp, upd_same, Nat.le_of_lt (small1000 hl), fun r hr => q r _ (s1.trans (same_new hr)) (s1.free hr) upd_same⟩
end
section
variable {σ : L2.St} {H : Hp} {tl : TA} {vs us : List V} {i : Nat} {D : Ends} {p : Addr} {u : TS}
theorem ss_new (h : Pl tl σ H vs) (hl : vs.length ≤ 1000) (q : ∀ p H', Same H H' → H p = none → H' p = some (.lst vs) → u D (σ.set i (some (.ref p))) H') : tSeq (tAsg (tLst tl) (gName i)) u D σ H := as_new h hl q
theorem ss_cat (hi : σ[i]? = some (some (.ref p))) (hp : H p = some (.lst us)) (h : Pl tl σ H vs) (hl : us.length + vs.length ≤ 1000)
    (q : ∀ r H', Same H H' → H r = none → H' r = some (.lst (us ++ vs)) → u D (σ.set i (some (.ref r))) H') : tSeq (tAsg (tOp rCat (tVar i) (tLst tl)) (gName i)) u D σ H := as_cat hi hp h hl q
end
/-! ### errors that are made -/
def Mds (H : Hp) : List Addr → List (Addr × List (Str × V)) → Prop
  | [], [] => True
  | a :: as, r :: rs => erAt H a r.1 r.2 ∧ Mds H as rs
  | _, _ => False
theorem Mds.same {H H' : Hp} (s : Same H H') : ∀ {as : List Addr} {rs : List (Addr × List (Str × V))}, Mds H as rs → Mds H' as rs
  | [], [], _ => trivial
  | _ :: _, _ :: _, h => ⟨erat_same s h.1, Mds.same s h.2⟩
  | [], _ :: _, h => h.elim
  | _ :: _, [], h => h.elim
theorem Mds.append {H : Hp} : ∀ {as bs : List Addr} {rs qs : List (Addr × List (Str × V))}, Mds H as rs → Mds H bs qs → Mds H (as ++ bs) (rs ++ qs)
  | [], _, [], _, _, k => k
  | _ :: _, _, _ :: _, _, h, k => ⟨h.1, Mds.append h.2 k⟩
  | [], _, _ :: _, _, h, _ => h.elim
  | _ :: _, _, [], _, h, _ => h.elim
theorem Mds.len {H : Hp} : ∀ {as : List Addr} {rs : List (Addr × List (Str × V))}, Mds H as rs → as.length = rs.length
  | [], [], _ => rfl
  | _ :: _, _ :: _, h => congrArg Nat.succ (Mds.len h.2)
  | [], _ :: _, h => h.elim
  | _ :: _, [], h => h.elim
theorem Mds.at {H : Hp} : ∀ {as : List Addr} {rs : List (Addr × List (Str × V))} {i : Nat} {r : Addr × List (Str × V)}, Mds H as rs → rs[i]? = some r → ∃ a, as[i]? = some a ∧ erAt H a r.1 r.2
  | [], [], _, _, _, e => by simp at e
  | a :: _, _ :: _, 0, _, h, e => by
    simp at e
    subst e
    exact ⟨a, rfl, h.1⟩
  | _ :: as, _ :: rs, i + 1, _, h, e => by
    obtain ⟨a, e1, e2⟩ := Mds.at (as := as) (rs := rs) (i := i) h.2 (by simpa using e)
    exact ⟨a, by simpa using e1, e2⟩
  | [], _ :: _, _, _, h, _ => h.elim
  | _ :: _, [], _, _, h, _ => h.elim
def Mk1 (te : TE) (σ : L2.St) (C : Addr) (fs : List (Str × V)) : Prop := ∀ (H : Hp) (Q : VK), (∀ a H', Same H H' → erAt H' a C fs → Q (.ref a) H') → te σ H Q
def MkL (ta : TA) (σ : L2.St) (rs : List (Addr × List (Str × V))) : Prop := ∀ (H : Hp) (Q : List V → Hp → Prop), (∀ as H', Same H H' → Mds H' as rs → Q (as.map V.ref) H') → ta σ H Q
section
variable {σ : L2.St} {H : Hp} {te : TE} {tl : TA} {C : Addr} {fs : List (Str × V)} {rs qs : List (Addr × List (Str × V))} {i : Nat} {D : Ends} {p : Addr} {as : List Addr}
theorem mkl_nil : MkL tNil σ [] := fun H Q q => q [] H (Same.refl H) trivial
theorem mkl_cons (h : Mk1 te σ C fs) (t : MkL tl σ rs) : MkL (tCons te tl) σ ((C, fs) :: rs) := fun H Q q =>
  h H _ fun a H1 s1 e1 => t H1 _ fun as H2 s2 e2 => q (a :: as) H2 (s1.trans s2) ⟨erat_same s2 e1, e2⟩
theorem er_made {H H' : Hp} {a d : Addr} (ha : H a = none) (hd : upd H a (exo a C none) d = none) (hne : d ≠ a) (e3 : ∀ b, b ≠ a → b ≠ d → H' b = upd H a (exo a C none) b) : Same H H' := fun b o e => by
  have n1 : b ≠ a := ne_of_none e ha
  have n2 : b ≠ d := fun z => by
    rw [z] at e
    rw [upd_ne hne, e] at hd
    cases hd
  rw [e3 b n1 n2, upd_ne n1]
  exact e
theorem mk1 {f : Str} {x : V} {t : TA} (h : ∀ H, Pl t σ H [x]) : Mk1 (tXm C (spI1 C f) t) σ C [(f, x)] := fun H Q q => h H H (Same.refl H) _ ⟨by simp, fun a ha =>
  ⟨a, x, rfl, upd_same, fun d H' hd hne e1 e2 e3 => ⟨rfl, q a H' (er_made ha hd hne e3) ⟨d, e1, e2⟩⟩⟩⟩
theorem mk2 {f g : Str} {x y : V} {t : TA} (h : ∀ H, Pl t σ H [x, y]) : Mk1 (tXm C (spI2 C f g) t) σ C [(g, y), (f, x)] := fun H Q q => h H H (Same.refl H) _ ⟨by simp, fun a ha =>
  ⟨a, x, y, rfl, upd_same, fun d H' hd hne e1 e2 e3 => ⟨rfl, q a H' (er_made ha hd hne e3) ⟨d, e1, e2⟩⟩⟩⟩
theorem mk3 {f g l : Str} {x y z : V} {t : TA} (h : ∀ H, Pl t σ H [x, y, z]) : Mk1 (tXm C (spI3 C f g l) t) σ C [(l, z), (g, y), (f, x)] := fun H Q q => h H H (Same.refl H) _ ⟨by simp, fun a ha =>
  ⟨a, x, y, z, rfl, upd_same, fun d H' hd hne e1 e2 e3 => ⟨rfl, q a H' (er_made ha hd hne e3) ⟨d, e1, e2⟩⟩⟩⟩
theorem mk1k {f : Str} {x : V} {t : TA} (h : ∀ H, Pl t σ H [x]) : Mk1 (tXk C 1 (spI1 C f) (fun us ws => us ++ ws.reverse) t) σ C [(f, x)] := fun H Q q => h H H (Same.refl H) _ ⟨rfl, fun a ha =>
  ⟨a, x, rfl, upd_same, fun d H' hd hne e1 e2 e3 => ⟨rfl, q a H' (er_made ha hd hne e3) ⟨d, e1, e2⟩⟩⟩⟩
theorem mk2k {f g : Str} {x y : V} {t : TA} (h : ∀ H, Pl t σ H [y, x]) : Mk1 (tXk C 2 (spI2 C f g) (fun us ws => us ++ ws.reverse) t) σ C [(g, y), (f, x)] := fun H Q q => h H H (Same.refl H) _ ⟨rfl, fun a ha =>
  ⟨a, x, y, rfl, upd_same, fun d H' hd hne e1 e2 e3 => ⟨rfl, q a H' (er_made ha hd hne e3) ⟨d, e1, e2⟩⟩⟩⟩
theorem mk3k {f g l : Str} {x y z : V} {t : TA} (h : ∀ H, Pl t σ H [z, y, x]) : Mk1 (tXk C 3 (spI3 C f g l) (fun us ws => us ++ ws.reverse) t) σ C [(l, z), (g, y), (f, x)] := fun H Q q => h H H (Same.refl H) _ ⟨rfl, fun a ha =>
  ⟨a, x, y, z, rfl, upd_same, fun d H' hd hne e1 e2 e3 => ⟨rfl, q a H' (er_made ha hd hne e3) ⟨d, e1, e2⟩⟩⟩⟩
theorem as_mk (h : MkL tl σ rs) (hl : rs.length ≤ 1000) (q : ∀ p as H', Same H H' → H' p = some (.lst (as.map V.ref)) → Mds H' as rs → D.nx (σ.set i (some (.ref p))) H') : tAsg (tLst tl) (gName i) D σ H := by
  refine h H _ fun as H1 s1 e1 => ⟨Nat.le_of_lt (small1000 (by rw [List.length_map, e1.len]; exact hl)), fun p hp => ?_⟩
  exact q p as _ (s1.trans (same_new hp)) upd_same (e1.same (same_new hp))
theorem as_mkcat (hi : σ[i]? = some (some (.ref p))) (hp : H p = some (.lst (as.map V.ref))) (hm : Mds H as rs) (h : MkL tl σ qs) (hl : rs.length + qs.length ≤ 1000)
    (q : ∀ r bs H', Same H H' → H' r = some (.lst (bs.map V.ref)) → Mds H' bs (rs ++ qs) → D.nx (σ.set i (some (.ref r))) H') : tAsg (tOp rCat (tVar i) (tLst tl)) (gName i) D σ H := by
  refine ⟨_, hi, h H _ fun bs H1 s1 e1 => ⟨Nat.le_of_lt (small1000 (by rw [List.length_map, e1.len]; omega)), fun b hb => ?_⟩⟩
  have s2 : Same H1 (upd H1 b (.lst (bs.map V.ref))) := same_new hb
  refine ⟨p, b, as.map V.ref, bs.map V.ref, rfl, rfl, s2 _ _ (s1 _ _ hp), upd_same, Nat.le_of_lt (small1000 (by rw [List.length_map, List.length_map, hm.len, e1.len]; exact hl)), fun r hr => ?_⟩
  have s3 := (s1.trans s2).trans (same_new (o := .lst (as.map V.ref ++ bs.map V.ref)) hr)
  refine q r (as ++ bs) _ s3 (by rw [upd_same, List.map_append]) ((hm.same s3).append (e1.same (s2.trans (same_new hr))))
theorem ss_mk {u : TS} (h : MkL tl σ rs) (hl : rs.length ≤ 1000) (q : ∀ p as H', Same H H' → H' p = some (.lst (as.map V.ref)) → Mds H' as rs → u D (σ.set i (some (.ref p))) H') : tSeq (tAsg (tLst tl) (gName i)) u D σ H := as_mk h hl q
theorem ss_mkcat {u : TS} (hi : σ[i]? = some (some (.ref p))) (hp : H p = some (.lst (as.map V.ref))) (hm : Mds H as rs) (h : MkL tl σ qs) (hl : rs.length + qs.length ≤ 1000)
    (q : ∀ r bs H', Same H H' → H' r = some (.lst (bs.map V.ref)) → Mds H' bs (rs ++ qs) → u D (σ.set i (some (.ref r))) H') : tSeq (tAsg (tOp rCat (tVar i) (tLst tl)) (gName i)) u D σ H := as_mkcat hi hp hm h hl q
/-- e.f of the i-th -/
theorem pv_ef {K : PySem.W.Frag} {f : Str} {l : Addr} {j n : Nat} {v : V} (hi : σ[j]? = some (some (.ref l))) (hl : SqL K H l (as.map V.ref)) (hm : Mds H as rs) (hr : rs[n]? = some (C, fs)) (T : EfC K C f) (hf : fs.lookup f = some v) : Pv (tEf K f (tOp (rIxL K) (tVar j) (tC (.int (n : Nat))))) σ H v := fun H' s Q q => by
  obtain ⟨a, e1, d, h1, h2⟩ := hm.at hr
  refine ⟨_, hi, l, as.map V.ref, _, .ref a, rfl, rfl, s.seq hl, atI_nat (by rw [List.getElem?_map, e1]; rfl), a, C, d, fs, v, rfl, s _ _ h1, s _ _ h2, T, hf, q⟩
end
end Lk

namespace Lk
open PySem PySem.Spec PyProof.Rows L2
section
variable {K : PySem.W.Frag} {tl : TE} {ta : TA} {g : TG} {tb : TS} {D : Ends} {σ : L2.St} {H : Hp}
theorem sfor {wi : TI} (q : wi σ H fun J H1 => ∃ W : Nat → Nat → L2.St → Hp → Prop, (∃ m, W 0 m σ H1) ∧ ∀ i m σ H, W i m σ H →
    (J.stop i H ∧ D.nx σ H) ∨ (J.go i H ∧ ∃ N : L2.St → Hp → Prop, (∀ σ' H', N σ' H' → ∃ m', m' < m ∧ W (i + 1) m' σ' H') ∧ ∀ x H', J.yld i H x H' → g x σ H' fun σ2 H2 => tb { D with nx := N, ct := N, bk := D.nx } σ2 H2)) : tFor wi g tb D σ H := q
theorem sils {R : It → Hp → Prop} (q : tl σ H fun x H1 => ∃ a, x = .ref a ∧ (∃ xs, SqL K H1 a xs) ∧ R (Itl K a) H1) : iList K tl σ H R := q
theorem sien {R : It → Hp → Prop} (q : ta σ H fun vs H1 => ∃ a xs, vs = [.ref a] ∧ SqL K H1 a xs ∧ R (Ite K a) H1) : iEnum K ta σ H R := q
theorem en_by {a : Addr} {xs : List V} (I : Nat → L2.St → Hp → Prop) (h0 : I 0 σ H) (hl : ∀ i σ H, i ≤ xs.length → I i σ H → SqL K H a xs)
    (ht : ∀ i x p σ H, xs[i]? = some x → I i σ H → H p = none → g (.ref p) σ (upd H p (.tup [.int (i : Nat), x])) fun σ2 H2 => tb { D with nx := I (i + 1), ct := I (i + 1), bk := D.nx } σ2 H2) (hd : ∀ σ H, I xs.length σ H → D.nx σ H) :
    ∃ W : Nat → Nat → L2.St → Hp → Prop, (∃ m, W 0 m σ H) ∧ ∀ i m σ H, W i m σ H →
      ((Ite K a).stop i H ∧ D.nx σ H) ∨ ((Ite K a).go i H ∧ ∃ N : L2.St → Hp → Prop, (∀ σ' H', N σ' H' → ∃ m', m' < m ∧ W (i + 1) m' σ' H') ∧ ∀ x H', (Ite K a).yld i H x H' → g x σ H' fun σ2 H2 => tb { D with nx := N, ct := N, bk := D.nx } σ2 H2) := by
  refine for_it walk_enum I h0 hl (fun i v σ H H' hi hI hy => ?_) hd
  obtain ⟨T, x, y, rfl, hT, rfl, e1, e2⟩ := hy
  cases Option.some.inj e1
  exact ht i y T σ H e2 hI hT
/-- i, x = (i, x) -/
theorem g_pair {i j : Nat} {x y : V} {p : Addr} {R : L2.St → Hp → Prop} (h : SqT K H p [x, y]) (q : R ((σ.set i (some x)).set j (some y)) H) : gTup K 2 (gCons (gName i) (gCons (gName j) gNil)) (.ref p) σ H R :=
  ⟨p, [x, y], rfl, h, rfl, x, [y], rfl, y, [], rfl, rfl, q⟩
/-! ### data -/
theorem dp_same {H' : Hp} (s : Same H H') : ∀ {d : PyData} {v : V}, Dp K H v d → Dp K H' v d := fun {d v} h => by
  refine Dp.rec (motive_1 := fun v d _ => Dp K H' v d) (motive_2 := fun vs ds _ => DpAll K H' vs ds) .non .bl .int .str (fun hl _ ih => .lst (s.seq hl) ih) (fun ht _ ih => .tup ?_ ih) .nil (fun _ _ a b => .cons a b) h
  rcases ht with (e | ⟨o, e⟩) | e
  · exact .inl (.inl (s _ _ e))
  · exact .inl (.inr ⟨o, s _ _ e⟩)
  · exact .inr e
theorem dp_bools : ∀ bs : List Bool, DpAll K H (bs.map V.bl) (bs.map PyData.bool)
  | [] => .nil
  | b :: bs => .cons (.bl b) (dp_bools bs)
end
section
variable {tc tu : TT} {t u : TS} {D : Ends} {σ : L2.St} {H : Hp} {Q : Bool → Hp → Prop}
theorem sor (q : tc σ H fun c H1 => if c = true then Q true H1 else tu σ H1 Q) : tOr tc tu σ H Q := q
theorem san (q : tc σ H fun c H1 => if c = true then tu σ H1 Q else Q false H1) : tAnd tc tu σ H Q := q
end
end Lk

namespace Lk
open PySem PySem.Spec PyProof.Rows L2
/-- xs + ys, xs any list that may be read -/
def rCatL (K : PySem.W.Frag) : R2 := fun x y H Q => ∃ (l b : Addr) (xs zs : List V), x = .ref l ∧ y = .ref b ∧ SqL K H l xs ∧ H b = some (.lst zs) ∧ xs.length + zs.length ≤ sizeLine ∧ ∀ r, H r = none → Q (.ref r) (upd H r (.lst (xs ++ zs)))
theorem op_catL {X : Cx} : OpR X (binaryOp .Add) (rCatL X.K) := by
  intro pins s σ H x y v u Q I rx ry ⟨l, b, xs, zs, ex, ey, hS, hB, hz, q⟩
  subst ex ey
  cases rx
  cases ry
  obtain ⟨us, r1, ⟨⟨c1, d1, e1, f1⟩, n1, g1, h1, i1, j1⟩, _⟩ := I.list hS
  obtain ⟨_, ws, n2, r2, l2, g2⟩ := I.lstM hB
  dsimp only at h1 i1 j1
  subst h1 i1 j1
  have hl : us.toArray.size + ws.toArray.size ≤ sizeLine := by
    rw [List.size_toArray, List.size_toArray, ← r1.length, ← l2]
    exact hz
  refine concat_meets ⟨_, g1, rfl⟩ ⟨_, g2, rfl⟩ noFill_list_add seq_list_add
    PySem.F.slot_list_add PySem.F.entry_list_add (PySem.F.args_list_add_2 _ _)
    (list_addW l b us.toArray ws.toArray n1 n2 none none f1 #[] hl) ⟨g1, g2, ?_⟩
  rw [show us.toArray ++ ws.toArray = (us ++ ws).toArray by simp]
  exact ⟨.ref _, _, I.lnew (t' := s.toks) (r1.append r2) (by rw [List.length_append]; exact hz), rfl, q _ I.fresh⟩
end Lk

/-! ### enumerate(tuple) -/
namespace Lk
open PySem PySem.Spec PyProof.Rows L2
open AutoSeq1 (wpAny_loadPart')
theorem enum_newT (t : Addr) (its : Array Value) (o : Obj) (hc : o.cls = .type "tuple") (hd : ∃ n, o.data = .seq its n) :
    Meets (Builtin.«enumerate.__new__» ⟨[.type "enumerate", .ref t], []⟩) (fun _ R s => s.heap.get? t = some o ∧
      R (.ok (.ret (.ref (s.heap.push { cls := .type "tuple_iterator", data := .fields #[.ref t, .int 0 0] }).objs.size)))
        { s with heap := (s.heap.push { cls := .type "tuple_iterator", data := .fields #[.ref t, .int 0 0] }).push { cls := .type "enumerate", data := .fields #[.none, .bool false, .ref s.heap.objs.size, rawInt 0, .none, .none] } }) :=
  .of_wp fun prog w A R s ⟨hl, h⟩ => by
    obtain ⟨n, hd⟩ := hd
    have hsub := sub_enumerate
    have hT : s.heap.IsTuple t its := ⟨o, hl, hc, n, hd⟩
    obtain ⟨hp, g, d, tk, os⟩ := s
    wp_walk using wpAny_loadPart' hl
    refine wpAny_stack_any fun st => wpAny_pure ?_
    split
    · rename_i c _ _ _ _ _
      cases (c == Value.type "enumerate") <;>
        (wp_walk using wpAny_loadPart' hl, wpAny_pyIter_tuple hT
         exact ⟨_, rfl, h⟩)
    · wp_walk using wpAny_loadPart' hl, wpAny_pyIter_tuple hT
      exact ⟨_, rfl, h⟩
section
variable {prog : Program} {w : World} {A : Around} {E : Value → Shared → Prop} {s : Shared}
theorem call_enumT {t : Addr} {its : Array Value} {Q : Value → Shared → Prop} (hT : s.heap.IsTuple t its)
    (h : ∀ h', IsEnum h' (s.heap.objs.size + 1) s.heap.objs.size 0 .none → h'.IsTupleIter s.heap.objs.size t 0 → (∀ b o, s.heap.get? b = some o → h'.get? b = some o) → Q (.ref (s.heap.objs.size + 1)) { s with heap := h' }) :
    wpAny (model prog w) A (call (.type "enumerate") [.ref t]) Q E s := by
  obtain ⟨o, ho, hc, hd⟩ := hT
  refine callType_new F.called_enumerate (by decide) (F.typeCall_enumerate_1 _) (F.newCall_enumerate_1 _) (fun obj => F.args_object_init_2 obj _) F.entry_enumerate_new (enum_newT t its o hc hd) ⟨ho, ?_⟩
  have z : (s.heap.push { cls := .type "tuple_iterator", data := .fields #[.ref t, .int 0 0] }).objs.size = s.heap.objs.size + 1 := Heap.size_push ..
  show _ ∧ _
  rw [z]
  have e : IsEnum ((s.heap.push { cls := .type "tuple_iterator", data := .fields #[.ref t, .int 0 0] }).push { cls := .type "enumerate", data := .fields #[.none, .bool false, .ref s.heap.objs.size, rawInt 0, .none, .none] }) (s.heap.objs.size + 1) s.heap.objs.size 0 .none := by
    have q := Heap.get?_push_size (s.heap.push { cls := .type "tuple_iterator", data := .fields #[.ref t, .int 0 0] }) (o := { cls := .type "enumerate", data := .fields #[.none, .bool false, .ref s.heap.objs.size, rawInt 0, .none, .none] }) rfl
    rw [z] at q
    exact q
  exact ⟨⟨_, e, rfl⟩, h _ e ⟨_, Heap.get?_push_of_some _ (Heap.get?_push_size _ rfl), rfl, rfl⟩ fun b o x => Heap.get?_push_of_some _ (Heap.get?_push_of_some _ x)⟩
theorem enum_endT {e it t : Addr} {i : Nat} {its : Array Value} {old : Value} {Q : Option Value → Shared → Prop} (hh : A.handled = none) (he : IsEnum s.heap e it i old) (hit : s.heap.IsTupleIter it t i) (ht : s.heap.IsTuple t its) (hx : its[i]? = none)
    (q : ∀ h', Heap.ExtBut it s.heap h' → Q none { s with heap := h' }) : wpAny (model prog w) A (pyNext (.ref e)) Q E s := by
  have ty : s.TypeIs (.ref e) "enumerate" := ⟨_, he, rfl⟩
  unfold pyNext
  refine wpAny_bind (wpAny_attempt (wpAny_callSpecial?_slot (name := Str.ofString "__next__") ty F.slot_enumerate_next (wpAny_call_entry F.slot_enumerate_next ty F.entry_enumerate_next (show wpAny _ _ (field (.ref e) 2 >>= _) _ _ _ from wpAny_bind (wpAny_field he rfl (x := .ref it) rfl ?_)) (F.args_enumerate_next_1 _))))
  refine wpAny_bind (wpAny_nextOf_tuple_end hh hit ht hx fun h' x k ⟨o, ho, hc⟩ => wpAny_bind (wpAny_isInstance (T := "StopIteration") (b := true) ⟨o, ho, hc⟩ isSubtype_stop (wpAny_pure (q _ k))))
end
/-- the tuple at a, each item in a new pair -/
def Itet (K : PySem.W.Frag) (a : Addr) : It :=
  ⟨fun i H => ∃ (xs : List V) (x : V), SqT K H a xs ∧ xs[i]? = some x, fun i H v H' => ∃ T x, v = .ref T ∧ H T = none ∧ H' = upd H T (.tup [.int (i : Nat), x]) ∧ ∀ xs, SqT K H a xs → xs[i]? = some x, fun i H => ∃ xs : List V, SqT K H a xs ∧ xs.length ≤ i⟩
theorem turn_enumT {P : Program} {w : World} {K : PySem.W.Frag} {elts : List Expr} {kk : Nat} {tpos : Pos} (a e it : Addr) (hai : a ≠ it) (hae : e ≠ a) :
    Turn P w K (.Tuple elts kk tpos) (Itet K a) [e, it] e (fun i h => (∃ old, IsEnum h e it ((i : Nat) : Int) old) ∧ h.IsTupleIter it a i ∧ e ≠ it) where
  mem := by simp
  obj := fun i h ⟨⟨old, he⟩, ⟨o, ho, hc, hd⟩, _⟩ b hb => by
    simp only [List.mem_cons, List.not_mem_nil, or_false] at hb
    rcases hb with rfl | rfl
    · exact ⟨_, he, fun v q => nomatch q⟩
    · exact ⟨o, ho, fun v q => by rw [hd] at q; cases q⟩
  keep := fun i h h' ⟨⟨old, he⟩, hi, hne⟩ k => ⟨⟨old, k e (by simp) _ he⟩, hi.at fun o q => k it (by simp) o q, hne⟩
  item := by
    intro X hP hw hK hc i pins s σ H E I hf ⟨⟨old, he⟩, hit, hne⟩ ⟨xs, x, hq, hx⟩
    subst hP hw hK
    obtain ⟨its, rv, p, hz⟩ := I.tuple hq
    obtain ⟨u, hu, ru⟩ := rv.get hx
    have hel : e < s.heap.objs.size := Heap.lt_size he
    have hil : it < s.heap.objs.size := by
      obtain ⟨_, q, _⟩ := hit
      exact Heap.lt_size q
    have hui : its.toArray[i]? = some u := by simpa using hu
    have D : Draws X.prog X.w X.A.in1 it [it, a] its.toArray.size (fun i v => its.toArray[i]? = some v) (fun i h => h.IsTupleIter it a i ∧ h.IsTuple a its.toArray) := Draws.tuple (show X.A.in1.handled = none from I.ok.hd hc) it a hai its.toArray
    refine wpAny_pyNext_enum_itemD D he ⟨hit, p⟩ (Array.getElem?_eq_some_iff.mp hui).1 hne (by simp [hne, hae]) fun y h' tk hy ho hs' hT hsz hk => ?_
    rw [hui] at hy
    cases hy
    refine ⟨_, rfl, wpAny_letOwnedTupleGo_enum (s := { s with heap := h', toks := tk + 1 }) ho fun h'' he' sb => ?_⟩
    have hT2 : h''.get? s.heap.objs.size = some { cls := .type "tuple", data := .seq #[.int i tk, u] } := (sb.2 _ (Nat.ne_of_gt hel)).trans hT
    have new : ObjOk X.prog X.w (upd H s.heap.objs.size (.tup [.int (i : Nat), x])) h'' s.heap.objs.size (.tup [.int (i : Nat), x]) :=
      ⟨by show 2 ≤ sizeLine; decide, [.int i tk, u], .cons ⟨_, rfl⟩ (.cons ru .nil), ⟨_, hT2, rfl, _, rfl⟩⟩
    have I1 : Inv X pins σ (upd H s.heap.objs.size (.tup [.int (i : Nat), x])) { s with heap := h'', toks := tk + 1 } :=
      I.turnedNew (ch := [e, it]) (fun b ob hb q => (sb.2 b (fun z => hb (by simp [z]))).trans (hk b ob (fun z => hb (by simp [z])) (fun z => hb (by simp [z])) q)) hf (Nat.le_refl _) new
    refine ⟨.ref s.heap.objs.size, _, I1, rfl, ⟨_, x, rfl, I.hok.fresh (Nat.le_refl _), rfl, fun ys hy => by rw [I.tuple_inj hy hq]; exact hx⟩, ⟨⟨u, ?_⟩, hs'.1.at fun o q => (sb.2 it (Ne.symm hne)).trans q, hne⟩, fun b hb => ?_⟩
    · rw [show ((i + 1 : Nat) : Int) = (i : Int) + 1 by omega]
      exact he'
    · have hb' : b < s.heap.objs.size := by
        simp only [List.mem_cons, List.not_mem_nil, or_false] at hb
        rcases hb with rfl | rfl
        · exact hel
        · exact hil
      rw [upd_ne (Nat.ne_of_lt hb')]
      exact (hf b hb).1
  done := by
    intro X hP hw hK hc i pins s σ H E I hf ⟨⟨old, he⟩, hit, hne⟩ ⟨xs, hq, hx⟩
    subst hP hw hK
    obtain ⟨its, rv, p, hz⟩ := I.tuple hq
    obtain ⟨f0, f1, f2, f3, f4, f5⟩ := hf it (by simp)
    have out : its.toArray[i]? = none := List.getElem?_toArray ▸ rv.none_of (List.getElem?_eq_none hx)
    exact enum_endT (I.ok.hd hc) he hit p out fun h' eb => ⟨rfl, I.turned (t' := s.toks) (fun b o hb q => eb b o hb q) f0 f1 f3 f4 f5⟩
  self := fun A i s Q E ⟨⟨_, he⟩, _⟩ h => wpAny_pyIter_enum he h
def iEnumT (K : PySem.W.Frag) (ta : TA) : TI := fun σ H R => ta σ H fun vs H1 => ∃ a xs, vs = [.ref a] ∧ SqT K H1 a xs ∧ R (Itet K a) H1
theorem pi_enumT {X : Cx} {e : Expr} {ta : TA} {p pos tpos : Pos} {elts : List Expr} {kk : Nat} (hg : Gl X "enumerate") (hm : X.mg "enumerate" = none) (ha : PA X [e] ta) (hs : starEach [e] X.env = [(false, eval e X.env)] := by rfl) :
    PI X (.Tuple elts kk tpos) (.Call (.Name "enumerate" p) [e] [] pos) (iEnumT X.K ta) := by
  refine ⟨fun pins s σ H R I h => Call_ (ld_blt I hg hm boot_enumerate (PyProof.Rows.callWith_type1 (thn (ha.run pos pins s σ H _ I h) fun us s1 ⟨vs, H1, I1, r1, a, xs, ex, hq, q⟩ => ?_) hs rfl))⟩
  subst ex
  cases r1 with
  | cons r rr =>
    cases rr
    cases r
    obtain ⟨its, rv, p', hz⟩ := I1.tuple hq
    have la : a < s1.heap.objs.size := p'.lt
    refine call_enumT p' fun h' he hit hk => wpAny_pyIter_enum he ?_
    refine ⟨s1.heap.objs.size + 1, [s1.heap.objs.size + 1, s1.heap.objs.size], _, _, H1, rfl, I1.kept (t' := s1.toks) hk, turn_enumT a (s1.heap.objs.size + 1) s1.heap.objs.size (Nat.ne_of_lt la) (Nat.ne_of_gt (Nat.lt_succ_of_lt la)), ⟨⟨.none, he⟩, hit, Nat.succ_ne_self _⟩, fun b hb => ?_, q⟩
    have hle : s1.heap.objs.size ≤ b := by
      simp only [List.mem_cons, List.not_mem_nil, or_false] at hb
      rcases hb with rfl | rfl
      · exact Nat.le_succ _
      · exact Nat.le_refl _
    exact I1.fpOk hle (I1.hok.fresh hle)
theorem walk_enumT {K : PySem.W.Frag} {a : Addr} {xs : List V} : Walk (Itet K a) xs.length (fun H => SqT K H a xs) (YPair (fun i => some (.int (i : Nat))) (fun i => xs[i]?)) :=
  ⟨fun i _ hi q => ⟨xs, xs[i], q, by simp [hi]⟩, fun _ q => ⟨xs, q, Nat.le_refl _⟩, fun i H v H' _ q ⟨T, x, h1, h2, h3, h4⟩ => ⟨T, .int (i : Nat), x, h1, h2, h3, rfl, h4 xs q⟩⟩
end Lk

namespace Lk
open PySem PySem.Spec PyProof.Rows L2
/-! ### data made of tuples alone -/
/-- tuples stay -/
def Ts (H H' : Hp) : Prop := ∀ a xs, H a = some (.tup xs) → H' a = some (.tup xs)
theorem Ts.refl (H : Hp) : Ts H H := fun _ _ e => e
theorem Ts.trans {H H1 H2 : Hp} (s : Ts H H1) (t : Ts H1 H2) : Ts H H2 := fun a xs e => t a xs (s a xs e)
theorem Ts.of {H H' : Hp} (s : Same H H') : Ts H H' := fun a xs e => s _ _ e
theorem Ts.new {H : Hp} {p : Addr} {o : HO} (h : H p = none) : Ts H (upd H p o) := Ts.of (same_new h)
theorem Ts.lst {H : Hp} {p : Addr} {xs : List V} {o : HO} (h : H p = some (.lst xs)) : Ts H (upd H p o) := fun a ys e => by
  rw [upd_ne (fun z => by rw [z, h] at e; cases e)]
  exact e
mutual
inductive Dt (H : Hp) : V → PyData → Prop
  | non : Dt H .non .none
  | bl (b : Bool) : Dt H (.bl b) (.bool b)
  | int (i : Int) : Dt H (.int i) (.int i)
  | str (x : Str) : Dt H (.str x) (.str x)
  | tup {a : Addr} {xs : List V} {ds : List PyData} : H a = some (.tup xs) → DtAll H xs ds → Dt H (.ref a) (.tuple ds)
inductive DtAll (H : Hp) : List V → List PyData → Prop
  | nil : DtAll H [] []
  | cons {v : V} {vs : List V} {d : PyData} {ds : List PyData} : Dt H v d → DtAll H vs ds → DtAll H (v :: vs) (d :: ds)
end
section
variable {K : PySem.W.Frag} {H H' : Hp}
theorem Dt.ts (s : Ts H H') {d : PyData} {v : V} (h : Dt H v d) : Dt H' v d := by
  refine Dt.rec (motive_1 := fun v d _ => Dt H' v d) (motive_2 := fun vs ds _ => DtAll H' vs ds) .non .bl .int .str (fun hl _ ih => .tup (s _ _ hl) ih) .nil (fun _ _ a b => .cons a b) h
theorem DtAll.ts (s : Ts H H') {ds : List PyData} {vs : List V} (h : DtAll H vs ds) : DtAll H' vs ds := by
  refine DtAll.rec (motive_1 := fun v d _ => Dt H' v d) (motive_2 := fun vs ds _ => DtAll H' vs ds) .non .bl .int .str (fun hl _ ih => .tup (s _ _ hl) ih) .nil (fun _ _ a b => .cons a b) h
theorem Dt.dp {d : PyData} {v : V} (h : Dt H v d) : Dp K H v d := by
  refine Dt.rec (motive_1 := fun v d _ => Dp K H v d) (motive_2 := fun vs ds _ => DpAll K H vs ds) .non .bl .int .str (fun hl _ ih => .tup (.inl (.inl hl)) ih) .nil (fun _ _ a b => .cons a b) h
theorem DtAll.dp {ds : List PyData} {vs : List V} (h : DtAll H vs ds) : DpAll K H vs ds := by
  refine DtAll.rec (motive_1 := fun v d _ => Dp K H v d) (motive_2 := fun vs ds _ => DpAll K H vs ds) .non .bl .int .str (fun hl _ ih => .tup (.inl (.inl hl)) ih) .nil (fun _ _ a b => .cons a b) h
theorem dpa_same (s : Same H H') : ∀ {ds : List PyData} {vs : List V}, DpAll K H vs ds → DpAll K H' vs ds
  | _, _, .nil => .nil
  | _, _, .cons h t => .cons (dp_same s h) (dpa_same s t)
theorem dpa_len : ∀ {vs : List V} {ds : List PyData}, DpAll K H vs ds → vs.length = ds.length
  | _, _, .nil => rfl
  | _, _, .cons _ t => congrArg Nat.succ (dpa_len t)
theorem dpa_at : ∀ {vs : List V} {ds : List PyData} {i : Nat} {v : V}, DpAll K H vs ds → vs[i]? = some v → ∃ d, ds[i]? = some d ∧ Dp K H v d
  | _, _, _, _, .nil, e => by simp at e
  | _, _, 0, _, .cons h _, e => by
    simp at e
    subst e
    exact ⟨_, rfl, h⟩
  | _, _, i + 1, _, .cons _ t, e => by
    obtain ⟨d, e1, e2⟩ := dpa_at (i := i) t (by simpa using e)
    exact ⟨d, by simpa using e1, e2⟩
theorem DtAll.len : ∀ {vs : List V} {ds : List PyData}, DtAll H vs ds → vs.length = ds.length
  | _, _, .nil => rfl
  | _, _, .cons _ t => congrArg Nat.succ t.len
theorem DtAll.at : ∀ {vs : List V} {ds : List PyData} {i : Nat} {v : V}, DtAll H vs ds → vs[i]? = some v → ∃ d, ds[i]? = some d ∧ Dt H v d
  | _, _, _, _, .nil, e => by simp at e
  | _, _, 0, _, .cons h _, e => by
    simp at e
    subst e
    exact ⟨_, rfl, h⟩
  | _, _, i + 1, _, .cons _ t, e => by
    obtain ⟨d, e1, e2⟩ := DtAll.at (i := i) t (by simpa using e)
    exact ⟨d, by simpa using e1, e2⟩
theorem DtAll.append : ∀ {vs us : List V} {ds es : List PyData}, DtAll H vs ds → DtAll H us es → DtAll H (vs ++ us) (ds ++ es)
  | _, _, _, _, .nil, k => k
  | _, _, _, _, .cons h t, k => .cons h (t.append k)
theorem dt_ints : ∀ xs : List Int, DtAll H (xs.map V.int) (xs.map PyData.int)
  | [] => .nil
  | x :: xs => .cons (.int x) (dt_ints xs)
/-! ### isinstance of data -/
def tyn : PyData → String
  | .none => "NoneType"
  | .bool _ => "bool"
  | .int _ => "int"
  | .str _ => "str"
  | .list _ => "list"
  | .tuple _ => "tuple"
  | .dict _ => "dict"
theorem tyx_dp {v : V} {d : PyData} (h : Dp K H v d) : TyX K H v (.type (tyn d)) := by
  cases h with
  | non => exact .base .non
  | bl b => exact .base (.bl b)
  | int i => exact .base (.int i)
  | str x => exact .base (.str x)
  | lst hs _ =>
    rcases hs with (e | ⟨o, e⟩) | ⟨o, its, n, e, c, _⟩
    · exact .base (.lst e)
    · exact .base (.frz e)
    · exact .kList e c
  | tup hs _ =>
    rcases hs with (e | ⟨o, e⟩) | ⟨o, its, n, e, c, _⟩
    · exact .base (.tup e)
    · exact .fTuple e
    · exact .kTuple e c
def isIntI : PyData → Bool
  | .bool _ => true
  | .int _ => true
  | _ => false
def isBoolD : PyData → Bool
  | .bool _ => true
  | _ => false
def isStrD : PyData → Bool
  | .str _ => true
  | _ => false
def isTupD : PyData → Bool
  | .tuple _ => true
  | _ => false
def isListD : PyData → Bool
  | .list _ => true
  | _ => false
theorem ki_int (d : PyData) : kitB (tyn d) "int" = some (isIntI d) := by cases d <;> simp only [tyn, isIntI] <;> decide +kernel
theorem ki_bool (d : PyData) : kitB (tyn d) "bool" = some (isBoolD d) := by cases d <;> simp only [tyn, isBoolD] <;> decide +kernel
theorem ki_str (d : PyData) : kitB (tyn d) "str" = some (isStrD d) := by cases d <;> simp only [tyn, isStrD] <;> decide +kernel
theorem ki_tup (d : PyData) : kitB (tyn d) "tuple" = some (isTupD d) := by cases d <;> simp only [tyn, isTupD] <;> decide +kernel
theorem ki_list (d : PyData) : kitB (tyn d) "list" = some (isListD d) := by cases d <;> simp only [tyn, isListD] <;> decide +kernel
theorem s_isi {v : V} {d : PyData} {n : String} {b : Bool} {Q : VK} (h : Dp K H v d) (e : kitB (tyn d) n = some b) (q : Q (.bl b) H) : rIsi K [v, .ty n] H Q := ⟨v, _, _, _, b, rfl, .ty n, tyx_dp h, kit_ty e, q⟩
theorem ki_lt (d : PyData) : PySem.W.kitAny K (.type (tyn d)) [.type "list", .type "tuple"] = some (isListD d || isTupD d) := by
  refine kitAny_cons (kit_ty (ki_list d)) (fun _ => kitAny_cons (kit_ty (ki_tup d)) (fun z => ?_) fun z => by rw [z, Bool.or_true]) fun z => by rw [z, Bool.true_or]
  rename_i y
  rw [y, z]
  rfl
theorem s_isiLT {v : V} {d : PyData} {t : Addr} {Q : VK} (h : Dp K H v d) (ht : H t = some (.tup [.ty "list", .ty "tuple"])) (q : Q (.bl (isListD d || isTupD d)) H) : rIsiT K [v, .ref t] H Q :=
  ⟨v, t, _, _, _, _, rfl, ht, .cons (.ty _) (.cons (.ty _) .nil), tyx_dp h, ki_lt d, q⟩
/-! ### what the checks tell -/
def isIntD : PyData → Bool
  | .int _ => true
  | _ => false
def withinD (d : PyData) (a b : Int) : Bool := match d with
  | .int x => decide (a ≤ x) && decide (x ≤ b)
  | _ => false
def seqD (d : PyData) (a b : Int) : Bool := match d with
  | .list ds => decide (a ≤ ds.length) && decide ((ds.length : Int) ≤ b)
  | .tuple ds => decide (a ≤ ds.length) && decide ((ds.length : Int) ≤ b)
  | _ => false
def formD (d : PyData) (n : Int) : Bool := match d with
  | .tuple ds => decide ((ds.length : Int) = n + 1) && ds.all isIntD
  | _ => false
def nextsD (d : PyData) (a b m : Int) : Bool := match d with
  | .tuple ds => decide (a ≤ ds.length) && decide ((ds.length : Int) ≤ b) && ds.all fun e => withinD e 0 (m - 1)
  | _ => false
end
section
variable {σ : L2.St} {H : Hp} {ta tb tc : TE} {Q : VK} {r r' : R2}
theorem sav (q : ta σ H fun x H1 => ∃ c, x = .bl c ∧ if c = true then tb σ H1 Q else Q (.bl false) H1) : tAndV ta tb σ H Q := q
theorem sov (q : ta σ H fun x H1 => ∃ c, x = .bl c ∧ if c = true then Q (.bl true) H1 else tb σ H1 Q) : tOrV ta tb σ H Q := q
theorem snv (q : ta σ H fun x H1 => ∃ c, x = .bl c ∧ Q (.bl (!c)) H1) : tNotV ta σ H Q := q
theorem sch (q : ta σ H fun x H1 => tb σ H1 fun y H2 => r x y H2 fun z H3 => ∃ k, z = .bl k ∧ if k = true then tc σ H3 fun z' H4 => r' y z' H4 Q else Q (.bl false) H3) : tChain r r' ta tb tc σ H Q := q
theorem pe_gint {X : Cx} {x : Str} {i : Int} {pos : Pos} (hg : Gl X x) (hm : ∃ t, X.mg x = some (.int i t)) (hd : (x == ("__debug__" : Str)) = false := by decide) : PE X (.Name x pos) (tC (.int i)) := by
  obtain ⟨t, h⟩ := hm
  exact pe_glob hg h ⟨t, rfl⟩ hd
end
section
variable {K : PySem.W.Frag} {H : Hp} {Q : VK}
theorem s_lenL {v : V} {ds : List PyData} (h : Dp K H v (.list ds)) (q : Q (.int ds.length) H) : ∃ p ys, [v] = [V.ref p] ∧ (SqL K H p ys ∨ SqT K H p ys) ∧ Q (.int ys.length) H := by
  cases h with
  | lst hs ha => exact ⟨_, _, rfl, .inl hs, by rw [dpa_len ha]; exact q⟩
theorem s_lenT {v : V} {ds : List PyData} (h : Dp K H v (.tuple ds)) (q : Q (.int ds.length) H) : ∃ p ys, [v] = [V.ref p] ∧ (SqL K H p ys ∨ SqT K H p ys) ∧ Q (.int ys.length) H := by
  cases h with
  | tup hs ha => exact ⟨_, _, rfl, .inr hs, by rw [dpa_len ha]; exact q⟩
/-- a <= i <= b, the second part behind the first one -/
theorem two_le {a i b : Int} (q : Q (.bl (decide (a ≤ i) && decide (i ≤ b))) H) : if decide (a ≤ i) = true then Q (.bl (decide (i ≤ b))) H else Q (.bl false) H := by
  by_cases h : a ≤ i
  · rw [if_pos (decide_eq_true h)]
    rw [decide_eq_true h, Bool.true_and] at q
    exact q
  · rw [if_neg (by simpa using h)]
    rw [decide_eq_false h, Bool.false_and] at q
    exact q
end
end Lk

namespace Lk
open PySem PySem.Spec PyProof.Rows L2
section
variable {K : PySem.W.Frag} {H H' : Hp}
theorem same_sqT {a : Addr} {xs : List V} (s : Same H H') (h : SqT K H a xs) : SqT K H' a xs := by
  rcases h with (e | ⟨o, e⟩) | e
  · exact .inl (.inl (s _ _ e))
  · exact .inl (.inr ⟨o, s _ _ e⟩)
  · exact .inr e
theorem dp_listI {v : V} {ds : List PyData} (h : Dp K H v (.list ds)) : ∃ a xs, v = .ref a ∧ SqL K H a xs ∧ DpAll K H xs ds := by
  cases h with
  | lst hs ha => exact ⟨_, _, rfl, hs, ha⟩
theorem dp_tupI {v : V} {ds : List PyData} (h : Dp K H v (.tuple ds)) : ∃ a xs, v = .ref a ∧ SqT K H a xs ∧ DpAll K H xs ds := by
  cases h with
  | tup hs ha => exact ⟨_, _, rfl, hs, ha⟩
theorem dp_intI {v : V} {i : Int} (h : Dp K H v (.int i)) : v = .int i := by cases h; rfl
theorem dp_strI {v : V} {x : Str} (h : Dp K H v (.str x)) : v = .str x := by cases h; rfl
/-- [e for x in t], t a tuple: item by item, where only objects are made -/
theorem tlc_mapT {σ : L2.St} {a : Addr} {xs ys : List V} {j k : Nat} {te : TE} {vs : List Nat} {Q : VK} (hj : σ[j]? = some (some (.ref a))) (hx : SqT K H a xs) (hl : ys.length = xs.length) (h3 : xs.length ≤ 1000)
    (hw : ∀ x, wipe ((wipe σ vs).set k (some x)) vs = wipe σ vs)
    (he : ∀ (i : Nat) (x y : V) (H' : Hp), xs[i]? = some x → ys[i]? = some y → Same H H' → ∀ R : VK, (∀ H'', Same H' H'' → R y H'') → te ((wipe σ vs).set k (some x)) H' R)
    (q : ∀ D H', Same H H' → H D = none → H' D = some (.lst ys) → Q (.ref D) H') : tLc (iTup K (tVar j)) (gName k) tYes te vs σ H Q := by
  refine ⟨_, hj, a, rfl, ⟨xs, hx⟩, fun D hD => lc_tup (fun i H' => Same H H' ∧ H' D = some (.lst (ys.take i))) ⟨same_new hD, upd_same⟩ (fun i H' _ h => same_sqT h.1 hx) (fun i x H' hi h => ?_) (fun H' h => ?_)⟩
  · have hlt : i < ys.length := by
      rw [hl]
      exact (List.getElem?_eq_some_iff.mp hi).1
    refine ⟨hw x, ?_⟩
    unfold tYes
    simp only [if_true]
    refine he i x ys[i] H' hi (List.getElem?_eq_getElem hlt) h.1 _ fun H2 s2 => ⟨_, s2 _ _ h.2, ?_, fun b o e => ?_, ?_⟩
    · rw [List.length_take]
      exact small1000 (by omega)
    · rw [upd_ne (ne_of_none e hD)]
      exact s2 _ _ (h.1 _ _ e)
    · rw [upd_same, List.take_succ, List.getElem?_eq_getElem hlt]
      rfl
  · rw [← hl, List.take_length] at h
    exact q D H' h.1 hD h.2
/-- the same over a list -/
theorem tlc_mapL {σ : L2.St} {a : Addr} {xs ys : List V} {j k : Nat} {te : TE} {vs : List Nat} {Q : VK} (hj : σ[j]? = some (some (.ref a))) (hx : SqL K H a xs) (hl : ys.length = xs.length) (h3 : xs.length ≤ 1000)
    (hw : ∀ x, wipe ((wipe σ vs).set k (some x)) vs = wipe σ vs)
    (he : ∀ (i : Nat) (x y : V) (H' : Hp), xs[i]? = some x → ys[i]? = some y → Same H H' → ∀ R : VK, (∀ H'', Same H' H'' → R y H'') → te ((wipe σ vs).set k (some x)) H' R)
    (q : ∀ D H', Same H H' → H D = none → H' D = some (.lst ys) → Q (.ref D) H') : tLc (iList K (tVar j)) (gName k) tYes te vs σ H Q := by
  refine ⟨_, hj, a, rfl, ⟨xs, hx⟩, fun D hD => lc_list (fun i H' => Same H H' ∧ H' D = some (.lst (ys.take i))) ⟨same_new hD, upd_same⟩ (fun i H' _ h => h.1.seq hx) (fun i x H' hi h => ?_) (fun H' h => ?_)⟩
  · have hlt : i < ys.length := by
      rw [hl]
      exact (List.getElem?_eq_some_iff.mp hi).1
    refine ⟨hw x, ?_⟩
    unfold tYes
    simp only [if_true]
    refine he i x ys[i] H' hi (List.getElem?_eq_getElem hlt) h.1 _ fun H2 s2 => ⟨_, s2 _ _ h.2, ?_, fun b o e => ?_, ?_⟩
    · rw [List.length_take]
      exact small1000 (by omega)
    · rw [upd_ne (ne_of_none e hD)]
      exact s2 _ _ (h.1 _ _ e)
    · rw [upd_same, List.take_succ, List.getElem?_eq_getElem hlt]
      rfl
  · rw [← hl, List.take_length] at h
    exact q D H' h.1 hD h.2
theorem sft {p : Addr} {xs : List V} {z : Int} {v : V} {Q : VK} (hp : SqT K H p xs) (hz : atI xs z = some v) (q : Q v H) : rIxT K (.ref p) (.int z) H Q := ⟨p, xs, z, v, rfl, rfl, hp, hz, q⟩
theorem itt_ {c : Bool} {A B : Prop} (h : c = true) (q : A) : if c = true then A else B := by rw [if_pos h]; exact q
theorem iff_ {c : Bool} {A B : Prop} (h : c = false) (q : B) : if c = true then A else B := by rw [if_neg (by rw [h]; decide)]; exact q
theorem ssll {r : V → Option Int → Option Int → Hp → VK → Prop} {te : TE} {tl th : TO} {σ : L2.St} {Q : VK} (q : te σ H fun x H1 => tl σ H1 fun l H2 => th σ H2 fun u H3 => r x l u H3 Q) : tSl r te tl th σ H Q := q
theorem spt {t : TE} {σ : L2.St} {Q : Option Int → Hp → Prop} (q : t σ H fun x H1 => ∃ i, x = .int i ∧ Q (some i) H1) : tPart t σ H Q := q
theorem snp {σ : L2.St} {Q : Option Int → Hp → Prop} (q : Q none H) : tNoPart σ H Q := q
theorem sin {i : Int} {Q : Int → Prop} (q : Q i) : ∃ j, V.int i = .int j ∧ Q j := ⟨i, rfl, q⟩
/-- t[1:] -/
theorem s_cut {a : Addr} {x : V} {ys : List V} {Q : VK} (ha : SqT K H a (x :: ys)) (q : ∀ p, H p = none → Q (.ref p) (upd H p (.tup ys))) : rSlA K (.ref a) (some 1) none H Q := by
  have e0 : HT.sIx (x :: ys).length 0 (some 1) = 1 := by
    have := HT.sIx_nat (x :: ys).length 0 1
    rw [show ((1 : Nat) : Int) = 1 from rfl] at this
    rw [this]
    simp
  have e1 : HT.sIx (x :: ys).length (x :: ys).length none = (x :: ys).length := rfl
  refine ⟨a, x :: ys, rfl, ha, fun z => ?_, fun _ p hp => ?_⟩
  · rw [e0] at z
    exact absurd z.1 (by decide)
  · have e2 : cutV (x :: ys) (some 1) none = ys := by
      unfold cutV
      rw [e0, e1]
      simp
    rw [e2]
    exact q p hp
/-- what all tells of such a list -/
theorem all_bls {ds : List PyData} {p : PyData → Bool} {D : Addr} {Q : VK} (h : H D = some (.lst (ds.map fun d => V.bl (p d)))) (q : Q (.bl (ds.all p)) H) : rAll K [V.ref D] H Q := by
  refine ⟨D, ds.map p, rfl, .inl (.inl (by rw [h, List.map_map]; rfl)), ?_⟩
  rw [List.all_map]
  exact q
end
end Lk

namespace Lk
open PySem PySem.Spec PyProof.Rows L2
/-! ### rows of programs -/
inductive LRow where
  | set (n : Str) (f : List Int) (k : Int)
  | say (f : List Int) (k : Int)
  | ask (n : Str) (k : Int)
  | choose (ks : List Int)
  | look (k : Int)
  | stop
def intsD (xs : List Int) : PyData := .tuple (xs.map .int)
def LRow.d : LRow → PyData
  | .set n f k => .tuple [.str "set", .str n, intsD f, .int k]
  | .say f k => .tuple [.str "say", intsD f, .int k]
  | .ask n k => .tuple [.str "ask", .str n, .int k]
  | .choose ks => .tuple [.str "choose", intsD ks]
  | .look k => .tuple [.str "look", .int k]
  | .stop => .tuple [.str "stop"]
/-- the row as it lies in the heap -/
def RowH (H : Hp) (v : V) : LRow → Prop
  | .set n f k => ∃ a b, v = .ref a ∧ H a = some (.tup [.str "set", .str n, .ref b, .int k]) ∧ H b = some (.tup (f.map .int))
  | .say f k => ∃ a b, v = .ref a ∧ H a = some (.tup [.str "say", .ref b, .int k]) ∧ H b = some (.tup (f.map .int))
  | .ask n k => ∃ a, v = .ref a ∧ H a = some (.tup [.str "ask", .str n, .int k])
  | .choose ks => ∃ a b, v = .ref a ∧ H a = some (.tup [.str "choose", .ref b]) ∧ H b = some (.tup (ks.map .int))
  | .look k => ∃ a, v = .ref a ∧ H a = some (.tup [.str "look", .int k])
  | .stop => ∃ a, v = .ref a ∧ H a = some (.tup [.str "stop"])
/-- what a row must be over these variables, among m rows -/
def RowOk (names : List Str) (m : Int) : LRow → Prop
  | .set n f k => n ∈ names ∧ f.length = names.length + 1 ∧ 0 ≤ k ∧ k < m
  | .say f k => f.length = names.length + 1 ∧ 0 ≤ k ∧ k < m
  | .ask n k => n ∈ names ∧ 0 ≤ k ∧ k < m
  | .choose ks => 1 ≤ ks.length ∧ ks.length ≤ 6 ∧ ∀ k ∈ ks, 0 ≤ k ∧ k < m
  | .look k => 0 ≤ k ∧ k < m
  | .stop => True
/-- its numbers reduced -/
def LRow.low (w : Nat) : LRow → LRow
  | .set n f k => .set n (f.map (· % 2 ^ w)) k
  | .say f k => .say (f.map (· % 2 ^ w)) k
  | r => r
section
variable {K : PySem.W.Frag} {H H' : Hp}
theorem RowH.ts (s : Ts H H') {v : V} {r : LRow} (h : RowH H v r) : RowH H' v r := by
  cases r with
  | set n f k => obtain ⟨a, b, e, h1, h2⟩ := h; exact ⟨a, b, e, s _ _ h1, s _ _ h2⟩
  | say f k => obtain ⟨a, b, e, h1, h2⟩ := h; exact ⟨a, b, e, s _ _ h1, s _ _ h2⟩
  | ask n k => obtain ⟨a, e, h1⟩ := h; exact ⟨a, e, s _ _ h1⟩
  | choose ks => obtain ⟨a, b, e, h1, h2⟩ := h; exact ⟨a, b, e, s _ _ h1, s _ _ h2⟩
  | look k => obtain ⟨a, e, h1⟩ := h; exact ⟨a, e, s _ _ h1⟩
  | stop => obtain ⟨a, e, h1⟩ := h; exact ⟨a, e, s _ _ h1⟩
theorem dt_intsT {b : Addr} {xs : List Int} (h : H b = some (.tup (xs.map .int))) : Dt H (.ref b) (intsD xs) := .tup h (dt_ints xs)
theorem RowH.dt {v : V} {r : LRow} (h : RowH H v r) : Dt H v r.d := by
  cases r with
  | set n f k => obtain ⟨a, b, rfl, h1, h2⟩ := h; exact .tup h1 (.cons (.str _) (.cons (.str _) (.cons (dt_intsT h2) (.cons (.int _) .nil))))
  | say f k => obtain ⟨a, b, rfl, h1, h2⟩ := h; exact .tup h1 (.cons (.str _) (.cons (dt_intsT h2) (.cons (.int _) .nil)))
  | ask n k => obtain ⟨a, rfl, h1⟩ := h; exact .tup h1 (.cons (.str _) (.cons (.str _) (.cons (.int _) .nil)))
  | choose ks => obtain ⟨a, b, rfl, h1, h2⟩ := h; exact .tup h1 (.cons (.str _) (.cons (dt_intsT h2) .nil))
  | look k => obtain ⟨a, rfl, h1⟩ := h; exact .tup h1 (.cons (.str _) (.cons (.int _) .nil))
  | stop => obtain ⟨a, rfl, h1⟩ := h; exact .tup h1 (.cons (.str _) .nil)
theorem RowH.ref {v : V} {r : LRow} (h : RowH H v r) : ∃ a xs, v = .ref a ∧ H a = some (.tup xs) := by
  cases r with
  | set n f k => obtain ⟨a, b, e, h1, h2⟩ := h; exact ⟨a, _, e, h1⟩
  | say f k => obtain ⟨a, b, e, h1, h2⟩ := h; exact ⟨a, _, e, h1⟩
  | ask n k => obtain ⟨a, e, h1⟩ := h; exact ⟨a, _, e, h1⟩
  | choose ks => obtain ⟨a, b, e, h1, h2⟩ := h; exact ⟨a, _, e, h1⟩
  | look k => obtain ⟨a, e, h1⟩ := h; exact ⟨a, _, e, h1⟩
  | stop => obtain ⟨a, e, h1⟩ := h; exact ⟨a, _, e, h1⟩
/-- a list of rows -/
inductive RowsH (H : Hp) : List V → List LRow → Prop
  | nil : RowsH H [] []
  | cons {v : V} {vs : List V} {r : LRow} {rs : List LRow} : RowH H v r → RowsH H vs rs → RowsH H (v :: vs) (r :: rs)
theorem RowsH.ts (s : Ts H H') : ∀ {vs : List V} {rs : List LRow}, RowsH H vs rs → RowsH H' vs rs
  | _, _, .nil => .nil
  | _, _, .cons h t => .cons (h.ts s) (t.ts s)
theorem RowsH.len : ∀ {vs : List V} {rs : List LRow}, RowsH H vs rs → vs.length = rs.length
  | _, _, .nil => rfl
  | _, _, .cons _ t => congrArg Nat.succ t.len
theorem RowsH.at : ∀ {vs : List V} {rs : List LRow} {i : Nat} {v : V}, RowsH H vs rs → vs[i]? = some v → ∃ r, rs[i]? = some r ∧ RowH H v r
  | _, _, _, _, .nil, e => by simp at e
  | _, _, 0, _, .cons h _, e => by
    simp at e
    subst e
    exact ⟨_, rfl, h⟩
  | _, _, i + 1, _, .cons _ t, e => by
    obtain ⟨d, e1, e2⟩ := RowsH.at (i := i) t (by simpa using e)
    exact ⟨d, by simpa using e1, e2⟩
theorem RowsH.get : ∀ {vs : List V} {rs : List LRow} {i : Nat} {r : LRow}, RowsH H vs rs → rs[i]? = some r → ∃ v, vs[i]? = some v ∧ RowH H v r
  | _, _, _, _, .nil, e => by simp at e
  | _, _, 0, _, .cons h _, e => by
    simp at e
    subst e
    exact ⟨_, rfl, h⟩
  | _, _, i + 1, _, .cons _ t, e => by
    obtain ⟨d, e1, e2⟩ := RowsH.get (i := i) t (by simpa using e)
    exact ⟨d, by simpa using e1, e2⟩
theorem atI_nat {α : Type} {xs : List α} {i : Nat} {x : α} (h : xs[i]? = some x) : atI xs (i : Int) = some x := by
  have hlt := (List.getElem?_eq_some_iff.mp h).1
  unfold atI ixN
  rw [if_pos (by omega), if_pos (by omega)]
  exact h
theorem RowsH.append : ∀ {vs us : List V} {rs qs : List LRow}, RowsH H vs rs → RowsH H us qs → RowsH H (vs ++ us) (rs ++ qs)
  | _, _, _, _, .nil, k => k
  | _, _, _, _, .cons h t, k => .cons h (t.append k)
theorem RowsH.dt : ∀ {vs : List V} {rs : List LRow}, RowsH H vs rs → DtAll H vs (rs.map LRow.d)
  | _, _, .nil => .nil
  | _, _, .cons h t => .cons h.dt t.dt
/-! ### names -/
def letD (c : Nat) : Bool := decide (97 ≤ c) && decide (c ≤ 122)
def nameS (s : Str) : Bool := decide (1 ≤ s.length) && decide (s.length ≤ 8) && s.cps.toList.all letD
def nameD : PyData → Bool
  | .str s => nameS s
  | _ => false
theorem lex1 (a b : Nat) : decide ([a] < [b]) = decide (a < b) := by
  refine decide_eq_decide.mpr ⟨fun h => ?_, fun h => ?_⟩
  · cases h with
    | rel h => exact h
    | cons h => cases h
  · exact .rel h
/-- [e for c in s] -/
theorem tlc_mapS {σ : L2.St} {z : Str} {ys : List V} {j k : Nat} {te : TE} {vs : List Nat} {Q : VK} (hj : σ[j]? = some (some (.str z))) (hl : ys.length = z.cps.size) (h3 : z.cps.size ≤ 1000)
    (hw : ∀ x, wipe ((wipe σ vs).set k (some x)) vs = wipe σ vs)
    (he : ∀ (i c : Nat) (y : V) (H' : Hp), z.cps[i]? = some c → ys[i]? = some y → Same H H' → ∀ R : VK, (∀ H'', Same H' H'' → R y H'') → te ((wipe σ vs).set k (some (.str ⟨#[c]⟩))) H' R)
    (q : ∀ D H', Same H H' → H D = none → H' D = some (.lst ys) → Q (.ref D) H') : tLc (iStr (tVar j)) (gName k) tYes te vs σ H Q := by
  refine ⟨_, hj, z, rfl, fun D hD => lc_it walk_str (fun i H' => Same H H' ∧ H' D = some (.lst (ys.take i))) ⟨same_new hD, upd_same⟩ (fun _ _ _ _ => trivial) (fun i x H1 H' hi h hy => ?_) (fun H' h => ?_)⟩
  · obtain ⟨rfl, c, hc, rfl⟩ := hy
    have hlt : i < ys.length := by
      rw [hl]
      exact hi
    refine ⟨hw _, ?_⟩
    unfold tYes
    simp only [if_true]
    refine he i c ys[i] H' hc (List.getElem?_eq_getElem hlt) h.1 _ fun H2 s2 => ⟨_, s2 _ _ h.2, ?_, fun b o e => ?_, ?_⟩
    · rw [List.length_take]
      exact small1000 (by omega)
    · rw [upd_ne (ne_of_none e hD)]
      exact s2 _ _ (h.1 _ _ e)
    · rw [upd_same, List.take_succ, List.getElem?_eq_getElem hlt]
      rfl
  · rw [← hl, List.take_length] at h
    exact q D H' h.1 hD h.2
/-- a list or a tuple -/
def SqE (K : PySem.W.Frag) (H : Hp) (p : Addr) (xs : List V) : Prop := SqL K H p xs ∨ SqT K H p xs
theorem SqE.same (s : Same H H') {p : Addr} {xs : List V} (h : SqE K H p xs) : SqE K H' p xs := h.imp s.seq (same_sqT s)
theorem inV_str {x : Str} : ∀ {ns : List Str}, x ∈ ns → inV (.str x) (ns.map V.str) = true
  | [], h => by cases h
  | n :: ns, h => by
    rw [List.map_cons]
    unfold inV
    rw [List.any_cons, Bool.or_eq_true]
    rcases List.mem_cons.mp h with rfl | h
    · exact .inl (by show (x == x) = true; exact beq_self_eq_true x)
    · exact .inr (inV_str h)
theorem flat_strs (ns : List Str) : (ns.map V.str).all flatV = true := by
  rw [List.all_map]
  exact List.all_eq_true.mpr fun _ _ => rfl
end
end Lk

namespace Lk
open PySem PySem.Spec PyProof.Rows L2
/-! ### a list or a tuple, whichever was handed in -/
section
variable {X : Cx} {tg e : Expr} {te : TE}
def rSlE (K : PySem.W.Frag) : V → Option Int → Option Int → Hp → VK → Prop := fun x lo hi H Q => rSlL K x lo hi H Q ∨ rSlA K x lo hi H Q
theorem sl_either : SlR X (rSlE X.K) := sl_list.or sl_tupA
def rTupOf (K : PySem.W.Frag) : List V → Hp → VK → Prop := fun xs H Q => ∃ p ys, xs = [.ref p] ∧ ((SqL K H p ys ∧ ∀ l, H l = none → Q (.ref l) (upd H l (.tup ys))) ∨ (SqT K H p ys ∧ Q (.ref p) H))
theorem call_tupOf : CallR X (.type "tuple") (rTupOf X.K) := call_tuple_of
def iEither (K : PySem.W.Frag) (te : TE) : TI := fun σ H R => iList K te σ H R ∨ iTup K te σ H R
theorem pi_either (he : PE X e te) : PI X tg e (iEither X.K te) := ⟨fun pins s σ H R I h => h.elim ((pi_list he).run pins s σ H R I) ((pi_tup he).run pins s σ H R I)⟩
def iEnumE (K : PySem.W.Frag) (ta : TA) : TI := fun σ H R => iEnum K ta σ H R ∨ iEnumT K ta σ H R
theorem pi_enumE {ta : TA} {p pos tpos : Pos} {elts : List Expr} {kk : Nat} (hg : Gl X "enumerate") (hm : X.mg "enumerate" = none) (ha : PA X [e] ta) (hs : starEach [e] X.env = [(false, eval e X.env)] := by rfl) :
    PI X (.Tuple elts kk tpos) (.Call (.Name "enumerate" p) [e] [] pos) (iEnumE X.K ta) := ⟨fun pins s σ H R I h => h.elim ((pi_enum hg hm ha hs).run pins s σ H R I) ((pi_enumT hg hm ha hs).run pins s σ H R I)⟩
end
section
variable {K : PySem.W.Frag} {H H' : Hp} {σ : L2.St} {a : Addr} {xs : List V}
theorem sIx_take {n i : Nat} (hi : i < n) : HT.sIx n n (some (i : Int)) = i := by
  rw [HT.sIx_nat]
  omega
theorem cut_take {i : Nat} (hi : i < xs.length) : cutV xs none (some (i : Int)) = xs.take i := by
  unfold cutV
  rw [sIx_take hi, show HT.sIx xs.length 0 none = 0 from rfl]
  simp
/-- xs[:i] -/
theorem s_take {i : Nat} {Q : VK} (hx : SqE K H a xs) (hi : i < xs.length) (q : ∀ p H', Same H H' → SqE K H' p (xs.take i) → Q (.ref p) H') : rSlE K (.ref a) none (some (i : Int)) H Q := by
  rcases hx with hx | hx
  · refine .inl ⟨a, xs, rfl, hx, fun p hp => ?_⟩
    rw [cut_take hi]
    exact q p _ (same_new hp) (.inl (SqL.of upd_same))
  · refine .inr ⟨a, xs, rfl, hx, fun z => ?_, fun _ p hp => ?_⟩
    · have := z.2
      rw [sIx_take hi] at this
      omega
    · rw [cut_take hi]
      exact q p _ (same_new hp) (.inr (SqT.of upd_same))
/-- for i, x in enumerate(xs) -/
theorem for_enE {g : TG} {tb : TS} {D : Ends} {j : Nat} (I : Nat → L2.St → Hp → Prop) (hj : σ[j]? = some (some (.ref a))) (hx : SqE K H a xs) (h0 : I 0 σ H) (hS : ∀ i σ' H', I i σ' H' → Same H H')
    (ht : ∀ (i : Nat) (x : V) p σ' H', xs[i]? = some x → I i σ' H' → H' p = none → g (.ref p) σ' (upd H' p (.tup [.int (i : Nat), x])) fun σ2 H2 => tb { D with nx := I (i + 1), ct := I (i + 1), bk := D.nx } σ2 H2)
    (hd : ∀ σ' H', I xs.length σ' H' → D.nx σ' H') : tFor (iEnumE K (tCons (tVar j) tNil)) g tb D σ H := by
  rcases hx with hx | hx
  · exact .inl ⟨_, hj, a, xs, rfl, hx, en_by I h0 (fun i σ H' _ h => (hS i σ H' h).seq hx) ht hd⟩
  · refine .inr ⟨_, hj, a, xs, rfl, hx, for_it walk_enumT I h0 (fun i σ H' _ h => same_sqT (hS i σ H' h) hx) (fun i v σ' H1 H2 hi hI hy => ?_) hd⟩
    obtain ⟨T, x, y, rfl, hT, rfl, e1, e2⟩ := hy
    cases Option.some.inj e1
    exact ht i y T σ' H1 e2 hI hT
theorem tlc_mapE {ys : List V} {j k : Nat} {te : TE} {vs : List Nat} {Q : VK} (hj : σ[j]? = some (some (.ref a))) (hx : SqE K H a xs) (hl : ys.length = xs.length) (h3 : xs.length ≤ 1000)
    (hw : ∀ x, wipe ((wipe σ vs).set k (some x)) vs = wipe σ vs)
    (he : ∀ (i : Nat) (x y : V) (H' : Hp), xs[i]? = some x → ys[i]? = some y → Same H H' → ∀ R : VK, (∀ H'', Same H' H'' → R y H'') → te ((wipe σ vs).set k (some x)) H' R)
    (q : ∀ D H', Same H H' → H D = none → H' D = some (.lst ys) → Q (.ref D) H') : tLc (iEither K (tVar j)) (gName k) tYes te vs σ H Q := by
  rcases hx with hx | hx
  · exact Or.inl (tlc_mapL hj hx hl h3 hw he q)
  · exact Or.inr (tlc_mapT hj hx hl h3 hw he q)
/-- tuple(xs) -/
theorem s_tupE {R : VK} (hx : SqE K H a xs) (q : ∀ p H', Same H H' → SqT K H' p xs → R (.ref p) H') : rTupOf K [V.ref a] H R := by
  rcases hx with hx | hx
  · exact ⟨a, xs, rfl, .inl ⟨hx, fun l hl => q l _ (same_new hl) (SqT.of upd_same)⟩⟩
  · exact ⟨a, xs, rfl, .inr ⟨hx, q a _ (Same.refl _) hx⟩⟩
/-- [f(row, ..) for row in rows] -/
theorem tlc_rowsE {rs : List LRow} {j k : Nat} {te : TE} {vs : List Nat} {Q : VK} (f : LRow → LRow) (hj : σ[j]? = some (some (.ref a))) (hx : SqE K H a xs) (hr : RowsH H xs rs) (h3 : xs.length ≤ 1000)
    (hw : ∀ x, wipe ((wipe σ vs).set k (some x)) vs = wipe σ vs)
    (he : ∀ (i : Nat) (x : V) (r : LRow) (H' : Hp), rs[i]? = some r → RowH H' x r → Same H H' → ∀ R : VK, (∀ u H'', Same H' H'' → RowH H'' u (f r) → R u H'') → te ((wipe σ vs).set k (some x)) H' R)
    (q : ∀ D ys H', Same H H' → H D = none → H' D = some (.lst ys) → RowsH H' ys (rs.map f) → Q (.ref D) H') : tLc (iEither K (tVar j)) (gName k) tYes te vs σ H Q := by
  have step : ∀ D, H D = none → ∀ i x H', xs[i]? = some x → (Same H H' ∧ ∃ ys, H' D = some (.lst ys) ∧ RowsH H' ys ((rs.take i).map f)) → gName k x (wipe σ vs) H' fun σ2 H2 => wipe σ2 vs = wipe σ vs ∧ tYes σ2 H2 fun b H3 =>
      if b = true then te σ2 H3 fun y H4 => ∃ acc, H4 D = some (.lst acc) ∧ acc.length < sizeLine ∧ (Same H (upd H4 D (.lst (acc ++ [y]))) ∧ ∃ ys, (upd H4 D (.lst (acc ++ [y]))) D = some (.lst ys) ∧ RowsH (upd H4 D (.lst (acc ++ [y]))) ys ((rs.take (i + 1)).map f)) else (Same H H3 ∧ ∃ ys, H3 D = some (.lst ys) ∧ RowsH H3 ys ((rs.take (i + 1)).map f)) := by
    intro D hD i x H' hi h
    obtain ⟨s1, ys, hys, hrs⟩ := h
    obtain ⟨r, hri, hrv⟩ := hr.at hi
    have hlen := hrs.len
    refine ⟨hw _, ?_⟩
    unfold tYes
    simp only [if_true]
    refine he i x r H' hri (hrv.ts (Ts.of s1)) s1 _ fun u H2 s2 hu => ⟨ys, s2 _ _ hys, ?_, fun b o e => ?_, _, upd_same, ?_⟩
    · rw [hlen, List.length_map, List.length_take]
      have := hr.len
      exact small1000 (by omega)
    · rw [upd_ne (ne_of_none e hD)]
      exact s2 _ _ (s1 _ _ e)
    · have t1 : Ts H2 (upd H2 D (.lst (ys ++ [u]))) := Ts.lst (s2 _ _ hys)
      rw [List.take_succ, hri, List.map_append]
      exact ((hrs.ts (Ts.of s2)).ts t1).append (.cons (hu.ts t1) .nil)
  have start : ∀ D, H D = none → Same H (upd H D (.lst [])) ∧ ∃ ys, (upd H D (.lst [])) D = some (.lst ys) ∧ RowsH (upd H D (.lst [])) ys ((rs.take 0).map f) := fun D hD => ⟨same_new hD, [], upd_same, .nil⟩
  have fin : ∀ D, H D = none → ∀ H', (Same H H' ∧ ∃ ys, H' D = some (.lst ys) ∧ RowsH H' ys ((rs.take xs.length).map f)) → Q (.ref D) H' := fun D hD H' ⟨s1, ys, h1, h2⟩ => by
    rw [hr.len, List.take_length] at h2
    exact q D ys H' s1 hD h1 h2
  rcases hx with hx | hx
  · exact Or.inl ⟨_, hj, a, rfl, ⟨xs, hx⟩, fun D hD => lc_list (fun i H' => Same H H' ∧ ∃ ys, H' D = some (.lst ys) ∧ RowsH H' ys ((rs.take i).map f)) (start D hD) (fun i H' _ h => h.1.seq hx) (step D hD) (fin D hD)⟩
  · exact Or.inr ⟨_, hj, a, rfl, ⟨xs, hx⟩, fun D hD => lc_tup (fun i H' => Same H H' ∧ ∃ ys, H' D = some (.lst ys) ∧ RowsH H' ys ((rs.take i).map f)) (start D hD) (fun i H' _ h => same_sqT h.1 hx) (step D hD) (fin D hD)⟩
/-! ### all stays but for one object -/
def Bar (x : Addr) (H H' : Hp) : Prop := ∀ b o, b ≠ x → H b = some o → H' b = some o
theorem Bar.refl {x : Addr} : Bar x H H := fun _ _ _ e => e
theorem Bar.of {x : Addr} (s : Same H H') : Bar x H H' := fun b o _ e => s b o e
theorem Bar.upd {x : Addr} {o : HO} : Bar x H (upd H x o) := fun b u n e => by rw [upd_ne n]; exact e
theorem Bar.trans {x : Addr} {H1 : Hp} (s : Bar x H H1) (t : Bar x H1 H') : Bar x H H' := fun b o n e => t b o n (s b o n e)
theorem Bar.ts {x C dx : Addr} {fs : List (Str × V)} (s : Bar x H H') (hx : H x = some (.ins C dx fs)) : Ts H H' := fun b ys e => s b _ (fun z => by rw [z, hx] at e; cases e) e
theorem Bar.sqT {x C dx : Addr} {fs : List (Str × V)} (s : Bar x H H') (hx : H x = some (.ins C dx fs)) (h : SqT K H a xs) : SqT K H' a xs := by
  rcases h with (e | ⟨o, e⟩) | e
  · exact .inl (.inl (s _ _ (fun z => by rw [z, hx] at e; cases e) e))
  · exact .inl (.inr ⟨o, s _ _ (fun z => by rw [z, hx] at e; cases e) e⟩)
  · exact .inr e
theorem Bar.sqL {x C dx : Addr} {fs : List (Str × V)} (s : Bar x H H') (hx : H x = some (.ins C dx fs)) (h : SqL K H a xs) : SqL K H' a xs := by
  rcases h with (e | ⟨o, e⟩) | e
  · exact .inl (.inl (s _ _ (fun z => by rw [z, hx] at e; cases e) e))
  · exact .inl (.inr ⟨o, s _ _ (fun z => by rw [z, hx] at e; cases e) e⟩)
  · exact .inr e
theorem Bar.sqE {x C dx : Addr} {fs : List (Str × V)} (s : Bar x H H') (hx : H x = some (.ins C dx fs)) (h : SqE K H a xs) : SqE K H' a xs := h.imp (s.sqL hx) (s.sqT hx)
theorem sfl {ta tv : TE} {f : Str} {D : Ends} (q : tv σ H fun y H1 => ta σ H1 fun x H2 => ∃ a C dx fs, x = .ref a ∧ H2 a = some (.ins C dx fs) ∧ Cls K C ∧ NoAttr K C f ∧ fs.length < 1000 ∧ D.nx σ (L2.upd H2 a (.ins C dx (putF f y fs)))) : sFld K ta tv f D σ H := q
theorem sfd {ta : TE} {f : Str} {R : VK} (q : ta σ H fun x H1 => ∃ a C dx fs v, x = .ref a ∧ H1 a = some (.ins C dx fs) ∧ Cls K C ∧ NoAttr K C f ∧ fs.lookup f = some v ∧ R v H1) : tFld K ta f σ H R := q
/-- a program in the heap, its numbers reduced -/
def prF (w : Int) (tv tr : Addr) : List (Str × V) := [("width", .int w), ("variables", .ref tv), ("rows", .ref tr)]
def ProgO (K : PySem.W.Frag) (C : Addr) (H : Hp) (p : Addr) (w : Nat) (ns : List Str) (rs : List LRow) : Prop :=
  ∃ dx tv tr vs, H p = some (.ins C dx (prF w tv tr)) ∧ SqT K H tv (ns.map V.str) ∧ SqT K H tr vs ∧ RowsH H vs rs
theorem sqe_seq {ds : List PyData} (h : SqE K H a xs) (hd : DpAll K H xs ds) : ∃ d, Dp K H (.ref a) d ∧ ∀ lo hi : Int, lo ≤ ds.length → (ds.length : Int) ≤ hi → seqD d lo hi = true := by
  rcases h with h | h
  · exact ⟨_, .lst h hd, fun lo hi h1 h2 => by simp [seqD, h1, h2]⟩
  · exact ⟨_, .tup h hd, fun lo hi h1 h2 => by simp [seqD, h1, h2]⟩
theorem dp_strs : ∀ ns : List Str, DpAll K H (ns.map V.str) (ns.map PyData.str)
  | [] => .nil
  | n :: ns => .cons (.str n) (dp_strs ns)
theorem inV_not {x : Str} {ns : List Str} (h : x ∉ ns) : inV (.str x) (ns.map V.str) = false := by
  unfold inV
  rw [List.any_map, List.any_eq_false]
  intro y hy
  show ¬ (y == x) = true
  exact fun z => h (eq_of_beq z ▸ hy)
theorem nodup_take {ns : List Str} {i : Nat} {x : Str} (nd : ns.Nodup) (hx : ns[i]? = some x) : x ∉ ns.take i := fun h => by
  obtain ⟨j, hj⟩ := List.getElem?_of_mem h
  have hlt : j < i := by
    have := (List.getElem?_eq_some_iff.mp hj).1
    rw [List.length_take] at this
    omega
  rw [List.getElem?_take_of_lt hlt] at hj
  have h1 := (List.getElem?_eq_some_iff.mp hj).1
  have := (List.getElem?_inj h1 nd).mp (hj.trans hx.symm)
  omega
end
end Lk

/-! own == and != with either answer -/
namespace LkN
open PySem PySem.Spec PyProof.Rows PySem.SeqAt
section
variable {M : Model} {prog : Program} {w : World} {A : Around} {E : Value → Shared → Prop} {s : Shared} {K : PySem.W.Frag} {x y C f : Addr} {ox oy : Obj} {od oe : Option Obj}
theorem objNe_body (X : K.In s.heap) (I : PySem.W.InstAt s.heap x ox C od) (hs : PySem.W.findIn K (.ref C) "__eq__" = some (some (.ref f))) (hf : PySem.W.isFn K (.ref f) = true) (hu : A.units < cLine) {Q : Fin → Shared → Prop}
    (hcall : wpAny (model prog w) A (call (.ref f) [.ref x, .ref y]) (fun v s' => ∃ b, v = .bool b ∧ Q (.done (.ret (.bool (!b)))) s') E s) :
    wpAny (model prog w) A (Builtin.«object.__ne__» ⟨[.ref x, .ref y], []⟩) Q E s := by
  unfold Builtin.«object.__ne__»
  repeat (first
    | with_reducible refine wpAny_cRoomFor hu ?_
    | (refine wpAny_bind (m := callSpecialIfBound? (.ref x) (Str.ofString "__eq__") [.ref y])
        (PySem.W.ifBound_K X I hs hf (wpAny_mono hcall (fun r s' hr => by
          obtain ⟨b, rfl, hq⟩ := hr
          repeat (first | exact hq | exact wpAny_pure hq | exact wpAny_truthy_bool hq | (refine wpAny_bind (m := truthy (.bool _)) (wpAny_truthy_bool ?_)) | wp_step)) fun _ _ e => e)))
    | wp_step)
theorem call_objNe {Q : Value → Shared → Prop} (X : K.In s.heap) (I : PySem.W.InstAt s.heap x ox C od) (hm : PySem.W.mroIn K C (.type "object") = some true) (hs : PySem.W.findIn K (.ref C) "__eq__" = some (some (.ref f))) (hf : PySem.W.isFn K (.ref f) = true) (hu : A.in1.units < cLine)
    (hcall : wpAny (model prog w) A.in1 (call (.ref f) [.ref x, .ref y]) (fun v s' => ∃ b, v = .bool b ∧ Q (.bool (!b)) s') E s) :
    wpAny (model prog w) A (call (.builtin "object.__ne__") [.ref x, .ref y]) Q E s :=
  wpAny_call (codeAny_call_builtin F.cmp_object.ne.plain F.cmpEntry_ne (PySem.W.check_slot F.cmpKind_ne F.cmpSplit_ne (I.type.andThen (PySem.W.looks_mroIn X hm)) (F.cmpArgs_ne _ _)
    (objNe_body (A := A.in1) X I hs hf hu (wpAny_mono hcall (fun v s' hv => by obtain ⟨b, e, q⟩ := hv; exact ⟨b, e, q⟩) fun _ _ e => e))))
theorem ifBound_objNe {args : List Value} {Q : Option Value → Shared → Prop} (X : K.In s.heap) (I : PySem.W.InstAt s.heap x ox C od) (hs : PySem.W.findIn K (.ref C) "__ne__" = some (some (.builtin "object.__ne__")))
    (h : wpAny M A (call (.builtin "object.__ne__") (.ref x :: args)) (fun v => Q (some v)) E s) : wpAny M A (callSpecialIfBound? (.ref x) "__ne__" args) Q E s := by
  simp only [callSpecialIfBound?, bindSpecialIfBound?]
  refine wpAny_holding (wpAny_bind (wpAny_bind (wpAny_bind (I.type.here ((PySem.W.looks_findIn X hs).here ?_)))))
  refine wpAny_bind (wpAny_askSetting (wpAny_ite ?_))
  have fin : wpAny M A (call (.builtin "object.__ne__") ([.ref x] ++ args) >>= fun v => pure (some v)) Q E s := wpAny_bind (wpAny_mono h (fun v s' h' => wpAny_pure h') fun _ _ h' => h')
  split
  · exact wpAny_bind (wpAny_of_eq (F.cmp_object.ne.bind _) (wpAny_pure (by exact fin)))
  · exact wpAny_tryCatch (wpAny_bind (wpAny_of_eq (F.cmp_object.ne.bind _) (wpAny_pure (by exact fin))))
theorem rc_ne {Q : Value → Shared → Prop} (X : K.In s.heap) (I : PySem.W.InstAt s.heap x ox C od) (J : PySem.W.InstAt s.heap y oy C oe) (hm : PySem.W.mroIn K C (.type "object") = some true) (hs : PySem.W.findIn K (.ref C) "__eq__" = some (some (.ref f))) (hn : PySem.W.findIn K (.ref C) "__ne__" = some (some (.builtin "object.__ne__"))) (hf : PySem.W.isFn K (.ref f) = true) (hu : A.units + 1 < cLine)
    (hcall : wpAny (model prog w) A.in1 (call (.ref f) [.ref x, .ref y]) (fun v s' => ∃ b, v = .bool b ∧ Q (.bool (!b)) s') E s) :
    wpAny (model prog w) A (richCompare .NotEq (.ref x) (.ref y)) Q E s := by
  have one : wpAny (model prog w) A (tryCompare (.ref x) "__ne__" (.ref y)) (fun r s' => ∃ b, r = some (.bool b) ∧ Q (.bool b) s') E s := by
    unfold tryCompare
    refine wpAny_bind (ifBound_objNe X I hn (call_objNe X I hm hs hf hu (wpAny_mono hcall (fun v s' hv => ?_) fun _ _ e => e)))
    obtain ⟨b, rfl, hq⟩ := hv
    refine ⟨b, rfl, ?_⟩
    exact wpAny_pure ⟨!b, rfl, hq⟩
  simp only [richCompare, cmpInfo_NotEq, oneThing_ref]
  refine wpAny_holding (wpAny_bind (wpAny_cRoomFor (Nat.lt_of_succ_lt hu) ?_))
  refine wpAny_bind (I.type.here (wpAny_bind (J.type.here ?_)))
  rw [show (Value.ref C != Value.ref C) = false from by simp]
  simp only [Bool.false_eq_true, if_false]
  refine wpAny_bind (wpAny_pure ?_)
  simp only [Bool.false_eq_true, if_false]
  refine wpAny_bind (wpAny_mono one (fun r s' z => ?_) fun _ _ e => e)
  obtain ⟨b, rfl, hq⟩ := z
  first | exact wpAny_pure hq | exact wpAny_pure (wpAny_pure hq)
end
end LkN

namespace Lk
open PySem PySem.Spec PyProof.Rows L2
section
variable {X : Cx} {CX : CXT} {n : Nat} {C f : Addr} {fd : FuncData} {ps : List Str} {sp : Sp} {E : XK}
/-- the own == , called at A below the body X -/
theorem run_own {A : Around} {pins : List (Addr × Obj)} {σ : L2.St} {H : Hp} {s : Shared} {vs : List V} {us : List Value} {R : VK} (F : FnOk X.prog X.w X.K X.mg X.base CX n f fd ps sp) (hb : Binds X.K fd ps []) (hx : Passes CX X E) (sb : Sub X n A)
    (I : Inv X pins σ H s) (r2 : Vals vs us) (hsp : sp vs H R E) : wpAny (model X.prog X.w) A (call (.ref f) us) (fun r s' => ∃ z H', Inv X pins σ H' s' ∧ RelV z r ∧ R z H') X.xe s := by
  have e0 : Env0 X.prog X.w X.K X.mg X.base A X.stack s H := by
    have e := I.env0
    exact ⟨by rw [sb.fr]; exact e.frames, e.mod, e.bs, e.bsz, e.funs, e.frf, e.hok, e.bare⟩
  have hl := F.len _ _ _ _ hsp
  refine wpAny_call (codeAny_mono (F.run A X.stack s H ⟨us, []⟩ us vs _ E sb.room e0 (by
    have := hb s us I.kIn (by rw [List.append_nil, ← r2.length]; exact hl)
    simpa using this) r2 hsp) fun r s' hq => ?_)
  cases r with
  | error e => exact hx pins σ H s e s' I hq
  | ok fl =>
    cases fl with
    | ret w =>
      obtain ⟨z, H', I', rz, q⟩ := I.after hq
      exact ⟨z, H', I', rz, q⟩
    | next => exact False.elim hq
    | brk => exact False.elim hq
    | cont => exact False.elim hq
theorem run_eq {A : Around} {pins : List (Addr × Obj)} {σ : L2.St} {H : Hp} {s : Shared} {x y : V} {u v : Value} {R : VK} (F : FnOk X.prog X.w X.K X.mg X.base CX n f fd ps sp) (hb : Binds X.K fd ps []) (hx : Passes CX X E) (sb : Sub X n A)
    (I : Inv X pins σ H s) (rx : RelV x u) (ry : RelV y v) (hsp : sp [x, y] H R E) : wpAny (model X.prog X.w) A (call (.ref f) [u, v]) (fun r s' => ∃ z H', Inv X pins σ H' s' ∧ RelV z r ∧ R z H') X.xe s := run_own F hb hx sb I (.cons rx (.cons ry .nil)) hsp
/-- len(x) by the own __len__ -/
def rLenO (C : Addr) (sp : Sp) (E : XK) : List V → Hp → VK → Prop := fun xs H Q => ∃ a dx fs, xs = [.ref a] ∧ H a = some (.ins C dx fs) ∧ sp [.ref a] H (fun z H' => ∃ k : Nat, z = .int (k : Int) ∧ k ≤ 1000 ∧ Q (.int (k : Int)) H') E
theorem call_lenO (F : FnOk X.prog X.w X.K X.mg X.base CX n f fd ps sp) (hs : PySem.W.findIn X.K (.ref C) "__len__" = some (some (.ref f))) (hf : PySem.W.isFn X.K (.ref f) = true) (hb : Binds X.K fd ps []) (hx : Passes CX X E) (hr : Room (n + 1) X.A) : CallR X (.builtin "len") (rLenO C sp E) := by
  intro pins s σ H xs us Q I r h
  obtain ⟨a, dx, fs, rfl, ha, hsp⟩ := h
  obtain ⟨u, rfl, rx⟩ := vals1 r
  cases rx
  obtain ⟨mA, J, _⟩ := ins_get I.hok ha
  obtain ⟨od, J, _⟩ := J.look
  obtain ⟨m, hF⟩ := I.fr
  have sb : Sub X (n + 1) X.A := ⟨hr, rfl⟩
  refine PySem.W.len_K hF I.ok.mod.kin J hs hf (wpAny_mono (run_own F hb hx sb.in1 I (.cons (show RelV (.ref a) (.ref a) from rfl) .nil) hsp) (fun r s' z => ?_) fun _ _ e => e)
  obtain ⟨z, H', I', rz, k, ez, hk, q⟩ := z
  subst ez
  obtain ⟨t, rfl⟩ := rz
  exact ⟨⟨by omega, by omega⟩, .int (k : Int), H', I'.tok _, ⟨_, rfl⟩, q⟩
/-- x[y] by the own __getitem__ -/
def rIxO (C : Addr) (sp : Sp) (E : XK) : R2 := fun x y H Q => ∃ a dx fs, x = .ref a ∧ H a = some (.ins C dx fs) ∧ sp [x, y] H Q E
theorem pe_ixO {a b : Expr} {ta tb : TE} {pos : Pos} (F : FnOk X.prog X.w X.K X.mg X.base CX n f fd ps sp) (hs : PySem.W.findIn X.K (.ref C) "__getitem__" = some (some (.ref f))) (hfn : PySem.W.fnIn X.K f = true) (hf : PySem.W.isFn X.K (.ref f) = true) (hb' : Binds X.K fd ps []) (hx : Passes CX X E) (hr : Room (n + 1) X.A)
    (ha : PE X a ta) (hb : PE X b tb) (hsl : ∀ v u, subscripted b true v u = runValue (.builtin "lifetime.subscript" ⟨[v, u], []⟩) := by intros; with_unfolding_all rfl) : PE X (.Subscript a b pos) (tOp (rIxO C sp E) ta tb) := by
  refine ⟨fun pins s σ H Q I h => ?_⟩
  refine Subscript_ (binT ha hb I h fun v u s2 x y H2 I2 rx ry q => ?_)
  obtain ⟨a', dx, fs, rfl, ha', hsp⟩ := q
  cases rx
  obtain ⟨mA, J, _⟩ := ins_get I2.hok ha'
  obtain ⟨od, J, _⟩ := J.look
  obtain ⟨m, hF⟩ := I2.fr
  have sb : Sub X (n + 1) X.A := ⟨hr, rfl⟩
  exact PySem.W.sub_K hF I2.ok.mod.kin J hs hfn hf (wpAny_mono (run_own F hb' hx sb.in1 I2 (.cons (show RelV (.ref a') (.ref a') from rfl) (.cons ry .nil)) hsp) (fun r s' z => by
    obtain ⟨z, H', I', rz, q⟩ := z
    exact ⟨z, H', I', rz, q⟩) fun _ _ e => e) (hsl _ _)
/-- x == y by the own __eq__ of x's class; y an instance of the same class, or a tuple -/
def rEqO (K : PySem.W.Frag) (C : Addr) (sp : Sp) (E : XK) : R2 := fun x y H Q => ∃ a dx fs, x = .ref a ∧ H a = some (.ins C dx fs) ∧ ((∃ b dy gs, y = .ref b ∧ H b = some (.ins C dy gs)) ∨ ∃ b xs, y = .ref b ∧ H b = some (.tup xs)) ∧
  sp [x, y] H (fun z H' => ∃ b, z = .bl b ∧ Q (.bl b) H') E
def rNeO (C : Addr) (sp : Sp) (E : XK) : R2 := fun x y H Q => ∃ a dx fs b dy gs, x = .ref a ∧ H a = some (.ins C dx fs) ∧ y = .ref b ∧ H b = some (.ins C dy gs) ∧
  sp [x, y] H (fun z H' => ∃ k, z = .bl k ∧ Q (.bl (!k)) H') E
theorem op_eqO (F : FnOk X.prog X.w X.K X.mg X.base CX n f fd ps sp) (hs : PySem.W.findIn X.K (.ref C) "__eq__" = some (some (.ref f))) (hf : PySem.W.isFn X.K (.ref f) = true) (hb : Binds X.K fd ps []) (hx : Passes CX X E)
    (hn : PySem.W.notFirst X.K C (.type "tuple") = true) (hr : Room n X.A) : OpR X (compareOp .Eq) (rEqO X.K C sp E) := by
  intro pins s σ H x y v u Q I rx ry hq
  obtain ⟨a, dx, fs, rfl, ha, hy, hsp⟩ := hq
  show wpAny (model X.prog X.w) X.A (richCompare .Eq v u) (EP X pins σ Q) X.xe s
  cases rx
  obtain ⟨mA, J, _⟩ := ins_get I.hok ha
  obtain ⟨od, J, _⟩ := J.look
  obtain ⟨m, hF⟩ := I.fr
  have hu := hr.units0
  have back : wpAny (model X.prog X.w) X.A (call (.ref f) [.ref a, u]) (PySem.W.CmpBack (EP X pins σ Q)) X.xe s := wpAny_mono (run_eq (x := .ref a) F hb hx ⟨hr, rfl⟩ I (show RelV (.ref a) (.ref a) from rfl) ry hsp) (fun r s' z => by
    obtain ⟨z, H', I', rz, b, ez, q⟩ := z
    subst ez
    cases rz
    exact ⟨.bl b, H', I', rfl, q⟩) fun _ _ e => e
  rcases hy with ⟨b, dy, gs, rfl, hb'⟩ | ⟨b, xs, rfl, hb'⟩
  · cases ry
    obtain ⟨mB, J', _⟩ := ins_get I.hok hb'
    obtain ⟨od', J', _⟩ := J'.look
    exact PySem.W.cmp_K (op := .Eq) (tb := .ref C) hu hF I.ok.mod.kin J J'.type (by simp [PySem.W.notFirst]) hs hf back
  · cases ry
    obtain ⟨_, _, _, o, h1, h2, _⟩ := (show ObjOk X.prog X.w H s.heap b (.tup xs) from I.hok b _ hb')
    exact PySem.W.cmp_K (op := .Eq) (tb := .type "tuple") hu hF I.ok.mod.kin J (fun A Q E s k q => wpAny_typeOf_ref (k _ _ h1) (by rw [h2]; exact q)) hn hs hf back
theorem op_neO (F : FnOk X.prog X.w X.K X.mg X.base CX n f fd ps sp) (hs : PySem.W.findIn X.K (.ref C) "__eq__" = some (some (.ref f))) (hne : PySem.W.findIn X.K (.ref C) "__ne__" = some (some (.builtin "object.__ne__"))) (hm : PySem.W.mroIn X.K C (.type "object") = some true)
    (hf : PySem.W.isFn X.K (.ref f) = true) (hb : Binds X.K fd ps []) (hx : Passes CX X E) (hr : Room (n + 1) X.A) : OpR X (compareOp .NotEq) (rNeO C sp E) := by
  intro pins s σ H x y v u Q I rx ry hq
  obtain ⟨a, dx, fs, b, dy, gs, rfl, ha, rfl, hb', hsp⟩ := hq
  cases rx
  cases ry
  show wpAny (model X.prog X.w) X.A (richCompare .NotEq (.ref a) (.ref b)) (EP X pins σ Q) X.xe s
  obtain ⟨mA, J, _⟩ := ins_get I.hok ha
  obtain ⟨od, J, _⟩ := J.look
  obtain ⟨mB, J', _⟩ := ins_get I.hok hb'
  obtain ⟨od', J', _⟩ := J'.look
  have sb : Sub X (n + 1) X.A := ⟨hr, rfl⟩
  refine LkN.rc_ne I.kIn J J' hm hs hne hf sb.in1.room.units0 (wpAny_mono (run_eq (x := .ref a) (y := .ref b) F hb hx sb.in1 I (show RelV (.ref a) (.ref a) from rfl) (show RelV (.ref b) (.ref b) from rfl) hsp) (fun r s' z => ?_) fun _ _ e => e)
  obtain ⟨z, H', I', rz, k, ez, q⟩ := z
  subst ez
  cases rz
  exact ⟨k, rfl, .bl (!k), H', I', rfl, q⟩
end
end Lk

namespace Lk
open PySem PySem.Spec PyProof.Rows L2
/-! ### what may be compared -/
theorem cl_map {α : Type} {f : α → PyData} : ∀ {xs : List α}, (∀ x ∈ xs, (f x).canLay0 = true) → PyData.canLayAll0 (xs.map f) = true
  | [], _ => by simp [PyData.canLayAll0]
  | x :: xs, h => by
    rw [List.map_cons, PyData.canLayAll0, h x (List.mem_cons_self ..), cl_map fun y hy => h y (List.mem_cons_of_mem _ hy)]
    rfl
theorem dep_map {α : Type} {f : α → PyData} {n : Nat} : ∀ {xs : List α}, (∀ x ∈ xs, (f x).depth ≤ n) → PyData.depthAll (xs.map f) ≤ n
  | [], _ => by simp [PyData.depthAll]
  | x :: xs, h => by
    rw [List.map_cons, PyData.depthAll]
    have h1 := h x (List.mem_cons_self ..)
    have h2 := dep_map (xs := xs) fun y hy => h y (List.mem_cons_of_mem _ hy)
    omega
theorem nameS_str {x : Str} (h : nameS x = true) : (PyData.str x).canLay0 = true := by
  unfold nameS at h
  rw [Bool.and_eq_true] at h
  have h3 := List.all_eq_true.mp h.2
  rw [PyData.canLay0]
  unfold PyData.strOk
  rw [← Array.all_toList]
  refine List.all_eq_true.mpr fun c hc => ?_
  have := h3 c hc
  unfold letD at this
  rw [Bool.and_eq_true] at this
  have := of_decide_eq_true this.2
  exact decide_eq_true (by omega)
theorem ints_cl (xs : List Int) : (intsD xs).canLay0 = true := by
  unfold intsD
  rw [PyData.canLay0]
  exact cl_map fun _ _ => by rw [PyData.canLay0]
theorem ints_dep (xs : List Int) : (intsD xs).depth ≤ 1 := by
  unfold intsD
  rw [PyData.depth]
  have := dep_map (f := PyData.int) (n := 0) (xs := xs) fun _ _ => by simp [PyData.depth]
  omega
/-- the row's name is a name -/
def RowNm : LRow → Prop
  | .set n _ _ => nameS n = true
  | .ask n _ => nameS n = true
  | _ => True
theorem rowNm_of {ns : List Str} {m : Int} {r : LRow} (h : RowOk ns m r) (hn : ∀ x ∈ ns, nameS x = true) : RowNm r := by
  cases r with
  | set n f k => exact hn n h.1
  | ask n k => exact hn n h.1
  | _ => trivial
theorem rowNm_low {k : Nat} {r : LRow} (h : RowNm r) : RowNm (r.low k) := by
  cases r <;> exact h
theorem row_cl {r : LRow} (h : RowNm r) : r.d.canLay0 = true := by
  cases r with
  | set n f k =>
    have h1 := nameS_str h
    have h2 := ints_cl f
    have h3 : (PyData.str "set").canLay0 = true := by decide +kernel
    simp [LRow.d, PyData.canLay0, PyData.canLayAll0] at h1 h2 h3 ⊢
    exact ⟨h3, h1, h2⟩
  | say f k =>
    have h2 := ints_cl f
    have h3 : (PyData.str "say").canLay0 = true := by decide +kernel
    simp [LRow.d, PyData.canLay0, PyData.canLayAll0] at h2 h3 ⊢
    exact ⟨h3, h2⟩
  | ask n k =>
    have h1 := nameS_str h
    have h3 : (PyData.str "ask").canLay0 = true := by decide +kernel
    simp [LRow.d, PyData.canLay0, PyData.canLayAll0] at h1 h3 ⊢
    exact ⟨h3, h1⟩
  | choose ks =>
    have h2 := ints_cl ks
    have h3 : (PyData.str "choose").canLay0 = true := by decide +kernel
    simp [LRow.d, PyData.canLay0, PyData.canLayAll0] at h2 h3 ⊢
    exact ⟨h3, h2⟩
  | look k =>
    have h3 : (PyData.str "look").canLay0 = true := by decide +kernel
    simp [LRow.d, PyData.canLay0, PyData.canLayAll0] at h3 ⊢
    exact h3
  | stop => decide +kernel
theorem row_dep (r : LRow) : r.d.depth ≤ 2 := by
  cases r with
  | set n f k => have := ints_dep f; simp only [LRow.d, PyData.depth, PyData.depthAll]; omega
  | say f k => have := ints_dep f; simp only [LRow.d, PyData.depth, PyData.depthAll]; omega
  | ask n k => simp [LRow.d, PyData.depth, PyData.depthAll]
  | choose ks => have := ints_dep ks; simp only [LRow.d, PyData.depth, PyData.depthAll]; omega
  | look k => simp [LRow.d, PyData.depth, PyData.depthAll]
  | stop => simp [LRow.d, PyData.depth, PyData.depthAll]
def rowsD (rs : List LRow) : PyData := .tuple (rs.map LRow.d)
def namesD (ns : List Str) : PyData := .tuple (ns.map PyData.str)
theorem shaped_rows {rs : List LRow} (h : ∀ r ∈ rs, RowNm r) : SeqAt.shaped (rowsD rs) = true := by
  unfold SeqAt.shaped rowsD
  rw [PyData.canLay0, cl_map fun r hr => row_cl (h r hr), PyData.depth]
  have := dep_map (f := LRow.d) (n := 2) (xs := rs) fun r _ => row_dep r
  exact decide_eq_true (by omega)
theorem shaped_rowsL {rs : List LRow} (h : ∀ r ∈ rs, RowNm r) : SeqAt.shaped (.list (rs.map LRow.d)) = true := by
  unfold SeqAt.shaped
  rw [PyData.canLay0, cl_map fun r hr => row_cl (h r hr), PyData.depth]
  have := dep_map (f := LRow.d) (n := 2) (xs := rs) fun r _ => row_dep r
  exact decide_eq_true (by omega)
theorem shaped_row {r : LRow} (h : RowNm r) : SeqAt.shaped r.d = true := by
  unfold SeqAt.shaped
  rw [row_cl h]
  have := row_dep r
  exact decide_eq_true (by omega)
theorem shaped_names {ns : List Str} (h : ∀ x ∈ ns, nameS x = true) : SeqAt.shaped (namesD ns) = true := by
  unfold SeqAt.shaped namesD
  rw [PyData.canLay0, cl_map fun r hr => nameS_str (h r hr), PyData.depth]
  have := dep_map (f := PyData.str) (n := 0) (xs := ns) fun r _ => by simp [PyData.depth]
  exact decide_eq_true (by omega)
/-- whether two programs are equal -/
def prEq (k : Nat) (ns : List Str) (rs : List LRow) (k2 : Nat) (ns2 : List Str) (rs2 : List LRow) : Bool := decide (k = k2) && PyData.eqv (namesD ns) (namesD ns2) && PyData.eqv (rowsD rs) (rowsD rs2)
end Lk

namespace Lk
open PySem PySem.Spec PyProof.Rows L2
/-! ### the well of a law: a list of three numbers; all else stays -/
def Wl (H : Hp) (p : Addr) : Prop := ∃ a b c : Int, H p = some (.lst [.int a, .int b, .int c])
def Wk (p : Addr) (H H' : Hp) : Prop := Bar p H H' ∧ Wl H' p
section
variable {K : PySem.W.Frag} {H H1 H2 : Hp} {p a : Addr} {xs : List V}
theorem Wl.same (w : Wl H p) (s : Same H H1) : Wl H1 p := by
  obtain ⟨a, b, c, h⟩ := w
  exact ⟨a, b, c, s _ _ h⟩
theorem Wk.refl (w : Wl H p) : Wk p H H := ⟨Bar.refl, w⟩
theorem Wk.of (w : Wl H p) (s : Same H H1) : Wk p H H1 := ⟨Bar.of s, w.same s⟩
theorem Wk.trans (s : Wk p H H1) (t : Wk p H1 H2) : Wk p H H2 := ⟨s.1.trans t.1, t.2⟩
theorem Wk.st (s : Wk p H H1) (t : Same H1 H2) : Wk p H H2 := s.trans (Wk.of s.2 t)
theorem Wk.at {b : Addr} {o : HO} (s : Wk p H H1) (n : b ≠ p) (h : H b = some o) : H1 b = some o := s.1 b o n h
theorem Wk.upd {x y z : Int} : Wk p H (upd H p (.lst [.int x, .int y, .int z])) := ⟨Bar.upd, x, y, z, upd_same⟩
theorem Wk.ts (w : Wl H p) (s : Wk p H H1) : Ts H H1 := by
  obtain ⟨x, y, z, h⟩ := w
  exact fun b ys e => s.1 b _ (fun q => by rw [q, h] at e; cases e) e
theorem Wk.none {q : Addr} (w : Wl H p) (s : Wk p H H1) (h : H1 q = none) : H q = none := by
  cases e : H q with
  | none => rfl
  | some o =>
    exfalso
    by_cases n : q = p
    · obtain ⟨x, y, z, hw⟩ := s.2
      rw [n, hw] at h
      cases h
    · rw [s.1 q o n e] at h
      cases h
theorem Wk.sqT (w : Wl H p) (s : Wk p H H1) (h : SqT K H a xs) : SqT K H1 a xs := by
  obtain ⟨x, y, z, hw⟩ := w
  rcases h with (e | ⟨o, e⟩) | e
  · exact .inl (.inl (s.1 _ _ (fun q => by rw [q, hw] at e; cases e) e))
  · exact .inl (.inr ⟨o, s.1 _ _ (fun q => by rw [q, hw] at e; cases e) e⟩)
  · exact .inr e
theorem Wk.updD {q : Addr} {o : HO} (s : Wk p H H1) (hq : H q = Option.none) (n : q ≠ p) : Wk p H (L2.upd H1 q o) := by
  refine ⟨fun b u m e => ?_, ?_⟩
  · rw [upd_ne (ne_of_none e hq)]
    exact s.1 b u m e
  · obtain ⟨x, y, z, h⟩ := s.2
    exact ⟨x, y, z, by rw [upd_ne (Ne.symm n)]; exact h⟩
theorem ne_well {q : Addr} {o : HO} (w : Wl H p) (h : H q = some o) (n : ∀ x y z : Int, o ≠ .lst [.int x, .int y, .int z]) : q ≠ p := fun e => by
  obtain ⟨x, y, z, hw⟩ := w
  rw [e, hw] at h
  exact n x y z (Option.some.inj h).symm
theorem ne_new {q : Addr} (w : Wl H p) (h : H q = none) : q ≠ p := fun e => by
  obtain ⟨x, y, z, hw⟩ := w
  rw [e, hw] at h
  cases h
theorem mul01 {r : Int} {k : Nat} (c : Bool) (h0 : 0 ≤ r) (h1 : r < 2 ^ k) : 0 ≤ r * (if c = true then 1 else 0) ∧ r * (if c = true then 1 else 0) < 2 ^ k := by
  cases c with
  | true => simpa using ⟨h0, h1⟩
  | false =>
    have p0 : (0 : Int) < 2 ^ k := Int.pow_pos (by decide)
    simpa using p0
theorem cmul01 {r : Int} (c : Bool) : CMul r (if c = true then 1 else 0) := by
  refine .inr ?_
  cases c <;> exact ⟨by decide, by decide⟩
theorem lt31 {r : Int} (h0 : 0 ≤ r) (h : r < 2 ^ (31 : Int).toNat) : r.natAbs < 2 ^ 40 := by
  have e : ((2 : Int) ^ (31 : Int).toNat) = 2147483648 := by decide
  rw [e] at h
  exact Nat.lt_of_lt_of_le (show r.natAbs < 2147483648 by omega) (by decide)
theorem spr {i j : Nat} {ta : TA} {D : Ends} {σ : L2.St} (q : ta σ H fun vs H' => ∃ x y, vs = [x, y] ∧ D.nx ((σ.set i (some x)).set j (some y)) H') : tPar i j ta D σ H := q
theorem sbm {T : String} {r : V → List V → Hp → VK → Prop} {to : TE} {t : TA} {σ : L2.St} {Q : VK} (q : to σ H fun x H1 => tyV K T x H1 ∧ t σ H1 fun xs H2 => r x xs H2 Q) : tBM K T r to t σ H Q := q
end
end Lk

namespace L2
open PySem PySem.Spec PyProof.Rows MeetsSeq MeetsSeq2 MeetsSeq3 SeqRoads2
open AutoSeq1 (wpAny_loadPart')
theorem tuple_mul1 (l : Addr) (items : Array Value) (n : Nat) (dd : Option Addr) (sl : Array (Option Value)) (x : Int) (u : Tok) (c0 : (decide (x < -(2 ^ 63)) || decide (x ≥ 2 ^ 63)) = false) (c1 : (items.isEmpty || x == 1) = true) :
    Meets (Builtin.«tuple.__mul__» ⟨[.ref l, .int x u], []⟩) (fun _ R s => s.heap.get? l = some { cls := .type "tuple", dict := dd, data := .seq items n, slots := sl } ∧ R (.ok (.ret (Value.ref l))) s) :=
  .of_wp fun prog w A R s h => by
    obtain ⟨hp, g, d, tk, os⟩ := s
    obtain ⟨hl, h⟩ := h
    have f1 := AutoSeq1.idx_int
    wp_walk using wpAny_loadPart' hl
    repeat (first
      | (refine wpAny_ite_false (decide_eq_false (by rw [c0]; exact Bool.false_ne_true)) ?_; wp_walk using wpAny_loadPart' hl)
      | (refine wpAny_ite_true (decide_eq_true c1) ?_; wp_walk using wpAny_loadPart' hl))
    exact ⟨_, rfl, h⟩
/-- t * k, k at least 1; t * 1 is t itself -/
def rRepN (K : PySem.W.Frag) : R2 := fun x y H Q => ∃ l k xs, x = .ref l ∧ y = .int k ∧ SqT K H l xs ∧ xs ≠ [] ∧ 1 ≤ k ∧ k ≤ 1000 ∧ xs.length ≤ 1000 ∧ (k = 1 → Q (.ref l) H) ∧ (2 ≤ k → ∀ p, H p = none → Q (.ref p) (upd H p (.tup (List.replicate k.toNat xs).flatten)))
theorem op_repN {X : Cx} : OpR X (binaryOp .Mult) (rRepN X.K) := by
  intro pins s σ H x y v u Q I rx ry h
  obtain ⟨l, k, xs, rfl, rfl, hT, hne, h1, h2, hz, q1, q2⟩ := h
  by_cases hk : k = 1
  · subst hk
    cases rx
    obtain ⟨t, rfl⟩ := ry
    obtain ⟨its, r, ⟨⟨cls, dd, data, sl⟩, ho, hc, n, hd⟩, hs⟩ := I.tuple hT
    simp only at hc hd
    subst hc hd
    have c0 : (decide ((1 : Int) < -(2 ^ 63)) || decide ((1 : Int) ≥ 2 ^ 63)) = false := by decide
    have c1 : (its.toArray.isEmpty || (1 : Int) == 1) = true := by
      rw [show ((1 : Int) == 1) = true from rfl, Bool.or_true]
    exact wpAny_binaryOp_repeat_ref (T := "tuple") (U := "int") (by decide) ⟨_, ho, rfl⟩ (fun s' => typeIs_int s' 1 t) noFill_tuple_mul F.fills_int_mul F.slot_int_rmul repeat_tuple F.slot_int_index.lookup
      (call_meets F.slot_int_rmul (typeIs_int s 1 t) F.entry_int_rmul (F.args_int_rmul_2 _ _) (int_rmul_tuple 1 t l its.toArray n dd sl)
        ⟨ho, rfl, ⟨_, ho, rfl⟩, call_meets F.slot_tuple_mul ⟨_, ho, rfl⟩ F.entry_tuple_mul (F.args_tuple_mul_2 _ _) (tuple_mul1 l its.toArray n dd sl 1 t c0 c1) ⟨ho, .ref l, H, I, rfl, q1 rfl⟩⟩)
  · exact op_repT pins s σ H _ _ v u Q I rx ry ⟨l, k, xs, rfl, rfl, hT, hne, by omega, h2, hz, q2 (by omega)⟩
end L2
namespace Lk
open PySem PySem.Spec PyProof.Rows L2
theorem sifx {tc : TT} {ta tb : TE} {σ : L2.St} {H : Hp} {Q : VK} (q : tc σ H fun c H1 => if c = true then ta σ H1 Q else tb σ H1 Q) : tIf tc ta tb σ H Q := q
theorem flat_rep {α : Type} (x : α) : ∀ n : Nat, (List.replicate n [x]).flatten = List.replicate n x
  | 0 => rfl
  | n + 1 => by rw [List.replicate_succ, List.flatten_cons, flat_rep x n, List.replicate_succ]; rfl
theorem one_lt_pow {k : Nat} (h : 1 ≤ k) : (1 : Int) < 2 ^ k := by
  obtain ⟨j, rfl⟩ : ∃ j, k = j + 1 := ⟨k - 1, by omega⟩
  have p0 : (0 : Int) < 2 ^ j := Int.pow_pos (by decide)
  rw [Int.pow_succ]
  omega
theorem s_repN {K : PySem.W.Frag} {H : Hp} {l : Addr} {x : V} {n : Nat} {Q : VK} (h : SqT K H l [x]) (h1 : 1 ≤ n) (h2 : n ≤ 1000) (q : ∀ p H', Same H H' → SqT K H' p (List.replicate n x) → Q (.ref p) H') : rRepN K (.ref l) (.int (n : Int)) H Q := by
  refine ⟨l, n, [x], rfl, rfl, h, by simp, by omega, by omega, by simp, fun e => ?_, fun _ p hp => ?_⟩
  · have e1 : n = 1 := by omega
    subst e1
    exact q l H (Same.refl H) h
  · refine q p _ (same_new hp) (SqT.of ?_)
    rw [upd_same, Int.toNat_natCast, flat_rep]
theorem s_catA {K : PySem.W.Frag} {H : Hp} {a b : Addr} {xs ys : List V} {Q : VK} (h : SqT K H a xs) (h' : SqT K H b ys) (hx : xs ≠ []) (hy : ys ≠ []) (hl : xs.length + ys.length ≤ 1000) (q : ∀ p, H p = none → Q (.ref p) (upd H p (.tup (xs ++ ys)))) : rCatA K (.ref a) (.ref b) H Q :=
  ⟨a, b, xs, ys, rfl, rfl, h, h', Nat.le_of_lt (small1000 hl), fun e => absurd e hx, fun _ e => absurd e hy, fun _ _ => q⟩
end Lk

namespace Lk
open PySem PySem.Spec PyProof.Rows L2
mutual
def nbD : PyData → Bool
  | .none | .int _ | .str _ => true
  | .list xs | .tuple xs => nbAll xs
  | .bool _ | .dict _ => false
def nbAll : List PyData → Bool
  | [] => true
  | x :: xs => nbD x && nbAll xs
end
mutual
theorem eqv_eq : ∀ d e : PyData, nbD d = true → nbD e = true → PyData.eqv d e = true → d = e
  | .none, .none, _, _, _ => rfl
  | .int i, .int j, _, _, h => by
    rw [PyData.eqv] at h
    rw [eq_of_beq h]
  | .str x, .str y, _, _, h => by
    rw [PyData.eqv] at h
    rw [eq_of_beq h]
  | .list xs, .list ys, h1, h2, h => by
    rw [PyData.eqv] at h
    rw [nbD] at h1 h2
    rw [eqvAll_eq xs ys h1 h2 h]
  | .tuple xs, .tuple ys, h1, h2, h => by
    rw [PyData.eqv] at h
    rw [nbD] at h1 h2
    rw [eqvAll_eq xs ys h1 h2 h]
  | .bool _, _, h1, _, _ => by rw [nbD] at h1; cases h1
  | .dict _, _, h1, _, _ => by rw [nbD] at h1; cases h1
  | _, .bool _, _, h1, _ => by rw [nbD] at h1; cases h1
  | _, .dict _, _, h1, _ => by rw [nbD] at h1; cases h1
  | .none, .int _, _, _, h | .none, .str _, _, _, h | .none, .list _, _, _, h | .none, .tuple _, _, _, h => by rw [PyData.eqv] at h; cases h
  | .int _, .none, _, _, h | .int _, .str _, _, _, h | .int _, .list _, _, _, h | .int _, .tuple _, _, _, h => by rw [PyData.eqv] at h; cases h
  | .str _, .none, _, _, h | .str _, .int _, _, _, h | .str _, .list _, _, _, h | .str _, .tuple _, _, _, h => by rw [PyData.eqv] at h; cases h
  | .list _, .none, _, _, h | .list _, .int _, _, _, h | .list _, .str _, _, _, h | .list _, .tuple _, _, _, h => by rw [PyData.eqv] at h; cases h
  | .tuple _, .none, _, _, h | .tuple _, .int _, _, _, h | .tuple _, .str _, _, _, h | .tuple _, .list _, _, _, h => by rw [PyData.eqv] at h; cases h
theorem eqvAll_eq : ∀ xs ys : List PyData, nbAll xs = true → nbAll ys = true → PyData.eqvAll xs ys = true → xs = ys
  | [], [], _, _, _ => rfl
  | x :: xs, y :: ys, h1, h2, h => by
    rw [PyData.eqvAll, Bool.and_eq_true] at h
    rw [nbAll, Bool.and_eq_true] at h1 h2
    rw [eqv_eq x y h1.1 h2.1 h.1, eqvAll_eq xs ys h1.2 h2.2 h.2]
  | [], _ :: _, _, _, h => by rw [PyData.eqvAll] at h; cases h
  | _ :: _, [], _, _, h => by rw [PyData.eqvAll] at h; cases h
end
theorem nb_map {α : Type} {f : α → PyData} (h : ∀ x, nbD (f x) = true) : ∀ xs : List α, nbAll (xs.map f) = true
  | [] => by simp [nbAll]
  | x :: xs => by
    rw [List.map_cons, nbAll, h x, nb_map h xs]
    rfl
theorem nb_ints (f : List Int) : nbD (intsD f) = true := by
  unfold intsD
  rw [nbD]
  exact nb_map (fun _ => by rw [nbD]) f
theorem nb_row (r : LRow) : nbD r.d = true := by
  cases r with
  | set n f k => have := nb_ints f; simp [LRow.d, nbD, nbAll, this]
  | say f k => have := nb_ints f; simp [LRow.d, nbD, nbAll, this]
  | choose ks => have := nb_ints ks; simp [LRow.d, nbD, nbAll, this]
  | _ => simp [LRow.d, nbD, nbAll]
theorem intsD_inj {f g : List Int} (h : intsD f = intsD g) : f = g := by
  unfold intsD at h
  have h1 := PyData.tuple.inj h
  exact (List.map_inj_right (fun _ _ e => PyData.int.inj e)).mp h1
def LRow.kind : LRow → Str
  | .set .. => "set"
  | .say .. => "say"
  | .ask .. => "ask"
  | .choose .. => "choose"
  | .look .. => "look"
  | .stop => "stop"
theorem kind_of {r s : LRow} (h : r.d = s.d) : r.kind = s.kind := by
  have e : ∀ r : LRow, ∃ l, r.d = .tuple (.str r.kind :: l) := fun r => by cases r <;> exact ⟨_, rfl⟩
  obtain ⟨l, hl⟩ := e r
  obtain ⟨m, hm⟩ := e s
  rw [hl, hm] at h
  have h1 := PyData.tuple.inj h
  injection h1 with h2 _
  exact PyData.str.inj h2
theorem row_inj {r s : LRow} (h : r.d = s.d) : r = s := by
  have hk := kind_of h
  cases r with
  | set n f k =>
    cases s with
    | set n' f' k' =>
      have h1 := PyData.tuple.inj h
      injection h1 with _ h1
      injection h1 with h2 h1
      injection h1 with h3 h1
      injection h1 with h4 _
      rw [PyData.str.inj h2, intsD_inj h3, PyData.int.inj h4]
    | _ => exact absurd hk (by simp only [LRow.kind]; decide +kernel)
  | say f k =>
    cases s with
    | say f' k' =>
      have h1 := PyData.tuple.inj h
      injection h1 with _ h1
      injection h1 with h3 h1
      injection h1 with h4 _
      rw [intsD_inj h3, PyData.int.inj h4]
    | _ => exact absurd hk (by simp only [LRow.kind]; decide +kernel)
  | ask n k =>
    cases s with
    | ask n' k' =>
      have h1 := PyData.tuple.inj h
      injection h1 with _ h1
      injection h1 with h2 h1
      injection h1 with h4 _
      rw [PyData.str.inj h2, PyData.int.inj h4]
    | _ => exact absurd hk (by simp only [LRow.kind]; decide +kernel)
  | choose ks =>
    cases s with
    | choose ks' =>
      have h1 := PyData.tuple.inj h
      injection h1 with _ h1
      injection h1 with h3 _
      rw [intsD_inj h3]
    | _ => exact absurd hk (by simp only [LRow.kind]; decide +kernel)
  | look k =>
    cases s with
    | look k' =>
      have h1 := PyData.tuple.inj h
      injection h1 with _ h1
      injection h1 with h4 _
      rw [PyData.int.inj h4]
    | _ => exact absurd hk (by simp only [LRow.kind]; decide +kernel)
  | stop =>
    cases s with
    | stop => rfl
    | _ => exact absurd hk (by simp only [LRow.kind]; decide +kernel)
theorem rows_eqv {rs qs : List LRow} (h : PyData.eqv (rowsD rs) (rowsD qs) = true) : rs = qs := by
  have e := eqv_eq _ _ (by unfold rowsD; rw [nbD]; exact nb_map nb_row rs) (by unfold rowsD; rw [nbD]; exact nb_map nb_row qs) h
  unfold rowsD at e
  exact (List.map_inj_right (fun _ _ e => row_inj e)).mp (PyData.tuple.inj e)
theorem names_eqv {ns ms : List Str} (h : PyData.eqv (namesD ns) (namesD ms) = true) : ns = ms := by
  have e := eqv_eq _ _ (by unfold namesD; rw [nbD]; exact nb_map (fun _ => by rw [nbD]) ns) (by unfold namesD; rw [nbD]; exact nb_map (fun _ => by rw [nbD]) ms) h
  unfold namesD at e
  exact (List.map_inj_right (fun _ _ e => PyData.str.inj e)).mp (PyData.tuple.inj e)
theorem row_eqv {r s : LRow} (h : PyData.eqv r.d s.d = true) : r = s := row_inj (eqv_eq _ _ (nb_row r) (nb_row s) h)
theorem prEq_iff {k : Nat} {ns : List Str} {rs : List LRow} {k2 : Nat} {ns2 : List Str} {rs2 : List LRow} (h : prEq k ns rs k2 ns2 rs2 = true) : k = k2 ∧ ns = ns2 ∧ rs = rs2 := by
  unfold prEq at h
  rw [Bool.and_eq_true, Bool.and_eq_true] at h
  exact ⟨of_decide_eq_true h.1.1, names_eqv h.1.2, rows_eqv h.2⟩
theorem names_refl {ns : List Str} (hn : ∀ n ∈ ns, nameS n = true) : PyData.eqv (namesD ns) (namesD ns) = true := SeqAt.eqv_refl _ (SeqAt.canLay_of_shaped (shaped_names hn))
theorem rows_refl {rs : List LRow} (h : ∀ r ∈ rs, RowNm r) : PyData.eqv (rowsD rs) (rowsD rs) = true := SeqAt.eqv_refl _ (SeqAt.canLay_of_shaped (shaped_rows h))
theorem prEq_refl {k : Nat} {ns : List Str} {rs : List LRow} (hn : ∀ n ∈ ns, nameS n = true) (h : ∀ r ∈ rs, RowNm r) : prEq k ns rs k ns rs = true := by
  unfold prEq
  rw [decide_eq_true rfl, names_refl hn, rows_refl h]
  rfl
section
variable {K : PySem.W.Frag} {H : Hp} {b : Addr} {xs : List V} {x : V} {Q : VK}
/-- t[:-1] -/
theorem s_butlast (hb : SqT K H b (xs ++ [x])) (q : ∀ p, H p = none → Q (.ref p) (upd H p (.tup xs))) : rSlA K (.ref b) none (some (-1)) H Q := by
  have hl : (xs ++ [x]).length = xs.length + 1 := by rw [List.length_append]; rfl
  have e1 : HT.sIx (xs ++ [x]).length (xs ++ [x]).length (some (-1)) = xs.length := by
    show (if (-1 : Int) < 0 then ((-1 : Int) + ((xs ++ [x]).length : Int)).toNat else min (-1 : Int).toNat (xs ++ [x]).length) = _
    rw [if_pos (by decide), hl]
    omega
  have e0 : HT.sIx (xs ++ [x]).length 0 none = 0 := rfl
  refine ⟨b, xs ++ [x], rfl, hb, fun z => ?_, fun _ p hp => ?_⟩
  · have := z.2
    rw [e1, hl] at this
    omega
  · have e2 : cutV (xs ++ [x]) none (some (-1)) = xs := by
      unfold cutV
      rw [e0, e1]
      simp
    rw [e2]
    exact q p hp
theorem atI_last {α : Type} {xs : List α} {x : α} : atI (xs ++ [x]) (-1) = some x := by
  unfold atI ixN
  have hl : (xs ++ [x]).length = xs.length + 1 := by rw [List.length_append]; rfl
  rw [if_neg (by decide), hl, if_pos (by omega)]
  have e : ((-1 : Int) + ((xs.length + 1 : Nat) : Int)).toNat = xs.length := by omega
  show (xs ++ [x])[((-1 : Int) + ((xs.length + 1 : Nat) : Int)).toNat]? = some x
  rw [e]
  simp
end
theorem bump {z : Int} {k : Nat} (k1 : 1 ≤ k) (h0 : 0 ≤ z) (h1 : z < 2 ^ k) : (z + 1) % 2 ^ k ≠ z := fun h => by
  have p1 := one_lt_pow k1
  by_cases e : z + 1 < 2 ^ k
  · rw [Int.emod_eq_of_lt (by omega) e] at h
    omega
  · have e2 : z + 1 = 2 ^ k := by omega
    rw [e2, Int.emod_self] at h
    omega
end Lk

namespace Lk
open PySem PySem.Spec PyProof.Rows L2
section
variable {K : PySem.W.Frag} {H : Hp} {σ : L2.St} {a p : Addr} {xs : List V}
theorem cut_takeLe {i : Nat} (hi : i ≤ xs.length) : cutV xs none (some (i : Int)) = xs.take i := by
  unfold cutV
  rw [HT.sIx_nat, show HT.sIx xs.length 0 none = 0 from rfl, Nat.min_eq_left hi]
  simp
theorem cut_drop {i : Nat} (hi : i ≤ xs.length) : cutV xs (some (i : Int)) none = xs.drop i := by
  unfold cutV
  rw [HT.sIx_nat, show HT.sIx xs.length xs.length none = xs.length from rfl, Nat.min_eq_left hi]
  rw [List.take_of_length_le (by rw [List.length_drop]; omega)]
/-- [f(well, row, ..) for row in rows]: the well is drawn from -/
theorem tlc_rowsW {rs : List LRow} {j k : Nat} {te : TE} {vs : List Nat} {Q : VK} (R : LRow → LRow → Prop) (w : Wl H p) (np : a ≠ p) (hj : σ[j]? = some (some (.ref a))) (hx : H a = some (.lst xs)) (hr : RowsH H xs rs) (h3 : xs.length ≤ 1000)
    (hw : ∀ x, wipe ((wipe σ vs).set k (some x)) vs = wipe σ vs)
    (he : ∀ (i : Nat) (x : V) (r : LRow) (H' : Hp), rs[i]? = some r → RowH H' x r → Wk p H H' → ∀ S : VK, (∀ u r' H'', Wk p H' H'' → RowH H'' u r' → R r r' → S u H'') → te ((wipe σ vs).set k (some x)) H' S)
    (q : ∀ D ys qs H', Wk p H H' → H D = none → H' D = some (.lst ys) → RowsH H' ys qs → qs.length = rs.length → (∀ (i : Nat) r, rs[i]? = some r → ∃ r', qs[i]? = some r' ∧ R r r') → Q (.ref D) H') : tLc (iList K (tVar j)) (gName k) tYes te vs σ H Q := by
  have hlen := hr.len
  refine ⟨_, hj, a, rfl, ⟨xs, SqL.of hx⟩, fun D hD => ?_⟩
  have nD : D ≠ p := ne_new w hD
  refine lc_list (xs := xs) (fun i H' => Wk p H H' ∧ ∃ ys qs, H' D = some (.lst ys) ∧ RowsH H' ys qs ∧ qs.length = i ∧ ∀ (n : Nat) r, n < i → rs[n]? = some r → ∃ r', qs[n]? = some r' ∧ R r r') ⟨Wk.of w (same_new hD), [], [], upd_same, .nil, rfl, fun n r h _ => by omega⟩ (fun i H' _ h => SqL.of (h.1.at np hx)) (fun i x H' hi h => ?_) (fun H' h => ?_)
  · obtain ⟨w1, ys, qs, h1, h2, h4, h5⟩ := h
    obtain ⟨r, hri, hrv⟩ := hr.at hi
    refine ⟨hw _, ?_⟩
    unfold tYes
    simp only [if_true]
    refine he i x r H' hri (hrv.ts (w1.ts w)) w1 _ fun u r' H2 w2 hu hR => ?_
    have e2 := w2.at nD h1
    have t2 : Ts H2 (upd H2 D (.lst (ys ++ [u]))) := Ts.lst e2
    have hi' : i < xs.length := (List.getElem?_eq_some_iff.mp hi).1
    refine ⟨ys, e2, by rw [h2.len, h4]; exact small1000 (by omega), (w1.trans w2).updD hD nD, ys ++ [u], qs ++ [r'], upd_same, ((h2.ts (w2.ts w1.2)).ts t2).append (.cons (hu.ts t2) .nil), by rw [List.length_append, h4]; rfl, fun n r0 hn hr0 => ?_⟩
    by_cases hni : n < i
    · obtain ⟨r1, g1, g2⟩ := h5 n r0 hni hr0
      exact ⟨r1, by rw [List.getElem?_append_left (by omega)]; exact g1, g2⟩
    · have : n = i := by omega
      subst this
      rw [hri] at hr0
      cases hr0
      exact ⟨r', by rw [List.getElem?_append_right (by omega), h4]; simp, hR⟩
  · obtain ⟨w1, ys, qs, h1, h2, h4, h5⟩ := h
    rw [hlen] at h4 h5
    exact q D ys qs H' w1 hD h1 h2 h4 fun n r hr' => h5 n r (List.getElem?_eq_some_iff.mp hr').1 hr'
end
/-! ### lists may change, all else stays -/
def Lc (H H' : Hp) : Prop := ∀ b o, H b = some o → (∀ ys, o ≠ .lst ys) → H' b = some o
section
variable {K : PySem.W.Frag} {H H1 H2 : Hp} {p : Addr}
theorem Lc.of (s : Same H H1) : Lc H H1 := fun b o e _ => s b o e
theorem Lc.trans (s : Lc H H1) (t : Lc H1 H2) : Lc H H2 := fun b o e n => t b o (s b o e n) n
theorem Lc.wk (w : Wl H p) (s : Wk p H H1) : Lc H H1 := fun b o e n => s.1 b o (fun z => by
  obtain ⟨x, y, z', h⟩ := w
  rw [z, h] at e
  exact n _ (Option.some.inj e).symm) e
theorem Lc.upd {q : Addr} {xs : List V} {o : HO} (h : H q = some (.lst xs)) : Lc H (L2.upd H q o) := fun b u e n => by
  rw [upd_ne (fun z => by rw [z, h] at e; exact n _ (Option.some.inj e).symm)]
  exact e
theorem Lc.ts (s : Lc H H1) : Ts H H1 := fun a xs e => s a _ e (fun _ z => by cases z)
theorem Lc.sqT {a : Addr} {xs : List V} (s : Lc H H1) (h : SqT K H a xs) : SqT K H1 a xs := by
  rcases h with (e | ⟨o, e⟩) | e
  · exact .inl (.inl (s _ _ e (fun _ z => by cases z)))
  · exact .inl (.inr ⟨o, s _ _ e (fun _ z => by cases z)⟩)
  · exact .inr e
theorem ProgO.lc {C x : Addr} {k : Nat} {ns : List Str} {rs : List LRow} (s : Lc H H1) (h : ProgO K C H x k ns rs) : ProgO K C H1 x k ns rs := by
  obtain ⟨dx, tv, tr, vs, h1, h2, h3, h4⟩ := h
  exact ⟨dx, tv, tr, vs, s _ _ h1 (fun _ z => by cases z), s.sqT h2, s.sqT h3, h4.ts s.ts⟩
theorem good_low {k : Nat} : ∀ {rs : List LRow}, (∀ r ∈ rs, r.low k = r) → rs.map (·.low k) = rs
  | [], _ => rfl
  | r :: rs, h => by
    rw [List.map_cons, h r (List.mem_cons_self ..), good_low fun q hq => h q (List.mem_cons_of_mem _ hq)]
theorem RowsH.take : ∀ {vs : List V} {rs : List LRow} {n : Nat}, RowsH H vs rs → RowsH H (vs.take n) (rs.take n)
  | _, _, 0, _ => by simpa using RowsH.nil
  | _, _, n + 1, .nil => by simpa using RowsH.nil
  | _, _, n + 1, .cons h t => by
    rw [List.take_succ_cons, List.take_succ_cons]
    exact .cons h (RowsH.take (n := n) t)
theorem RowsH.drop : ∀ {vs : List V} {rs : List LRow} {n : Nat}, RowsH H vs rs → RowsH H (vs.drop n) (rs.drop n)
  | _, _, 0, h => h
  | _, _, n + 1, .nil => by simpa using RowsH.nil
  | _, _, n + 1, .cons h t => by
    rw [List.drop_succ_cons, List.drop_succ_cons]
    exact RowsH.drop (n := n) t
theorem snxd {u b c : L2.St → Hp → Prop} {r : VK} {σ : L2.St} (q : u σ H) : Ends.nx ⟨u, r, b, c⟩ σ H := q
/-- the rest once for all ways through a statement that stores nothing -/
theorem ss_cont {t u : TS} {D : Ends} {σ : L2.St} (I : Hp → Prop) (h1 : ∀ H', I H' → u D σ H') (h2 : (∀ H', I H' → u D σ H') → t { D with nx := u D } σ H) : tSeq t u D σ H := h2 h1
/-- width, variables, rows as one tuple -/
def triD (k : Nat) (ns : List Str) (rs : List LRow) : PyData := .tuple [.int (k : Int), namesD ns, rowsD rs]
theorem shaped_tri {k : Nat} {ns : List Str} {rs : List LRow} (hn : ∀ n ∈ ns, nameS n = true) (hr : ∀ r ∈ rs, RowNm r) : SeqAt.shaped (triD k ns rs) = true := by
  have h1 := SeqAt.canLay_of_shaped (shaped_names hn)
  have h2 := SeqAt.canLay_of_shaped (shaped_rows hr)
  have d1 : (namesD ns).depth ≤ 1 := by
    unfold namesD
    rw [PyData.depth]
    have := dep_map (f := PyData.str) (n := 0) (xs := ns) fun r _ => by simp [PyData.depth]
    omega
  have d2 : (rowsD rs).depth ≤ 3 := by
    unfold rowsD
    rw [PyData.depth]
    have := dep_map (f := LRow.d) (n := 2) (xs := rs) fun r _ => row_dep r
    omega
  unfold SeqAt.shaped triD
  rw [Bool.and_eq_true]
  constructor
  · simp [PyData.canLay0, PyData.canLayAll0, h1, h2]
  · refine decide_eq_true ?_
    simp only [PyData.depth, PyData.depthAll]
    omega
theorem tri_dp {a t v : Addr} {k : Nat} {ns : List Str} {rs : List LRow} {us : List V} (ha : H a = some (.tup [.int (k : Int), .ref t, .ref v])) (h1 : SqT K H t (ns.map V.str)) (h2 : SqT K H v us) (h3 : RowsH H us rs) : Dp K H (.ref a) (triD k ns rs) :=
  .tup (SqT.of ha) (.cons (.int _) (.cons (.tup h1 (dp_strs ns)) (.cons (.tup h2 h3.dt.dp) .nil)))
end
end Lk

namespace K01
open PySem PySem.Spec PyProof.Rows L2 Lk
local macro_rules | `(tactic| walk_at "lk") => `(tactic| (repeat (first
  | with_reducible refine ssq ?_ | with_reducible refine sas ?_ | with_reducible refine sgn ?_ | ((with_reducible show tVar _ _ _ _); refine sv rfl ?_) | with_reducible refine sc ?_ | with_reducible refine sop ?_ | with_reducible refine sun ?_
  | with_reducible refine sI0 ?_ | with_reducible refine sU ?_ | with_reducible refine stt ?_ | with_reducible refine stB ?_ | with_reducible refine sbl ?_ | with_reducible refine snt ?_ | with_reducible refine sif ?_ | with_reducible refine scB ?_
  | with_reducible refine scn ?_ | with_reducible refine snl ?_ | with_reducible refine scl ?_ | with_reducible refine stu ?_ | with_reducible refine sli ?_ | with_reducible refine sdr ?_ | with_reducible refine srt ?_ | with_reducible refine snx ?_ | with_reducible refine sfor ?_ | with_reducible refine sils ?_ | with_reducible refine sien ?_ | with_reducible refine sor ?_ | with_reducible refine sfg ?_
  | with_reducible refine sav ?_ | with_reducible refine sov ?_ | with_reducible refine snv ?_ | with_reducible refine sch ?_ | with_reducible refine san ?_ | with_reducible refine ssll ?_ | with_reducible refine spt ?_ | with_reducible refine snp ?_ | with_reducible refine sin ?_ | with_reducible refine sfl ?_ | with_reducible refine sfd ?_
  | ((with_reducible show Or _ _); first | refine Or.inl ⟨_, rfl, ?_⟩ | refine Or.inr ⟨_, rfl, ?_⟩))))

def top (i : Nat) : Stmt := PySem.Challenge.pw_leastkeep_k01_programs_made.main.body.getD i (.Pass ⟨0, 0, 0, 0⟩)
/-- the classes -/
structure Ad where
  NoProgram : Addr
  NoRow : Addr
  Program : Addr
structure Txt (P : Program) (w : World) (K : PySem.W.Frag) (mg : Str → Option Value) (base : Heap) (A : Ad) : Prop where
  z_int : mg "int" = none
  z_bool : mg "bool" = none
  z_str : mg "str" = none
  z_list : mg "list" = none
  z_tuple : mg "tuple" = none
  z_len : mg "len" = none
  z_isinstance : mg "isinstance" = none
  z_range : mg "range" = none
  z_enumerate : mg "enumerate" = none
  z_all : mg "all" = none
  z_TypeError : mg "TypeError" = none
  g_NoProgram : mg "NoProgram" = some (.ref A.NoProgram)
  g_NoRow : mg "NoRow" = some (.ref A.NoRow)
  g_Program : mg "Program" = some (.ref A.Program)
  c_Program : Cls K A.Program
  i_cls : PySem.W.findIn K (.ref A.Program) "__class__" = some (some (.builtin "object.__class__"))
  i_get : PySem.W.specialIn K (.builtin "object.__class__") "__get__" = some (some (.builtin "getset_descriptor.__get__"))
  i_tk : PySem.W.takesIn K (.builtin "object.__class__") = some true
  i_mro : PySem.W.mroIn K A.Program (.type "object") = some true
  i_self : PySem.W.kitOne K (.ref A.Program) (.ref A.Program) = some true
  i_tup : PySem.W.kitOne K (.type "tuple") (.ref A.Program) = some false
  o_nf : PySem.W.notFirst K A.Program (.type "tuple") = true
  o_ne : PySem.W.findIn K (.ref A.Program) "__ne__" = some (some (.builtin "object.__ne__"))
  n_width : NoAttr K A.Program "width"
  n_variables : NoAttr K A.Program "variables"
  n_rows : NoAttr K A.Program "rows"
  g_WIDEST : ∃ t, mg "WIDEST" = some (.int 64 t)
  g_MOST_VARIABLES : ∃ t, mg "MOST_VARIABLES" = some (.int 6 t)
  g_MOST_ROWS : ∃ t, mg "MOST_ROWS" = some (.int 25 t)
  g_MOST_NEXTS : ∃ t, mg "MOST_NEXTS" = some (.int 6 t)
  g_LONGEST_NAME : ∃ t, mg "LONGEST_NAME" = some (.int 8 t)
/-! ### promises of leastkeep.values, leastkeep.graphs -/
def spIsInt (K : PySem.W.Frag) : Sp := fun vs H Q _ => ∃ v d, vs = [v] ∧ Dp K H v d ∧ Q (.bl (isIntD d)) H
def spWithin (K : PySem.W.Frag) : Sp := fun vs H Q _ => ∃ v d a b, vs = [v, .int a, .int b] ∧ Dp K H v d ∧ Q (.bl (withinD d a b)) H
def spWidth (K : PySem.W.Frag) : Sp := fun vs H Q _ => ∃ v d, vs = [v] ∧ Dp K H v d ∧ Q (.bl (withinD d 1 64)) H
def spSeq (K : PySem.W.Frag) : Sp := fun vs H Q _ => ∃ v d a b, vs = [v, .int a, .int b] ∧ Dp K H v d ∧ ∀ H', Same H H' → Q (.bl (seqD d a b)) H'
def spAreInts (K : PySem.W.Frag) : Sp := fun vs H Q _ => ∃ v ds, vs = [v] ∧ Dp K H v (.tuple ds) ∧ ds.length ≤ 1000 ∧ ∀ H', Same H H' → Q (.bl (ds.all isIntD)) H'
def spForm (K : PySem.W.Frag) : Sp := fun vs H Q _ => ∃ v d n, vs = [v, .int n] ∧ Dp K H v d ∧ n ≤ 900 ∧ ∀ H', Same H H' → Q (.bl (formD d n)) H'
def spLow (K : PySem.W.Frag) : Sp := fun vs H Q _ => ∃ (a : Addr) (xs : List Int) (k : Nat), vs = [.ref a, .int (k : Int)] ∧ SqT K H a (xs.map V.int) ∧ xs.length ≤ 1000 ∧ k ≤ 64 ∧ ∀ p H', Same H H' → H p = none → H' p = some (.tup (xs.map fun x => V.int (x % 2 ^ k))) → Q (.ref p) H'
def spNexts (K : PySem.W.Frag) : Sp := fun vs H Q _ => ∃ v d a b m, vs = [v, .int a, .int b, .int m] ∧ Dp K H v d ∧ b ≤ 900 ∧ ∀ H', Same H H' → Q (.bl (nextsD d a b m)) H'
section
variable {P : Program} {w : World} {K : PySem.W.Frag} {mg : Str → Option Value} {base : Heap} {A : Ad}
abbrev s_is_integer : Stmt := top 6
theorem sc_is_integer : FnScope ["value"] ["value"] (defScope s_is_integer) := ⟨rfl, rfl, rfl, by decide +kernel, rfl, by decide +kernel, by decide +kernel⟩
theorem ok_is_integer {f : Addr} {fd : FuncData} (F : Fun K "is_integer" "is_integer" s_is_integer f fd) (T : Txt P w K mg base A) : FnOk P w K mg base CX0 1 f fd ["value"] (spIsInt K) := by
  refine F.ok sc_is_integer (fun vs H Q E h => ?_) (fun cdv Ar outer s H vs Q E hr h => ?_)
  · obtain ⟨v, d, rfl, _⟩ := h
    rfl
  · obtain ⟨v, d, rfl, hd, k⟩ := h
    refine ⟨_, (pss_one (ps_ret (pe_and (pe_callB call_isi (by rfl) T.z_isinstance (by decide +kernel) (pa_cons (pv 0) (pa_cons (pe_bltn (v := .ty "int") (by rfl) T.z_int (by first | exact PySem.boot_int | decide +kernel) rfl) pa_nil))) (pe_one (pe_not (pe_callB call_isi (by rfl) T.z_isinstance (by decide +kernel) (pa_cons (pv 0) (pa_cons (pe_bltn (v := .ty "bool") (by rfl) T.z_bool (by first | exact PySem.boot_bool | decide +kernel) rfl) pa_nil)))))))), ?_⟩
    walk_at "lk"
    refine s_isi hd (ki_int d) ?_
    walk_at "lk"
    cases d with
    | int i =>
      refine ite2 (fun _ => ?_) (fun z => absurd rfl z)
      walk_at "lk"
      refine s_isi hd (ki_bool _) ?_
      walk_at "lk"
      exact k
    | bool b =>
      refine ite2 (fun _ => ?_) (fun z => absurd rfl z)
      walk_at "lk"
      refine s_isi hd (ki_bool _) ?_
      walk_at "lk"
      exact k
    | _ => exact k
abbrev s_is_within : Stmt := top 7
theorem sc_is_within : FnScope ["value", "least", "most"] ["value", "least", "most"] (defScope s_is_within) := ⟨rfl, rfl, rfl, by decide +kernel, rfl, by decide +kernel, by decide +kernel⟩
theorem ok_is_within {f : Addr} {fd : FuncData} (F : Fun K "is_within" "is_within" s_is_within f fd) (T : Txt P w K mg base A) (c_is_integer : Cal P w K mg base 1 "is_integer" ["value"] (spIsInt K)) : FnOk P w K mg base CX0 2 f fd ["value", "least", "most"] (spWithin K) := by
  refine F.ok sc_is_within (fun vs H Q E h => ?_) (fun cdv Ar outer s H vs Q E hr h => ?_)
  · obtain ⟨v, d, a, b, rfl, _⟩ := h
    rfl
  · obtain ⟨v, d, a, b, rfl, hd, k⟩ := h
    refine ⟨_, (pss_one (ps_ret (pe_and (pcal c_is_integer hr (by decide) (pa_cons (pv 0) pa_nil)) (pe_one (pe_chain op_le op_le (pv 1) (pv 0) (pv 2)))))), ?_⟩
    walk_at "lk"
    refine ⟨v, d, rfl, hd, ?_⟩
    walk_at "lk"
    cases d with
    | int i =>
      cases hd
      refine ite2 (fun _ => ?_) (fun z => absurd rfl z)
      walk_at "lk"
      by_cases ha : a ≤ i
      · have e : withinD (.int i) a b = decide (i ≤ b) := by simp [withinD, ha]
        rw [e] at k
        rw [if_pos (decide_eq_true ha)]
        walk_at "lk"
        exact k
      · have e : withinD (.int i) a b = false := by simp [withinD, ha]
        rw [e] at k
        rw [if_neg (by simpa using ha)]
        exact k
    | _ => exact k
abbrev s_is_width : Stmt := top 8
theorem sc_is_width : FnScope ["value"] ["value"] (defScope s_is_width) := ⟨rfl, rfl, rfl, by decide +kernel, rfl, by decide +kernel, by decide +kernel⟩
theorem ok_is_width {f : Addr} {fd : FuncData} (F : Fun K "is_width" "is_width" s_is_width f fd) (T : Txt P w K mg base A) (c_is_within : Cal P w K mg base 2 "is_within" ["value", "least", "most"] (spWithin K)) : FnOk P w K mg base CX0 3 f fd ["value"] (spWidth K) := by
  refine F.ok sc_is_width (fun vs H Q E h => ?_) (fun cdv Ar outer s H vs Q E hr h => ?_)
  · obtain ⟨v, d, rfl, _⟩ := h
    rfl
  · obtain ⟨v, d, rfl, hd, k⟩ := h
    refine ⟨_, (pss_one (ps_ret (pcal c_is_within hr (by decide) (pa_cons (pv 0) (pa_cons pe_int (pa_cons (pe_gint (by rfl) T.g_WIDEST) pa_nil)))))), ?_⟩
    walk_at "lk"
    exact ⟨v, d, 1, 64, rfl, hd, k⟩
abbrev s_is_sequence : Stmt := top 9
theorem sc_is_sequence : FnScope ["value", "least", "most"] ["value", "least", "most"] (defScope s_is_sequence) := ⟨rfl, rfl, rfl, by decide +kernel, rfl, by decide +kernel, by decide +kernel⟩
theorem ok_is_sequence {f : Addr} {fd : FuncData} (F : Fun K "is_sequence" "is_sequence" s_is_sequence f fd) (T : Txt P w K mg base A) : FnOk P w K mg base CX0 1 f fd ["value", "least", "most"] (spSeq K) := by
  refine F.ok sc_is_sequence (fun vs H Q E h => ?_) (fun cdv Ar outer s H vs Q E hr h => ?_)
  · obtain ⟨v, d, a, b, rfl, _⟩ := h
    rfl
  · obtain ⟨v, d, a, b, rfl, hd, k⟩ := h
    refine ⟨_, (pss_one (ps_ret (pe_and (pe_callB call_isiT (by rfl) T.z_isinstance (by decide +kernel) (pa_cons (pv 0) (pa_cons (pe_tup (pa_cons (pe_bltn (v := .ty "list") (by rfl) T.z_list (by first | exact PySem.boot_list | decide +kernel) rfl) (pa_cons (pe_bltn (v := .ty "tuple") (by rfl) T.z_tuple (by first | exact PySem.boot_tuple | decide +kernel) rfl) pa_nil))) pa_nil))) (pe_one (pe_chain op_le op_le (pv 1) (pe_callB call_len_seq (by rfl) T.z_len PySem.boot_len (pa_cons (pv 0) pa_nil)) (pv 2)))))), ?_⟩
    walk_at "lk"
    refine snw (Nat.le_of_ble_eq_true rfl) fun t ht => ?_
    have s1 : Same H (upd H t (.tup [.ty "list", .ty "tuple"])) := same_new ht
    walk_at "lk"
    refine s_isiLT (dp_same s1 hd) upd_same ?_
    walk_at "lk"
    have hd1 := dp_same s1 hd
    have k1 := k _ s1
    generalize upd H t (.tup [.ty "list", .ty "tuple"]) = H1 at hd1 k1 ⊢
    cases d with
    | list ds =>
      refine ite2 (fun _ => ?_) (fun z => absurd rfl z)
      obtain ⟨p, xs, rfl, hx, hds⟩ := dp_listI hd1
      walk_at "lk"
      refine ⟨p, xs, rfl, .inl hx, ?_⟩
      rw [dpa_len hds]
      walk_at "lk"
      have k2 := two_le k1
      refine ite2 (fun e => ?_) (fun e => ?_)
      · rw [if_pos e] at k2
        walk_at "lk"
        exact k2
      · rw [if_neg e] at k2
        exact k2
    | tuple ds =>
      refine ite2 (fun _ => ?_) (fun z => absurd rfl z)
      obtain ⟨p, xs, rfl, hx, hds⟩ := dp_tupI hd1
      walk_at "lk"
      refine ⟨p, xs, rfl, .inr hx, ?_⟩
      rw [dpa_len hds]
      walk_at "lk"
      have k2 := two_le k1
      refine ite2 (fun e => ?_) (fun e => ?_)
      · rw [if_pos e] at k2
        walk_at "lk"
        exact k2
      · rw [if_neg e] at k2
        exact k2
    | _ => exact k1
abbrev s_are_integers : Stmt := top 10
theorem sc_are_integers : FnScope ["items", "item"] ["items"] (defScope s_are_integers) := ⟨rfl, rfl, rfl, by decide +kernel, rfl, by decide +kernel, by decide +kernel⟩
theorem ok_are_integers {f : Addr} {fd : FuncData} (F : Fun K "are_integers" "are_integers" s_are_integers f fd) (T : Txt P w K mg base A) (c_is_integer : Cal P w K mg base 1 "is_integer" ["value"] (spIsInt K)) : FnOk P w K mg base CX0 2 f fd ["items"] (spAreInts K) := by
  refine F.ok sc_are_integers (fun vs H Q E h => ?_) (fun cdv Ar outer s H vs Q E hr h => ?_)
  · obtain ⟨v, ds, rfl, _⟩ := h
    rfl
  · obtain ⟨v, ds, rfl, hd, hl, k⟩ := h
    refine ⟨_, (pss_one (ps_ret (pe_callB (cr_all rfl) (by rfl) T.z_all (by decide +kernel) (pa_cons (pe_lc (own := [("item", 1)]) (g := gName 1) (tt := tYes) rfl sc_are_integers.nd (pi_tup (pv 0)) (blkOk_by (own := [("item", 1)]) (N := ["items", "item"]) (sc := defScope s_are_integers) (by decide +kernel)) (fun _ _ _ _ _ => pg_name (i := 1) sc_are_integers.nd rfl (Or.inl rfl)) (fun _ _ _ _ _ => pts_nil) (fun _ _ _ _ _ => (pcal c_is_integer hr (by decide) (pa_cons (pv 1) pa_nil)))) pa_nil)))), ?_⟩
    obtain ⟨p, xs, rfl, hx, hds⟩ := dp_tupI hd
    walk_at "lk"
    refine tlc_mapT (ys := ds.map fun d => V.bl (isIntD d)) rfl hx (by rw [List.length_map, dpa_len hds]) (by rw [dpa_len hds]; exact hl) (fun _ => rfl) (fun i x y H' hi hy s' R q => ?_) (fun D H' s' hD hDl => ?_)
    · obtain ⟨d, e1, e2⟩ := dpa_at hds hi
      rw [List.getElem?_map, e1] at hy
      cases hy
      walk_at "lk"
      exact ⟨x, d, rfl, dp_same s' e2, q _ (Same.refl _)⟩
    · walk_at "lk"
      exact all_bls hDl (k _ s')
abbrev s_is_form : Stmt := top 11
theorem sc_is_form : FnScope ["value", "size"] ["value", "size"] (defScope s_is_form) := ⟨rfl, rfl, rfl, by decide +kernel, rfl, by decide +kernel, by decide +kernel⟩
theorem ok_is_form {f : Addr} {fd : FuncData} (F : Fun K "is_form" "is_form" s_is_form f fd) (T : Txt P w K mg base A) (c_are_integers : Cal P w K mg base 2 "are_integers" ["items"] (spAreInts K)) : FnOk P w K mg base CX0 3 f fd ["value", "size"] (spForm K) := by
  refine F.ok sc_is_form (fun vs H Q E h => ?_) (fun cdv Ar outer s H vs Q E hr h => ?_)
  · obtain ⟨v, d, n, rfl, _⟩ := h
    rfl
  · obtain ⟨v, d, n, rfl, hd, hn, k⟩ := h
    refine ⟨_, (pss_one (ps_ret (pe_and (pe_callB call_isi (by rfl) T.z_isinstance (by decide +kernel) (pa_cons (pv 0) (pa_cons (pe_bltn (v := .ty "tuple") (by rfl) T.z_tuple (by first | exact PySem.boot_tuple | decide +kernel) rfl) pa_nil))) (pe_and (pe_cmpR op_eq (pe_callB call_len_seq (by rfl) T.z_len PySem.boot_len (pa_cons (pv 0) pa_nil)) (pe_op op_add (pv 1) pe_int) (nomark _)) (pe_one (pcal c_are_integers hr (by decide) (pa_cons (pv 0) pa_nil))))))), ?_⟩
    walk_at "lk"
    refine s_isi hd (ki_tup d) ?_
    walk_at "lk"
    cases d with
    | tuple ds =>
      refine ite2 (fun _ => ?_) (fun z => absurd rfl z)
      obtain ⟨p, xs, rfl, hx, hds⟩ := dp_tupI hd
      walk_at "lk"
      refine ⟨p, xs, rfl, .inr hx, ?_⟩
      rw [dpa_len hds]
      walk_at "lk"
      refine sEq rfl ?_
      walk_at "lk"
      by_cases e : (ds.length : Int) = n + 1
      · rw [if_pos (by rw [e]; exact decide_eq_true rfl)]
        walk_at "lk"
        refine ⟨_, ds, rfl, hd, by omega, fun H' s' => ?_⟩
        have e2 : formD (.tuple ds) n = ds.all isIntD := by simp [formD, e]
        rw [← e2]
        exact k _ s'
      · rw [if_neg (fun z => e (V.int.inj (of_decide_eq_true z)))]
        have e2 : formD (.tuple ds) n = false := by simp [formD, e]
        have e3 : decide (V.int (ds.length : Int) = V.int (n + 1)) = false := decide_eq_false fun z => e (V.int.inj z)
        have k1 := k H (Same.refl H)
        rw [e2] at k1
        exact k1
    | _ => exact k _ (Same.refl H)
abbrev s_lowered : Stmt := top 12
theorem sc_lowered : FnScope ["numbers", "width", "mask", "number"] ["numbers", "width"] (defScope s_lowered) := ⟨rfl, rfl, rfl, by decide +kernel, rfl, by decide +kernel, by decide +kernel⟩
theorem ok_lowered {f : Addr} {fd : FuncData} (F : Fun K "lowered" "lowered" s_lowered f fd) (T : Txt P w K mg base A) : FnOk P w K mg base CX0 1 f fd ["numbers", "width"] (spLow K) := by
  refine F.ok sc_lowered (fun vs H Q E h => ?_) (fun cdv Ar outer s H vs Q E hr h => ?_)
  · obtain ⟨a, xs, k, rfl, _⟩ := h
    rfl
  · obtain ⟨a, xs, k, rfl, hx, hl, hk, q⟩ := h
    refine ⟨_, (pss_cons (ps_set (i := 2) sc_lowered.nd rfl (Or.inr rfl) (pe_op op_sub (pe_op op_oneShl pe_int (pv 1)) pe_int))
        (pss_one (ps_ret (pe_callTy call_tuple_of (by rfl) T.z_tuple (by decide +kernel) (pa_cons (pe_lc (own := [("number", 3)]) (g := gName 3) (tt := tYes) rfl sc_lowered.nd (pi_tup (pv 0)) (blkOk_by (own := [("number", 3)]) (N := ["numbers", "width", "mask", "number"]) (sc := defScope s_lowered) (by decide +kernel)) (fun _ _ _ _ _ => pg_name (i := 3) sc_lowered.nd rfl (Or.inl rfl)) (fun _ _ _ _ _ => pts_nil) (fun _ _ _ _ _ => (pe_op op_andM (pv 3) (pv 2)))) pa_nil))))), ?_⟩
    walk_at "lk"
    refine ⟨k, rfl, rfl, by omega, ?_⟩
    walk_at "lk"
    refine tlc_mapT (ys := xs.map fun x => V.int (x % 2 ^ k)) rfl hx (by rw [List.length_map, List.length_map]) (by rw [List.length_map]; exact hl) (fun _ => rfl) (fun i x y H' hi hy s' R r => ?_) (fun D H' s' hD hDl => ?_)
    · rw [List.getElem?_map] at hi hy
      cases e : xs[i]? with
      | none =>
        rw [e] at hi
        cases hi
      | some z =>
        rw [e] at hi hy
        cases hi
        cases hy
        walk_at "lk"
        exact ⟨z, k, rfl, rfl, r _ (Same.refl _)⟩
    · walk_at "lk"
      refine ⟨D, _, rfl, .inl ⟨SqL.of hDl, fun l hl => q _ _ (s'.trans (same_new hl)) (s'.free hl) upd_same⟩⟩
abbrev s_are_nexts : Stmt := top 14
theorem sc_are_nexts : FnScope ["value", "least", "most", "many", "row"] ["value", "least", "most", "many"] (defScope s_are_nexts) := ⟨rfl, rfl, rfl, by decide +kernel, rfl, by decide +kernel, by decide +kernel⟩
theorem ok_are_nexts {f : Addr} {fd : FuncData} (F : Fun K "are_nexts" "are_nexts" s_are_nexts f fd) (T : Txt P w K mg base A) (c_is_within : Cal P w K mg base 2 "is_within" ["value", "least", "most"] (spWithin K)) : FnOk P w K mg base CX0 3 f fd ["value", "least", "most", "many"] (spNexts K) := by
  refine F.ok sc_are_nexts (fun vs H Q E h => ?_) (fun cdv Ar outer s H vs Q E hr h => ?_)
  · obtain ⟨v, d, a, b, m, rfl, _⟩ := h
    rfl
  · obtain ⟨v, d, a, b, m, rfl, hd, hb, k⟩ := h
    refine ⟨_, (pss_one (ps_ret (pe_and (pe_callB call_isi (by rfl) T.z_isinstance (by decide +kernel) (pa_cons (pv 0) (pa_cons (pe_bltn (v := .ty "tuple") (by rfl) T.z_tuple (by first | exact PySem.boot_tuple | decide +kernel) rfl) pa_nil))) (pe_and (pe_chain op_le op_le (pv 1) (pe_callB call_len_seq (by rfl) T.z_len PySem.boot_len (pa_cons (pv 0) pa_nil)) (pv 2)) (pe_one (pe_callB (cr_all rfl) (by rfl) T.z_all (by decide +kernel) (pa_cons (pe_lc (own := [("row", 4)]) (g := gName 4) (tt := tYes) rfl sc_are_nexts.nd (pi_tup (pv 0)) (blkOk_by (own := [("row", 4)]) (N := ["value", "least", "most", "many", "row"]) (sc := defScope s_are_nexts) (by decide +kernel)) (fun _ _ _ _ _ => pg_name (i := 4) sc_are_nexts.nd rfl (Or.inl rfl)) (fun _ _ _ _ _ => pts_nil) (fun _ _ _ _ _ => (pcal c_is_within hr (by decide) (pa_cons (pv 4) (pa_cons pe_int (pa_cons (pe_op op_sub (pv 3) pe_int) pa_nil)))))) pa_nil))))))), ?_⟩
    walk_at "lk"
    refine s_isi hd (ki_tup d) ?_
    walk_at "lk"
    cases d with
    | tuple ds =>
      refine ite2 (fun _ => ?_) (fun z => absurd rfl z)
      obtain ⟨p, xs, rfl, hx, hds⟩ := dp_tupI hd
      walk_at "lk"
      refine ⟨p, xs, rfl, .inr hx, ?_⟩
      rw [dpa_len hds]
      walk_at "lk"
      by_cases e1 : a ≤ (ds.length : Int)
      · rw [if_pos (decide_eq_true e1)]
        walk_at "lk"
        by_cases e2 : (ds.length : Int) ≤ b
        · rw [if_pos (decide_eq_true e2)]
          walk_at "lk"
          have e3 : nextsD (.tuple ds) a b m = ds.all fun e => withinD e 0 (m - 1) := by simp [nextsD, e1, e2]
          rw [e3] at k
          refine tlc_mapT (ys := ds.map fun d => V.bl (withinD d 0 (m - 1))) rfl hx (by rw [List.length_map, dpa_len hds]) (by rw [dpa_len hds]; omega) (fun _ => rfl) (fun i x y H' hi hy s' R q => ?_) (fun D H' s' hD hDl => ?_)
          · obtain ⟨d, e1, e2⟩ := dpa_at hds hi
            rw [List.getElem?_map, e1] at hy
            cases hy
            walk_at "lk"
            exact ⟨x, d, 0, m - 1, rfl, dp_same s' e2, q _ (Same.refl _)⟩
          · walk_at "lk"
            exact all_bls hDl (k _ s')
        · rw [if_neg (by simpa using e2)]
          have e3 : nextsD (.tuple ds) a b m = false := by simp [nextsD, e1, e2]
          have e4 : decide ((ds.length : Int) ≤ b) = false := decide_eq_false e2
          have k1 := k H (Same.refl H)
          rw [e3] at k1
          exact k1
      · rw [if_neg (by simpa using e1)]
        have e3 : nextsD (.tuple ds) a b m = false := by simp [nextsD, e1]
        have k1 := k H (Same.refl H)
        rw [e3] at k1
        walk_at "lk"
        exact k1
    | _ => exact k _ (Same.refl H)
end
end K01

namespace K01
open PySem PySem.Spec PyProof.Rows L2 Lk
local macro_rules | `(tactic| walk_at "lk") => `(tactic| (repeat (first
  | with_reducible refine ssq ?_ | with_reducible refine sas ?_ | with_reducible refine sgn ?_ | ((with_reducible show tVar _ _ _ _); refine sv rfl ?_) | with_reducible refine sc ?_ | with_reducible refine sop ?_ | with_reducible refine sun ?_
  | with_reducible refine sI0 ?_ | with_reducible refine sU ?_ | with_reducible refine stt ?_ | with_reducible refine stB ?_ | with_reducible refine sbl ?_ | with_reducible refine snt ?_ | with_reducible refine sif ?_ | with_reducible refine scB ?_
  | with_reducible refine scn ?_ | with_reducible refine snl ?_ | with_reducible refine scl ?_ | with_reducible refine stu ?_ | with_reducible refine sli ?_ | with_reducible refine sdr ?_ | with_reducible refine srt ?_ | with_reducible refine snx ?_ | with_reducible refine sfor ?_ | with_reducible refine sils ?_ | with_reducible refine sien ?_ | with_reducible refine sor ?_ | with_reducible refine sfg ?_
  | with_reducible refine sav ?_ | with_reducible refine sov ?_ | with_reducible refine snv ?_ | with_reducible refine sch ?_ | with_reducible refine san ?_ | with_reducible refine ssll ?_ | with_reducible refine spt ?_ | with_reducible refine snp ?_ | with_reducible refine sin ?_ | with_reducible refine sfl ?_ | with_reducible refine sfd ?_
  | ((with_reducible show Or _ _); first | refine Or.inl ⟨_, rfl, ?_⟩ | refine Or.inr ⟨_, rfl, ?_⟩))))

def spIsName (K : PySem.W.Frag) : Sp := fun vs H Q _ => ∃ x, vs = [.str x] ∧ nameS x = true ∧ ∀ H', Same H H' → Q (.bl true) H'
def spIsVar (K : PySem.W.Frag) : Sp := fun vs H Q _ => ∃ (x : Str) (l : Addr) (ns : List Str), vs = [.str x, .ref l] ∧ SqE K H l (ns.map V.str) ∧ x ∈ ns ∧ Q (.bl true) H
def spIsRow (K : PySem.W.Frag) : Sp := fun vs H Q _ => ∃ (v : V) (l : Addr) (m : Int) (ns : List Str) (r : LRow), vs = [v, .ref l, .int m] ∧ SqE K H l (ns.map V.str) ∧ ns.length ≤ 6 ∧ RowH H v r ∧ RowOk ns m r ∧ ∀ H', Same H H' → Q (.bl true) H'
def spLowRow (K : PySem.W.Frag) : Sp := fun vs H Q _ => ∃ (v : V) (k : Nat) (r : LRow), vs = [v, .int (k : Int)] ∧ k ≤ 64 ∧ RowH H v r ∧ (∃ ns m, RowOk ns m r ∧ ns.length ≤ 6) ∧ ∀ u H', Same H H' → RowH H' u (r.low k) → Q u H'
section
variable {P : Program} {w : World} {K : PySem.W.Frag} {mg : Str → Option Value} {base : Heap} {A : Ad}
abbrev s_is_name : Stmt := top 23
theorem sc_is_name : FnScope ["value", "letter"] ["value"] (defScope s_is_name) := ⟨rfl, rfl, rfl, by decide +kernel, rfl, by decide +kernel, by decide +kernel⟩
theorem ok_is_name {f : Addr} {fd : FuncData} (F : Fun K "is_name" "is_name" s_is_name f fd) (T : Txt P w K mg base A) : FnOk P w K mg base CX0 1 f fd ["value"] (spIsName K) := by
  refine F.ok sc_is_name (fun vs H Q E h => ?_) (fun cdv Ar outer s H vs Q E hr h => ?_)
  · obtain ⟨x, rfl, _⟩ := h
    rfl
  · obtain ⟨x, rfl, hx, k⟩ := h
    refine ⟨_, (pss_one (ps_ret (pe_and (pe_callB call_isi (by rfl) T.z_isinstance (by decide +kernel) (pa_cons (pv 0) (pa_cons (pe_bltn (v := .ty "str") (by rfl) T.z_str (by first | exact PySem.boot_str | decide +kernel) rfl) pa_nil))) (pe_and (pe_chain op_le op_le pe_int (pe_callB call_len_str (by rfl) T.z_len PySem.boot_len (pa_cons (pv 0) pa_nil)) (pe_gint (by rfl) T.g_LONGEST_NAME)) (pe_one (pe_callB (cr_all rfl) (by rfl) T.z_all (by decide +kernel) (pa_cons (pe_lc (own := [("letter", 1)]) (g := gName 1) (tt := tYes) rfl sc_is_name.nd (pi_str (pv 0)) (blkOk_by (own := [("letter", 1)]) (N := ["value", "letter"]) (sc := defScope s_is_name) (by decide +kernel)) (fun _ _ _ _ _ => pg_name (i := 1) sc_is_name.nd rfl (Or.inl rfl)) (fun _ _ _ _ _ => pts_nil) (fun _ _ _ _ _ => (pe_chain op_le_str op_le_str pe_str (pv 1) pe_str))) pa_nil))))))), ?_⟩
    have h1 := hx
    unfold nameS at h1
    rw [Bool.and_eq_true, Bool.and_eq_true] at h1
    obtain ⟨⟨h1, h2⟩, h3⟩ := h1
    have h2' := of_decide_eq_true h2
    walk_at "lk"
    refine s_isi (d := .str x) (.str x) (ki_str _) ?_
    walk_at "lk"
    refine ite2 (fun _ => ?_) (fun z => absurd rfl z)
    walk_at "lk"
    refine ⟨x, rfl, Nat.le_of_lt (small1000 (by omega)), ?_⟩
    walk_at "lk"
    rw [if_pos (decide_eq_true (by have := of_decide_eq_true h1; omega))]
    walk_at "lk"
    rw [if_pos (decide_eq_true (by omega))]
    walk_at "lk"
    refine tlc_mapS (ys := x.cps.toList.map fun c => V.bl (letD c)) rfl (by rw [List.length_map]; rfl) (by have : x.cps.size = x.length := rfl; omega) (fun _ => rfl) (fun i c y H' hi hy s' R q => ?_) (fun D H' s' hD hDl => ?_)
    · rw [List.getElem?_map, Array.getElem?_toList, hi] at hy
      cases hy
      walk_at "lk"
      refine ⟨_, _, rfl, rfl, ?_⟩
      have e1 : (!decide ((⟨#[c]⟩ : Str).cps.toList < ("a" : Str).cps.toList)) = decide (97 ≤ c) := by
        show (!decide ([c] < [97])) = _
        rw [lex1, ← decide_not]
        exact decide_eq_decide.mpr Nat.not_lt
      have e2 : (!decide (("z" : Str).cps.toList < (⟨#[c]⟩ : Str).cps.toList)) = decide (c ≤ 122) := by
        show (!decide ([122] < [c])) = _
        rw [lex1, ← decide_not]
        exact decide_eq_decide.mpr Nat.not_lt
      rw [e1]
      walk_at "lk"
      have q0 : R (.bl (decide (97 ≤ c) && decide (c ≤ 122))) H' := q _ (Same.refl H')
      by_cases e : 97 ≤ c
      · rw [if_pos (decide_eq_true e)]
        rw [decide_eq_true e, Bool.true_and] at q0
        walk_at "lk"
        refine ⟨_, _, rfl, rfl, ?_⟩
        rw [e2]
        exact q0
      · rw [if_neg (by simpa using e)]
        rw [decide_eq_false e, Bool.false_and] at q0
        exact q0
    · walk_at "lk"
      refine ⟨D, x.cps.toList.map letD, rfl, .inl (.inl (by rw [hDl, List.map_map]; rfl)), ?_⟩
      rw [List.all_map]
      show (_ : VK) (.bl (x.cps.toList.all letD)) H'
      rw [h3]
      exact k _ s'
abbrev s_is_variable : Stmt := top 26
theorem sc_is_variable : FnScope ["value", "variables"] ["value", "variables"] (defScope s_is_variable) := ⟨rfl, rfl, rfl, by decide +kernel, rfl, by decide +kernel, by decide +kernel⟩
theorem ok_is_variable {f : Addr} {fd : FuncData} (F : Fun K "is_variable" "is_variable" s_is_variable f fd) (T : Txt P w K mg base A) : FnOk P w K mg base CX0 1 f fd ["value", "variables"] (spIsVar K) := by
  refine F.ok sc_is_variable (fun vs H Q E h => ?_) (fun cdv Ar outer s H vs Q E hr h => ?_)
  · obtain ⟨x, l, ns, rfl, _⟩ := h
    rfl
  · obtain ⟨x, l, ns, rfl, hl, hx, k⟩ := h
    refine ⟨_, (pss_one (ps_ret (pe_and (pe_callB call_isi (by rfl) T.z_isinstance (by decide +kernel) (pa_cons (pv 0) (pa_cons (pe_bltn (v := .ty "str") (by rfl) T.z_str (by first | exact PySem.boot_str | decide +kernel) rfl) pa_nil))) (pe_one (pe_cmpR op_in_seq (pv 0) (pv 1) (by rfl)))))), ?_⟩
    walk_at "lk"
    refine s_isi (d := .str x) (.str x) (ki_str _) ?_
    walk_at "lk"
    refine ite2 (fun _ => ?_) (fun z => absurd rfl z)
    walk_at "lk"
    refine ⟨l, ns.map V.str, rfl, hl, rfl, flat_strs ns, ?_⟩
    show (_ : VK) (.bl (inV (.str x) (ns.map V.str))) H
    rw [inV_str hx]
    exact k
abbrev s_lowered_row : Stmt := top 27
theorem sc_lowered_row : FnScope ["item", "width"] ["item", "width"] (defScope s_lowered_row) := ⟨rfl, rfl, rfl, by decide +kernel, rfl, by decide +kernel, by decide +kernel⟩
theorem ok_lowered_row {f : Addr} {fd : FuncData} (F : Fun K "lowered_row" "lowered_row" s_lowered_row f fd) (T : Txt P w K mg base A) (c_lowered : Cal P w K mg base 1 "lowered" ["numbers", "width"] (spLow K)) : FnOk P w K mg base CX0 2 f fd ["item", "width"] (spLowRow K) := by
  refine F.ok sc_lowered_row (fun vs H Q E h => ?_) (fun cdv Ar outer s H vs Q E hr h => ?_)
  · obtain ⟨v, k, r, rfl, _⟩ := h
    rfl
  · obtain ⟨v, k, r, rfl, hk, hr0, hok, q⟩ := h
    refine ⟨_, (pss_cons (ps_if (pt_cmpR op_eq (pe_ix ix_tup (pv 0) pe_int (fun _ _ => rfl)) pe_str (nomark _)) (pss_one (ps_ret (pe_tup (pa_cons pe_str (pa_cons (pe_ix ix_tup (pv 0) pe_int (fun _ _ => rfl)) (pa_cons (pcal c_lowered hr (by decide) (pa_cons (pe_ix ix_tup (pv 0) pe_int (fun _ _ => rfl)) (pa_cons (pv 1) pa_nil))) (pa_cons (pe_ix ix_tup (pv 0) pe_int (fun _ _ => rfl)) pa_nil))))))) pss_nil)
        (pss_cons (ps_if (pt_cmpR op_eq (pe_ix ix_tup (pv 0) pe_int (fun _ _ => rfl)) pe_str (nomark _)) (pss_one (ps_ret (pe_tup (pa_cons pe_str (pa_cons (pcal c_lowered hr (by decide) (pa_cons (pe_ix ix_tup (pv 0) pe_int (fun _ _ => rfl)) (pa_cons (pv 1) pa_nil))) (pa_cons (pe_ix ix_tup (pv 0) pe_int (fun _ _ => rfl)) pa_nil)))))) pss_nil)
        (pss_one (ps_ret (pv 0))))), ?_⟩
    obtain ⟨ns, m, hok, hn⟩ := hok
    cases r with
    | set n f j =>
      obtain ⟨a, b, rfl, ha, hb⟩ := hr0
      obtain ⟨_, hf, _⟩ := hok
      walk_at "lk"
      refine sft (SqT.of ha) (by rfl) ?_
      walk_at "lk"
      refine sEq rfl ?_
      walk_at "lk"
      rw [if_pos (decide_eq_true rfl)]
      walk_at "lk"
      refine sft (SqT.of ha) (by rfl) ?_
      walk_at "lk"
      refine sft (SqT.of ha) (by rfl) ?_
      walk_at "lk"
      refine ⟨b, f, k, rfl, SqT.of hb, by omega, hk, fun p H1 s1 hp1 h1 => ?_⟩
      walk_at "lk"
      refine sft (SqT.of (s1 _ _ ha)) (by rfl) ?_
      walk_at "lk"
      refine snw (Nat.le_of_ble_eq_true rfl) fun t ht => ?_
      refine q _ _ (s1.trans (same_new ht)) ⟨t, p, rfl, upd_same, ?_⟩
      rw [same_new ht _ _ h1, List.map_map]
      rfl
    | say f j =>
      obtain ⟨a, b, rfl, ha, hb⟩ := hr0
      obtain ⟨hf, _⟩ := hok
      walk_at "lk"
      refine sft (SqT.of ha) (by rfl) ?_
      walk_at "lk"
      refine sEq rfl ?_
      walk_at "lk"
      rw [if_neg (by decide +kernel)]
      walk_at "lk"
      refine sft (SqT.of ha) (by rfl) ?_
      walk_at "lk"
      refine sEq rfl ?_
      walk_at "lk"
      rw [if_pos (decide_eq_true rfl)]
      walk_at "lk"
      refine sft (SqT.of ha) (by rfl) ?_
      walk_at "lk"
      refine ⟨b, f, k, rfl, SqT.of hb, by omega, hk, fun p H1 s1 hp1 h1 => ?_⟩
      walk_at "lk"
      refine sft (SqT.of (s1 _ _ ha)) (by rfl) ?_
      walk_at "lk"
      refine snw (Nat.le_of_ble_eq_true rfl) fun t ht => ?_
      refine q _ _ (s1.trans (same_new ht)) ⟨t, p, rfl, upd_same, ?_⟩
      rw [same_new ht _ _ h1, List.map_map]
      rfl
    | ask n j =>
      obtain ⟨a, rfl, ha⟩ := hr0
      walk_at "lk"
      refine sft (SqT.of ha) (by rfl) ?_
      walk_at "lk"
      refine sEq rfl ?_
      walk_at "lk"
      rw [if_neg (by decide +kernel)]
      walk_at "lk"
      refine sft (SqT.of ha) (by rfl) ?_
      walk_at "lk"
      refine sEq rfl ?_
      walk_at "lk"
      rw [if_neg (by decide +kernel)]
      walk_at "lk"
      exact q _ _ (Same.refl _) ⟨a, rfl, ha⟩
    | choose ks =>
      obtain ⟨a, b, rfl, ha, hb⟩ := hr0
      walk_at "lk"
      refine sft (SqT.of ha) (by rfl) ?_
      walk_at "lk"
      refine sEq rfl ?_
      walk_at "lk"
      rw [if_neg (by decide +kernel)]
      walk_at "lk"
      refine sft (SqT.of ha) (by rfl) ?_
      walk_at "lk"
      refine sEq rfl ?_
      walk_at "lk"
      rw [if_neg (by decide +kernel)]
      walk_at "lk"
      exact q _ _ (Same.refl _) ⟨a, b, rfl, ha, hb⟩
    | look j =>
      obtain ⟨a, rfl, ha⟩ := hr0
      walk_at "lk"
      refine sft (SqT.of ha) (by rfl) ?_
      walk_at "lk"
      refine sEq rfl ?_
      walk_at "lk"
      rw [if_neg (by decide +kernel)]
      walk_at "lk"
      refine sft (SqT.of ha) (by rfl) ?_
      walk_at "lk"
      refine sEq rfl ?_
      walk_at "lk"
      rw [if_neg (by decide +kernel)]
      walk_at "lk"
      exact q _ _ (Same.refl _) ⟨a, rfl, ha⟩
    | stop =>
      obtain ⟨a, rfl, ha⟩ := hr0
      walk_at "lk"
      refine sft (SqT.of ha) (by rfl) ?_
      walk_at "lk"
      refine sEq rfl ?_
      walk_at "lk"
      rw [if_neg (by decide +kernel)]
      walk_at "lk"
      refine sft (SqT.of ha) (by rfl) ?_
      walk_at "lk"
      refine sEq rfl ?_
      walk_at "lk"
      rw [if_neg (by decide +kernel)]
      walk_at "lk"
      exact q _ _ (Same.refl _) ⟨a, rfl, ha⟩
end
end K01

namespace K01
open PySem PySem.Spec PyProof.Rows L2 Lk
local macro_rules | `(tactic| walk_at "lk") => `(tactic| (repeat (first
  | with_reducible refine ssq ?_ | with_reducible refine sas ?_ | with_reducible refine sgn ?_ | ((with_reducible show tVar _ _ _ _); refine sv rfl ?_) | with_reducible refine sc ?_ | with_reducible refine sop ?_ | with_reducible refine sun ?_
  | with_reducible refine sI0 ?_ | with_reducible refine sU ?_ | with_reducible refine stt ?_ | with_reducible refine stB ?_ | with_reducible refine sbl ?_ | with_reducible refine snt ?_ | with_reducible refine sif ?_ | with_reducible refine scB ?_
  | with_reducible refine scn ?_ | with_reducible refine snl ?_ | with_reducible refine scl ?_ | with_reducible refine stu ?_ | with_reducible refine sli ?_ | with_reducible refine sdr ?_ | with_reducible refine srt ?_ | with_reducible refine snx ?_ | with_reducible refine sfor ?_ | with_reducible refine sils ?_ | with_reducible refine sien ?_ | with_reducible refine sor ?_ | with_reducible refine sfg ?_
  | with_reducible refine sav ?_ | with_reducible refine sov ?_ | with_reducible refine snv ?_ | with_reducible refine sch ?_ | with_reducible refine san ?_ | with_reducible refine ssll ?_ | with_reducible refine spt ?_ | with_reducible refine snp ?_ | with_reducible refine sin ?_ | with_reducible refine sfl ?_ | with_reducible refine sfd ?_
  | ((with_reducible show Or _ _); first | refine Or.inl ⟨_, rfl, ?_⟩ | refine Or.inr ⟨_, rfl, ?_⟩))))

section
variable {P : Program} {w : World} {K : PySem.W.Frag} {mg : Str → Option Value} {base : Heap} {A : Ad}
abbrev s_is_row : Stmt := top 25
theorem sc_is_row : FnScope ["item", "variables", "many", "kind", "rest"] ["item", "variables", "many"] (defScope s_is_row) := ⟨rfl, rfl, rfl, by decide +kernel, rfl, by decide +kernel, by decide +kernel⟩
theorem ok_is_row {f : Addr} {fd : FuncData} (F : Fun K "is_row" "is_row" s_is_row f fd) (T : Txt P w K mg base A) (c_is_variable : Cal P w K mg base 1 "is_variable" ["value", "variables"] (spIsVar K)) (c_is_form : Cal P w K mg base 3 "is_form" ["value", "size"] (spForm K)) (c_is_within : Cal P w K mg base 2 "is_within" ["value", "least", "most"] (spWithin K)) (c_are_nexts : Cal P w K mg base 3 "are_nexts" ["value", "least", "most", "many"] (spNexts K)) : FnOk P w K mg base CX0 4 f fd ["item", "variables", "many"] (spIsRow K) := by
  refine F.ok sc_is_row (fun vs H Q E h => ?_) (fun cdv Ar outer s H vs Q E hr h => ?_)
  · obtain ⟨v, l, m, ns, r, rfl, _⟩ := h
    rfl
  · obtain ⟨v, l, m, ns, r, rfl, hl, hn, hr0, hok, q⟩ := h
    refine ⟨_, (pss_cons (ps_if (PW.pt (pw_or (pt_not (pt_val (pe_callB call_isi (by rfl) T.z_isinstance (by decide +kernel) (pa_cons (pv 0) (pa_cons (pe_bltn (v := .ty "tuple") (by rfl) T.z_tuple (by first | exact PySem.boot_tuple | decide +kernel) rfl) pa_nil))))) (pw_or (pt_not (pt_truth (pv 0) (fun _ => rfl))) (pw_or1 (pt_not (pt_val (pe_callB call_isi (by rfl) T.z_isinstance (by decide +kernel) (pa_cons (pe_ix ix_tup (pv 0) pe_int (fun _ _ => rfl)) (pa_cons (pe_bltn (v := .ty "str") (by rfl) T.z_str (by first | exact PySem.boot_str | decide +kernel) rfl) pa_nil))))))))) (pss_one (ps_ret pe_bl)) pss_nil)
        (pss_cons (ps_set (i := 3) sc_is_row.nd rfl (Or.inl rfl) (pe_ix ix_tup (pv 0) pe_int (fun _ _ => rfl)))
        (pss_cons (ps_set (i := 4) sc_is_row.nd rfl (Or.inl rfl) (pe_slice sl_tupA (pv 0) (po_some pe_int) po_none))
        (pss_cons (ps_if (PW.pt (pw_and (pt_cmpR op_eq (pv 3) pe_str (nomark _)) (pw_and1 (pt_cmpR op_eq (pe_callB call_len_seq (by rfl) T.z_len PySem.boot_len (pa_cons (pv 4) pa_nil)) pe_int (nomark _))))) (pss_one (ps_ret (pe_and (pcal c_is_variable hr (by decide) (pa_cons (pe_ix ix_tup (pv 4) pe_int (fun _ _ => rfl)) (pa_cons (pv 1) pa_nil))) (pe_and (pcal c_is_form hr (by decide) (pa_cons (pe_ix ix_tup (pv 4) pe_int (fun _ _ => rfl)) (pa_cons (pe_callB call_len_seq (by rfl) T.z_len PySem.boot_len (pa_cons (pv 1) pa_nil)) pa_nil))) (pe_one (pcal c_is_within hr (by decide) (pa_cons (pe_ix ix_tup (pv 4) pe_int (fun _ _ => rfl)) (pa_cons pe_int (pa_cons (pe_op op_sub (pv 2) pe_int) pa_nil))))))))) pss_nil)
        (pss_cons (ps_if (PW.pt (pw_and (pt_cmpR op_eq (pv 3) pe_str (nomark _)) (pw_and1 (pt_cmpR op_eq (pe_callB call_len_seq (by rfl) T.z_len PySem.boot_len (pa_cons (pv 4) pa_nil)) pe_int (nomark _))))) (pss_one (ps_ret (pe_and (pcal c_is_variable hr (by decide) (pa_cons (pe_ix ix_tup (pv 4) pe_int (fun _ _ => rfl)) (pa_cons (pv 1) pa_nil))) (pe_one (pcal c_is_within hr (by decide) (pa_cons (pe_ix ix_tup (pv 4) pe_int (fun _ _ => rfl)) (pa_cons pe_int (pa_cons (pe_op op_sub (pv 2) pe_int) pa_nil)))))))) pss_nil)
        (pss_cons (ps_if (PW.pt (pw_and (pt_cmpR op_eq (pv 3) pe_str (nomark _)) (pw_and1 (pt_cmpR op_eq (pe_callB call_len_seq (by rfl) T.z_len PySem.boot_len (pa_cons (pv 4) pa_nil)) pe_int (nomark _))))) (pss_one (ps_ret (pe_and (pcal c_is_form hr (by decide) (pa_cons (pe_ix ix_tup (pv 4) pe_int (fun _ _ => rfl)) (pa_cons (pe_callB call_len_seq (by rfl) T.z_len PySem.boot_len (pa_cons (pv 1) pa_nil)) pa_nil))) (pe_one (pcal c_is_within hr (by decide) (pa_cons (pe_ix ix_tup (pv 4) pe_int (fun _ _ => rfl)) (pa_cons pe_int (pa_cons (pe_op op_sub (pv 2) pe_int) pa_nil)))))))) pss_nil)
        (pss_cons (ps_if (PW.pt (pw_and (pt_cmpR op_eq (pv 3) pe_str (nomark _)) (pw_and1 (pt_cmpR op_eq (pe_callB call_len_seq (by rfl) T.z_len PySem.boot_len (pa_cons (pv 4) pa_nil)) pe_int (nomark _))))) (pss_one (ps_ret (pcal c_is_within hr (by decide) (pa_cons (pe_ix ix_tup (pv 4) pe_int (fun _ _ => rfl)) (pa_cons pe_int (pa_cons (pe_op op_sub (pv 2) pe_int) pa_nil)))))) pss_nil)
        (pss_cons (ps_if (PW.pt (pw_and (pt_cmpR op_eq (pv 3) pe_str (nomark _)) (pw_and1 (pt_cmpR op_eq (pe_callB call_len_seq (by rfl) T.z_len PySem.boot_len (pa_cons (pv 4) pa_nil)) pe_int (nomark _))))) (pss_one (ps_ret (pcal c_are_nexts hr (by decide) (pa_cons (pe_ix ix_tup (pv 4) pe_int (fun _ _ => rfl)) (pa_cons pe_int (pa_cons (pe_gint (by rfl) T.g_MOST_NEXTS) (pa_cons (pv 2) pa_nil))))))) pss_nil)
        (pss_one (ps_ret (pe_and (pe_cmpR op_eq (pv 3) pe_str (nomark _)) (pe_one (pe_notT (pv 4)))))))))))))), ?_⟩
    cases r with
    | set n f j =>
      have hD : Dt H v (LRow.set n f j).d := hr0.dt
      obtain ⟨a, b, rfl, ha, hb⟩ := hr0
      obtain ⟨h1, h2, h3, h4⟩ := hok
      walk_at "lk"
      refine s_isi hD.dp (ki_tup _) ?_
      walk_at "lk"
      refine iff_ rfl ?_
      refine ⟨_, rfl, true, .inr (.inl ⟨_, SqT.of ha, rfl⟩), ?_⟩
      walk_at "lk"
      refine iff_ rfl ?_
      walk_at "lk"
      refine sft (SqT.of ha) (by rfl) ?_
      walk_at "lk"
      refine s_isi (d := .str "set") (.str _) (ki_str _) ?_
      walk_at "lk"
      refine iff_ rfl ?_
      walk_at "lk"
      refine sft (SqT.of ha) (by rfl) ?_
      walk_at "lk"
      refine s_cut (SqT.of ha) fun p hp => ?_
      walk_at "lk"
      have s1 : Same H (upd H p (.tup [.str n, .ref b, .int j])) := same_new hp
      have e1 : (upd H p (.tup [.str n, .ref b, .int j])) p = some (.tup [.str n, .ref b, .int j]) := upd_same
      have hD1 := hD.ts (Ts.of s1)
      have hb1 := s1 _ _ hb
      generalize upd H p (.tup [.str n, .ref b, .int j]) = H1 at s1 e1 hD1 hb1 ⊢
      refine sEq rfl ?_
      walk_at "lk"
      refine itt_ (by decide +kernel) ?_
      walk_at "lk"
      refine ⟨p, _, rfl, .inr (SqT.of e1), ?_⟩
      walk_at "lk"
      refine sEq rfl ?_
      walk_at "lk"
      refine itt_ (by rfl) ?_
      walk_at "lk"
      refine sft (SqT.of e1) (by rfl) ?_
      walk_at "lk"
      refine ⟨n, l, ns, rfl, hl.same s1, h1, ?_⟩
      walk_at "lk"
      refine itt_ rfl ?_
      walk_at "lk"
      refine sft (SqT.of ((Same.refl H1) _ _ e1)) (by rfl) ?_
      walk_at "lk"
      refine ⟨l, _, rfl, hl.same s1, ?_⟩
      rw [List.length_map]
      walk_at "lk"
      refine ⟨.ref b, intsD f, ns.length, rfl, (dt_intsT ((Same.refl H1) _ _ hb1)).dp, by omega, fun H2 s2 => ?_⟩
      have ef : formD (intsD f) ns.length = true := by
        show (decide (((f.map PyData.int).length : Int) = ns.length + 1) && (f.map PyData.int).all isIntD) = true
        rw [List.length_map, List.all_map, Bool.and_eq_true]
        exact ⟨decide_eq_true (by omega), List.all_eq_true.mpr fun _ _ => rfl⟩
      rw [ef]
      walk_at "lk"
      refine itt_ rfl ?_
      walk_at "lk"
      refine sft (SqT.of (s2 _ _ e1)) (by rfl) ?_
      walk_at "lk"
      refine ⟨_, .int j, 0, m - 1, rfl, .int j, ?_⟩
      have ew : withinD (.int j) 0 (m - 1) = true := by
        show (decide (0 ≤ j) && decide (j ≤ m - 1)) = true
        rw [Bool.and_eq_true]
        exact ⟨decide_eq_true h3, decide_eq_true (by omega)⟩
      rw [ew]
      exact q _ (s1.trans s2)
    | say f j =>
      have hD : Dt H v (LRow.say f j).d := hr0.dt
      obtain ⟨a, b, rfl, ha, hb⟩ := hr0
      obtain ⟨h2, h3, h4⟩ := hok
      walk_at "lk"
      refine s_isi hD.dp (ki_tup _) ?_
      walk_at "lk"
      refine iff_ rfl ?_
      refine ⟨_, rfl, true, .inr (.inl ⟨_, SqT.of ha, rfl⟩), ?_⟩
      walk_at "lk"
      refine iff_ rfl ?_
      walk_at "lk"
      refine sft (SqT.of ha) (by rfl) ?_
      walk_at "lk"
      refine s_isi (d := .str "say") (.str _) (ki_str _) ?_
      walk_at "lk"
      refine iff_ rfl ?_
      walk_at "lk"
      refine sft (SqT.of ha) (by rfl) ?_
      walk_at "lk"
      refine s_cut (SqT.of ha) fun p hp => ?_
      walk_at "lk"
      have s1 : Same H (upd H p (.tup [.ref b, .int j])) := same_new hp
      have e1 : (upd H p (.tup [.ref b, .int j])) p = some (.tup [.ref b, .int j]) := upd_same
      have hD1 := hD.ts (Ts.of s1)
      have hb1 := s1 _ _ hb
      generalize upd H p (.tup [.ref b, .int j]) = H1 at s1 e1 hD1 hb1 ⊢
      refine sEq rfl ?_
      walk_at "lk"
      refine iff_ (by decide +kernel) ?_
      walk_at "lk"
      refine iff_ rfl ?_
      walk_at "lk"
      refine sEq rfl ?_
      walk_at "lk"
      refine iff_ (by decide +kernel) ?_
      walk_at "lk"
      refine iff_ rfl ?_
      walk_at "lk"
      refine sEq rfl ?_
      walk_at "lk"
      refine itt_ (by decide +kernel) ?_
      walk_at "lk"
      refine ⟨p, _, rfl, .inr (SqT.of e1), ?_⟩
      walk_at "lk"
      refine sEq rfl ?_
      walk_at "lk"
      refine itt_ (by rfl) ?_
      walk_at "lk"
      refine sft (SqT.of ((Same.refl H1) _ _ e1)) (by rfl) ?_
      walk_at "lk"
      refine ⟨l, _, rfl, hl.same s1, ?_⟩
      rw [List.length_map]
      walk_at "lk"
      refine ⟨.ref b, intsD f, ns.length, rfl, (dt_intsT ((Same.refl H1) _ _ hb1)).dp, by omega, fun H2 s2 => ?_⟩
      have ef : formD (intsD f) ns.length = true := by
        show (decide (((f.map PyData.int).length : Int) = ns.length + 1) && (f.map PyData.int).all isIntD) = true
        rw [List.length_map, List.all_map, Bool.and_eq_true]
        exact ⟨decide_eq_true (by omega), List.all_eq_true.mpr fun _ _ => rfl⟩
      rw [ef]
      walk_at "lk"
      refine itt_ rfl ?_
      walk_at "lk"
      refine sft (SqT.of (s2 _ _ e1)) (by rfl) ?_
      walk_at "lk"
      refine ⟨_, .int j, 0, m - 1, rfl, .int j, ?_⟩
      have ew : withinD (.int j) 0 (m - 1) = true := by
        show (decide (0 ≤ j) && decide (j ≤ m - 1)) = true
        rw [Bool.and_eq_true]
        exact ⟨decide_eq_true h3, decide_eq_true (by omega)⟩
      rw [ew]
      exact q _ (s1.trans s2)
    | ask n j =>
      have hD : Dt H v (LRow.ask n j).d := hr0.dt
      obtain ⟨a, rfl, ha⟩ := hr0
      obtain ⟨h1, h3, h4⟩ := hok
      walk_at "lk"
      refine s_isi hD.dp (ki_tup _) ?_
      walk_at "lk"
      refine iff_ rfl ?_
      refine ⟨_, rfl, true, .inr (.inl ⟨_, SqT.of ha, rfl⟩), ?_⟩
      walk_at "lk"
      refine iff_ rfl ?_
      walk_at "lk"
      refine sft (SqT.of ha) (by rfl) ?_
      walk_at "lk"
      refine s_isi (d := .str "ask") (.str _) (ki_str _) ?_
      walk_at "lk"
      refine iff_ rfl ?_
      walk_at "lk"
      refine sft (SqT.of ha) (by rfl) ?_
      walk_at "lk"
      refine s_cut (SqT.of ha) fun p hp => ?_
      walk_at "lk"
      have s1 : Same H (upd H p (.tup [.str n, .int j])) := same_new hp
      have e1 : (upd H p (.tup [.str n, .int j])) p = some (.tup [.str n, .int j]) := upd_same
      have hD1 := hD.ts (Ts.of s1)
      generalize upd H p (.tup [.str n, .int j]) = H1 at s1 e1 hD1 ⊢
      refine sEq rfl ?_
      walk_at "lk"
      refine iff_ (by decide +kernel) ?_
      walk_at "lk"
      refine iff_ rfl ?_
      walk_at "lk"
      refine sEq rfl ?_
      walk_at "lk"
      refine itt_ (by decide +kernel) ?_
      walk_at "lk"
      refine ⟨p, _, rfl, .inr (SqT.of e1), ?_⟩
      walk_at "lk"
      refine sEq rfl ?_
      walk_at "lk"
      refine itt_ (by rfl) ?_
      walk_at "lk"
      refine sft (SqT.of e1) (by rfl) ?_
      walk_at "lk"
      refine ⟨n, l, ns, rfl, hl.same s1, h1, ?_⟩
      walk_at "lk"
      refine itt_ rfl ?_
      walk_at "lk"
      refine sft (SqT.of ((Same.refl H1) _ _ e1)) (by rfl) ?_
      walk_at "lk"
      refine ⟨_, .int j, 0, m - 1, rfl, .int j, ?_⟩
      have ew : withinD (.int j) 0 (m - 1) = true := by
        show (decide (0 ≤ j) && decide (j ≤ m - 1)) = true
        rw [Bool.and_eq_true]
        exact ⟨decide_eq_true h3, decide_eq_true (by omega)⟩
      rw [ew]
      exact q _ (s1)
    | choose ks =>
      have hD : Dt H v (LRow.choose ks).d := hr0.dt
      obtain ⟨a, b, rfl, ha, hb⟩ := hr0
      obtain ⟨h2, h3, h4⟩ := hok
      walk_at "lk"
      refine s_isi hD.dp (ki_tup _) ?_
      walk_at "lk"
      refine iff_ rfl ?_
      refine ⟨_, rfl, true, .inr (.inl ⟨_, SqT.of ha, rfl⟩), ?_⟩
      walk_at "lk"
      refine iff_ rfl ?_
      walk_at "lk"
      refine sft (SqT.of ha) (by rfl) ?_
      walk_at "lk"
      refine s_isi (d := .str "choose") (.str _) (ki_str _) ?_
      walk_at "lk"
      refine iff_ rfl ?_
      walk_at "lk"
      refine sft (SqT.of ha) (by rfl) ?_
      walk_at "lk"
      refine s_cut (SqT.of ha) fun p hp => ?_
      walk_at "lk"
      have s1 : Same H (upd H p (.tup [.ref b])) := same_new hp
      have e1 : (upd H p (.tup [.ref b])) p = some (.tup [.ref b]) := upd_same
      have hD1 := hD.ts (Ts.of s1)
      have hb1 := s1 _ _ hb
      generalize upd H p (.tup [.ref b]) = H1 at s1 e1 hD1 hb1 ⊢
      refine sEq rfl ?_
      walk_at "lk"
      refine iff_ (by decide +kernel) ?_
      walk_at "lk"
      refine iff_ rfl ?_
      walk_at "lk"
      refine sEq rfl ?_
      walk_at "lk"
      refine iff_ (by decide +kernel) ?_
      walk_at "lk"
      refine iff_ rfl ?_
      walk_at "lk"
      refine sEq rfl ?_
      walk_at "lk"
      refine iff_ (by decide +kernel) ?_
      walk_at "lk"
      refine iff_ rfl ?_
      walk_at "lk"
      refine sEq rfl ?_
      walk_at "lk"
      refine iff_ (by decide +kernel) ?_
      walk_at "lk"
      refine iff_ rfl ?_
      walk_at "lk"
      refine sEq rfl ?_
      walk_at "lk"
      refine itt_ (by decide +kernel) ?_
      walk_at "lk"
      refine ⟨p, _, rfl, .inr (SqT.of e1), ?_⟩
      walk_at "lk"
      refine sEq rfl ?_
      walk_at "lk"
      refine itt_ (by rfl) ?_
      walk_at "lk"
      refine sft (SqT.of e1) (by rfl) ?_
      walk_at "lk"
      refine ⟨.ref b, intsD ks, 1, 6, m, rfl, (dt_intsT hb1).dp, by decide, fun H2 s2 => ?_⟩
      have en : nextsD (intsD ks) 1 6 m = true := by
        show (decide ((1 : Int) ≤ (ks.map PyData.int).length) && decide (((ks.map PyData.int).length : Int) ≤ 6) && (ks.map PyData.int).all fun e => withinD e 0 (m - 1)) = true
        rw [List.length_map, List.all_map, Bool.and_eq_true, Bool.and_eq_true]
        refine ⟨⟨decide_eq_true (by omega), decide_eq_true (by omega)⟩, List.all_eq_true.mpr fun k hk => ?_⟩
        show (decide (0 ≤ k) && decide (k ≤ m - 1)) = true
        rw [Bool.and_eq_true]
        exact ⟨decide_eq_true (h4 k hk).1, decide_eq_true (by have := (h4 k hk).2; omega)⟩
      rw [en]
      exact q _ (s1.trans s2)
    | look j =>
      have hD : Dt H v (LRow.look j).d := hr0.dt
      obtain ⟨a, rfl, ha⟩ := hr0
      obtain ⟨h3, h4⟩ := hok
      walk_at "lk"
      refine s_isi hD.dp (ki_tup _) ?_
      walk_at "lk"
      refine iff_ rfl ?_
      refine ⟨_, rfl, true, .inr (.inl ⟨_, SqT.of ha, rfl⟩), ?_⟩
      walk_at "lk"
      refine iff_ rfl ?_
      walk_at "lk"
      refine sft (SqT.of ha) (by rfl) ?_
      walk_at "lk"
      refine s_isi (d := .str "look") (.str _) (ki_str _) ?_
      walk_at "lk"
      refine iff_ rfl ?_
      walk_at "lk"
      refine sft (SqT.of ha) (by rfl) ?_
      walk_at "lk"
      refine s_cut (SqT.of ha) fun p hp => ?_
      walk_at "lk"
      have s1 : Same H (upd H p (.tup [.int j])) := same_new hp
      have e1 : (upd H p (.tup [.int j])) p = some (.tup [.int j]) := upd_same
      have hD1 := hD.ts (Ts.of s1)
      generalize upd H p (.tup [.int j]) = H1 at s1 e1 hD1 ⊢
      refine sEq rfl ?_
      walk_at "lk"
      refine iff_ (by decide +kernel) ?_
      walk_at "lk"
      refine iff_ rfl ?_
      walk_at "lk"
      refine sEq rfl ?_
      walk_at "lk"
      refine iff_ (by decide +kernel) ?_
      walk_at "lk"
      refine iff_ rfl ?_
      walk_at "lk"
      refine sEq rfl ?_
      walk_at "lk"
      refine iff_ (by decide +kernel) ?_
      walk_at "lk"
      refine iff_ rfl ?_
      walk_at "lk"
      refine sEq rfl ?_
      walk_at "lk"
      refine itt_ (by decide +kernel) ?_
      walk_at "lk"
      refine ⟨p, _, rfl, .inr (SqT.of e1), ?_⟩
      walk_at "lk"
      refine sEq rfl ?_
      walk_at "lk"
      refine itt_ (by rfl) ?_
      walk_at "lk"
      refine sft (SqT.of ((Same.refl H1) _ _ e1)) (by rfl) ?_
      walk_at "lk"
      refine ⟨_, .int j, 0, m - 1, rfl, .int j, ?_⟩
      have ew : withinD (.int j) 0 (m - 1) = true := by
        show (decide (0 ≤ j) && decide (j ≤ m - 1)) = true
        rw [Bool.and_eq_true]
        exact ⟨decide_eq_true h3, decide_eq_true (by omega)⟩
      rw [ew]
      exact q _ (s1)
    | stop =>
      have hD : Dt H v (LRow.stop).d := hr0.dt
      obtain ⟨a, rfl, ha⟩ := hr0
      
      walk_at "lk"
      refine s_isi hD.dp (ki_tup _) ?_
      walk_at "lk"
      refine iff_ rfl ?_
      refine ⟨_, rfl, true, .inr (.inl ⟨_, SqT.of ha, rfl⟩), ?_⟩
      walk_at "lk"
      refine iff_ rfl ?_
      walk_at "lk"
      refine sft (SqT.of ha) (by rfl) ?_
      walk_at "lk"
      refine s_isi (d := .str "stop") (.str _) (ki_str _) ?_
      walk_at "lk"
      refine iff_ rfl ?_
      walk_at "lk"
      refine sft (SqT.of ha) (by rfl) ?_
      walk_at "lk"
      refine s_cut (SqT.of ha) fun p hp => ?_
      walk_at "lk"
      have s1 : Same H (upd H p (.tup [])) := same_new hp
      have e1 : (upd H p (.tup [])) p = some (.tup []) := upd_same
      have hD1 := hD.ts (Ts.of s1)
      generalize upd H p (.tup []) = H1 at s1 e1 hD1 ⊢
      refine sEq rfl ?_
      walk_at "lk"
      refine iff_ (by decide +kernel) ?_
      walk_at "lk"
      refine iff_ rfl ?_
      walk_at "lk"
      refine sEq rfl ?_
      walk_at "lk"
      refine iff_ (by decide +kernel) ?_
      walk_at "lk"
      refine iff_ rfl ?_
      walk_at "lk"
      refine sEq rfl ?_
      walk_at "lk"
      refine iff_ (by decide +kernel) ?_
      walk_at "lk"
      refine iff_ rfl ?_
      walk_at "lk"
      refine sEq rfl ?_
      walk_at "lk"
      refine iff_ (by decide +kernel) ?_
      walk_at "lk"
      refine iff_ rfl ?_
      walk_at "lk"
      refine sEq rfl ?_
      walk_at "lk"
      refine iff_ (by decide +kernel) ?_
      walk_at "lk"
      refine iff_ rfl ?_
      walk_at "lk"
      refine sEq rfl ?_
      walk_at "lk"
      refine itt_ (by decide +kernel) ?_
      walk_at "lk"
      refine ⟨_, rfl, false, .inr (.inl ⟨_, SqT.of e1, rfl⟩), ?_⟩
      exact q _ s1
end
end K01

namespace K01
open PySem PySem.Spec PyProof.Rows L2 Lk
local macro_rules | `(tactic| walk_at "lk") => `(tactic| (repeat (first
  | with_reducible refine ssq ?_ | with_reducible refine sas ?_ | with_reducible refine sgn ?_ | ((with_reducible show tVar _ _ _ _); refine sv rfl ?_) | with_reducible refine sc ?_ | with_reducible refine sop ?_ | with_reducible refine sun ?_
  | with_reducible refine sI0 ?_ | with_reducible refine sU ?_ | with_reducible refine stt ?_ | with_reducible refine stB ?_ | with_reducible refine sbl ?_ | with_reducible refine snt ?_ | with_reducible refine sif ?_ | with_reducible refine scB ?_
  | with_reducible refine scn ?_ | with_reducible refine snl ?_ | with_reducible refine scl ?_ | with_reducible refine stu ?_ | with_reducible refine sli ?_ | with_reducible refine sdr ?_ | with_reducible refine srt ?_ | with_reducible refine snx ?_ | with_reducible refine sfor ?_ | with_reducible refine sils ?_ | with_reducible refine sien ?_ | with_reducible refine sor ?_ | with_reducible refine sfg ?_
  | with_reducible refine sav ?_ | with_reducible refine sov ?_ | with_reducible refine snv ?_ | with_reducible refine sch ?_ | with_reducible refine san ?_ | with_reducible refine ssll ?_ | with_reducible refine spt ?_ | with_reducible refine snp ?_ | with_reducible refine sin ?_ | with_reducible refine sfl ?_ | with_reducible refine sfd ?_
  | ((with_reducible show Or _ _); first | refine Or.inl ⟨_, rfl, ?_⟩ | refine Or.inr ⟨_, rfl, ?_⟩))))

def NamesOk (ns : List Str) : Prop := 1 ≤ ns.length ∧ ns.length ≤ 6 ∧ (∀ x ∈ ns, nameS x = true) ∧ ns.Nodup
def RowsOk (ns : List Str) (rs : List LRow) : Prop := 1 ≤ rs.length ∧ rs.length ≤ 25 ∧ ∀ r ∈ rs, RowOk ns rs.length r
def spCheckVars (K : PySem.W.Frag) : Sp := fun vs H Q _ => ∃ (l : Addr) (ns : List Str), vs = [.ref l] ∧ SqE K H l (ns.map V.str) ∧ NamesOk ns ∧ ∀ H', Same H H' → Q .non H'
def spCheckRows (K : PySem.W.Frag) : Sp := fun vs H Q _ => ∃ (l t : Addr) (ns : List Str) (us : List V) (rs : List LRow), vs = [.ref l, .ref t] ∧ SqE K H l (ns.map V.str) ∧ NamesOk ns ∧ SqE K H t us ∧ RowsH H us rs ∧ RowsOk ns rs ∧ ∀ H', Same H H' → Q .non H'
def spInit (K : PySem.W.Frag) (A : Ad) : Sp := fun vs H Q _ => ∃ (x dx l t : Addr) (k : Nat) (ns : List Str) (us : List V) (rs : List LRow), vs = [.ref x, .int (k : Int), .ref l, .ref t] ∧ H x = some (.ins A.Program dx []) ∧ 1 ≤ k ∧ k ≤ 64 ∧ SqE K H l (ns.map V.str) ∧ NamesOk ns ∧ SqE K H t us ∧ RowsH H us rs ∧ RowsOk ns rs ∧
  ∀ H', Bar x H H' → ProgO K A.Program H' x k ns (rs.map (·.low k)) → Q .non H'
def spCheckRow (K : PySem.W.Frag) (A : Ad) : Sp := fun vs H Q _ => ∃ (x : Addr) (i : Int) (k : Nat) (ns : List Str) (rs : List LRow), vs = [.ref x, .int i] ∧ ProgO K A.Program H x k ns rs ∧ 0 ≤ i ∧ i < rs.length ∧ Q .non H
def spItem (K : PySem.W.Frag) (A : Ad) : Sp := fun vs H Q _ => ∃ (x : Addr) (i k : Nat) (ns : List Str) (rs : List LRow) (r : LRow), vs = [.ref x, .int (i : Int)] ∧ ProgO K A.Program H x k ns rs ∧ rs[i]? = some r ∧ ∀ v, RowH H v r → Q v H
def spLen (K : PySem.W.Frag) (A : Ad) : Sp := fun vs H Q _ => ∃ (x : Addr) (k : Nat) (ns : List Str) (rs : List LRow), vs = [.ref x] ∧ ProgO K A.Program H x k ns rs ∧ Q (.int rs.length) H
section
variable {P : Program} {w : World} {K : PySem.W.Frag} {mg : Str → Option Value} {base : Heap} {A : Ad}
abbrev s__check_variables : Stmt := top 22
theorem sc__check_variables : FnScope ["variables", "index", "name"] ["variables"] (defScope s__check_variables) := ⟨rfl, rfl, rfl, by decide +kernel, rfl, by decide +kernel, by decide +kernel⟩
theorem ok_check_variables {f : Addr} {fd : FuncData} (F : Fun K "_check_variables" "_check_variables" s__check_variables f fd) (T : Txt P w K mg base A) (c_is_sequence : Cal P w K mg base 1 "is_sequence" ["value", "least", "most"] (spSeq K)) (c_is_name : Cal P w K mg base 1 "is_name" ["value"] (spIsName K)) : FnOk P w K mg base CX0 2 f fd ["variables"] (spCheckVars K) := by
  refine F.ok sc__check_variables (fun vs H Q E h => ?_) (fun cdv Ar outer s H vs Q E hr h => ?_)
  · obtain ⟨l, ns, rfl, _⟩ := h
    rfl
  · obtain ⟨l, ns, rfl, hl, hok, q⟩ := h
    refine ⟨_, (pss_cons (ps_if (pt_not (pt_val (pcal c_is_sequence hr (by decide) (pa_cons (pv 0) (pa_cons pe_int (pa_cons (pe_gint (by rfl) T.g_MOST_VARIABLES) pa_nil)))))) (pss_one ps_never) pss_nil)
        (pss_one (ps_for PassesOwn.never rfl (pi_enumE (by rfl) T.z_enumerate (pa_cons (pv 0) pa_nil)) (pg_tup rfl (pgs_cons (pg_name (i := 1) sc__check_variables.nd rfl (Or.inl rfl)) (pgs_cons (pg_name (i := 2) sc__check_variables.nd rfl (Or.inl rfl)) pgs_nil))) (pss_one (ps_if (PW.pt (pw_or (pt_not (pt_val (pcal c_is_name hr (by decide) (pa_cons (pv 2) pa_nil)))) (pw_or1 (pt_cmpR op_in_seq (pv 2) (pe_slice sl_either (pv 0) po_none (po_some (pv 1))) (by rfl))))) (pss_one ps_never) pss_nil))))), ?_⟩
    obtain ⟨n1, n2, n3, nd⟩ := hok
    obtain ⟨d, hd, hs⟩ := sqe_seq hl (dp_strs ns)
    walk_at "lk"
    refine ⟨.ref l, d, 1, 6, rfl, hd, fun H1 s1 => ?_⟩
    rw [hs 1 6 (by rw [List.length_map]; omega) (by rw [List.length_map]; omega)]
    walk_at "lk"
    refine iff_ rfl ?_
    walk_at "lk"
    refine for_enE (xs := ns.map V.str) (fun i σ' H' => (∃ e1 e2, σ' = [some (.ref l), e1, e2]) ∧ Same H1 H') rfl (hl.same s1) ⟨⟨_, _, rfl⟩, Same.refl _⟩ (fun i σ' H' h => h.2) ?_ ?_
    · rintro i v p σ' H' hi ⟨⟨e1, e2, rfl⟩, s2⟩ hp
      have s3 : Same H1 (upd H' p (.tup [.int (i : Nat), v])) := s2.trans (same_new hp)
      refine g_pair (SqT.of upd_same) ?_
      generalize upd H' p (.tup [.int (i : Nat), v]) = H3 at s3 ⊢
      have hlt : i < ns.length := by
        have := (List.getElem?_eq_some_iff.mp hi).1
        rwa [List.length_map] at this
      rw [List.getElem?_map, List.getElem?_eq_getElem hlt] at hi
      cases hi
      walk_at "lk"
      refine ⟨ns[i], rfl, n3 _ (List.getElem_mem hlt), fun H4 s4 => ?_⟩
      walk_at "lk"
      refine iff_ rfl ?_
      walk_at "lk"
      refine s_take (hl.same (s1.trans (s3.trans s4))) (by rw [List.length_map]; exact hlt) fun t H5 s5 h5 => ?_
      rw [← List.map_take] at h5
      refine ⟨t, _, rfl, h5, rfl, flat_strs _, ?_⟩
      show (∃ k, V.bl (inV (.str ns[i]) ((ns.take i).map V.str)) = .bl k ∧ _)
      rw [inV_not (nodup_take nd (List.getElem?_eq_getElem hlt))]
      walk_at "lk"
      refine iff_ rfl ?_
      exact ⟨⟨_, _, rfl⟩, s3.trans (s4.trans s5)⟩
    · rintro σ' H' ⟨_, s2⟩
      exact q _ (s1.trans s2)
abbrev s__check_rows : Stmt := top 24
theorem sc__check_rows : FnScope ["variables", "rows", "index", "item"] ["variables", "rows"] (defScope s__check_rows) := ⟨rfl, rfl, rfl, by decide +kernel, rfl, by decide +kernel, by decide +kernel⟩
theorem ok_check_rows {f : Addr} {fd : FuncData} (F : Fun K "_check_rows" "_check_rows" s__check_rows f fd) (T : Txt P w K mg base A) (c_is_sequence : Cal P w K mg base 1 "is_sequence" ["value", "least", "most"] (spSeq K)) (c_is_row : Cal P w K mg base 4 "is_row" ["item", "variables", "many"] (spIsRow K)) : FnOk P w K mg base CX0 5 f fd ["variables", "rows"] (spCheckRows K) := by
  refine F.ok sc__check_rows (fun vs H Q E h => ?_) (fun cdv Ar outer s H vs Q E hr h => ?_)
  · obtain ⟨l, t, ns, us, rs, rfl, _⟩ := h
    rfl
  · obtain ⟨l, t, ns, us, rs, rfl, hl, hok, ht, hr0, hrs, q⟩ := h
    refine ⟨_, (pss_cons (ps_if (pt_not (pt_val (pcal c_is_sequence hr (by decide) (pa_cons (pv 1) (pa_cons pe_int (pa_cons (pe_gint (by rfl) T.g_MOST_ROWS) pa_nil)))))) (pss_one ps_never) pss_nil)
        (pss_one (ps_for PassesOwn.never rfl (pi_enumE (by rfl) T.z_enumerate (pa_cons (pv 1) pa_nil)) (pg_tup rfl (pgs_cons (pg_name (i := 2) sc__check_rows.nd rfl (Or.inl rfl)) (pgs_cons (pg_name (i := 3) sc__check_rows.nd rfl (Or.inl rfl)) pgs_nil))) (pss_one (ps_if (pt_not (pt_val (pcal c_is_row hr (by decide) (pa_cons (pv 3) (pa_cons (pv 0) (pa_cons (pe_callB call_len_seq (by rfl) T.z_len PySem.boot_len (pa_cons (pv 1) pa_nil)) pa_nil)))))) (pss_one ps_never) pss_nil))))), ?_⟩
    obtain ⟨n1, n2, n3, nd⟩ := hok
    obtain ⟨r1, r2, r3⟩ := hrs
    obtain ⟨d, hd, hs⟩ := sqe_seq ht hr0.dt.dp
    have hlen := hr0.len
    walk_at "lk"
    refine ⟨.ref t, d, 1, 25, rfl, hd, fun H1 s1 => ?_⟩
    rw [hs 1 25 (by rw [List.length_map]; omega) (by rw [List.length_map]; omega)]
    walk_at "lk"
    refine iff_ rfl ?_
    walk_at "lk"
    refine for_enE (xs := us) (fun i σ' H' => (∃ e1 e2, σ' = [some (.ref l), some (.ref t), e1, e2]) ∧ Same H1 H') rfl (ht.same s1) ⟨⟨_, _, rfl⟩, Same.refl _⟩ (fun i σ' H' h => h.2) ?_ ?_
    · rintro i v p σ' H' hi ⟨⟨e1, e2, rfl⟩, s2⟩ hp
      have s3 : Same H1 (upd H' p (.tup [.int (i : Nat), v])) := s2.trans (same_new hp)
      refine g_pair (SqT.of upd_same) ?_
      generalize upd H' p (.tup [.int (i : Nat), v]) = H3 at s3 ⊢
      obtain ⟨r, hri, hrv⟩ := hr0.at hi
      have s13 := s1.trans s3
      walk_at "lk"
      refine ⟨t, us, rfl, ht.same s13, ?_⟩
      walk_at "lk"
      refine ⟨v, l, us.length, ns, r, rfl, hl.same s13, by omega, hrv.ts (Ts.of s13), by rw [hlen]; exact r3 r (List.mem_of_getElem? hri), fun H4 s4 => ?_⟩
      walk_at "lk"
      refine iff_ rfl ?_
      exact ⟨⟨_, _, rfl⟩, s3.trans s4⟩
    · rintro σ' H' ⟨_, s2⟩
      exact q _ (s1.trans s2)
abbrev s_Program___len__ : Stmt := inClass (top 20) 2
theorem sc_Program___len__ : FnScope ["self"] ["self"] (defScope s_Program___len__) := ⟨rfl, rfl, rfl, by decide +kernel, rfl, by decide +kernel, by decide +kernel⟩
theorem ok_len {f : Addr} {fd : FuncData} (F : Fun K "__len__" "Program.__len__" s_Program___len__ f fd) (T : Txt P w K mg base A) : FnOk P w K mg base CX0 1 f fd ["self"] (spLen K A) := by
  refine F.ok sc_Program___len__ (fun vs H Q E h => ?_) (fun cdv Ar outer s H vs Q E hr h => ?_)
  · obtain ⟨x, k, ns, rs, rfl, _⟩ := h
    rfl
  · obtain ⟨x, k, ns, rs, rfl, hp, q⟩ := h
    refine ⟨_, (pss_one (ps_ret (pe_callB call_len_seq (by rfl) T.z_len PySem.boot_len (pa_cons (pe_fld (pv 0) rfl) pa_nil)))), ?_⟩
    obtain ⟨dx, tv, tr, vs, hx, h1, h2, h3⟩ := hp
    walk_at "lk"
    refine ⟨x, A.Program, dx, _, _, rfl, hx, T.c_Program, T.n_rows, rfl, ?_⟩
    walk_at "lk"
    
    refine ⟨tr, vs, rfl, .inr h2, ?_⟩
    rw [h3.len]
    exact q
abbrev s_check_row : Stmt := top 21
theorem sc_check_row : FnScope ["program", "row"] ["program", "row"] (defScope s_check_row) := ⟨rfl, rfl, rfl, by decide +kernel, rfl, by decide +kernel, by decide +kernel⟩
theorem ok_check_row {f : Addr} {fd : FuncData} (F : Fun K "check_row" "check_row" s_check_row f fd) (T : Txt P w K mg base A) (c_is_within : Cal P w K mg base 2 "is_within" ["value", "least", "most"] (spWithin K)) : FnOk P w K mg base CX0 3 f fd ["program", "row"] (spCheckRow K A) := by
  refine F.ok sc_check_row (fun vs H Q E h => ?_) (fun cdv Ar outer s H vs Q E hr h => ?_)
  · obtain ⟨x, i, k, ns, rs, rfl, _⟩ := h
    rfl
  · obtain ⟨x, i, k, ns, rs, rfl, hp, i0, i1, q⟩ := h
    refine ⟨_, (pss_one (ps_if (pt_not (pt_val (pcal c_is_within hr (by decide) (pa_cons (pv 1) (pa_cons pe_int (pa_cons (pe_op op_sub (pe_callB call_len_seq (by rfl) T.z_len PySem.boot_len (pa_cons (pe_fld (pv 0) rfl) pa_nil)) pe_int) pa_nil)))))) (pss_one ps_never) pss_nil)), ?_⟩
    obtain ⟨dx, tv, tr, vs, hx, h1, h2, h3⟩ := hp
    walk_at "lk"
    refine ⟨x, A.Program, dx, _, _, rfl, hx, T.c_Program, T.n_rows, rfl, ?_⟩
    walk_at "lk"
    
    refine ⟨tr, vs, rfl, .inr h2, ?_⟩
    walk_at "lk"
    refine ⟨.int i, .int i, 0, _, rfl, .int i, ?_⟩
    have e : withinD (.int i) 0 ((vs.length : Int) - 1) = true := by
      show (decide (0 ≤ i) && decide (i ≤ (vs.length : Int) - 1)) = true
      have := h3.len
      rw [Bool.and_eq_true]
      exact ⟨decide_eq_true i0, decide_eq_true (by omega)⟩
    rw [e]
    walk_at "lk"
    refine iff_ rfl ?_
    exact q
abbrev s_Program___getitem__ : Stmt := inClass (top 20) 3
theorem sc_Program___getitem__ : FnScope ["self", "at"] ["self", "at"] (defScope s_Program___getitem__) := ⟨rfl, rfl, rfl, by decide +kernel, rfl, by decide +kernel, by decide +kernel⟩
theorem ok_item {f : Addr} {fd : FuncData} (F : Fun K "__getitem__" "Program.__getitem__" s_Program___getitem__ f fd) (T : Txt P w K mg base A) (c_check_row : Cal P w K mg base 3 "check_row" ["program", "row"] (spCheckRow K A)) : FnOk P w K mg base CX0 4 f fd ["self", "at"] (spItem K A) := by
  refine F.ok sc_Program___getitem__ (fun vs H Q E h => ?_) (fun cdv Ar outer s H vs Q E hr h => ?_)
  · obtain ⟨x, i, k, ns, rs, r, rfl, _⟩ := h
    rfl
  · obtain ⟨x, i, k, ns, rs, r, rfl, hp, hi, q⟩ := h
    refine ⟨_, (pss_cons (ps_expr (pcal c_check_row hr (by decide) (pa_cons (pv 0) (pa_cons (pv 1) pa_nil))))
        (pss_one (ps_ret (pe_ix ix_tup (pe_fld (pv 0) rfl) (pv 1) (fun _ _ => rfl))))), ?_⟩
    have hlt := (List.getElem?_eq_some_iff.mp hi).1
    walk_at "lk"
    refine ⟨x, i, k, ns, rs, rfl, hp, by omega, by omega, ?_⟩
    obtain ⟨dx, tv, tr, vs, hx, h1, h2, h3⟩ := hp
    walk_at "lk"
    refine ⟨x, A.Program, dx, _, _, rfl, hx, T.c_Program, T.n_rows, rfl, ?_⟩
    walk_at "lk"
    
    obtain ⟨v, e1, e2⟩ := h3.get hi
    refine sft h2 (Lk.atI_nat e1) ?_
    exact q v e2
abbrev s_Program___init__ : Stmt := inClass (top 20) 0
theorem sc_Program___init__ : FnScope ["self", "width", "variables", "rows", "item"] ["self", "width", "variables", "rows"] (defScope s_Program___init__) := ⟨rfl, rfl, rfl, by decide +kernel, rfl, by decide +kernel, by decide +kernel⟩
theorem ok_init {f : Addr} {fd : FuncData} (F : Fun K "__init__" "Program.__init__" s_Program___init__ f fd) (T : Txt P w K mg base A) (c_is_width : Cal P w K mg base 3 "is_width" ["value"] (spWidth K)) (c__check_variables : Cal P w K mg base 2 "_check_variables" ["variables"] (spCheckVars K)) (c__check_rows : Cal P w K mg base 5 "_check_rows" ["variables", "rows"] (spCheckRows K)) (c_lowered_row : Cal P w K mg base 2 "lowered_row" ["item", "width"] (spLowRow K)) : FnOk P w K mg base CX0 6 f fd ["self", "width", "variables", "rows"] (spInit K A) := by
  refine F.ok sc_Program___init__ (fun vs H Q E h => ?_) (fun cdv Ar outer s H vs Q E hr h => ?_)
  · obtain ⟨x, dx, l, t, k, ns, us, rs, rfl, _⟩ := h
    rfl
  · obtain ⟨x, dx, l, t, k, ns, us, rs, rfl, hx, k1, k2, hl, hns, ht, hr0, hrs, q⟩ := h
    refine ⟨_, (pss_cons (ps_if (pt_not (pt_val (pcal c_is_width hr (by decide) (pa_cons (pv 1) pa_nil)))) (pss_one ps_never) pss_nil)
        (pss_cons (ps_expr (pcal c__check_variables hr (by decide) (pa_cons (pv 2) pa_nil)))
        (pss_cons (ps_expr (pcal c__check_rows hr (by decide) (pa_cons (pv 2) (pa_cons (pv 3) pa_nil))))
        (pss_cons (ps_fld (pv 0) (pv 1) (by rfl))
        (pss_cons (ps_fld (pv 0) (pe_callTy call_tupOf (by rfl) T.z_tuple (by decide +kernel) (pa_cons (pv 2) pa_nil)) (by rfl))
        (pss_one (ps_fld (pv 0) (pe_callTy call_tupOf (by rfl) T.z_tuple (by decide +kernel) (pa_cons (pe_lc (own := [("item", 4)]) (g := gName 4) (tt := tYes) rfl sc_Program___init__.nd (pi_either (pv 3)) (blkOk_by (own := [("item", 4)]) (N := ["self", "width", "variables", "rows", "item"]) (sc := defScope s_Program___init__) (by decide +kernel)) (fun _ _ _ _ _ => pg_name (i := 4) sc_Program___init__.nd rfl (Or.inl rfl)) (fun _ _ _ _ _ => pts_nil) (fun _ _ _ _ _ => (pcal c_lowered_row hr (by decide) (pa_cons (pv 4) (pa_cons (pv 1) pa_nil))))) pa_nil)) (by rfl)))))))), ?_⟩
    obtain ⟨hr1, hr2, hr3⟩ := hrs
    have hlen := hr0.len
    walk_at "lk"
    refine ⟨_, .int (k : Int), rfl, .int _, ?_⟩
    have e : withinD (.int (k : Int)) 1 64 = true := by
      show (decide ((1 : Int) ≤ k) && decide ((k : Int) ≤ 64)) = true
      rw [Bool.and_eq_true]
      exact ⟨decide_eq_true (by omega), decide_eq_true (by omega)⟩
    rw [e]
    walk_at "lk"
    refine iff_ rfl ?_
    walk_at "lk"
    refine ⟨l, ns, rfl, hl, hns, fun H1 s1 => ?_⟩
    walk_at "lk"
    refine ⟨l, t, ns, us, rs, rfl, hl.same s1, hns, ht.same s1, hr0.ts (Ts.of s1), ⟨hr1, hr2, hr3⟩, fun H2 s2 => ?_⟩
    have s12 := s1.trans s2
    walk_at "lk"
    refine ⟨x, A.Program, dx, [], rfl, s12 _ _ hx, T.c_Program, T.n_width, by decide, ?_⟩
    have b3 : Bar x H (upd H2 x (.ins A.Program dx (putF "width" (.int (k : Int)) []))) := (Bar.of s12).trans Bar.upd
    have x3 : (upd H2 x (.ins A.Program dx (putF "width" (.int (k : Int)) []))) x = some (.ins A.Program dx [("width", .int (k : Int))]) := upd_same
    generalize upd H2 x (.ins A.Program dx (putF "width" (.int (k : Int)) [])) = H3 at b3 x3 ⊢
    walk_at "lk"
    refine s_tupE (b3.sqE hx hl) fun tv H4 s4 h4 => ?_
    walk_at "lk"
    refine ⟨x, A.Program, dx, _, rfl, s4 _ _ x3, T.c_Program, T.n_variables, Nat.le_of_ble_eq_true rfl, ?_⟩
    have b5' : Bar x H4 (upd H4 x (.ins A.Program dx (putF "variables" (.ref tv) [("width", .int (k : Int))]))) := Bar.upd
    have x5 : (upd H4 x (.ins A.Program dx (putF "variables" (.ref tv) [("width", .int (k : Int))]))) x = some (.ins A.Program dx [("width", .int (k : Int)), ("variables", .ref tv)]) := upd_same
    generalize upd H4 x (.ins A.Program dx (putF "variables" (.ref tv) [("width", .int (k : Int))])) = H5 at b5' x5 ⊢
    have b5 : Bar x H H5 := (b3.trans (Bar.of s4)).trans b5'
    have h5 := b5'.sqT (s4 _ _ x3) h4
    walk_at "lk"
    refine tlc_rowsE (LRow.low k) rfl (b5.sqE hx ht) (hr0.ts (b5.ts hx)) (by omega) (fun _ => rfl) (fun i v r H' hri hv s' R qr => ?_) (fun D ys H6 s6 hD hDl hys => ?_)
    · walk_at "lk"
      exact ⟨v, k, r, rfl, k2, hv, ⟨ns, rs.length, hr3 r (List.mem_of_getElem? hri), hns.2.1⟩, qr⟩
    · walk_at "lk"
      refine s_tupE (.inl (SqL.of hDl)) fun tr H7 s7 h7 => ?_
      walk_at "lk"
      refine ⟨x, A.Program, dx, _, rfl, s7 _ _ (s6 _ _ x5), T.c_Program, T.n_rows, Nat.le_of_ble_eq_true rfl, ?_⟩
      have b8 : Bar x H7 (upd H7 x (.ins A.Program dx (putF "rows" (.ref tr) [("width", .int (k : Int)), ("variables", .ref tv)]))) := Bar.upd
      have x8 : (upd H7 x (.ins A.Program dx (putF "rows" (.ref tr) [("width", .int (k : Int)), ("variables", .ref tv)]))) x = some (.ins A.Program dx (prF k tv tr)) := upd_same
      have x7 := s7 _ _ (s6 _ _ x5)
      refine q _ ((b5.trans (Bar.of (s6.trans s7))).trans b8) ⟨dx, tv, tr, ys, x8, b8.sqT x7 (same_sqT s7 (same_sqT s6 h5)), b8.sqT x7 h7, (hys.ts (Ts.of s7)).ts (b8.ts x7)⟩
end
end K01

namespace K01
open PySem PySem.Spec PyProof.Rows L2 Lk
local macro_rules | `(tactic| walk_at "lk") => `(tactic| (repeat (first
  | with_reducible refine ssq ?_ | with_reducible refine sas ?_ | with_reducible refine sgn ?_ | ((with_reducible show tVar _ _ _ _); refine sv rfl ?_) | with_reducible refine sc ?_ | with_reducible refine sop ?_ | with_reducible refine sun ?_
  | with_reducible refine sI0 ?_ | with_reducible refine sU ?_ | with_reducible refine stt ?_ | with_reducible refine stB ?_ | with_reducible refine sbl ?_ | with_reducible refine snt ?_ | with_reducible refine sif ?_ | with_reducible refine scB ?_
  | with_reducible refine scn ?_ | with_reducible refine snl ?_ | with_reducible refine scl ?_ | with_reducible refine stu ?_ | with_reducible refine sli ?_ | with_reducible refine sdr ?_ | with_reducible refine srt ?_ | with_reducible refine snx ?_ | with_reducible refine sfor ?_ | with_reducible refine sils ?_ | with_reducible refine sien ?_ | with_reducible refine sor ?_ | with_reducible refine sfg ?_
  | with_reducible refine sav ?_ | with_reducible refine sov ?_ | with_reducible refine snv ?_ | with_reducible refine sch ?_ | with_reducible refine san ?_ | with_reducible refine ssll ?_ | with_reducible refine spt ?_ | with_reducible refine snp ?_ | with_reducible refine sin ?_ | with_reducible refine sfl ?_ | with_reducible refine sfd ?_
  | ((with_reducible show Or _ _); first | refine Or.inl ⟨_, rfl, ?_⟩ | refine Or.inr ⟨_, rfl, ?_⟩))))

/-- two programs, or a program and a tuple -/
def spEqP (K : PySem.W.Frag) (A : Ad) : Sp := fun vs H Q _ => ∃ (x : Addr) (y : V) (k : Nat) (ns : List Str) (rs : List LRow), vs = [.ref x, y] ∧ ProgO K A.Program H x k ns rs ∧ (∀ n ∈ ns, nameS n = true) ∧ (∀ r ∈ rs, RowNm r) ∧
  ((∃ (z : Addr) (k2 : Nat) (ns2 : List Str) (rs2 : List LRow), y = .ref z ∧ ProgO K A.Program H z k2 ns2 rs2 ∧ (∀ n ∈ ns2, nameS n = true) ∧ (∀ r ∈ rs2, RowNm r) ∧ Q (.bl (prEq k ns rs k2 ns2 rs2)) H) ∨ ∃ (t : Addr) (xs : List V), y = .ref t ∧ H t = some (.tup xs) ∧ Q (.bl false) H)
section
variable {P : Program} {w : World} {K : PySem.W.Frag} {mg : Str → Option Value} {base : Heap} {A : Ad}
abbrev s_Program___eq__ : Stmt := inClass (top 20) 1
theorem sc_Program___eq__ : FnScope ["self", "other"] ["self", "other"] (defScope s_Program___eq__) := ⟨rfl, rfl, rfl, by decide +kernel, rfl, by decide +kernel, by decide +kernel⟩
theorem ok_eq {f : Addr} {fd : FuncData} (F : Fun K "__eq__" "Program.__eq__" s_Program___eq__ f fd) (T : Txt P w K mg base A) : FnOk P w K mg base CX0 1 f fd ["self", "other"] (spEqP K A) := by
  refine F.ok sc_Program___eq__ (fun vs H Q E h => ?_) (fun cdv Ar outer s H vs Q E hr h => ?_)
  · obtain ⟨x, y, k, ns, rs, rfl, _⟩ := h
    rfl
  · obtain ⟨x, y, k, ns, rs, rfl, hp, hn, hr1, h⟩ := h
    refine ⟨_, (pss_one (ps_ret (pe_and (pe_callB call_isi (by rfl) T.z_isinstance (by decide +kernel) (pa_cons (pv 1) (pa_cons (pe_glob (v := .ref A.Program) (by rfl) T.g_Program rfl) pa_nil))) (pe_and (pe_cmpR op_eq (pe_fld (pv 0) rfl) (pe_fld (pv 1) rfl) (nomark _)) (pe_and (pe_cmpR (op_eqD hr.units) (pe_fld (pv 0) rfl) (pe_fld (pv 1) rfl) (nomark _)) (pe_one (pe_cmpR (op_eqD hr.units) (pe_fld (pv 0) rfl) (pe_fld (pv 1) rfl) (nomark _)))))))), ?_⟩
    obtain ⟨dx, tv, tr, vs, hx, h1, h2, h3⟩ := hp
    rcases h with ⟨z, k2, ns2, rs2, rfl, hp2, hn2, hr2, q⟩ | ⟨t, xs, rfl, ht, q⟩
    · obtain ⟨dy, tv2, tr2, vs2, hz, g1, g2, g3⟩ := hp2
      walk_at "lk"
      refine ⟨_, _, .ref A.Program, .ref A.Program, true, rfl, .own _, .base (.ins hz T.c_Program T.i_cls T.i_get T.i_tk T.i_mro), T.i_self, ?_⟩
      walk_at "lk"
      refine itt_ rfl ?_
      walk_at "lk"
      refine ⟨x, A.Program, dx, _, _, rfl, hx, T.c_Program, T.n_width, rfl, ?_⟩
      walk_at "lk"
      refine ⟨z, A.Program, dy, _, _, rfl, hz, T.c_Program, T.n_width, rfl, ?_⟩
      refine sEq rfl ?_
      walk_at "lk"
      have ek : decide (V.int (k : Int) = V.int (k2 : Int)) = decide (k = k2) := decide_eq_decide.mpr ⟨fun e => by have := V.int.inj e; omega, fun e => by rw [e]⟩
      rw [ek]
      by_cases e : k = k2
      · refine itt_ (decide_eq_true e) ?_
        walk_at "lk"
        refine ⟨x, A.Program, dx, _, _, rfl, hx, T.c_Program, T.n_variables, rfl, ?_⟩
        walk_at "lk"
        refine ⟨z, A.Program, dy, _, _, rfl, hz, T.c_Program, T.n_variables, rfl, ?_⟩
        refine ⟨namesD ns, namesD ns2, .tup h1 (dp_strs ns), .tup g1 (dp_strs ns2), shaped_names hn, shaped_names hn2, ?_⟩
        walk_at "lk"
        have q1 : Q (.bl (PyData.eqv (namesD ns) (namesD ns2) && PyData.eqv (rowsD rs) (rowsD rs2))) H := by
          have e2 : prEq k ns rs k2 ns2 rs2 = (PyData.eqv (namesD ns) (namesD ns2) && PyData.eqv (rowsD rs) (rowsD rs2)) := by
            unfold prEq
            rw [decide_eq_true e, Bool.true_and]
          rw [← e2]
          exact q
        cases ev : PyData.eqv (namesD ns) (namesD ns2) with
        | true =>
          rw [ev, Bool.true_and] at q1
          refine itt_ rfl ?_
          walk_at "lk"
          refine ⟨x, A.Program, dx, _, _, rfl, hx, T.c_Program, T.n_rows, rfl, ?_⟩
          walk_at "lk"
          refine ⟨z, A.Program, dy, _, _, rfl, hz, T.c_Program, T.n_rows, rfl, ?_⟩
          exact ⟨rowsD rs, rowsD rs2, .tup h2 h3.dt.dp, .tup g2 g3.dt.dp, shaped_rows hr1, shaped_rows hr2, q1⟩
        | false =>
          rw [ev, Bool.false_and] at q1
          refine iff_ rfl ?_
          exact q1
      · refine iff_ (decide_eq_false e) ?_
        have e2 : prEq k ns rs k2 ns2 rs2 = false := by
          unfold prEq
          rw [decide_eq_false e, Bool.false_and, Bool.false_and]
        rw [e2] at q
        exact q
    · walk_at "lk"
      refine ⟨_, _, .type "tuple", .ref A.Program, false, rfl, .own _, .base (.tup ht), T.i_tup, ?_⟩
      walk_at "lk"
      refine iff_ rfl ?_
      exact q
end
end K01

namespace K01
open PySem PySem.Spec PyProof.Rows L2 Lk
local macro_rules | `(tactic| walk_at "lk") => `(tactic| (repeat (first
  | with_reducible refine ssq ?_ | with_reducible refine sas ?_ | with_reducible refine sgn ?_ | ((with_reducible show tVar _ _ _ _); refine sv rfl ?_) | with_reducible refine sc ?_ | with_reducible refine sop ?_ | with_reducible refine sun ?_
  | with_reducible refine sI0 ?_ | with_reducible refine sU ?_ | with_reducible refine stt ?_ | with_reducible refine stB ?_ | with_reducible refine sbl ?_ | with_reducible refine snt ?_ | with_reducible refine sif ?_ | with_reducible refine scB ?_
  | with_reducible refine scn ?_ | with_reducible refine snl ?_ | with_reducible refine scl ?_ | with_reducible refine stu ?_ | with_reducible refine sli ?_ | with_reducible refine sdr ?_ | with_reducible refine srt ?_ | with_reducible refine snx ?_ | with_reducible refine sfor ?_ | with_reducible refine sils ?_ | with_reducible refine sien ?_ | with_reducible refine sor ?_ | with_reducible refine sfg ?_
  | with_reducible refine sav ?_ | with_reducible refine sov ?_ | with_reducible refine snv ?_ | with_reducible refine sch ?_ | with_reducible refine san ?_ | with_reducible refine ssll ?_ | with_reducible refine spt ?_ | with_reducible refine snp ?_ | with_reducible refine sin ?_ | with_reducible refine sfl ?_ | with_reducible refine sfd ?_ | with_reducible refine sbm ?_ | with_reducible refine sifx ?_
  | ((with_reducible show Or _ _); first | refine Or.inl ⟨_, rfl, ?_⟩ | refine Or.inr ⟨_, rfl, ?_⟩))))

/-- the law's own draws -/
def spDraw : Sp := fun vs H Q _ => ∃ (p : Addr) (m : Int), vs = [.ref p, .int m] ∧ 0 < m ∧ m.natAbs < 2 ^ 100 ∧ Wl H p ∧ ∀ (r : Int) (H' : Hp), 0 ≤ r → r < m → Wk p H H' → Q (.int r) H'
def spOne : Sp := fun vs H Q _ => ∃ (p l : Addr) (xs : List V), vs = [.ref p, .ref l] ∧ Wl H p ∧ l ≠ p ∧ H l = some (.lst xs) ∧ 0 < xs.length ∧ xs.length ≤ 1000 ∧ ∀ (v : V) (H' : Hp), v ∈ xs → Wk p H H' → Q v H'
def spNumber : Sp := fun vs H Q _ => ∃ (p : Addr) (k : Nat), vs = [.ref p, .int (k : Int)] ∧ k ≤ 64 ∧ Wl H p ∧ ∀ (r : Int) (H' : Hp), 0 ≤ r → r < 2 ^ k → Wk p H H' → Q (.int r) H'
def spForm0 : Sp := fun vs H Q _ => ∃ (p : Addr) (k m : Nat), vs = [.ref p, .int (k : Int), .int (m : Int)] ∧ k ≤ 64 ∧ m ≤ 6 ∧ Wl H p ∧ ∀ (b : Addr) (f : List Int) (H' : Hp), Wk p H H' → H' b = some (.tup (f.map .int)) → f.length = m + 1 → (∀ x ∈ f, 0 ≤ x ∧ x < 2 ^ k) → Q (.ref b) H'

section
variable {P : Program} {w : World} {K : PySem.W.Frag} {mg : Str → Option Value} {base : Heap} {A : Ad}
abbrev s__law_draw : Stmt := top 29
theorem sc__law_draw : FnScope ["_law_well", "_law_many", "_law_number_here", "_law_found"] ["_law_well", "_law_many"] (defScope s__law_draw) := ⟨rfl, rfl, rfl, by decide +kernel, rfl, by decide +kernel, by decide +kernel⟩
theorem ok_draw {f : Addr} {fd : FuncData} (F : Fun K "_law_draw" "_law_draw" s__law_draw f fd) (T : Txt P w K mg base A) : FnOk P w K mg base CX0 1 f fd ["_law_well", "_law_many"] spDraw := by
  refine F.ok sc__law_draw (fun vs H Q E h => ?_) (fun cdv Ar outer s H vs Q E hr h => ?_)
  · obtain ⟨p, m, rfl, _⟩ := h
    rfl
  · obtain ⟨p, m, rfl, m0, m1, hw, k⟩ := h
    refine ⟨_, (pss_cons (ps_if (pt_cmpR op_gt (pe_ix ix_list (pv 0) pe_int (fun _ _ => rfl)) pe_int (nomark _)) (pss_cons (ps_set (i := 3) sc__law_draw.nd rfl (Or.inl rfl) (pe_op op_mod (pe_callTy call_int1 (by rfl) T.z_int (by decide +kernel) (pa_cons (pe_ix ix_list (pv 0) pe_int (fun _ _ => rfl)) pa_nil)) (pv 1)))
        (pss_cons (ps_asg (pe_op op_fdivW (pe_ix ix_list (pv 0) pe_int (fun _ _ => rfl)) (pv 1)) (pg_sub (pv 0) pe_int set_list))
        (pss_one (ps_ret (pv 3))))) pss_nil)
        (pss_cons (ps_asg (pe_op op_add (pe_ix ix_list (pv 0) pe_int (fun _ _ => rfl)) pe_int) (pg_sub (pv 0) pe_int set_list))
        (pss_cons (ps_set (i := 2) sc__law_draw.nd rfl (Or.inl rfl) (pe_op op_mod (pe_callTy call_int1 (by rfl) T.z_int (by decide +kernel) (pa_cons (pe_op op_mul (pe_op op_add (pe_op op_add (pe_ix ix_list (pv 0) pe_int (fun _ _ => rfl)) (pe_op op_mul pe_int (pe_ix ix_list (pv 0) pe_int (fun _ _ => rfl)))) pe_int) pe_int) pa_nil)) pe_int))
        (pss_cons (ps_set (i := 2) sc__law_draw.nd rfl (Or.inl rfl) (pe_op op_mod (pe_callTy call_int1 (by rfl) T.z_int (by decide +kernel) (pa_cons (pe_op op_mul (pv 2) (pe_op op_add (pe_op op_fdiv (pv 2) pe_int) pe_int)) pa_nil)) pe_int))
        (pss_one (ps_ret (pe_op op_mod (pe_callTy call_int1 (by rfl) T.z_int (by decide +kernel) (pa_cons (pe_op op_mod (pe_callTy call_int1 (by rfl) T.z_int (by decide +kernel) (pa_cons (pe_op op_mul (pv 2) (pe_op op_add (pe_op op_fdiv (pv 2) pe_int) pe_int)) pa_nil)) pe_int) pa_nil)) (pv 1)))))))), ?_⟩
    obtain ⟨a, b, c, hp⟩ := hw
    walk_at "lk"
    refine sfr (SqL.of hp) (by rfl) ?_
    walk_at "lk"
    refine ite2 (fun z => ?_) (fun z => ?_)
    · walk_at "lk"
      refine sfr (SqL.of hp) (by rfl) ?_
      walk_at "lk"
      refine sI m0 ?_
      walk_at "lk"
      refine sfr (SqL.of hp) (by rfl) ?_
      walk_at "lk"
      refine sI (wide_div m0 m1 (by decide) (by decide)) ?_
      walk_at "lk"
      refine ssl hp (by rfl) ?_
      walk_at "lk"
      exact k _ _ (Int.emod_nonneg _ (by omega)) (Int.emod_lt_of_pos _ m0) Wk.upd
    · walk_at "lk"
      refine sfr (SqL.of hp) (by rfl) ?_
      walk_at "lk"
      refine ssl hp (by rfl) ?_
      walk_at "lk"
      refine sfr (SqL.of upd_same) (by rfl) ?_
      walk_at "lk"
      refine sfr (SqL.of upd_same) (by rfl) ?_
      refine sI (.inl ⟨by decide, by decide⟩) ?_
      walk_at "lk"
      refine sI (.inr ⟨by decide, by decide⟩) ?_
      walk_at "lk"
      refine sI (by decide) ?_
      walk_at "lk"
      refine sI ⟨by decide, by decide⟩ ?_
      walk_at "lk"
      refine sI (.inl ⟨by omega, by omega⟩) ?_
      walk_at "lk"
      refine sI (by decide) ?_
      walk_at "lk"
      refine sI ⟨by decide, by decide⟩ ?_
      walk_at "lk"
      refine sI (.inl ⟨by omega, by omega⟩) ?_
      walk_at "lk"
      refine sI (by decide) ?_
      walk_at "lk"
      refine sI m0 ?_
      exact k _ _ (Int.emod_nonneg _ (by omega)) (Int.emod_lt_of_pos _ m0) Wk.upd
abbrev s__law_one : Stmt := top 30
theorem sc__law_one : FnScope ["_law_well", "_law_some"] ["_law_well", "_law_some"] (defScope s__law_one) := ⟨rfl, rfl, rfl, by decide +kernel, rfl, by decide +kernel, by decide +kernel⟩
theorem ok_one {f : Addr} {fd : FuncData} (F : Fun K "_law_one" "_law_one" s__law_one f fd) (T : Txt P w K mg base A) (c__law_draw : Cal P w K mg base 1 "_law_draw" ["_law_well", "_law_many"] spDraw) : FnOk P w K mg base CX0 2 f fd ["_law_well", "_law_some"] spOne := by
  refine F.ok sc__law_one (fun vs H Q E h => ?_) (fun cdv Ar outer s H vs Q E hr h => ?_)
  · obtain ⟨p, l, xs, rfl, _⟩ := h
    rfl
  · obtain ⟨p, l, xs, rfl, hw, hlp, hl, h0, h1, k⟩ := h
    refine ⟨_, (pss_one (ps_ret (pe_ix ix_list (pv 1) (pcal c__law_draw hr (by decide) (pa_cons (pv 0) (pa_cons (pe_callB call_len_seq (by rfl) T.z_len PySem.boot_len (pa_cons (pv 1) pa_nil)) pa_nil))) (fun _ _ => rfl)))), ?_⟩
    walk_at "lk"
    refine ⟨l, xs, rfl, .inl (SqL.of hl), ?_⟩
    walk_at "lk"
    refine ⟨p, xs.length, rfl, by omega, Nat.lt_of_le_of_lt (show (xs.length : Int).natAbs ≤ 1000 by omega) (by decide), hw, fun r H' r0 r1 wk => ?_⟩
    obtain ⟨j, rfl⟩ : ∃ j : Nat, r = (j : Int) := ⟨r.toNat, by omega⟩
    have hj : j < xs.length := by omega
    refine sfr (SqL.of (wk.at hlp hl)) (Lk.atI_nat (List.getElem?_eq_getElem hj)) ?_
    exact k _ _ (List.getElem_mem hj) wk
abbrev s__law_number : Stmt := top 31
theorem sc__law_number : FnScope ["_law_well", "_law_width_so", "_law_half", "_law_all_bits", "_law_some"] ["_law_well", "_law_width_so"] (defScope s__law_number) := ⟨rfl, rfl, rfl, by decide +kernel, rfl, by decide +kernel, by decide +kernel⟩
theorem ok_number {f : Addr} {fd : FuncData} (F : Fun K "_law_number" "_law_number" s__law_number f fd) (T : Txt P w K mg base A) (c__law_draw : Cal P w K mg base 1 "_law_draw" ["_law_well", "_law_many"] spDraw) : FnOk P w K mg base CX0 2 f fd ["_law_well", "_law_width_so"] spNumber := by
  refine F.ok sc__law_number (fun vs H Q E h => ?_) (fun cdv Ar outer s H vs Q E hr h => ?_)
  · obtain ⟨p, k, rfl, _⟩ := h
    rfl
  · obtain ⟨p, k, rfl, hk, hw, q⟩ := h
    refine ⟨_, (pss_cons (ps_par (i := 2) (j := 3) (by rfl) sc__law_number.nd rfl rfl (by decide) rfl rfl (pa_cons (pe_op op_fdiv (pe_op op_oneShl pe_int (pv 1)) pe_int) (pa_cons (pe_op op_oneShl pe_int (pv 1)) pa_nil)) (by rfl))
        (pss_cons (ps_set (i := 4) sc__law_number.nd rfl (Or.inl rfl) (pe_lst (pa_cons pe_int (pa_cons pe_int (pa_cons pe_int (pa_cons pe_int (pa_cons pe_int (pa_cons (pe_op op_sub (pv 3) pe_int) (pa_cons (pv 2) (pa_cons (pe_op op_add (pe_op op_mulW (pcal c__law_draw hr (by decide) (pa_cons (pv 0) (pa_cons (pe_op op_pow pe_int pe_int) pa_nil))) (pe_op op_pow pe_int pe_int)) (pcal c__law_draw hr (by decide) (pa_cons (pv 0) (pa_cons (pe_op op_pow pe_int pe_int) pa_nil)))) pa_nil))))))))))
        (pss_one (ps_ret (pe_op op_mod (pe_callTy call_int1 (by rfl) T.z_int (by decide +kernel) (pa_cons (pe_ix ix_list (pv 4) (pcal c__law_draw hr (by decide) (pa_cons (pv 0) (pa_cons pe_int pa_nil))) (fun _ _ => rfl)) pa_nil)) (pv 3)))))), ?_⟩
    have p0 : (0 : Int) < 2 ^ k := Int.pow_pos (by decide)
    refine spr ?_
    walk_at "lk"
    refine ⟨k, rfl, rfl, by omega, ?_⟩
    walk_at "lk"
    refine sI ⟨by decide, by decide⟩ ?_
    walk_at "lk"
    refine ⟨k, rfl, rfl, by omega, ?_⟩
    walk_at "lk"
    refine ⟨_, _, rfl, ?_⟩
    walk_at "lk"
    refine sI ⟨by decide, by decide, by decide⟩ ?_
    walk_at "lk"
    
    refine ⟨p, _, rfl, by decide, by decide, hw, fun r1 H1 a0 a1 w1 => ?_⟩
    walk_at "lk"
    refine sI ⟨by decide, by decide, by decide⟩ ?_
    walk_at "lk"
    
    refine sI (wide_mul (a := 40) (b := 40) (lt31 a0 a1) (by decide) (by decide) (by decide) (by decide)) ?_
    walk_at "lk"
    refine sI ⟨by decide, by decide, by decide⟩ ?_
    walk_at "lk"
    
    refine ⟨p, _, rfl, by decide, by decide, w1.2, fun r2 H2 b0 b1 w2 => ?_⟩
    walk_at "lk"
    refine snw (Nat.le_of_ble_eq_true rfl) fun l hl => ?_
    have w12 := w1.trans w2
    have s3 : Same H2 (upd H2 l (.lst ([0, 1, 1, 2, 3, 2 ^ k - 1, 2 ^ k / 2, r1 * 2 ^ (33 : Int).toNat + r2].map V.int))) := same_new hl
    have e3 : (upd H2 l (.lst ([0, 1, 1, 2, 3, 2 ^ k - 1, 2 ^ k / 2, r1 * 2 ^ (33 : Int).toNat + r2].map V.int))) l = some (.lst ([0, 1, 1, 2, 3, 2 ^ k - 1, 2 ^ k / 2, r1 * 2 ^ (33 : Int).toNat + r2].map V.int)) := upd_same
    have nl : l ≠ p := ne_new w12.2 hl
    show gName 4 (.ref l) _ (upd H2 l (.lst ([0, 1, 1, 2, 3, 2 ^ k - 1, 2 ^ k / 2, r1 * 2 ^ (33 : Int).toNat + r2].map V.int))) _
    generalize upd H2 l (.lst ([0, 1, 1, 2, 3, 2 ^ k - 1, 2 ^ k / 2, r1 * 2 ^ (33 : Int).toNat + r2].map V.int)) = H3 at s3 e3 ⊢
    have hlen : ([0, 1, 1, 2, 3, 2 ^ k - 1, 2 ^ k / 2, r1 * 2 ^ (33 : Int).toNat + r2] : List Int).length = 8 := rfl
    generalize ([0, 1, 1, 2, 3, 2 ^ k - 1, 2 ^ k / 2, r1 * 2 ^ (33 : Int).toNat + r2] : List Int) = zs at e3 hlen
    have w3 := w12.st s3
    walk_at "lk"
    refine ⟨p, 8, rfl, by decide, by decide, w3.2, fun j H4 j0 j1 w4 => ?_⟩
    obtain ⟨i, rfl⟩ : ∃ i : Nat, j = (i : Int) := ⟨j.toNat, by omega⟩
    have hi : i < zs.length := by omega
    refine sfr (v := .int zs[i]) (SqL.of (w4.at nl e3)) (Lk.atI_nat (by rw [List.getElem?_map, List.getElem?_eq_getElem hi]; rfl)) ?_
    walk_at "lk"
    refine sI p0 ?_
    exact q _ _ (Int.emod_nonneg _ (by omega)) (Int.emod_lt_of_pos _ p0) (w3.trans w4)
abbrev s__law_form : Stmt := top 32
theorem sc__law_form : FnScope ["_law_well", "_law_width_so", "_law_many", "_law_found", "_law_k"] ["_law_well", "_law_width_so", "_law_many"] (defScope s__law_form) := ⟨rfl, rfl, rfl, by decide +kernel, rfl, by decide +kernel, by decide +kernel⟩
theorem ok_form {f : Addr} {fd : FuncData} (F : Fun K "_law_form" "_law_form" s__law_form f fd) (T : Txt P w K mg base A) (c__law_draw : Cal P w K mg base 1 "_law_draw" ["_law_well", "_law_many"] spDraw) (c__law_number : Cal P w K mg base 2 "_law_number" ["_law_well", "_law_width_so"] spNumber) : FnOk P w K mg base CX0 3 f fd ["_law_well", "_law_width_so", "_law_many"] spForm0 := by
  refine F.ok sc__law_form (fun vs H Q E h => ?_) (fun cdv Ar outer s H vs Q E hr h => ?_)
  · obtain ⟨p, k, m, rfl, _⟩ := h
    rfl
  · obtain ⟨p, k, m, rfl, hk, hm, hw, q⟩ := h
    refine ⟨_, (pss_cons (ps_set (i := 3) sc__law_form.nd rfl (Or.inl rfl) (pe_lst (pa_cons (pe_op op_mul (pcal c__law_number hr (by decide) (pa_cons (pv 0) (pa_cons (pv 1) pa_nil))) (pe_callTy call_int1 (by rfl) T.z_int (by decide +kernel) (pa_cons (pe_cmpR op_eq (pcal c__law_draw hr (by decide) (pa_cons (pv 0) (pa_cons pe_int pa_nil))) pe_int (nomark _)) pa_nil))) pa_nil)))
        (pss_cons (ps_for PassesOwn.never rfl (pi_range1 (by rfl) T.z_range (pa_cons (pv 2) pa_nil)) (pg_name (i := 4) sc__law_form.nd rfl (Or.inl rfl)) (pss_one (ps_expr (pe_bm PySem.F.plainAttrs_list PySem.F.slot_list_append PySem.F.type_list_append mt_append (pv 3) (pa_cons (pe_op op_mul (pcal c__law_number hr (by decide) (pa_cons (pv 0) (pa_cons (pv 1) pa_nil))) (pe_callTy call_int1 (by rfl) T.z_int (by decide +kernel) (pa_cons (pe_cmpR op_gt (pcal c__law_draw hr (by decide) (pa_cons (pv 0) (pa_cons pe_int pa_nil))) pe_int (nomark _)) pa_nil))) pa_nil)))))
        (pss_one (ps_ret (pe_callTy call_tuple_of (by rfl) T.z_tuple (by decide +kernel) (pa_cons (pv 3) pa_nil)))))), ?_⟩
    walk_at "lk"
    refine ⟨p, k, rfl, hk, hw, fun r1 H1 a0 a1 w1 => ?_⟩
    walk_at "lk"
    refine ⟨p, 3, rfl, by decide, by decide, w1.2, fun r2 H2 b0 b1 w2 => ?_⟩
    walk_at "lk"
    refine sEq rfl ?_
    walk_at "lk"
    refine sI (cmul01 _) ?_
    walk_at "lk"
    obtain ⟨c0, c1⟩ := mul01 (decide (V.int r2 = V.int 0)) a0 a1
    generalize r1 * (if decide (V.int r2 = V.int 0) = true then 1 else 0) = z at c0 c1 ⊢
    refine snw (Nat.le_of_ble_eq_true rfl) fun D hD => ?_
    have w12 := w1.trans w2
    have nD : D ≠ p := ne_new w12.2 hD
    have w3 : Wk p H (upd H2 D (.lst [.int z])) := w12.st (same_new hD)
    have e3 : (upd H2 D (.lst [.int z])) D = some (.lst ([z].map V.int)) := upd_same
    have hfree : H D = none := w12.none hw hD
    generalize upd H2 D (.lst [.int z]) = H3 at w3 e3 ⊢
    walk_at "lk"
    refine ⟨_, rfl, (m : Int), rfl, by omega, by omega, ?_⟩
    rw [Int.toNat_natCast]
    refine for_range (fun i σ' H' => (∃ e, σ' = [some (.ref p), some (.int (k : Int)), some (.int (m : Int)), some (.ref D), e]) ∧ Wk p H H' ∧ ∃ f : List Int, H' D = some (.lst (f.map V.int)) ∧ f.length = i + 1 ∧ ∀ x ∈ f, 0 ≤ x ∧ x < 2 ^ k) ⟨⟨_, rfl⟩, w3, [z], e3, rfl, fun x hx => by rw [List.mem_singleton.mp hx]; exact ⟨c0, c1⟩⟩ ?_ ?_
    · rintro i σ' H' hi ⟨⟨e, rfl⟩, wk, f, hf, hl, hb⟩
      walk_at "lk"
      refine ⟨.inl ⟨rfl, _, SqL.of hf⟩, ?_⟩
      walk_at "lk"
      refine ⟨p, k, rfl, hk, wk.2, fun r3 H4 d0 d1 w4 => ?_⟩
      walk_at "lk"
      refine ⟨p, 3, rfl, by decide, by decide, w4.2, fun r4 H5 g0 g1 w5 => ?_⟩
      walk_at "lk"
      refine sI (cmul01 _) ?_
      walk_at "lk"
      obtain ⟨c0, c1⟩ := mul01 (decide (0 < r4)) d0 d1
      generalize r3 * (if decide (0 < r4) = true then 1 else 0) = z2 at c0 c1 ⊢
      have w45 := w4.trans w5
      have hf5 := w45.at nD hf
      refine ⟨D, f.map V.int, .int z2, rfl, rfl, hf5, by rw [List.length_map, hl]; exact small1000 (by omega), ?_⟩
      refine ⟨⟨_, rfl⟩, (wk.trans w45).updD hfree nD, f ++ [z2], by rw [upd_same, List.map_append]; rfl, by rw [List.length_append, hl]; rfl, fun x hx => ?_⟩
      · rcases List.mem_append.mp hx with h | h
        · exact hb x h
        · rw [List.mem_singleton.mp h]
          exact ⟨c0, c1⟩
    · rintro σ' H' ⟨⟨e, rfl⟩, wk, f, hf, hl, hb⟩
      walk_at "lk"
      refine ⟨D, _, rfl, .inl ⟨SqL.of hf, fun b hb' => q b f _ (wk.st (same_new hb')) upd_same hl hb⟩⟩
end
end K01

namespace K01
open PySem PySem.Spec PyProof.Rows L2 Lk
local macro_rules | `(tactic| walk_at "lk") => `(tactic| (repeat (first
  | with_reducible refine ssq ?_ | with_reducible refine sas ?_ | with_reducible refine sgn ?_ | ((with_reducible show tVar _ _ _ _); refine sv rfl ?_) | with_reducible refine sc ?_ | with_reducible refine sop ?_ | with_reducible refine sun ?_
  | with_reducible refine sI0 ?_ | with_reducible refine sU ?_ | with_reducible refine stt ?_ | with_reducible refine stB ?_ | with_reducible refine sbl ?_ | with_reducible refine snt ?_ | with_reducible refine sif ?_ | with_reducible refine scB ?_
  | with_reducible refine scn ?_ | with_reducible refine snl ?_ | with_reducible refine scl ?_ | with_reducible refine stu ?_ | with_reducible refine sli ?_ | with_reducible refine sdr ?_ | with_reducible refine srt ?_ | with_reducible refine snx ?_ | with_reducible refine sfor ?_ | with_reducible refine sils ?_ | with_reducible refine sien ?_ | with_reducible refine sor ?_ | with_reducible refine sfg ?_
  | with_reducible refine sav ?_ | with_reducible refine sov ?_ | with_reducible refine snv ?_ | with_reducible refine sch ?_ | with_reducible refine san ?_ | with_reducible refine ssll ?_ | with_reducible refine spt ?_ | with_reducible refine snp ?_ | with_reducible refine sin ?_ | with_reducible refine sfl ?_ | with_reducible refine sfd ?_ | with_reducible refine sbm ?_ | with_reducible refine sifx ?_
  | ((with_reducible show Or _ _); first | refine Or.inl ⟨_, rfl, ?_⟩ | refine Or.inr ⟨_, rfl, ?_⟩))))

/-- a drawn row: good, its numbers reduced -/
def spRow : Sp := fun vs H Q _ => ∃ (p l : Addr) (k : Nat) (m j : Int) (ns : List Str), vs = [.ref p, .int (k : Int), .ref l, .int m, .int j] ∧ 1 ≤ k ∧ k ≤ 64 ∧ 1 ≤ m ∧ m ≤ 25 ∧ 0 ≤ j ∧ Wl H p ∧ l ≠ p ∧ H l = some (.lst (ns.map V.str)) ∧ 1 ≤ ns.length ∧ ns.length ≤ 6 ∧
  ∀ (v : V) (r : LRow) (H' : Hp), Wk p H H' → RowH H' v r → RowOk ns m r → r.low k = r → Q v H'
theorem red_map {f : List Int} {k : Nat} (h : ∀ x ∈ f, 0 ≤ x ∧ x < 2 ^ k) : f.map (· % 2 ^ k) = f := by
  induction f with
  | nil => rfl
  | cons x f ih =>
    rw [List.map_cons, ih fun y hy => h y (List.mem_cons_of_mem _ hy)]
    have := h x (List.mem_cons_self ..)
    rw [Int.emod_eq_of_lt this.1 this.2]

section
variable {P : Program} {w : World} {K : PySem.W.Frag} {mg : Str → Option Value} {base : Heap} {A : Ad}
abbrev s__law_row : Stmt := top 33
theorem sc__law_row : FnScope ["_law_well", "_law_width_so", "_law_names", "_law_total", "_law_k", "_law_ahead", "_law_kind", "_law_turn"] ["_law_well", "_law_width_so", "_law_names", "_law_total", "_law_k"] (defScope s__law_row) := ⟨rfl, rfl, rfl, by decide +kernel, rfl, by decide +kernel, by decide +kernel⟩
theorem ok_row {f : Addr} {fd : FuncData} (F : Fun K "_law_row" "_law_row" s__law_row f fd) (T : Txt P w K mg base A) (c__law_draw : Cal P w K mg base 1 "_law_draw" ["_law_well", "_law_many"] spDraw) (c__law_one : Cal P w K mg base 2 "_law_one" ["_law_well", "_law_some"] spOne) (c__law_form : Cal P w K mg base 3 "_law_form" ["_law_well", "_law_width_so", "_law_many"] spForm0) : FnOk P w K mg base CX0 4 f fd ["_law_well", "_law_width_so", "_law_names", "_law_total", "_law_k"] spRow := by
  refine F.ok sc__law_row (fun vs H Q E h => ?_) (fun cdv Ar outer s H vs Q E hr h => ?_)
  · obtain ⟨p, l, k, m, j, ns, rfl, _⟩ := h
    rfl
  · obtain ⟨p, l, k, m, j, ns, rfl, k1, k2, m1, m2, j0, hw, nl, hl, n1, n2, q⟩ := h
    refine ⟨_, (pss_cons (ps_set (i := 5) sc__law_row.nd rfl (Or.inl rfl) (pe_ix ix_list (pe_lst (pa_cons (pe_op op_mod (pe_callTy call_int1 (by rfl) T.z_int (by decide +kernel) (pa_cons (pe_op op_add (pv 4) pe_int) pa_nil)) (pv 3)) (pa_cons (pe_op op_mod (pe_callTy call_int1 (by rfl) T.z_int (by decide +kernel) (pa_cons (pe_op op_add (pv 4) pe_int) pa_nil)) (pv 3)) (pa_cons (pcal c__law_draw hr (by decide) (pa_cons (pv 0) (pa_cons (pv 3) pa_nil))) pa_nil)))) (pcal c__law_draw hr (by decide) (pa_cons (pv 0) (pa_cons pe_int pa_nil))) (fun _ _ => rfl)))
        (pss_cons (ps_set (i := 6) sc__law_row.nd rfl (Or.inl rfl) (pcal c__law_one hr (by decide) (pa_cons (pv 0) (pa_cons (pe_lst (pa_cons pe_str (pa_cons pe_str (pa_cons pe_str (pa_cons pe_str (pa_cons pe_str (pa_cons pe_str (pa_cons pe_str (pa_cons pe_str (pa_cons pe_str pa_nil)))))))))) pa_nil))))
        (pss_cons (ps_if (pt_cmpR op_eq (pv 6) pe_str (nomark _)) (pss_one (ps_ret (pe_tup (pa_cons pe_str (pa_cons (pcal c__law_one hr (by decide) (pa_cons (pv 0) (pa_cons (pv 2) pa_nil))) (pa_cons (pcal c__law_form hr (by decide) (pa_cons (pv 0) (pa_cons (pv 1) (pa_cons (pe_callB call_len_seq (by rfl) T.z_len PySem.boot_len (pa_cons (pv 2) pa_nil)) pa_nil)))) (pa_cons (pv 5) pa_nil))))))) pss_nil)
        (pss_cons (ps_if (pt_cmpR op_eq (pv 6) pe_str (nomark _)) (pss_one (ps_ret (pe_tup (pa_cons pe_str (pa_cons (pcal c__law_form hr (by decide) (pa_cons (pv 0) (pa_cons (pv 1) (pa_cons (pe_callB call_len_seq (by rfl) T.z_len PySem.boot_len (pa_cons (pv 2) pa_nil)) pa_nil)))) (pa_cons (pv 5) pa_nil)))))) pss_nil)
        (pss_cons (ps_if (pt_cmpR op_eq (pv 6) pe_str (nomark _)) (pss_one (ps_ret (pe_tup (pa_cons pe_str (pa_cons (pcal c__law_one hr (by decide) (pa_cons (pv 0) (pa_cons (pv 2) pa_nil))) (pa_cons (pv 5) pa_nil)))))) pss_nil)
        (pss_cons (ps_if (pt_cmpR op_eq (pv 6) pe_str (nomark _)) (pss_one (ps_ret (pe_tup (pa_cons pe_str (pa_cons (pe_callTy call_tupOf (by rfl) T.z_tuple (by decide +kernel) (pa_cons (pe_op op_cat (pe_lst (pa_cons (pv 5) pa_nil)) (pe_lc (own := [("_law_turn", 7)]) (g := gName 7) (tt := tYes) rfl sc__law_row.nd (pi_range1 (by rfl) T.z_range (pa_cons (pcal c__law_draw hr (by decide) (pa_cons (pv 0) (pa_cons pe_int pa_nil))) pa_nil)) (blkOk_by (own := [("_law_turn", 7)]) (N := ["_law_well", "_law_width_so", "_law_names", "_law_total", "_law_k", "_law_ahead", "_law_kind", "_law_turn"]) (sc := defScope s__law_row) (by decide +kernel)) (fun _ _ _ _ _ => pg_name (i := 7) sc__law_row.nd rfl (Or.inl rfl)) (fun _ _ _ _ _ => pts_nil) (fun _ _ _ _ _ => (pcal c__law_draw hr (by decide) (pa_cons (pv 0) (pa_cons (pv 3) pa_nil)))))) pa_nil)) pa_nil))))) pss_nil)
        (pss_cons (ps_if (PW.pt (pw_and (pt_cmpR op_eq (pv 6) pe_str (nomark _)) (pw_and1 (pt_cmpR op_eq (pcal c__law_draw hr (by decide) (pa_cons (pv 0) (pa_cons pe_int pa_nil))) pe_int (nomark _))))) (pss_one (ps_ret (pe_tup (pa_cons pe_str pa_nil)))) pss_nil)
        (pss_one (ps_ret (pe_ifExp (pt_cmpR op_eq (pcal c__law_draw hr (by decide) (pa_cons (pv 0) (pa_cons pe_int pa_nil))) pe_int (nomark _)) (pe_tup (pa_cons pe_str (pa_cons (pv 5) pa_nil))) (pe_tup (pa_cons pe_str (pa_cons (pe_op op_catA (pe_op op_repN (pe_tup (pa_cons pe_int pa_nil)) (pe_callB call_len_seq (by rfl) T.z_len PySem.boot_len (pa_cons (pv 2) pa_nil))) (pe_tup (pa_cons pe_int pa_nil))) (pa_cons (pv 5) pa_nil)))))))))))))), ?_⟩
    have m0 : 0 < m := by omega
    walk_at "lk"
    refine sI m0 ?_
    walk_at "lk"
    refine sI m0 ?_
    walk_at "lk"
    refine ⟨p, m, rfl, m0, Nat.lt_of_le_of_lt (show m.natAbs ≤ 25 by omega) (by decide), hw, fun r1 H1 r0 r1' w1 => ?_⟩
    walk_at "lk"
    refine snw (Nat.le_of_ble_eq_true rfl) fun d hd => ?_
    have w2 : Wk p H (upd H1 d (.lst ([(j + 1) % m, (j + 1) % m, r1].map V.int))) := w1.st (same_new hd)
    have e2 : (upd H1 d (.lst ([(j + 1) % m, (j + 1) % m, r1].map V.int))) d = some (.lst ([(j + 1) % m, (j + 1) % m, r1].map V.int)) := upd_same
    have nd : d ≠ p := ne_new w1.2 hd
    walk_at "lk"
    show spDraw _ (upd H1 d (.lst ([(j + 1) % m, (j + 1) % m, r1].map V.int))) _ _
    generalize upd H1 d (.lst ([(j + 1) % m, (j + 1) % m, r1].map V.int)) = H2 at w2 e2 ⊢
    have zb : ∀ z ∈ [(j + 1) % m, (j + 1) % m, r1], 0 ≤ z ∧ z < m := fun z hz => by
      have b0 := Int.emod_nonneg (j + 1) (show m ≠ 0 by omega)
      have b1 := Int.emod_lt_of_pos (j + 1) m0
      simp only [List.mem_cons, List.not_mem_nil, or_false] at hz
      rcases hz with rfl | rfl | rfl
      · exact ⟨b0, b1⟩
      · exact ⟨b0, b1⟩
      · exact ⟨r0, r1'⟩
    have zl : [(j + 1) % m, (j + 1) % m, r1].length = 3 := rfl
    generalize [(j + 1) % m, (j + 1) % m, r1] = zs at e2 zb zl
    refine ⟨p, 3, rfl, by decide, by decide, w2.2, fun i3 H3 i0 i1 w3 => ?_⟩
    obtain ⟨i, rfl⟩ : ∃ i : Nat, i3 = (i : Int) := ⟨i3.toNat, by omega⟩
    have hi : i < zs.length := by omega
    refine sfr (v := .int zs[i]) (SqL.of (w3.at nd e2)) (Lk.atI_nat (by rw [List.getElem?_map, List.getElem?_eq_getElem hi]; rfl)) ?_
    obtain ⟨a0, a1⟩ := zb _ (List.getElem_mem hi)
    generalize zs[i] = a at a0 a1 ⊢
    have w23 := w2.trans w3
    walk_at "lk"
    refine snw (Nat.le_of_ble_eq_true rfl) fun c hc => ?_
    have w4 := w23.st (same_new (o := .lst [.str "set", .str "set", .str "set", .str "say", .str "ask", .str "choose", .str "choose", .str "look", .str "stop"]) hc)
    have e4 : (upd H3 c (.lst [.str "set", .str "set", .str "set", .str "say", .str "ask", .str "choose", .str "choose", .str "look", .str "stop"])) c = some (.lst [.str "set", .str "set", .str "set", .str "say", .str "ask", .str "choose", .str "choose", .str "look", .str "stop"]) := upd_same
    have nc : c ≠ p := ne_new w23.2 hc
    walk_at "lk"
    generalize upd H3 c (.lst [.str "set", .str "set", .str "set", .str "say", .str "ask", .str "choose", .str "choose", .str "look", .str "stop"]) = H4 at w4 e4 ⊢
    refine ⟨p, c, _, rfl, w4.2, nc, e4, Nat.le_of_ble_eq_true rfl, Nat.le_of_ble_eq_true rfl, fun v H5 hv w5' => ?_⟩
    have w5 := w4.trans w5'
    have hv' : v = .str "set" ∨ v = .str "say" ∨ v = .str "ask" ∨ v = .str "choose" ∨ v = .str "look" ∨ v = .str "stop" := by
      simp only [List.mem_cons, List.not_mem_nil, or_false] at hv
      rcases hv with h | h | h | h | h | h | h | h | h <;> simp [h]
    clear hv w5' e4 w4 w3 w2 w1
    walk_at "lk"
    rcases hv' with rfl | rfl | rfl | rfl | rfl | rfl
    · refine sEq rfl ?_
      walk_at "lk"
      refine itt_ (by decide +kernel) ?_
      walk_at "lk"
      refine ⟨p, l, _, rfl, w5.2, nl, w5.at nl hl, by rw [List.length_map]; omega, by rw [List.length_map]; omega, fun v H6 hv w6 => ?_⟩
      obtain ⟨n, hn, rfl⟩ := List.mem_map.mp hv
      have w56 := w5.trans w6
      walk_at "lk"
      refine ⟨l, _, rfl, .inl (SqL.of (w56.at nl hl)), ?_⟩
      rw [List.length_map]
      walk_at "lk"
      refine ⟨p, k, ns.length, rfl, k2, n2, w56.2, fun b f HF wF hb fl fb => ?_⟩
      walk_at "lk"
      refine snw (Nat.le_of_ble_eq_true rfl) fun t ht => ?_
      refine q _ (.set n f a) _ ((w56.trans wF).st (same_new ht)) ⟨t, b, rfl, upd_same, same_new ht _ _ hb⟩ ⟨hn, by rw [fl], a0, a1⟩ ?_
      show LRow.set n (f.map (· % 2 ^ k)) a = LRow.set n f a
      rw [red_map fb]
    · refine sEq rfl ?_
      walk_at "lk"
      refine iff_ (by decide +kernel) ?_
      walk_at "lk"
      refine sEq rfl ?_
      walk_at "lk"
      refine itt_ (by decide +kernel) ?_
      walk_at "lk"
      refine ⟨l, _, rfl, .inl (SqL.of (w5.at nl hl)), ?_⟩
      rw [List.length_map]
      walk_at "lk"
      refine ⟨p, k, ns.length, rfl, k2, n2, w5.2, fun b f HF wF hb fl fb => ?_⟩
      walk_at "lk"
      refine snw (Nat.le_of_ble_eq_true rfl) fun t ht => ?_
      refine q _ (.say f a) _ ((w5.trans wF).st (same_new ht)) ⟨t, b, rfl, upd_same, same_new ht _ _ hb⟩ ⟨by rw [fl], a0, a1⟩ ?_
      show LRow.say (f.map (· % 2 ^ k)) a = LRow.say f a
      rw [red_map fb]
    · refine sEq rfl ?_
      walk_at "lk"
      refine iff_ (by decide +kernel) ?_
      walk_at "lk"
      refine sEq rfl ?_
      walk_at "lk"
      refine iff_ (by decide +kernel) ?_
      walk_at "lk"
      refine sEq rfl ?_
      walk_at "lk"
      refine itt_ (by decide +kernel) ?_
      walk_at "lk"
      refine ⟨p, l, _, rfl, w5.2, nl, w5.at nl hl, by rw [List.length_map]; omega, by rw [List.length_map]; omega, fun v H6 hv w6 => ?_⟩
      obtain ⟨n, hn, rfl⟩ := List.mem_map.mp hv
      have w56 := w5.trans w6
      walk_at "lk"
      refine snw (Nat.le_of_ble_eq_true rfl) fun t ht => ?_
      exact q _ (.ask n a) _ (w56.st (same_new ht)) ⟨t, rfl, upd_same⟩ ⟨hn, a0, a1⟩ rfl
    · refine sEq rfl ?_
      walk_at "lk"
      refine iff_ (by decide +kernel) ?_
      walk_at "lk"
      refine sEq rfl ?_
      walk_at "lk"
      refine iff_ (by decide +kernel) ?_
      walk_at "lk"
      refine sEq rfl ?_
      walk_at "lk"
      refine iff_ (by decide +kernel) ?_
      walk_at "lk"
      refine sEq rfl ?_
      walk_at "lk"
      refine itt_ (by decide +kernel) ?_
      walk_at "lk"
      refine snw (Nat.le_of_ble_eq_true rfl) fun d hd => ?_
      have w6 := w5.st (same_new (o := .lst [.int a]) hd)
      have ed : (upd H5 d (.lst [.int a])) d = some (.lst [.int a]) := upd_same
      have nd : d ≠ p := ne_new w5.2 hd
      generalize upd H5 d (.lst [.int a]) = H6 at w6 ed ⊢
      unfold tLc iRng1
      walk_at "lk"
      refine ⟨p, 3, rfl, by decide, by decide, w6.2, fun c H7 c0 c1 w7 => ?_⟩
      have ed7 := w7.at nd ed
      have w67 := w6.trans w7
      walk_at "lk"
      refine ⟨c, rfl, by omega, by omega, fun D hD => ?_⟩
      have nD : D ≠ p := ne_new w67.2 hD
      refine lc_range (lo := 0) (n := c.toNat) (fun i H' => Wk p H7 H' ∧ ∃ ks : List Int, H' D = some (.lst (ks.map V.int)) ∧ ks.length = i ∧ ∀ x ∈ ks, 0 ≤ x ∧ x < m) ⟨Wk.of w67.2 (same_new hD), [], upd_same, rfl, fun x hx => by cases hx⟩ ?_ ?_
      · rintro i H8 hi ⟨w8, ks, hks, hlk, hkb⟩
        refine ⟨rfl, ?_⟩
        unfold tYes
        simp only [if_true]
        walk_at "lk"
        refine ⟨p, m, rfl, by omega, Nat.lt_of_le_of_lt (show m.natAbs ≤ 25 by omega) (by decide), w8.2, fun y H9 y0 y1 w9 => ?_⟩
        refine ⟨_, w9.at nD hks, by rw [List.length_map, hlk]; exact small1000 (by omega), (w8.trans w9).updD hD nD, ks ++ [y], by rw [upd_same, List.map_append]; rfl, by rw [List.length_append, hlk]; rfl, fun x hx => ?_⟩
        rcases List.mem_append.mp hx with h | h
        · exact hkb x h
        · rw [List.mem_singleton.mp h]
          exact ⟨y0, y1⟩
      · rintro H8 ⟨w8, ks, hks, hlk, hkb⟩
        have w78 := w67.trans w8
        refine ⟨d, D, _, _, rfl, rfl, w8.at nd ed7, hks, by rw [List.length_map, hlk]; exact Nat.le_of_lt (small1000 (show 1 + c.toNat ≤ 1000 by omega)), fun g hg => ?_⟩
        walk_at "lk"
        have w9 := w78.st (same_new (o := .lst ([V.int a] ++ ks.map V.int)) hg)
        have eg : (upd H8 g (.lst ([V.int a] ++ ks.map V.int))) g = some (.lst ((a :: ks).map V.int)) := upd_same
        generalize upd H8 g (.lst ([V.int a] ++ ks.map V.int)) = H9 at w9 eg ⊢
        refine ⟨g, _, rfl, .inl ⟨SqL.of eg, fun u hu => ?_⟩⟩
        walk_at "lk"
        refine snw (Nat.le_of_ble_eq_true rfl) fun t ht => ?_
        refine q _ (.choose (a :: ks)) _ ((w9.st (same_new hu)).st (same_new ht)) ⟨t, u, rfl, upd_same, same_new ht _ _ upd_same⟩ ⟨by rw [List.length_cons]; omega, by rw [List.length_cons]; omega, fun x hx => ?_⟩ rfl
        rcases List.mem_cons.mp hx with rfl | h
        · exact ⟨a0, a1⟩
        · exact hkb x h
    · refine sEq rfl ?_
      walk_at "lk"
      refine iff_ (by decide +kernel) ?_
      walk_at "lk"
      refine sEq rfl ?_
      walk_at "lk"
      refine iff_ (by decide +kernel) ?_
      walk_at "lk"
      refine sEq rfl ?_
      walk_at "lk"
      refine iff_ (by decide +kernel) ?_
      walk_at "lk"
      refine sEq rfl ?_
      walk_at "lk"
      refine iff_ (by decide +kernel) ?_
      walk_at "lk"
      refine sEq rfl ?_
      walk_at "lk"
      refine iff_ (by decide +kernel) ?_
      refine iff_ rfl ?_
      walk_at "lk"
      refine ⟨p, 3, rfl, by decide, by decide, w5.2, fun r8 H8 _ _ w8' => ?_⟩
      have w8 := w5.trans w8'
      walk_at "lk"
      refine sEq rfl ?_
      walk_at "lk"
      refine ite2 (fun _ => ?_) (fun _ => ?_)
      · walk_at "lk"
        refine snw (Nat.le_of_ble_eq_true rfl) fun t ht => ?_
        exact q _ (.look a) _ (w8.st (same_new ht)) ⟨t, rfl, upd_same⟩ ⟨a0, a1⟩ rfl
      · walk_at "lk"
        refine snw (Nat.le_of_ble_eq_true rfl) fun t0 ht0 => ?_
        have sA : Same H8 (upd H8 t0 (.tup [.int 0])) := same_new ht0
        have eA : (upd H8 t0 (.tup [.int 0])) t0 = some (.tup [.int 0]) := upd_same
        generalize upd H8 t0 (.tup [.int 0]) = HA at sA eA ⊢
        have wA := w8.st sA
        walk_at "lk"
        refine ⟨l, _, rfl, .inl (SqL.of (wA.at nl hl)), ?_⟩
        rw [List.length_map]
        refine s_repN (SqT.of eA) n1 (by omega) fun tb HB sB eB => ?_
        walk_at "lk"
        refine snw (Nat.le_of_ble_eq_true rfl) fun t1 ht1 => ?_
        have sC : Same HB (upd HB t1 (.tup [.int 1])) := same_new ht1
        have eC : (upd HB t1 (.tup [.int 1])) t1 = some (.tup [.int 1]) := upd_same
        generalize upd HB t1 (.tup [.int 1]) = HC at sC eC ⊢
        refine s_catA (same_sqT sC eB) (SqT.of eC) (by cases hz : ns.length with
          | zero => omega
          | succ z => simp [List.replicate_succ]) (by simp) (by rw [List.length_replicate]; simp; omega) fun td htd => ?_
        have sD : Same HC (upd HC td (.tup (List.replicate ns.length (.int 0) ++ [.int 1]))) := same_new htd
        have eD : (upd HC td (.tup (List.replicate ns.length (.int 0) ++ [.int 1]))) td = some (.tup ((List.replicate ns.length (0 : Int) ++ [1]).map V.int)) := by rw [upd_same, List.map_append, List.map_replicate]; rfl
        generalize upd HC td (.tup (List.replicate ns.length (.int 0) ++ [.int 1])) = HD at sD eD ⊢
        walk_at "lk"
        refine snw (Nat.le_of_ble_eq_true rfl) fun t ht => ?_
        have pk : (1 : Int) < 2 ^ k := Lk.one_lt_pow k1
        have fb : ∀ x ∈ (List.replicate ns.length 0 ++ [1] : List Int), 0 ≤ x ∧ x < 2 ^ k := fun x hx => by
          rcases List.mem_append.mp hx with h | h
          · rw [List.eq_of_mem_replicate h]
            exact ⟨by decide, by omega⟩
          · rw [List.mem_singleton.mp h]
            exact ⟨by decide, pk⟩
        refine q _ (.say (List.replicate ns.length 0 ++ [1]) a) _ ((((wA.st sB).st sC).st sD).st (same_new ht)) ⟨t, td, rfl, upd_same, same_new ht _ _ eD⟩ ⟨by rw [List.length_append, List.length_replicate]; rfl, a0, a1⟩ ?_
        show LRow.say (List.map (· % 2 ^ k) _) a = _
        rw [red_map fb]
    · refine sEq rfl ?_
      walk_at "lk"
      refine iff_ (by decide +kernel) ?_
      walk_at "lk"
      refine sEq rfl ?_
      walk_at "lk"
      refine iff_ (by decide +kernel) ?_
      walk_at "lk"
      refine sEq rfl ?_
      walk_at "lk"
      refine iff_ (by decide +kernel) ?_
      walk_at "lk"
      refine sEq rfl ?_
      walk_at "lk"
      refine iff_ (by decide +kernel) ?_
      walk_at "lk"
      refine sEq rfl ?_
      walk_at "lk"
      refine itt_ (by decide +kernel) ?_
      walk_at "lk"
      refine ⟨p, 2, rfl, by decide, by decide, w5.2, fun r6 H6 _ _ w6' => ?_⟩
      have w6 := w5.trans w6'
      walk_at "lk"
      refine sEq rfl ?_
      walk_at "lk"
      refine ite2 (fun _ => ?_) (fun _ => ?_)
      · walk_at "lk"
        refine snw (Nat.le_of_ble_eq_true rfl) fun t ht => ?_
        exact q _ .stop _ (w6.st (same_new ht)) ⟨t, rfl, upd_same⟩ trivial rfl
      · walk_at "lk"
        refine ⟨p, 3, rfl, by decide, by decide, w6.2, fun r8 H8 _ _ w8' => ?_⟩
        have w8 := w6.trans w8'
        walk_at "lk"
        refine sEq rfl ?_
        walk_at "lk"
        refine ite2 (fun _ => ?_) (fun _ => ?_)
        · walk_at "lk"
          refine snw (Nat.le_of_ble_eq_true rfl) fun t ht => ?_
          exact q _ (.look a) _ (w8.st (same_new ht)) ⟨t, rfl, upd_same⟩ ⟨a0, a1⟩ rfl
        · walk_at "lk"
          refine snw (Nat.le_of_ble_eq_true rfl) fun t0 ht0 => ?_
          have sA : Same H8 (upd H8 t0 (.tup [.int 0])) := same_new ht0
          have eA : (upd H8 t0 (.tup [.int 0])) t0 = some (.tup [.int 0]) := upd_same
          generalize upd H8 t0 (.tup [.int 0]) = HA at sA eA ⊢
          have wA := w8.st sA
          walk_at "lk"
          refine ⟨l, _, rfl, .inl (SqL.of (wA.at nl hl)), ?_⟩
          rw [List.length_map]
          refine s_repN (SqT.of eA) n1 (by omega) fun tb HB sB eB => ?_
          walk_at "lk"
          refine snw (Nat.le_of_ble_eq_true rfl) fun t1 ht1 => ?_
          have sC : Same HB (upd HB t1 (.tup [.int 1])) := same_new ht1
          have eC : (upd HB t1 (.tup [.int 1])) t1 = some (.tup [.int 1]) := upd_same
          generalize upd HB t1 (.tup [.int 1]) = HC at sC eC ⊢
          refine s_catA (same_sqT sC eB) (SqT.of eC) (by cases hz : ns.length with
            | zero => omega
            | succ z => simp [List.replicate_succ]) (by simp) (by rw [List.length_replicate]; simp; omega) fun td htd => ?_
          have sD : Same HC (upd HC td (.tup (List.replicate ns.length (.int 0) ++ [.int 1]))) := same_new htd
          have eD : (upd HC td (.tup (List.replicate ns.length (.int 0) ++ [.int 1]))) td = some (.tup ((List.replicate ns.length (0 : Int) ++ [1]).map V.int)) := by rw [upd_same, List.map_append, List.map_replicate]; rfl
          generalize upd HC td (.tup (List.replicate ns.length (.int 0) ++ [.int 1])) = HD at sD eD ⊢
          walk_at "lk"
          refine snw (Nat.le_of_ble_eq_true rfl) fun t ht => ?_
          have pk : (1 : Int) < 2 ^ k := Lk.one_lt_pow k1
          have fb : ∀ x ∈ (List.replicate ns.length 0 ++ [1] : List Int), 0 ≤ x ∧ x < 2 ^ k := fun x hx => by
            rcases List.mem_append.mp hx with h | h
            · rw [List.eq_of_mem_replicate h]
              exact ⟨by decide, by omega⟩
            · rw [List.mem_singleton.mp h]
              exact ⟨by decide, pk⟩
          refine q _ (.say (List.replicate ns.length 0 ++ [1]) a) _ ((((wA.st sB).st sC).st sD).st (same_new ht)) ⟨t, td, rfl, upd_same, same_new ht _ _ eD⟩ ⟨by rw [List.length_append, List.length_replicate]; rfl, a0, a1⟩ ?_
          show LRow.say (List.map (· % 2 ^ k) _) a = _
          rw [red_map fb]
end
end K01

namespace K01
open PySem PySem.Spec PyProof.Rows L2 Lk
local macro_rules | `(tactic| walk_at "lk") => `(tactic| (repeat (first
  | with_reducible refine ssq ?_ | with_reducible refine sas ?_ | with_reducible refine sgn ?_ | ((with_reducible show tVar _ _ _ _); refine sv rfl ?_) | with_reducible refine sc ?_ | with_reducible refine sop ?_ | with_reducible refine sun ?_
  | with_reducible refine sI0 ?_ | with_reducible refine sU ?_ | with_reducible refine stt ?_ | with_reducible refine stB ?_ | with_reducible refine sbl ?_ | with_reducible refine snt ?_ | with_reducible refine sif ?_ | with_reducible refine scB ?_
  | with_reducible refine scn ?_ | with_reducible refine snl ?_ | with_reducible refine scl ?_ | with_reducible refine stu ?_ | with_reducible refine sli ?_ | with_reducible refine sdr ?_ | with_reducible refine srt ?_ | with_reducible refine snx ?_ | with_reducible refine sfor ?_ | with_reducible refine sils ?_ | with_reducible refine sien ?_ | with_reducible refine sor ?_ | with_reducible refine sfg ?_
  | with_reducible refine sav ?_ | with_reducible refine sov ?_ | with_reducible refine snv ?_ | with_reducible refine sch ?_ | with_reducible refine san ?_ | with_reducible refine ssll ?_ | with_reducible refine spt ?_ | with_reducible refine snp ?_ | with_reducible refine sin ?_ | with_reducible refine sfl ?_ | with_reducible refine sfd ?_ | with_reducible refine sbm ?_ | with_reducible refine sifx ?_
  | ((with_reducible show Or _ _); first | refine Or.inl ⟨_, rfl, ?_⟩ | refine Or.inr ⟨_, rfl, ?_⟩))))

def GoodR (ns : List Str) (m : Int) (k : Nat) (rs : List LRow) : Prop := ∀ r ∈ rs, RowOk ns m r ∧ r.low k = r
def spRows : Sp := fun vs H Q _ => ∃ (p l : Addr) (k m : Nat) (ns : List Str), vs = [.ref p, .int (k : Int), .ref l, .int (m : Int)] ∧ 1 ≤ k ∧ k ≤ 64 ∧ 1 ≤ m ∧ m ≤ 25 ∧ Wl H p ∧ l ≠ p ∧ H l = some (.lst (ns.map V.str)) ∧ 1 ≤ ns.length ∧ ns.length ≤ 6 ∧
  ∀ (D : Addr) (us : List V) (rs : List LRow) (H' : Hp), Wk p H H' → H D = none → H' D = some (.lst us) → RowsH H' us rs → rs.length = m → GoodR ns m k rs → Q (.ref D) H'
def spGrown : Sp := fun vs H Q _ => ∃ (p b : Addr) (k : Nat) (f : List Int), vs = [.ref p, .ref b, .int (2 ^ k)] ∧ k ≤ 64 ∧ Wl H p ∧ H b = some (.tup (f.map V.int)) ∧ f.length ≤ 100 ∧
  ∀ (t : Addr) (g : List Int) (H' : Hp), Wk p H H' → H' t = some (.tup (g.map V.int)) → g.length = f.length → g.map (· % 2 ^ k) = f.map (· % 2 ^ k) → Q (.ref t) H'
def spGrownRow : Sp := fun vs H Q _ => ∃ (p : Addr) (v : V) (k : Nat) (r : LRow) (ns : List Str) (m : Int), vs = [.ref p, v, .int (2 ^ k)] ∧ k ≤ 64 ∧ Wl H p ∧ RowH H v r ∧ RowOk ns m r ∧ ns.length ≤ 6 ∧
  ∀ (u : V) (r' : LRow) (H' : Hp), Wk p H H' → RowH H' u r' → r'.low k = r.low k → RowOk ns m r' → Q u H'

section
variable {P : Program} {w : World} {K : PySem.W.Frag} {mg : Str → Option Value} {base : Heap} {A : Ad}
abbrev s__law_rows : Stmt := top 34
theorem sc__law_rows : FnScope ["_law_well", "_law_width_so", "_law_names", "_law_total", "_law_k"] ["_law_well", "_law_width_so", "_law_names", "_law_total"] (defScope s__law_rows) := ⟨rfl, rfl, rfl, by decide +kernel, rfl, by decide +kernel, by decide +kernel⟩
theorem ok_rows {f : Addr} {fd : FuncData} (F : Fun K "_law_rows" "_law_rows" s__law_rows f fd) (T : Txt P w K mg base A) (c__law_row : Cal P w K mg base 4 "_law_row" ["_law_well", "_law_width_so", "_law_names", "_law_total", "_law_k"] spRow) : FnOk P w K mg base CX0 5 f fd ["_law_well", "_law_width_so", "_law_names", "_law_total"] spRows := by
  refine F.ok sc__law_rows (fun vs H Q E h => ?_) (fun cdv Ar outer s H vs Q E hr h => ?_)
  · obtain ⟨p, l, k, m, ns, rfl, _⟩ := h
    rfl
  · obtain ⟨p, l, k, m, ns, rfl, k1, k2, m1, m2, hw, nl, hl, n1, n2, q⟩ := h
    refine ⟨_, (pss_one (ps_ret (pe_lc (own := [("_law_k", 4)]) (g := gName 4) (tt := tYes) rfl sc__law_rows.nd (pi_range1 (by rfl) T.z_range (pa_cons (pv 3) pa_nil)) (blkOk_by (own := [("_law_k", 4)]) (N := ["_law_well", "_law_width_so", "_law_names", "_law_total", "_law_k"]) (sc := defScope s__law_rows) (by decide +kernel)) (fun _ _ _ _ _ => pg_name (i := 4) sc__law_rows.nd rfl (Or.inl rfl)) (fun _ _ _ _ _ => pts_nil) (fun _ _ _ _ _ => (pcal c__law_row hr (by decide) (pa_cons (pv 0) (pa_cons (pv 1) (pa_cons (pv 2) (pa_cons (pv 3) (pa_cons (pv 4) pa_nil)))))))))), ?_⟩
    walk_at "lk"
    unfold tLc iRng1
    walk_at "lk"
    refine ⟨(m : Int), rfl, by omega, by omega, fun D hD => ?_⟩
    have nD : D ≠ p := ne_new hw hD
    rw [Int.toNat_natCast]
    refine lc_range (lo := 0) (n := m) (fun i H' => Wk p H H' ∧ ∃ us rs, H' D = some (.lst us) ∧ RowsH H' us rs ∧ rs.length = i ∧ GoodR ns m k rs) ⟨Wk.of hw (same_new hD), [], [], upd_same, .nil, rfl, fun r hr => by cases hr⟩ ?_ ?_
    · rintro i H1 hi ⟨w1, us, rs, h1, h2, h3, h4⟩
      refine ⟨rfl, ?_⟩
      unfold tYes
      simp only [if_true]
      walk_at "lk"
      refine ⟨p, l, k, m, 0 + (i : Int), ns, rfl, k1, k2, by omega, by omega, by omega, w1.2, nl, w1.at nl hl, n1, n2, fun v r H2 w2 hv hok hlow => ?_⟩
      have e2 := w2.at nD h1
      have t2 : Ts H2 (upd H2 D (.lst (us ++ [v]))) := Ts.lst e2
      refine ⟨us, e2, by rw [h2.len, h3]; exact small1000 (by omega), (w1.trans w2).updD hD nD, us ++ [v], rs ++ [r], upd_same, ((h2.ts (w2.ts w1.2)).ts t2).append (.cons (hv.ts t2) .nil), by rw [List.length_append, h3]; rfl, fun x hx => ?_⟩
      rcases List.mem_append.mp hx with h | h
      · exact h4 x h
      · rw [List.mem_singleton.mp h]
        exact ⟨hok, hlow⟩
    · rintro H1 ⟨w1, us, rs, h1, h2, h3, h4⟩
      exact q D us rs H1 w1 hD h1 h2 h3 h4
abbrev s__law_grown : Stmt := top 35
theorem sc__law_grown : FnScope ["_law_well", "_law_form_here", "_law_modulus", "_law_number_here"] ["_law_well", "_law_form_here", "_law_modulus"] (defScope s__law_grown) := ⟨rfl, rfl, rfl, by decide +kernel, rfl, by decide +kernel, by decide +kernel⟩
theorem ok_grown {f : Addr} {fd : FuncData} (F : Fun K "_law_grown" "_law_grown" s__law_grown f fd) (T : Txt P w K mg base A) (c__law_one : Cal P w K mg base 2 "_law_one" ["_law_well", "_law_some"] spOne) : FnOk P w K mg base CX0 3 f fd ["_law_well", "_law_form_here", "_law_modulus"] spGrown := by
  refine F.ok sc__law_grown (fun vs H Q E h => ?_) (fun cdv Ar outer s H vs Q E hr h => ?_)
  · obtain ⟨p, b, k, f, rfl, _⟩ := h
    rfl
  · obtain ⟨p, b, k, f, rfl, hk, hw, hb, hl, q⟩ := h
    refine ⟨_, (pss_one (ps_ret (pe_callTy call_tupOf (by rfl) T.z_tuple (by decide +kernel) (pa_cons (pe_lc (own := [("_law_number_here", 3)]) (g := gName 3) (tt := tYes) rfl sc__law_grown.nd (pi_tup (pv 1)) (blkOk_by (own := [("_law_number_here", 3)]) (N := ["_law_well", "_law_form_here", "_law_modulus", "_law_number_here"]) (sc := defScope s__law_grown) (by decide +kernel)) (fun _ _ _ _ _ => pg_name (i := 3) sc__law_grown.nd rfl (Or.inl rfl)) (fun _ _ _ _ _ => pts_nil) (fun _ _ _ _ _ => (pe_op op_add (pv 3) (pe_op op_mulW (pv 2) (pcal c__law_one hr (by decide) (pa_cons (pv 0) (pa_cons (pe_lst (pa_cons pe_int (pa_cons pe_int (pa_cons pe_int (pa_cons (pe_un un_neg pe_int) (pa_cons (pe_op op_pow pe_int pe_int) pa_nil)))))) pa_nil))))))) pa_nil)))), ?_⟩
    walk_at "lk"
    refine ⟨_, rfl, b, rfl, ⟨_, SqT.of hb⟩, fun D hD => ?_⟩
    have nD : D ≠ p := ne_new hw hD
    have nb : b ≠ p := ne_well hw hb (fun _ _ _ z => by cases z)
    have pk : ((2 : Int) ^ k).natAbs < 2 ^ 70 := by
      rw [Int.natAbs_pow]
      exact Nat.pow_lt_pow_right (by decide) (by omega)
    refine lc_tup (fun i H' => Wk p H H' ∧ ∃ g : List Int, H' D = some (.lst (g.map V.int)) ∧ g.length = i ∧ g.map (· % 2 ^ k) = (f.take i).map (· % 2 ^ k)) ⟨Wk.of hw (same_new hD), [], upd_same, rfl, rfl⟩ (fun i H' _ h => SqT.of (h.1.at nb hb)) (fun i x H1 hi h => ?_) (fun H1 h => ?_)
    · obtain ⟨w1, g, h1, h2, h3⟩ := h
      refine ⟨rfl, ?_⟩
      unfold tYes
      simp only [if_true]
      have hlt : i < f.length := by
        have := (List.getElem?_eq_some_iff.mp hi).1
        rwa [List.length_map] at this
      rw [List.getElem?_map, List.getElem?_eq_getElem hlt] at hi
      cases hi
      walk_at "lk"
      refine sI ⟨by decide, by decide, by decide⟩ ?_
      walk_at "lk"
      refine snw (Nat.le_of_ble_eq_true rfl) fun c hc => ?_
      have w2 := w1.st (same_new (o := .lst ([0, 0, 1, -1, 10 ^ (40 : Int).toNat].map V.int)) hc)
      have e2 : (upd H1 c (.lst ([0, 0, 1, -1, 10 ^ (40 : Int).toNat].map V.int))) c = some (.lst ([0, 0, 1, -1, 10 ^ (40 : Int).toNat].map V.int)) := upd_same
      have eD := same_new (o := .lst ([0, 0, 1, -1, 10 ^ (40 : Int).toNat].map V.int)) hc _ _ h1
      have nc : c ≠ p := ne_new w1.2 hc
      walk_at "lk"
      show spOne _ (upd H1 c (.lst ([0, 0, 1, -1, 10 ^ (40 : Int).toNat].map V.int))) _ _
      generalize upd H1 c (.lst ([0, 0, 1, -1, 10 ^ (40 : Int).toNat].map V.int)) = H2 at w2 e2 eD ⊢
      refine ⟨p, c, _, rfl, w2.2, nc, e2, by decide, by decide, fun v H3 hv w3 => ?_⟩
      obtain ⟨z, hz, rfl⟩ := List.mem_map.mp hv
      have zb : z.natAbs < 2 ^ 200 := (by decide +kernel : ∀ z ∈ ([0, 0, 1, -1, 10 ^ (40 : Int).toNat] : List Int), z.natAbs < 2 ^ 200) z hz
      refine sI (wide_mul pk zb (by decide) (by decide) (by decide)) ?_
      walk_at "lk"
      have e3 := w3.at nD eD
      refine ⟨_, e3, by rw [List.length_map, h2]; exact small1000 (by omega), (w2.trans w3).updD hD nD, g ++ [f[i] + 2 ^ k * z], by rw [upd_same, List.map_append]; rfl, by rw [List.length_append, h2]; rfl, ?_⟩
      rw [List.map_append, h3, List.take_succ, List.getElem?_eq_getElem hlt, List.map_append]
      show _ ++ [(f[i] + 2 ^ k * z) % 2 ^ k] = _ ++ [f[i] % 2 ^ k]
      rw [Int.add_mul_emod_self_left]
    · obtain ⟨w1, g, h1, h2, h3⟩ := h
      rw [List.length_map] at h2 h3
      rw [List.take_length] at h3
      walk_at "lk"
      refine ⟨D, _, rfl, .inl ⟨SqL.of h1, fun t ht => ?_⟩⟩
      exact q t g _ (w1.st (same_new ht)) upd_same h2 h3
abbrev s__law_grown_row : Stmt := top 36
theorem sc__law_grown_row : FnScope ["_law_well", "_law_row_here", "_law_modulus"] ["_law_well", "_law_row_here", "_law_modulus"] (defScope s__law_grown_row) := ⟨rfl, rfl, rfl, by decide +kernel, rfl, by decide +kernel, by decide +kernel⟩
theorem ok_grown_row {f : Addr} {fd : FuncData} (F : Fun K "_law_grown_row" "_law_grown_row" s__law_grown_row f fd) (T : Txt P w K mg base A) (c__law_grown : Cal P w K mg base 3 "_law_grown" ["_law_well", "_law_form_here", "_law_modulus"] spGrown) : FnOk P w K mg base CX0 4 f fd ["_law_well", "_law_row_here", "_law_modulus"] spGrownRow := by
  refine F.ok sc__law_grown_row (fun vs H Q E h => ?_) (fun cdv Ar outer s H vs Q E hr h => ?_)
  · obtain ⟨p, v, k, r, ns, m, rfl, _⟩ := h
    rfl
  · obtain ⟨p, v, k, r, ns, m, rfl, hk, hw, hv, hok, hn, q⟩ := h
    refine ⟨_, (pss_cons (ps_if (pt_cmpR op_eq (pe_ix ix_tup (pv 1) pe_int (fun _ _ => rfl)) pe_str (nomark _)) (pss_one (ps_ret (pe_tup (pa_cons pe_str (pa_cons (pe_ix ix_tup (pv 1) pe_int (fun _ _ => rfl)) (pa_cons (pcal c__law_grown hr (by decide) (pa_cons (pv 0) (pa_cons (pe_ix ix_tup (pv 1) pe_int (fun _ _ => rfl)) (pa_cons (pv 2) pa_nil)))) (pa_cons (pe_ix ix_tup (pv 1) pe_int (fun _ _ => rfl)) pa_nil))))))) pss_nil)
        (pss_one (ps_ret (pe_ifExp (pt_cmpR op_eq (pe_ix ix_tup (pv 1) pe_int (fun _ _ => rfl)) pe_str (nomark _)) (pe_tup (pa_cons pe_str (pa_cons (pcal c__law_grown hr (by decide) (pa_cons (pv 0) (pa_cons (pe_ix ix_tup (pv 1) pe_int (fun _ _ => rfl)) (pa_cons (pv 2) pa_nil)))) (pa_cons (pe_ix ix_tup (pv 1) pe_int (fun _ _ => rfl)) pa_nil)))) (pv 1))))), ?_⟩
    cases r with
    | set n f j =>
      obtain ⟨a, b, rfl, ha, hb⟩ := hv
      obtain ⟨o1, o2, o3, o4⟩ := hok
      have na : a ≠ p := ne_well hw ha (fun _ _ _ z => by cases z)
      walk_at "lk"
      refine sft (SqT.of ha) (by rfl) ?_
      walk_at "lk"
      refine sEq rfl ?_
      walk_at "lk"
      rw [if_pos (decide_eq_true rfl)]
      walk_at "lk"
      refine sft (SqT.of ha) (by rfl) ?_
      walk_at "lk"
      refine sft (SqT.of ha) (by rfl) ?_
      walk_at "lk"
      refine ⟨p, b, k, f, rfl, hk, hw, hb, by omega, fun t g H1 w1 e1 l1 c1 => ?_⟩
      walk_at "lk"
      refine sft (SqT.of (w1.at na ha)) (by rfl) ?_
      walk_at "lk"
      refine snw (Nat.le_of_ble_eq_true rfl) fun u hu => ?_
      refine q _ (.set n g j) _ (w1.st (same_new hu)) ⟨u, t, rfl, upd_same, same_new hu _ _ e1⟩ ?_ ⟨o1, by omega, o3, o4⟩
      show LRow.set n (g.map (· % 2 ^ k)) j = LRow.set n (f.map (· % 2 ^ k)) j
      rw [c1]
    | say f j =>
      obtain ⟨a, b, rfl, ha, hb⟩ := hv
      obtain ⟨o2, o3, o4⟩ := hok
      have na : a ≠ p := ne_well hw ha (fun _ _ _ z => by cases z)
      walk_at "lk"
      refine sft (SqT.of ha) (by rfl) ?_
      walk_at "lk"
      refine sEq rfl ?_
      walk_at "lk"
      rw [if_neg (by decide +kernel)]
      walk_at "lk"
      refine sft (SqT.of ha) (by rfl) ?_
      walk_at "lk"
      refine sEq rfl ?_
      walk_at "lk"
      rw [if_pos (decide_eq_true rfl)]
      walk_at "lk"
      refine sft (SqT.of ha) (by rfl) ?_
      walk_at "lk"
      refine ⟨p, b, k, f, rfl, hk, hw, hb, by omega, fun t g H1 w1 e1 l1 c1 => ?_⟩
      walk_at "lk"
      refine sft (SqT.of (w1.at na ha)) (by rfl) ?_
      walk_at "lk"
      refine snw (Nat.le_of_ble_eq_true rfl) fun u hu => ?_
      refine q _ (.say g j) _ (w1.st (same_new hu)) ⟨u, t, rfl, upd_same, same_new hu _ _ e1⟩ ?_ ⟨by omega, o3, o4⟩
      show LRow.say (g.map (· % 2 ^ k)) j = LRow.say (f.map (· % 2 ^ k)) j
      rw [c1]
    | ask n j =>
      have hv0 := hv
      obtain ⟨a, rfl, ha⟩ := hv
      walk_at "lk"
      refine sft (SqT.of ha) (by rfl) ?_
      walk_at "lk"
      refine sEq rfl ?_
      walk_at "lk"
      rw [if_neg (by decide +kernel)]
      walk_at "lk"
      refine sft (SqT.of ha) (by rfl) ?_
      walk_at "lk"
      refine sEq rfl ?_
      walk_at "lk"
      rw [if_neg (by decide +kernel)]
      walk_at "lk"
      exact q _ _ _ (Wk.refl hw) hv0 rfl hok
    | choose ks =>
      have hv0 := hv
      obtain ⟨a, b, rfl, ha, hb⟩ := hv
      walk_at "lk"
      refine sft (SqT.of ha) (by rfl) ?_
      walk_at "lk"
      refine sEq rfl ?_
      walk_at "lk"
      rw [if_neg (by decide +kernel)]
      walk_at "lk"
      refine sft (SqT.of ha) (by rfl) ?_
      walk_at "lk"
      refine sEq rfl ?_
      walk_at "lk"
      rw [if_neg (by decide +kernel)]
      walk_at "lk"
      exact q _ _ _ (Wk.refl hw) hv0 rfl hok
    | look j =>
      have hv0 := hv
      obtain ⟨a, rfl, ha⟩ := hv
      walk_at "lk"
      refine sft (SqT.of ha) (by rfl) ?_
      walk_at "lk"
      refine sEq rfl ?_
      walk_at "lk"
      rw [if_neg (by decide +kernel)]
      walk_at "lk"
      refine sft (SqT.of ha) (by rfl) ?_
      walk_at "lk"
      refine sEq rfl ?_
      walk_at "lk"
      rw [if_neg (by decide +kernel)]
      walk_at "lk"
      exact q _ _ _ (Wk.refl hw) hv0 rfl hok
    | stop =>
      have hv0 := hv
      obtain ⟨a, rfl, ha⟩ := hv
      walk_at "lk"
      refine sft (SqT.of ha) (by rfl) ?_
      walk_at "lk"
      refine sEq rfl ?_
      walk_at "lk"
      rw [if_neg (by decide +kernel)]
      walk_at "lk"
      refine sft (SqT.of ha) (by rfl) ?_
      walk_at "lk"
      refine sEq rfl ?_
      walk_at "lk"
      rw [if_neg (by decide +kernel)]
      walk_at "lk"
      exact q _ _ _ (Wk.refl hw) hv0 rfl hok
end
end K01

namespace K01
open PySem PySem.Spec PyProof.Rows L2 Lk
local macro_rules | `(tactic| walk_at "lk") => `(tactic| (repeat (first
  | with_reducible refine ssq ?_ | with_reducible refine sas ?_ | with_reducible refine sgn ?_ | ((with_reducible show tVar _ _ _ _); refine sv rfl ?_) | with_reducible refine sc ?_ | with_reducible refine sop ?_ | with_reducible refine sun ?_
  | with_reducible refine sI0 ?_ | with_reducible refine sU ?_ | with_reducible refine stt ?_ | with_reducible refine stB ?_ | with_reducible refine sbl ?_ | with_reducible refine snt ?_ | with_reducible refine sif ?_ | with_reducible refine scB ?_
  | with_reducible refine scn ?_ | with_reducible refine snl ?_ | with_reducible refine scl ?_ | with_reducible refine stu ?_ | with_reducible refine sli ?_ | with_reducible refine sdr ?_ | with_reducible refine srt ?_ | with_reducible refine snx ?_ | with_reducible refine sfor ?_ | with_reducible refine sils ?_ | with_reducible refine sien ?_ | with_reducible refine sor ?_ | with_reducible refine sfg ?_
  | with_reducible refine sav ?_ | with_reducible refine sov ?_ | with_reducible refine snv ?_ | with_reducible refine sch ?_ | with_reducible refine san ?_ | with_reducible refine ssll ?_ | with_reducible refine spt ?_ | with_reducible refine snp ?_ | with_reducible refine sin ?_ | with_reducible refine sfl ?_ | with_reducible refine sfd ?_ | with_reducible refine sbm ?_ | with_reducible refine sifx ?_
  | ((with_reducible show Or _ _); first | refine Or.inl ⟨_, rfl, ?_⟩ | refine Or.inr ⟨_, rfl, ?_⟩))))

/-- a row that is good, and another one where there are two rows -/
def spBent : Sp := fun vs H Q _ => ∃ (p l : Addr) (v : V) (k : Nat) (m : Int) (r : LRow) (ns : List Str) (n0 : Str), vs = [.ref p, v, .ref l, .int m] ∧ 1 ≤ k ∧ 1 ≤ m ∧ Wl H p ∧ RowH H v r ∧ RowOk ns m r ∧ r.low k = r ∧ H l = some (.lst (ns.map V.str)) ∧ l ≠ p ∧ ns[0]? = some n0 ∧ ns.length ≤ 6 ∧ (∀ x ∈ ns, nameS x = true) ∧
  ∀ (u : V) (r' : LRow) (H' : Hp), Wk p H H' → RowH H' u r' → RowOk ns m r' → (2 ≤ m → r ≠ r'.low k) → Q u H'

section
variable {P : Program} {w : World} {K : PySem.W.Frag} {mg : Str → Option Value} {base : Heap} {A : Ad}
abbrev s__law_bent : Stmt := top 37
theorem sc__law_bent : FnScope ["_law_well", "_law_row_here", "_law_names", "_law_total", "_law_form_here", "_law_other"] ["_law_well", "_law_row_here", "_law_names", "_law_total"] (defScope s__law_bent) := ⟨rfl, rfl, rfl, by decide +kernel, rfl, by decide +kernel, by decide +kernel⟩
theorem ok_bent {f : Addr} {fd : FuncData} (F : Fun K "_law_bent" "_law_bent" s__law_bent f fd) (T : Txt P w K mg base A) (c__law_one : Cal P w K mg base 2 "_law_one" ["_law_well", "_law_some"] spOne) : FnOk P w K mg base CX0 3 f fd ["_law_well", "_law_row_here", "_law_names", "_law_total"] spBent := by
  refine F.ok sc__law_bent (fun vs H Q E h => ?_) (fun cdv Ar outer s H vs Q E hr h => ?_)
  · obtain ⟨p, l, v, k, m, r, ns, n0, rfl, _⟩ := h
    rfl
  · obtain ⟨p, l, v, k, m, r, ns, n0, rfl, k1, m1, hw, hv, hok, hlow, hl, nl, hn0, hn6, hns, q⟩ := h
    refine ⟨_, (pss_cons (ps_if (pt_cmpR op_eq (pe_ix ix_tup (pv 1) pe_int (fun _ _ => rfl)) pe_str (nomark _)) (pss_cons (ps_set (i := 4) sc__law_bent.nd rfl (Or.inl rfl) (pe_op op_catA (pe_slice sl_tupA (pe_ix ix_tup (pv 1) pe_int (fun _ _ => rfl)) po_none (po_some (pe_un un_neg pe_int))) (pe_tup (pa_cons (pe_op op_add (pe_ix ix_tup (pe_ix ix_tup (pv 1) pe_int (fun _ _ => rfl)) (pe_un un_neg pe_int) (fun _ _ => rfl)) pe_int) pa_nil))))
        (pss_cons (ps_set (i := 5) sc__law_bent.nd rfl (Or.inl rfl) (pe_tup (pa_cons pe_str (pa_cons (pe_ix ix_tup (pv 1) pe_int (fun _ _ => rfl)) (pa_cons (pe_ix ix_tup (pv 1) pe_int (fun _ _ => rfl)) (pa_cons (pe_op op_mod (pe_callTy call_int1 (by rfl) T.z_int (by decide +kernel) (pa_cons (pe_op op_add (pe_ix ix_tup (pv 1) pe_int (fun _ _ => rfl)) pe_int) pa_nil)) (pv 3)) pa_nil))))))
        (pss_one (ps_ret (pcal c__law_one hr (by decide) (pa_cons (pv 0) (pa_cons (pe_lst (pa_cons (pe_tup (pa_cons pe_str (pa_cons (pe_ix ix_tup (pv 1) pe_int (fun _ _ => rfl)) (pa_cons (pv 4) (pa_cons (pe_ix ix_tup (pv 1) pe_int (fun _ _ => rfl)) pa_nil))))) (pa_cons (pv 5) (pa_cons (pe_tup (pa_cons pe_str pa_nil)) pa_nil)))) pa_nil))))))) pss_nil)
        (pss_cons (ps_if (pt_cmpR op_eq (pe_ix ix_tup (pv 1) pe_int (fun _ _ => rfl)) pe_str (nomark _)) (pss_one (ps_ret (pcal c__law_one hr (by decide) (pa_cons (pv 0) (pa_cons (pe_lst (pa_cons (pe_tup (pa_cons pe_str (pa_cons (pe_op op_catA (pe_tup (pa_cons (pe_op op_add (pe_ix ix_tup (pe_ix ix_tup (pv 1) pe_int (fun _ _ => rfl)) pe_int (fun _ _ => rfl)) pe_int) pa_nil)) (pe_slice sl_tupA (pe_ix ix_tup (pv 1) pe_int (fun _ _ => rfl)) (po_some pe_int) po_none)) (pa_cons (pe_ix ix_tup (pv 1) pe_int (fun _ _ => rfl)) pa_nil)))) (pa_cons (pe_tup (pa_cons pe_str (pa_cons (pe_ix ix_tup (pv 1) pe_int (fun _ _ => rfl)) pa_nil))) pa_nil))) pa_nil))))) pss_nil)
        (pss_one (ps_ret (pe_ifExp (pt_cmpR (op_neD hr.units) (pv 1) (pe_tup (pa_cons pe_str (pa_cons (pe_ix ix_list (pv 2) pe_int (fun _ _ => rfl)) (pa_cons (pe_op op_sub (pv 3) pe_int) pa_nil)))) (nomark _)) (pe_tup (pa_cons pe_str (pa_cons (pe_ix ix_list (pv 2) pe_int (fun _ _ => rfl)) (pa_cons (pe_op op_sub (pv 3) pe_int) pa_nil)))) (pe_tup (pa_cons pe_str pa_nil))))))), ?_⟩
    have hn1 : 1 ≤ ns.length := (List.getElem?_eq_some_iff.mp hn0).1
    cases r with
    | set n f j =>
      obtain ⟨a, b, rfl, ha, hb⟩ := hv
      obtain ⟨o1, o2, o3, o4⟩ := hok
      obtain ⟨f0, z, rfl⟩ : ∃ f0 z, f = f0 ++ [z] := ⟨f.dropLast, f.getLast (by intro e; rw [e] at o2; simp at o2), (List.dropLast_concat_getLast _).symm⟩
      rw [List.length_append, List.length_singleton] at o2
      rw [List.map_append] at hb
      have hf : (f0 ++ [z]).map (· % 2 ^ k) = f0 ++ [z] := by injection hlow
      have hz : z % 2 ^ k = z ∧ f0.map (· % 2 ^ k) = f0 := by
        rw [List.map_append] at hf
        have h2 := List.append_inj' hf rfl
        exact ⟨by injection h2.2, h2.1⟩
      have p0 : (0 : Int) < 2 ^ k := Int.pow_pos (by decide)
      have z0 : 0 ≤ z := by rw [← hz.1]; exact Int.emod_nonneg _ (by omega)
      have z1 : z < 2 ^ k := by rw [← hz.1]; exact Int.emod_lt_of_pos _ p0
      walk_at "lk"
      refine sft (SqT.of ha) (by rfl) ?_
      walk_at "lk"
      refine sEq rfl ?_
      walk_at "lk"
      refine itt_ (decide_eq_true rfl) ?_
      walk_at "lk"
      refine sft (SqT.of ha) (by rfl) ?_
      walk_at "lk"
      refine s_butlast (SqT.of hb) fun c hc => ?_
      have s1 : Same H (upd H c (.tup (f0.map V.int))) := same_new hc
      have e1 : (upd H c (.tup (f0.map V.int))) c = some (.tup (f0.map V.int)) := upd_same
      generalize upd H c (.tup (f0.map V.int)) = H1 at s1 e1 ⊢
      walk_at "lk"
      refine sft (SqT.of (s1 _ _ ha)) (by rfl) ?_
      walk_at "lk"
      refine sft (v := .int z) (SqT.of (s1 _ _ hb)) atI_last ?_
      walk_at "lk"
      refine snw (Nat.le_of_ble_eq_true rfl) fun d hd => ?_
      have s2 : Same H1 (upd H1 d (.tup [.int (z + 1)])) := same_new hd
      have e2 : (upd H1 d (.tup [.int (z + 1)])) d = some (.tup [.int (z + 1)]) := upd_same
      generalize upd H1 d (.tup [.int (z + 1)]) = H2 at s2 e2 ⊢
      refine s_catA (SqT.of (s2 _ _ e1)) (SqT.of e2) (fun e => by have := congrArg List.length e; rw [List.length_map, List.length_nil] at this; omega) (by simp) (by rw [List.length_map]; simp; omega) fun g hg => ?_
      have s3 : Same H2 (upd H2 g (.tup (f0.map V.int ++ [.int (z + 1)]))) := same_new hg
      have e3 : (upd H2 g (.tup (f0.map V.int ++ [.int (z + 1)]))) g = some (.tup ((f0 ++ [z + 1]).map V.int)) := by rw [upd_same, List.map_append]; rfl
      generalize upd H2 g (.tup (f0.map V.int ++ [.int (z + 1)])) = H3 at s3 e3 ⊢
      have s13 := (s1.trans s2).trans s3
      walk_at "lk"
      refine sft (SqT.of (s13 _ _ ha)) (by rfl) ?_
      walk_at "lk"
      refine sft (SqT.of (s13 _ _ ha)) (by rfl) ?_
      walk_at "lk"
      refine sft (SqT.of (s13 _ _ ha)) (by rfl) ?_
      walk_at "lk"
      refine sI (show 0 < m by omega) ?_
      walk_at "lk"
      refine snw (Nat.le_of_ble_eq_true rfl) fun h hh => ?_
      have s4 : Same H3 (upd H3 h (.tup [.str "set", .str n, .ref b, .int ((j + 1) % m)])) := same_new hh
      have e4 : (upd H3 h (.tup [.str "set", .str n, .ref b, .int ((j + 1) % m)])) h = some (.tup [.str "set", .str n, .ref b, .int ((j + 1) % m)]) := upd_same
      generalize upd H3 h (.tup [.str "set", .str n, .ref b, .int ((j + 1) % m)]) = H4 at s4 e4 ⊢
      have s14 := s13.trans s4
      walk_at "lk"
      refine sft (SqT.of (s14 _ _ ha)) (by rfl) ?_
      walk_at "lk"
      refine sft (SqT.of (s14 _ _ ha)) (by rfl) ?_
      walk_at "lk"
      refine snw (Nat.le_of_ble_eq_true rfl) fun t ht => ?_
      have s5 : Same H4 (upd H4 t (.tup [.str "set", .str n, .ref g, .int j])) := same_new ht
      have e5 : (upd H4 t (.tup [.str "set", .str n, .ref g, .int j])) t = some (.tup [.str "set", .str n, .ref g, .int j]) := upd_same
      generalize upd H4 t (.tup [.str "set", .str n, .ref g, .int j]) = H5 at s5 e5 ⊢
      walk_at "lk"
      refine snw (Nat.le_of_ble_eq_true rfl) fun y hy => ?_
      have s6 : Same H5 (upd H5 y (.tup [.str "stop"])) := same_new hy
      have e6 : (upd H5 y (.tup [.str "stop"])) y = some (.tup [.str "stop"]) := upd_same
      generalize upd H5 y (.tup [.str "stop"]) = H6 at s6 e6 ⊢
      walk_at "lk"
      refine snw (Nat.le_of_ble_eq_true rfl) fun e he => ?_
      have s7 : Same H6 (upd H6 e (.lst [.ref t, .ref h, .ref y])) := same_new he
      have e7 : (upd H6 e (.lst [.ref t, .ref h, .ref y])) e = some (.lst [.ref t, .ref h, .ref y]) := upd_same
      have s17 := ((s14.trans s5).trans s6).trans s7
      have ne : e ≠ p := ne_new (hw.same ((s14.trans s5).trans s6)) he
      walk_at "lk"
      generalize upd H6 e (.lst [.ref t, .ref h, .ref y]) = H7 at s7 e7 s17 ⊢
      have w7 := Wk.of hw s17
      refine ⟨p, e, _, rfl, w7.2, ne, e7, Nat.le_of_ble_eq_true rfl, Nat.le_of_ble_eq_true rfl, fun x H8 hx w8 => ?_⟩
      have t8 := w8.ts w7.2
      have w78 := w7.trans w8
      simp only [List.mem_cons, List.not_mem_nil, or_false] at hx
      rcases hx with rfl | rfl | rfl
      · refine q _ (.set n (f0 ++ [z + 1]) j) _ w78 ⟨t, g, rfl, t8 _ _ (s7 _ _ (s6 _ _ e5)), t8 _ _ (s7 _ _ (s6 _ _ (s5 _ _ (s4 _ _ e3))))⟩ ⟨o1, by rw [List.length_append, List.length_singleton]; exact o2, o3, o4⟩ fun _ eq => ?_
        have eq' : LRow.set n (f0 ++ [z]) j = LRow.set n ((f0 ++ [z + 1]).map (· % 2 ^ k)) j := eq
        injection eq' with _ e2' _
        rw [List.map_append] at e2'
        have h2 := (List.append_inj' e2' rfl).2
        exact bump k1 z0 z1 (by injection h2 with h3 _; exact h3.symm)
      · refine q _ (.set n (f0 ++ [z]) ((j + 1) % m)) _ w78 ⟨h, b, rfl, t8 _ _ (s7 _ _ (s6 _ _ (s5 _ _ e4))), by rw [List.map_append]; exact t8 _ _ (s17 _ _ hb)⟩ ⟨o1, by rw [List.length_append, List.length_singleton]; exact o2, Int.emod_nonneg _ (by omega), Int.emod_lt_of_pos _ (by omega)⟩ fun m2 eq => ?_
        have eq' : LRow.set n (f0 ++ [z]) j = LRow.set n ((f0 ++ [z]).map (· % 2 ^ k)) ((j + 1) % m) := eq
        injection eq' with _ _ e3'
        by_cases c : j + 1 < m
        · rw [Int.emod_eq_of_lt (by omega) c] at e3'
          omega
        · have : j + 1 = m := by omega
          rw [this, Int.emod_self] at e3'
          omega
      · exact q _ .stop _ w78 ⟨y, rfl, t8 _ _ (s7 _ _ e6)⟩ trivial fun _ eq => LRow.noConfusion (show LRow.set n (f0 ++ [z]) j = LRow.stop from eq)
    | say f j =>
      obtain ⟨a, b, rfl, ha, hb⟩ := hv
      obtain ⟨o2, o3, o4⟩ := hok
      obtain ⟨z, f0, rfl⟩ : ∃ z f0, f = z :: f0 := by
        cases f with
        | nil => simp at o2
        | cons z f0 => exact ⟨z, f0, rfl⟩
      rw [List.length_cons] at o2
      rw [List.map_cons] at hb
      have hf : (z :: f0).map (· % 2 ^ k) = z :: f0 := by injection hlow
      have hz : z % 2 ^ k = z := by
        rw [List.map_cons] at hf
        injection hf
      have p0 : (0 : Int) < 2 ^ k := Int.pow_pos (by decide)
      have z0 : 0 ≤ z := by rw [← hz]; exact Int.emod_nonneg _ (by omega)
      have z1 : z < 2 ^ k := by rw [← hz]; exact Int.emod_lt_of_pos _ p0
      walk_at "lk"
      refine sft (SqT.of ha) (by rfl) ?_
      walk_at "lk"
      refine sEq rfl ?_
      walk_at "lk"
      refine iff_ (by decide +kernel) ?_
      walk_at "lk"
      refine sft (SqT.of ha) (by rfl) ?_
      walk_at "lk"
      refine sEq rfl ?_
      walk_at "lk"
      refine itt_ (decide_eq_true rfl) ?_
      walk_at "lk"
      refine sft (SqT.of ha) (by rfl) ?_
      walk_at "lk"
      refine sft (v := .int z) (SqT.of hb) (Lk.atI_nat (i := 0) (by rfl)) ?_
      walk_at "lk"
      refine snw (Nat.le_of_ble_eq_true rfl) fun d hd => ?_
      have s1 : Same H (upd H d (.tup [.int (z + 1)])) := same_new hd
      have e1 : (upd H d (.tup [.int (z + 1)])) d = some (.tup [.int (z + 1)]) := upd_same
      generalize upd H d (.tup [.int (z + 1)]) = H1 at s1 e1 ⊢
      walk_at "lk"
      refine sft (SqT.of (s1 _ _ ha)) (by rfl) ?_
      walk_at "lk"
      refine s_cut (SqT.of (s1 _ _ hb)) fun c hc => ?_
      have s2 : Same H1 (upd H1 c (.tup (f0.map V.int))) := same_new hc
      have e2 : (upd H1 c (.tup (f0.map V.int))) c = some (.tup (f0.map V.int)) := upd_same
      generalize upd H1 c (.tup (f0.map V.int)) = H2 at s2 e2 ⊢
      refine s_catA (SqT.of (s2 _ _ e1)) (SqT.of e2) (by simp) (fun e => by have := congrArg List.length e; rw [List.length_map, List.length_nil] at this; omega) (by rw [List.length_map]; simp; omega) fun g hg => ?_
      have s3 : Same H2 (upd H2 g (.tup ([.int (z + 1)] ++ f0.map V.int))) := same_new hg
      have e3 : (upd H2 g (.tup ([.int (z + 1)] ++ f0.map V.int))) g = some (.tup (((z + 1) :: f0).map V.int)) := upd_same
      generalize upd H2 g (.tup ([.int (z + 1)] ++ f0.map V.int)) = H3 at s3 e3 ⊢
      have s13 := (s1.trans s2).trans s3
      walk_at "lk"
      refine sft (SqT.of (s13 _ _ ha)) (by rfl) ?_
      walk_at "lk"
      refine snw (Nat.le_of_ble_eq_true rfl) fun t ht => ?_
      have s5 : Same H3 (upd H3 t (.tup [.str "say", .ref g, .int j])) := same_new ht
      have e5 : (upd H3 t (.tup [.str "say", .ref g, .int j])) t = some (.tup [.str "say", .ref g, .int j]) := upd_same
      generalize upd H3 t (.tup [.str "say", .ref g, .int j]) = H5 at s5 e5 ⊢
      have s15 := s13.trans s5
      walk_at "lk"
      refine sft (SqT.of (s15 _ _ ha)) (by rfl) ?_
      walk_at "lk"
      refine snw (Nat.le_of_ble_eq_true rfl) fun y hy => ?_
      have s6 : Same H5 (upd H5 y (.tup [.str "look", .int j])) := same_new hy
      have e6 : (upd H5 y (.tup [.str "look", .int j])) y = some (.tup [.str "look", .int j]) := upd_same
      generalize upd H5 y (.tup [.str "look", .int j]) = H6 at s6 e6 ⊢
      walk_at "lk"
      refine snw (Nat.le_of_ble_eq_true rfl) fun e he => ?_
      have s7 : Same H6 (upd H6 e (.lst [.ref t, .ref y])) := same_new he
      have e7 : (upd H6 e (.lst [.ref t, .ref y])) e = some (.lst [.ref t, .ref y]) := upd_same
      have s17 := (s15.trans s6).trans s7
      have ne : e ≠ p := ne_new (hw.same (s15.trans s6)) he
      walk_at "lk"
      generalize upd H6 e (.lst [.ref t, .ref y]) = H7 at s7 e7 s17 ⊢
      have w7 := Wk.of hw s17
      refine ⟨p, e, _, rfl, w7.2, ne, e7, Nat.le_of_ble_eq_true rfl, Nat.le_of_ble_eq_true rfl, fun x H8 hx w8 => ?_⟩
      have t8 := w8.ts w7.2
      have w78 := w7.trans w8
      simp only [List.mem_cons, List.not_mem_nil, or_false] at hx
      rcases hx with rfl | rfl
      · refine q _ (.say ((z + 1) :: f0) j) _ w78 ⟨t, g, rfl, t8 _ _ (s7 _ _ (s6 _ _ e5)), t8 _ _ (s7 _ _ (s6 _ _ (s5 _ _ e3)))⟩ ⟨by rw [List.length_cons]; exact o2, o3, o4⟩ fun _ eq => ?_
        have eq' : LRow.say (z :: f0) j = LRow.say (((z + 1) :: f0).map (· % 2 ^ k)) j := eq
        injection eq' with e2' _
        rw [List.map_cons] at e2'
        injection e2' with h3 _
        exact bump k1 z0 z1 h3.symm
      · exact q _ (.look j) _ w78 ⟨y, rfl, t8 _ _ (s7 _ _ e6)⟩ ⟨o3, o4⟩ fun _ eq => LRow.noConfusion (show LRow.say (z :: f0) j = LRow.look j from eq)
    | ask n j =>
      have hv0 := hv
      have hD := hv.dt
      obtain ⟨a, rfl, ha⟩ := hv
      walk_at "lk"
      refine sft (SqT.of ha) (by rfl) ?_
      walk_at "lk"
      refine sEq rfl ?_
      walk_at "lk"
      refine iff_ (by decide +kernel) ?_
      walk_at "lk"
      refine sft (SqT.of ha) (by rfl) ?_
      walk_at "lk"
      refine sEq rfl ?_
      walk_at "lk"
      refine iff_ (by decide +kernel) ?_
      walk_at "lk"
      refine sfr (SqL.of hl) (Lk.atI_nat (i := 0) (by rw [List.getElem?_map, hn0]; rfl)) ?_
      walk_at "lk"
      refine snw (Nat.le_of_ble_eq_true rfl) fun t ht => ?_
      have s1 : Same H (upd H t (.tup [.str "ask", .str n0, .int (m - 1)])) := same_new ht
      have e1 : (upd H t (.tup [.str "ask", .str n0, .int (m - 1)])) t = some (.tup [.str "ask", .str n0, .int (m - 1)]) := upd_same
      walk_at "lk"
      generalize upd H t (.tup [.str "ask", .str n0, .int (m - 1)]) = H1 at s1 e1 ⊢
      have hE : RowH H1 (.ref t) (.ask n0 (m - 1)) := ⟨t, rfl, e1⟩
      have sr : SeqAt.shaped (LRow.ask n j).d = true := shaped_row (rowNm_of hok hns)
      have sa : SeqAt.shaped (LRow.ask n0 (m - 1)).d = true := shaped_row (r := .ask n0 (m - 1)) (hns n0 (List.mem_of_getElem? hn0))
      refine ⟨_, _, (hD.ts (Ts.of s1)).dp, hE.dt.dp, sr, sa, ?_⟩
      walk_at "lk"
      cases ev : PyData.eqv (LRow.ask n j).d (LRow.ask n0 (m - 1)).d with
      | false =>
        refine itt_ rfl ?_
        walk_at "lk"
        refine sfr (SqL.of (s1 _ _ hl)) (Lk.atI_nat (i := 0) (by rw [List.getElem?_map, hn0]; rfl)) ?_
        walk_at "lk"
        refine snw (Nat.le_of_ble_eq_true rfl) fun u hu => ?_
        refine q _ (.ask n0 (m - 1)) _ (Wk.of hw (s1.trans (same_new hu))) ⟨u, rfl, upd_same⟩ ⟨List.mem_of_getElem? hn0, by omega, by omega⟩ fun _ e => ?_
        have e' : LRow.ask n j = LRow.ask n0 (m - 1) := e
        rw [e', SeqAt.eqv_refl _ (SeqAt.canLay_of_shaped sa)] at ev
        cases ev
      | true =>
        refine iff_ rfl ?_
        walk_at "lk"
        refine snw (Nat.le_of_ble_eq_true rfl) fun u hu => ?_
        refine q _ .stop _ (Wk.of hw (s1.trans (same_new hu))) ⟨u, rfl, upd_same⟩ trivial fun _ e => ?_
        have e' := row_eqv ev
        have e2 : LRow.ask n j = LRow.stop := e
        exact LRow.noConfusion (e'.symm.trans e2)
    | choose ks =>
      have hv0 := hv
      have hD := hv.dt
      obtain ⟨a, b, rfl, ha, hb⟩ := hv
      walk_at "lk"
      refine sft (SqT.of ha) (by rfl) ?_
      walk_at "lk"
      refine sEq rfl ?_
      walk_at "lk"
      refine iff_ (by decide +kernel) ?_
      walk_at "lk"
      refine sft (SqT.of ha) (by rfl) ?_
      walk_at "lk"
      refine sEq rfl ?_
      walk_at "lk"
      refine iff_ (by decide +kernel) ?_
      walk_at "lk"
      refine sfr (SqL.of hl) (Lk.atI_nat (i := 0) (by rw [List.getElem?_map, hn0]; rfl)) ?_
      walk_at "lk"
      refine snw (Nat.le_of_ble_eq_true rfl) fun t ht => ?_
      have s1 : Same H (upd H t (.tup [.str "ask", .str n0, .int (m - 1)])) := same_new ht
      have e1 : (upd H t (.tup [.str "ask", .str n0, .int (m - 1)])) t = some (.tup [.str "ask", .str n0, .int (m - 1)]) := upd_same
      walk_at "lk"
      generalize upd H t (.tup [.str "ask", .str n0, .int (m - 1)]) = H1 at s1 e1 ⊢
      have hE : RowH H1 (.ref t) (.ask n0 (m - 1)) := ⟨t, rfl, e1⟩
      have sr : SeqAt.shaped (LRow.choose ks).d = true := shaped_row (rowNm_of hok hns)
      have sa : SeqAt.shaped (LRow.ask n0 (m - 1)).d = true := shaped_row (r := .ask n0 (m - 1)) (hns n0 (List.mem_of_getElem? hn0))
      refine ⟨_, _, (hD.ts (Ts.of s1)).dp, hE.dt.dp, sr, sa, ?_⟩
      walk_at "lk"
      cases ev : PyData.eqv (LRow.choose ks).d (LRow.ask n0 (m - 1)).d with
      | false =>
        refine itt_ rfl ?_
        walk_at "lk"
        refine sfr (SqL.of (s1 _ _ hl)) (Lk.atI_nat (i := 0) (by rw [List.getElem?_map, hn0]; rfl)) ?_
        walk_at "lk"
        refine snw (Nat.le_of_ble_eq_true rfl) fun u hu => ?_
        refine q _ (.ask n0 (m - 1)) _ (Wk.of hw (s1.trans (same_new hu))) ⟨u, rfl, upd_same⟩ ⟨List.mem_of_getElem? hn0, by omega, by omega⟩ fun _ e => ?_
        have e' : LRow.choose ks = LRow.ask n0 (m - 1) := e
        rw [e', SeqAt.eqv_refl _ (SeqAt.canLay_of_shaped sa)] at ev
        cases ev
      | true =>
        refine iff_ rfl ?_
        walk_at "lk"
        refine snw (Nat.le_of_ble_eq_true rfl) fun u hu => ?_
        refine q _ .stop _ (Wk.of hw (s1.trans (same_new hu))) ⟨u, rfl, upd_same⟩ trivial fun _ e => ?_
        have e' := row_eqv ev
        have e2 : LRow.choose ks = LRow.stop := e
        exact LRow.noConfusion (e'.symm.trans e2)
    | look j =>
      have hv0 := hv
      have hD := hv.dt
      obtain ⟨a, rfl, ha⟩ := hv
      walk_at "lk"
      refine sft (SqT.of ha) (by rfl) ?_
      walk_at "lk"
      refine sEq rfl ?_
      walk_at "lk"
      refine iff_ (by decide +kernel) ?_
      walk_at "lk"
      refine sft (SqT.of ha) (by rfl) ?_
      walk_at "lk"
      refine sEq rfl ?_
      walk_at "lk"
      refine iff_ (by decide +kernel) ?_
      walk_at "lk"
      refine sfr (SqL.of hl) (Lk.atI_nat (i := 0) (by rw [List.getElem?_map, hn0]; rfl)) ?_
      walk_at "lk"
      refine snw (Nat.le_of_ble_eq_true rfl) fun t ht => ?_
      have s1 : Same H (upd H t (.tup [.str "ask", .str n0, .int (m - 1)])) := same_new ht
      have e1 : (upd H t (.tup [.str "ask", .str n0, .int (m - 1)])) t = some (.tup [.str "ask", .str n0, .int (m - 1)]) := upd_same
      walk_at "lk"
      generalize upd H t (.tup [.str "ask", .str n0, .int (m - 1)]) = H1 at s1 e1 ⊢
      have hE : RowH H1 (.ref t) (.ask n0 (m - 1)) := ⟨t, rfl, e1⟩
      have sr : SeqAt.shaped (LRow.look j).d = true := shaped_row (rowNm_of hok hns)
      have sa : SeqAt.shaped (LRow.ask n0 (m - 1)).d = true := shaped_row (r := .ask n0 (m - 1)) (hns n0 (List.mem_of_getElem? hn0))
      refine ⟨_, _, (hD.ts (Ts.of s1)).dp, hE.dt.dp, sr, sa, ?_⟩
      walk_at "lk"
      cases ev : PyData.eqv (LRow.look j).d (LRow.ask n0 (m - 1)).d with
      | false =>
        refine itt_ rfl ?_
        walk_at "lk"
        refine sfr (SqL.of (s1 _ _ hl)) (Lk.atI_nat (i := 0) (by rw [List.getElem?_map, hn0]; rfl)) ?_
        walk_at "lk"
        refine snw (Nat.le_of_ble_eq_true rfl) fun u hu => ?_
        refine q _ (.ask n0 (m - 1)) _ (Wk.of hw (s1.trans (same_new hu))) ⟨u, rfl, upd_same⟩ ⟨List.mem_of_getElem? hn0, by omega, by omega⟩ fun _ e => ?_
        have e' : LRow.look j = LRow.ask n0 (m - 1) := e
        rw [e', SeqAt.eqv_refl _ (SeqAt.canLay_of_shaped sa)] at ev
        cases ev
      | true =>
        refine iff_ rfl ?_
        walk_at "lk"
        refine snw (Nat.le_of_ble_eq_true rfl) fun u hu => ?_
        refine q _ .stop _ (Wk.of hw (s1.trans (same_new hu))) ⟨u, rfl, upd_same⟩ trivial fun _ e => ?_
        have e' := row_eqv ev
        have e2 : LRow.look j = LRow.stop := e
        exact LRow.noConfusion (e'.symm.trans e2)
    | stop =>
      have hv0 := hv
      have hD := hv.dt
      obtain ⟨a, rfl, ha⟩ := hv
      walk_at "lk"
      refine sft (SqT.of ha) (by rfl) ?_
      walk_at "lk"
      refine sEq rfl ?_
      walk_at "lk"
      refine iff_ (by decide +kernel) ?_
      walk_at "lk"
      refine sft (SqT.of ha) (by rfl) ?_
      walk_at "lk"
      refine sEq rfl ?_
      walk_at "lk"
      refine iff_ (by decide +kernel) ?_
      walk_at "lk"
      refine sfr (SqL.of hl) (Lk.atI_nat (i := 0) (by rw [List.getElem?_map, hn0]; rfl)) ?_
      walk_at "lk"
      refine snw (Nat.le_of_ble_eq_true rfl) fun t ht => ?_
      have s1 : Same H (upd H t (.tup [.str "ask", .str n0, .int (m - 1)])) := same_new ht
      have e1 : (upd H t (.tup [.str "ask", .str n0, .int (m - 1)])) t = some (.tup [.str "ask", .str n0, .int (m - 1)]) := upd_same
      walk_at "lk"
      generalize upd H t (.tup [.str "ask", .str n0, .int (m - 1)]) = H1 at s1 e1 ⊢
      have hE : RowH H1 (.ref t) (.ask n0 (m - 1)) := ⟨t, rfl, e1⟩
      have sr : SeqAt.shaped (LRow.stop).d = true := shaped_row (rowNm_of hok hns)
      have sa : SeqAt.shaped (LRow.ask n0 (m - 1)).d = true := shaped_row (r := .ask n0 (m - 1)) (hns n0 (List.mem_of_getElem? hn0))
      refine ⟨_, _, (hD.ts (Ts.of s1)).dp, hE.dt.dp, sr, sa, ?_⟩
      walk_at "lk"
      cases ev : PyData.eqv (LRow.stop).d (LRow.ask n0 (m - 1)).d with
      | false =>
        refine itt_ rfl ?_
        walk_at "lk"
        refine sfr (SqL.of (s1 _ _ hl)) (Lk.atI_nat (i := 0) (by rw [List.getElem?_map, hn0]; rfl)) ?_
        walk_at "lk"
        refine snw (Nat.le_of_ble_eq_true rfl) fun u hu => ?_
        refine q _ (.ask n0 (m - 1)) _ (Wk.of hw (s1.trans (same_new hu))) ⟨u, rfl, upd_same⟩ ⟨List.mem_of_getElem? hn0, by omega, by omega⟩ fun _ e => ?_
        have e' : LRow.stop = LRow.ask n0 (m - 1) := e
        rw [e', SeqAt.eqv_refl _ (SeqAt.canLay_of_shaped sa)] at ev
        cases ev
      | true =>
        refine iff_ rfl ?_
        walk_at "lk"
        refine snw (Nat.le_of_ble_eq_true rfl) fun u hu => ?_
        refine q _ .stop _ (Wk.of hw (s1.trans (same_new hu))) ⟨u, rfl, upd_same⟩ trivial fun _ e => ?_
        have e' := row_eqv ev
        have e2 : LRow.stop = LRow.stop := e
        exact LRow.noConfusion (e'.symm.trans e2)
end
end K01

namespace K01
open PySem PySem.Spec PyProof.Rows L2 Lk
local macro_rules | `(tactic| walk_at "lk") => `(tactic| (repeat (first
  | with_reducible refine ssq ?_ | with_reducible refine sas ?_ | with_reducible refine sgn ?_ | ((with_reducible show tVar _ _ _ _); refine sv rfl ?_) | with_reducible refine sc ?_ | with_reducible refine sop ?_ | with_reducible refine sun ?_
  | with_reducible refine sI0 ?_ | with_reducible refine sU ?_ | with_reducible refine stt ?_ | with_reducible refine stB ?_ | with_reducible refine sbl ?_ | with_reducible refine snt ?_ | with_reducible refine sif ?_ | with_reducible refine scB ?_
  | with_reducible refine scn ?_ | with_reducible refine snl ?_ | with_reducible refine scl ?_ | with_reducible refine stu ?_ | with_reducible refine sli ?_ | with_reducible refine sdr ?_ | with_reducible refine srt ?_ | with_reducible refine snx ?_ | with_reducible refine sfor ?_ | with_reducible refine sils ?_ | with_reducible refine sien ?_ | with_reducible refine sor ?_ | with_reducible refine sfg ?_
  | with_reducible refine sav ?_ | with_reducible refine sov ?_ | with_reducible refine snv ?_ | with_reducible refine sch ?_ | with_reducible refine san ?_ | with_reducible refine ssll ?_ | with_reducible refine spt ?_ | with_reducible refine snp ?_ | with_reducible refine sin ?_ | with_reducible refine sfl ?_ | with_reducible refine sfd ?_ | with_reducible refine sbm ?_ | with_reducible refine sifx ?_
  | ((with_reducible show Or _ _); first | refine Or.inl ⟨_, rfl, ?_⟩ | refine Or.inr ⟨_, rfl, ?_⟩))))

abbrev psI : List Str := ["self", "width", "variables", "rows"]
/-- the class Program, as the top has left it -/
structure Prg (P : Program) (w : World) (K : PySem.W.Frag) (mg : Str → Option Value) (base : Heap) (A : Ad) : Prop where
  init : ∃ f fd, Mk K A.Program f ∧ FnOk P w K mg base CX0 6 f fd psI (spInit K A) ∧ Binds K fd psI [] ∧ KBn K fd psI 1 ["rows", "variables", "width"] (fun us ws => us ++ ws.reverse) (fun us ws => us ++ ws.reverse)
  eq : ∃ f fd, PySem.W.findIn K (.ref A.Program) "__eq__" = some (some (.ref f)) ∧ PySem.W.isFn K (.ref f) = true ∧ FnOk P w K mg base CX0 1 f fd ["self", "other"] (spEqP K A) ∧ Binds K fd ["self", "other"] []
  len : ∃ f fd, PySem.W.findIn K (.ref A.Program) "__len__" = some (some (.ref f)) ∧ PySem.W.isFn K (.ref f) = true ∧ FnOk P w K mg base CX0 1 f fd ["self"] (spLen K A) ∧ Binds K fd ["self"] []
  item : ∃ f fd, PySem.W.findIn K (.ref A.Program) "__getitem__" = some (some (.ref f)) ∧ PySem.W.fnIn K f = true ∧ PySem.W.isFn K (.ref f) = true ∧ FnOk P w K mg base CX0 4 f fd ["self", "at"] (spItem K A) ∧ Binds K fd ["self", "at"] []
theorem same_own {H H' : Hp} {x dx C : Addr} (h1 : H x = none) (h2 : H dx = none) (s : Bar x (upd (upd H dx (.own x)) x (.ins C dx [])) H') : Same H H' := fun b o e => by
  have n1 := ne_of_none e h1
  have n2 := ne_of_none e h2
  refine s b o n1 ?_
  rw [upd_ne n1, upd_ne n2]
  exact e
theorem bar_mk {H : Hp} {x dx C : Addr} (h1 : H x = none) (h2 : H dx = none) : Same H (upd (upd H dx (.own x)) x (.ins C dx [])) := same_own h1 h2 Bar.refl
def newP (C : Addr) (sp : Sp) (dvs : List V) (E : XK) (vs : List V) (H : Hp) (Q : VK) : Prop := ∀ x dx, H x = none → H dx = none → dx ≠ x → sp (.ref x :: (vs ++ dvs)) (upd (upd H dx (.own x)) x (.ins C dx [])) (fun v H2 => v = .non ∧ Q (.ref x) H2) E
def newK (C : Addr) (sp : Sp) (gV : List V → List V → List V) (E : XK) (vs zs : List V) (H : Hp) (Q : VK) : Prop := ∀ x dx, H x = none → H dx = none → dx ≠ x → sp (gV (.ref x :: vs) zs) (upd (upd H dx (.own x)) x (.ins C dx [])) (fun v H2 => v = .non ∧ Q (.ref x) H2) E
/-- Program(..): what the new program is -/
theorem s_newP {K : PySem.W.Frag} {A : Ad} {H : Hp} {l t : Addr} {k : Nat} {ns : List Str} {us : List V} {rs : List LRow} {Q : VK} {E : XK} (k1 : 1 ≤ k) (k2 : k ≤ 64) (hl : SqE K H l (ns.map V.str)) (hn : NamesOk ns) (ht : SqE K H t us) (hr : RowsH H us rs) (hok : RowsOk ns rs)
    (q : ∀ x H', Same H H' → ProgO K A.Program H' x k ns (rs.map (·.low k)) → Q (.ref x) H') : newP A.Program (spInit K A) [] E [.int (k : Int), .ref l, .ref t] H Q := fun x dx h1 h2 _ => by
  have s := bar_mk (C := A.Program) h1 h2
  exact ⟨x, dx, l, t, k, ns, us, rs, rfl, upd_same, k1, k2, hl.same s, hn, ht.same s, hr.ts (Ts.of s), hok, fun H' b hp => ⟨rfl, q x H' (same_own h1 h2 b) hp⟩⟩
theorem s_newK {K : PySem.W.Frag} {A : Ad} {H : Hp} {l t : Addr} {k : Nat} {ns : List Str} {us : List V} {rs : List LRow} {Q : VK} {E : XK} (k1 : 1 ≤ k) (k2 : k ≤ 64) (hl : SqE K H l (ns.map V.str)) (hn : NamesOk ns) (ht : SqE K H t us) (hr : RowsH H us rs) (hok : RowsOk ns rs)
    (q : ∀ x H', Same H H' → ProgO K A.Program H' x k ns (rs.map (·.low k)) → Q (.ref x) H') : newK A.Program (spInit K A) (fun us ws => us ++ ws.reverse) E [] [.ref t, .ref l, .int (k : Int)] H Q := fun x dx h1 h2 _ => by
  have s := bar_mk (C := A.Program) h1 h2
  exact ⟨x, dx, l, t, k, ns, us, rs, rfl, upd_same, k1, k2, hl.same s, hn, ht.same s, hr.ts (Ts.of s), hok, fun H' b hp => ⟨rfl, q x H' (same_own h1 h2 b) hp⟩⟩
section
variable {X : Cx} {A : Ad} {j : Nat} {e : Expr} {es : List Expr} {kws : List Keyword} {t tk ta tb : TE} {p pos : Pos}
theorem Prg.pe {t : TA} (G : Prg X.prog X.w X.K X.mg X.base A) (hr : Room j X.A) (hj : 7 ≤ j) (hm : X.mg "Program" = some (.ref A.Program)) (ha : PA X (e :: es) t) (hg : Gl X "Program" := by rfl)
    (he : starEach (e :: es) X.env = (false, eval e X.env) :: starEach es X.env := by rfl) (hpl : (backTo pos (starEach es X.env)).any (·.1) = false := by rfl) : PE X (.Call (.Name "Program" p) (e :: es) [] pos) (tMake A.Program (spInit X.K A) [] E0 t) := by
  obtain ⟨f, fd, M, F, b, _⟩ := G.init
  exact pe_make M F (hr.mono hj) hg hm b .nil pass0 ha (by decide) he hpl
theorem Prg.pk {t : TA} (G : Prg X.prog X.w X.K X.mg X.base A) (hr : Room j X.A) (hj : 7 ≤ j) (hm : X.mg "Program" = some (.ref A.Program)) (ha : PK X kws t) (hg : Gl X "Program" := by rfl) (hall : (backToKw pos (keywordEach kws X.env)).all (·.1.isSome) = true := by rfl)
    (hks : (backToKw pos (keywordEach kws X.env)).filterMap (·.1) = (["rows", "variables", "width"] : List Str) := by rfl) (hpl : ((backTo pos (starEach [] X.env)).any (·.1) || (backToKw pos (keywordEach kws X.env)).any (·.1.isNone)) = false := by rfl) :
    PE X (.Call (.Name "Program" p) [] kws pos) (tMakeK A.Program 0 3 (spInit X.K A) (fun us ws => us ++ ws.reverse) E0 tNil t) := by
  obtain ⟨f, fd, M, F, _, kb⟩ := G.init
  exact pe_makeK0 M F (hr.mono hj) hg hm kb pass0 ha hall hks (by decide) hpl
theorem Prg.oeq (G : Prg X.prog X.w X.K X.mg X.base A) (hr : Room j X.A) (hj : 1 ≤ j) (hn : PySem.W.notFirst X.K A.Program (.type "tuple") = true) : OpR X (compareOp .Eq) (rEqO X.K A.Program (spEqP X.K A) E0) := by
  obtain ⟨f, fd, h1, h2, F, b⟩ := G.eq
  exact op_eqO F h1 h2 b pass0 hn (hr.mono hj)
theorem Prg.one (G : Prg X.prog X.w X.K X.mg X.base A) (hr : Room j X.A) (hj : 2 ≤ j) (hne : PySem.W.findIn X.K (.ref A.Program) "__ne__" = some (some (.builtin "object.__ne__"))) (hm : PySem.W.mroIn X.K A.Program (.type "object") = some true) : OpR X (compareOp .NotEq) (rNeO A.Program (spEqP X.K A) E0) := by
  obtain ⟨f, fd, h1, h2, F, b⟩ := G.eq
  exact op_neO F h1 hne hm h2 b pass0 (hr.mono hj)
theorem Prg.clen (G : Prg X.prog X.w X.K X.mg X.base A) (hr : Room j X.A) (hj : 2 ≤ j) : CallR X (.builtin "len") (rLenO A.Program (spLen X.K A) E0) := by
  obtain ⟨f, fd, h1, h2, F, b⟩ := G.len
  exact call_lenO F h1 h2 b pass0 (hr.mono hj)
theorem Prg.pix {P : Program} {w : World} {K : PySem.W.Frag} {mg : Str → Option Value} {base : Heap} {a b : Expr} {ta tb : TE} (G : Prg P w K mg base A) (h1 : X.prog = P) (h2 : X.w = w) (h3 : X.K = K) (h4 : X.mg = mg) (h5 : X.base = base) (hr : Room j X.A) (hj : 5 ≤ j) (ha : PE X a ta) (hb : PE X b tb) (hsl : ∀ v u, subscripted b true v u = runValue (.builtin "lifetime.subscript" ⟨[v, u], []⟩) := by intros; with_unfolding_all rfl) :
    PE X (.Subscript a b pos) (tOp (rIxO A.Program (spItem K A) E0) ta tb) := by
  subst h1 h2 h3 h4 h5
  obtain ⟨f, fd, h1, h2, h3, F, bb⟩ := G.item
  exact pe_ixO F h1 h2 h3 bb pass0 (hr.mono hj) ha hb hsl
theorem smk {C : Addr} {sp : Sp} {dvs : List V} {E : XK} {t : TA} {σ : L2.St} {H : Hp} {Q : VK} (q : t σ H fun vs H1 => newP C sp dvs E vs H1 Q) : tMake C sp dvs E t σ H Q := q
theorem smkk {C : Addr} {n m : Nat} {sp : Sp} {gV : List V → List V → List V} {E : XK} {t tk : TA} {σ : L2.St} {H : Hp} {Q : VK} (q : t σ H fun vs H1 => tk σ H1 fun zs H2 => vs.length = n ∧ zs.length = m ∧ newK C sp gV E vs zs H2 Q) : tMakeK C n m sp gV E t tk σ H Q := q
end

section
variable {P : Program} {w : World} {K : PySem.W.Frag} {mg : Str → Option Value} {base : Heap} {A : Ad}
end
end K01

namespace K01
open PySem PySem.Spec PyProof.Rows L2 Lk
local macro_rules | `(tactic| walk_at "lk") => `(tactic| (repeat (first
  | with_reducible refine ssq ?_ | with_reducible refine sas ?_ | with_reducible refine sgn ?_ | ((with_reducible show tVar _ _ _ _); refine sv rfl ?_) | with_reducible refine sc ?_ | with_reducible refine sop ?_ | with_reducible refine sun ?_
  | with_reducible refine sI0 ?_ | with_reducible refine sU ?_ | with_reducible refine stt ?_ | with_reducible refine stB ?_ | with_reducible refine sbl ?_ | with_reducible refine snt ?_ | with_reducible refine sif ?_ | with_reducible refine scB ?_
  | with_reducible refine scn ?_ | with_reducible refine snl ?_ | with_reducible refine scl ?_ | with_reducible refine stu ?_ | with_reducible refine sli ?_ | with_reducible refine sdr ?_ | with_reducible refine srt ?_ | with_reducible refine snx ?_ | with_reducible refine sfor ?_ | with_reducible refine sils ?_ | with_reducible refine sien ?_ | with_reducible refine sor ?_ | with_reducible refine sfg ?_
  | with_reducible refine sav ?_ | with_reducible refine sov ?_ | with_reducible refine snv ?_ | with_reducible refine sch ?_ | with_reducible refine san ?_ | with_reducible refine ssll ?_ | with_reducible refine spt ?_ | with_reducible refine snp ?_ | with_reducible refine sin ?_ | with_reducible refine sfl ?_ | with_reducible refine sfd ?_ | with_reducible refine sbm ?_ | with_reducible refine sifx ?_ | with_reducible refine smk ?_ | with_reducible refine smkk ?_
  | ((with_reducible show Or _ _); first | refine Or.inl ⟨_, rfl, ?_⟩ | refine Or.inr ⟨_, rfl, ?_⟩))))

def spRight : Sp := fun vs H Q _ => ∃ p : Addr, vs = [.ref p] ∧ Wl H p ∧ ∀ H', Wk p H H' → Q (.bl true) H'
def names6 : List Str := ["y", "x", "zed", "ab", "abcdefgh", "q"]
/-- the other names: each a letter longer, the long one left out -/
def otherN (ns : List Str) : List Str := (ns.filter fun n => decide ((n.length : Int) < 8)).map fun n => ("x" : Str) ++ n
theorem names6_ok (c : Nat) (h1 : 1 ≤ c) (h2 : c ≤ 6) : NamesOk (names6.take c) ∧ (names6.take c)[0]? = some ("y" : Str) ∧ ((otherN (names6.take c)).length = (names6.take c).length → NamesOk (otherN (names6.take c)) ∧ otherN (names6.take c) ≠ names6.take c) := by
  have h : c = 1 ∨ c = 2 ∨ c = 3 ∨ c = 4 ∨ c = 5 ∨ c = 6 := by omega
  unfold NamesOk
  rcases h with rfl | rfl | rfl | rfl | rfl | rfl <;> decide +kernel

section
variable {P : Program} {w : World} {K : PySem.W.Frag} {mg : Str → Option Value} {base : Heap} {A : Ad}
abbrev s__law_right : Stmt := top 38
theorem sc__law_right : FnScope ["_law_well", "_law_width_so", "_law_total", "_law_names", "_law_rows_so", "_law_handed", "_law_words", "_law_program", "_law_at", "_law_bent_here", "_law_other", "_law_name", "_law_row_here", "_law_k"] ["_law_well"] (defScope s__law_right) := ⟨rfl, rfl, rfl, by decide +kernel, rfl, by decide +kernel, by decide +kernel⟩
theorem ok_right {f : Addr} {fd : FuncData} (F : Fun K "_law_right" "_law_right" s__law_right f fd) (T : Txt P w K mg base A) (c__law_draw : Cal P w K mg base 1 "_law_draw" ["_law_well", "_law_many"] spDraw) (c__law_one : Cal P w K mg base 2 "_law_one" ["_law_well", "_law_some"] spOne) (c__law_rows : Cal P w K mg base 5 "_law_rows" ["_law_well", "_law_width_so", "_law_names", "_law_total"] spRows) (c__law_bent : Cal P w K mg base 3 "_law_bent" ["_law_well", "_law_row_here", "_law_names", "_law_total"] spBent) (c__law_grown_row : Cal P w K mg base 4 "_law_grown_row" ["_law_well", "_law_row_here", "_law_modulus"] spGrownRow) (G : Prg P w K mg base A) : FnOk P w K mg base CX0 8 f fd ["_law_well"] spRight := by
  refine F.ok sc__law_right (fun vs H Q E h => ?_) (fun cdv Ar outer s H vs Q E hr h => ?_)
  · obtain ⟨p, rfl, _⟩ := h
    rfl
  · obtain ⟨p, rfl, hw, q⟩ := h
    refine ⟨_, (pss_cons (ps_asg (pe_tup (pa_cons (pcal c__law_one hr (by decide) (pa_cons (pv 0) (pa_cons (pe_lst (pa_cons pe_int (pa_cons pe_int (pa_cons pe_int (pa_cons pe_int (pa_cons pe_int (pa_cons pe_int pa_nil))))))) pa_nil))) (pa_cons (pe_op op_add pe_int (pcal c__law_draw hr (by decide) (pa_cons (pv 0) (pa_cons pe_int pa_nil)))) pa_nil))) (pg_tup rfl (pgs_cons (pg_name (i := 1) sc__law_right.nd rfl (Or.inr rfl)) (pgs_cons (pg_name (i := 2) sc__law_right.nd rfl (Or.inl rfl)) pgs_nil))))
        (pss_cons (ps_set (i := 3) sc__law_right.nd rfl (Or.inl rfl) (pe_slice sl_list (pe_lst (pa_cons pe_str (pa_cons pe_str (pa_cons pe_str (pa_cons pe_str (pa_cons pe_str (pa_cons pe_str pa_nil))))))) po_none (po_some (pe_op op_add pe_int (pcal c__law_draw hr (by decide) (pa_cons (pv 0) (pa_cons pe_int pa_nil)))))))
        (pss_cons (ps_set (i := 4) sc__law_right.nd rfl (Or.inl rfl) (pcal c__law_rows hr (by decide) (pa_cons (pv 0) (pa_cons (pv 1) (pa_cons (pv 3) (pa_cons (pv 2) pa_nil))))))
        (pss_cons (ps_par (i := 5) (j := 6) (by rfl) sc__law_right.nd rfl rfl (by decide) rfl rfl (pa_cons (pe_lc (own := [("_law_row_here", 12)]) (g := gName 12) (tt := tYes) rfl sc__law_right.nd (pi_list (pv 4)) (blkOk_by (own := [("_law_row_here", 12)]) (N := ["_law_well", "_law_width_so", "_law_total", "_law_names", "_law_rows_so", "_law_handed", "_law_words", "_law_program", "_law_at", "_law_bent_here", "_law_other", "_law_name", "_law_row_here", "_law_k"]) (sc := defScope s__law_right) (by decide +kernel)) (fun _ _ _ _ _ => pg_name (i := 12) sc__law_right.nd rfl (Or.inl rfl)) (fun _ _ _ _ _ => pts_nil) (fun _ _ _ _ _ => (pcal c__law_grown_row hr (by decide) (pa_cons (pv 0) (pa_cons (pv 12) (pa_cons (pe_op op_oneShl pe_int (pv 1)) pa_nil)))))) (pa_cons (pe_callTy call_list_of (by rfl) T.z_list (by decide +kernel) (pa_cons (pv 3) pa_nil)) pa_nil)) (by rfl))
        (pss_cons (ps_set (i := 7) sc__law_right.nd rfl (Or.inr rfl) (G.pe hr (by decide) T.g_Program (pa_cons (pv 1) (pa_cons (pv 6) (pa_cons (pv 5) pa_nil)))))
        (pss_cons (ps_expr (pe_bm0 PySem.F.plainAttrs_list PySem.F.slot_list_clear PySem.F.type_list_clear mt_clear (pv 5)))
        (pss_cons (ps_expr (pe_bm PySem.F.plainAttrs_list PySem.F.slot_list_append PySem.F.type_list_append mt_append (pv 6) (pa_cons pe_str pa_nil)))
        (pss_cons (ps_if (pt_cmpR (op_neD hr.units) (pe_tup (pa_cons (pe_fld (pv 7) rfl) (pa_cons (pe_fld (pv 7) rfl) (pa_cons (pe_fld (pv 7) rfl) pa_nil)))) (pe_tup (pa_cons (pv 1) (pa_cons (pe_callTy call_tupOf (by rfl) T.z_tuple (by decide +kernel) (pa_cons (pv 3) pa_nil)) (pa_cons (pe_callTy call_tupOf (by rfl) T.z_tuple (by decide +kernel) (pa_cons (pv 4) pa_nil)) pa_nil)))) (nomark _)) (pss_one (ps_ret pe_bl)) pss_nil)
        (pss_cons (ps_if (PW.pt (pw_or (pt_cmpR op_ne (pe_callB (G.clen hr (by decide)) (by rfl) T.z_len PySem.boot_len (pa_cons (pv 7) pa_nil)) (pv 2) (nomark _)) (pw_or1 (pt_cmpR (op_neD hr.units) (pe_lc (own := [("_law_k", 13)]) (g := gName 13) (tt := tYes) rfl sc__law_right.nd (pi_range1 (by rfl) T.z_range (pa_cons (pv 2) pa_nil)) (blkOk_by (own := [("_law_k", 13)]) (N := ["_law_well", "_law_width_so", "_law_total", "_law_names", "_law_rows_so", "_law_handed", "_law_words", "_law_program", "_law_at", "_law_bent_here", "_law_other", "_law_name", "_law_row_here", "_law_k"]) (sc := defScope s__law_right) (by decide +kernel)) (fun _ _ _ _ _ => pg_name (i := 13) sc__law_right.nd rfl (Or.inl rfl)) (fun _ _ _ _ _ => pts_nil) (fun _ _ _ _ _ => (G.pix rfl rfl rfl rfl rfl hr (by decide) (pv 7) (pv 13)))) (pv 4) (nomark _))))) (pss_one (ps_ret pe_bl)) pss_nil)
        (pss_cons (ps_if (pt_cmpR (G.one hr (by decide) T.o_ne T.i_mro) (pv 7) (G.pk hr (by decide) T.g_Program (pk_cons (pe_callTy call_tupOf (by rfl) T.z_tuple (by decide +kernel) (pa_cons (pv 4) pa_nil)) (pk_cons (pe_callTy call_tupOf (by rfl) T.z_tuple (by decide +kernel) (pa_cons (pv 3) pa_nil)) (pk_cons (pv 1) pk_nil)))) (nomark _)) (pss_one (ps_ret pe_bl)) pss_nil)
        (pss_cons (ps_if (pt_cmpR (G.oeq hr (by decide) T.o_nf) (pv 7) (pe_callTy call_tupOf (by rfl) T.z_tuple (by decide +kernel) (pa_cons (pv 4) pa_nil)) (nomark _)) (pss_one (ps_ret pe_bl)) pss_nil)
        (pss_cons (ps_set (i := 8) sc__law_right.nd rfl (Or.inl rfl) (pcal c__law_draw hr (by decide) (pa_cons (pv 0) (pa_cons (pv 2) pa_nil))))
        (pss_cons (ps_set (i := 9) sc__law_right.nd rfl (Or.inl rfl) (pe_op op_cat (pe_op op_cat (pe_slice sl_list (pv 4) po_none (po_some (pv 8))) (pe_lst (pa_cons (pcal c__law_bent hr (by decide) (pa_cons (pv 0) (pa_cons (pe_ix ix_list (pv 4) (pv 8) (fun _ _ => rfl)) (pa_cons (pv 3) (pa_cons (pv 2) pa_nil))))) pa_nil))) (pe_slice sl_list (pv 4) (po_some (pe_op op_add (pv 8) pe_int)) po_none)))
        (pss_cons (ps_if (PW.pt (pw_and (pt_cmpR op_gt (pv 2) pe_int (nomark _)) (pw_and (pt_cmpR op_gt (pv 1) pe_int (nomark _)) (pw_and1 (pt_cmpR (G.oeq hr (by decide) T.o_nf) (pv 7) (G.pe hr (by decide) T.g_Program (pa_cons (pv 1) (pa_cons (pv 3) (pa_cons (pv 9) pa_nil)))) (nomark _)))))) (pss_one (ps_ret pe_bl)) pss_nil)
        (pss_cons (ps_setLc (i := 10) (own := [("_law_name", 11)]) (g := gName 11) rfl sc__law_right.nd rfl rfl (by rfl) (pi_list (pv 3)) (blkOk_by (own := [("_law_name", 11)]) (N := ["_law_well", "_law_width_so", "_law_total", "_law_names", "_law_rows_so", "_law_handed", "_law_words", "_law_program", "_law_at", "_law_bent_here", "_law_other", "_law_name", "_law_row_here", "_law_k"]) (sc := defScope s__law_right) (by decide +kernel)) (fun _ _ _ _ _ => pg_name (i := 11) sc__law_right.nd rfl (Or.inl rfl)) (fun _ _ _ _ _ => pts_one (pt_cmpR op_lt (pe_callB call_len_str (by rfl) T.z_len PySem.boot_len (pa_cons (pv 11) pa_nil)) pe_int (nomark _))) (fun _ _ _ _ _ => (pe_op op_add_str pe_str (pv 11))))
        (pss_cons (ps_if (PW.pt (pw_and (pt_cmpR op_eq (pe_callB call_len_seq (by rfl) T.z_len PySem.boot_len (pa_cons (pv 10) pa_nil)) (pe_callB call_len_seq (by rfl) T.z_len PySem.boot_len (pa_cons (pv 3) pa_nil)) (nomark _)) (pw_and1 (pt_cmpR (G.oeq hr (by decide) T.o_nf) (G.pe hr (by decide) T.g_Program (pa_cons (pv 1) (pa_cons (pv 10) (pa_cons (pe_lst (pa_cons (pe_tup (pa_cons pe_str pa_nil)) pa_nil)) pa_nil)))) (G.pe hr (by decide) T.g_Program (pa_cons (pv 1) (pa_cons (pv 3) (pa_cons (pe_lst (pa_cons (pe_tup (pa_cons pe_str pa_nil)) pa_nil)) pa_nil)))) (nomark _))))) (pss_one (ps_ret pe_bl)) pss_nil)
        (pss_one (ps_ret (pe_cmpR (G.one hr (by decide) T.o_ne T.i_mro) (G.pe hr (by decide) T.g_Program (pa_cons pe_int (pa_cons (pe_lst (pa_cons pe_str pa_nil)) (pa_cons (pe_lst (pa_cons (pe_tup (pa_cons pe_str pa_nil)) pa_nil)) pa_nil)))) (G.pe hr (by decide) T.g_Program (pa_cons pe_int (pa_cons (pe_lst (pa_cons pe_str pa_nil)) (pa_cons (pe_lst (pa_cons (pe_tup (pa_cons pe_str pa_nil)) pa_nil)) pa_nil)))) (nomark _)))))))))))))))))))), ?_⟩
    walk_at "lk"
    refine snw (Nat.le_of_ble_eq_true rfl) fun l1 hl1 => ?_
    have w1 : Wk p H (upd H l1 (.lst ([1, 2, 8, 32, 63, 64].map V.int))) := Wk.of hw (same_new hl1)
    have e1 : (upd H l1 (.lst ([1, 2, 8, 32, 63, 64].map V.int))) l1 = some (.lst ([1, 2, 8, 32, 63, 64].map V.int)) := upd_same
    have n1 : l1 ≠ p := ne_new hw hl1
    walk_at "lk"
    show spOne _ (upd H l1 (.lst ([1, 2, 8, 32, 63, 64].map V.int))) _ _
    generalize upd H l1 (.lst ([1, 2, 8, 32, 63, 64].map V.int)) = H1 at w1 e1 ⊢
    refine ⟨p, l1, _, rfl, w1.2, n1, e1, by decide, by decide, fun v H2 hv w2' => ?_⟩
    have w2 := w1.trans w2'
    obtain ⟨k, rfl, k1, k2⟩ : ∃ k : Nat, v = .int (k : Int) ∧ 1 ≤ k ∧ k ≤ 64 := by
      obtain ⟨z, hz, rfl⟩ := List.mem_map.mp hv
      have := (by decide : ∀ z ∈ ([1, 2, 8, 32, 63, 64] : List Int), 1 ≤ z ∧ z ≤ 64) z hz
      exact ⟨z.toNat, by rw [Int.toNat_of_nonneg (by omega)], by omega, by omega⟩
    walk_at "lk"
    refine ⟨p, 25, rfl, by decide, by decide, w2.2, fun r H3 r0 r1 w3' => ?_⟩
    have w3 := w2.trans w3'
    walk_at "lk"
    obtain ⟨m, hm⟩ : ∃ m : Nat, 1 + r = (m : Int) := ⟨(1 + r).toNat, by omega⟩
    rw [hm]
    have m1 : 1 ≤ m := by omega
    have m2 : m ≤ 25 := by omega
    refine snw (Nat.le_of_ble_eq_true rfl) fun t4 ht4 => ?_
    have w4 := w3.st (same_new (o := .tup [.int (k : Int), .int (m : Int)]) ht4)
    refine g_pair (SqT.of upd_same) ?_
    generalize upd H3 t4 (.tup [.int (k : Int), .int (m : Int)]) = H4 at w4 ⊢
    clear w1 e1 w2 w2' w3 w3' hl1 n1 hv ht4
    walk_at "lk"
    refine snw (Nat.le_of_ble_eq_true rfl) fun l5 hl5 => ?_
    have w5 := w4.st (same_new (o := .lst (names6.map V.str)) hl5)
    have e5 : (upd H4 l5 (.lst (names6.map V.str))) l5 = some (.lst (names6.map V.str)) := upd_same
    have n5 : l5 ≠ p := ne_new w4.2 hl5
    walk_at "lk"
    show spDraw _ (upd H4 l5 (.lst (names6.map V.str))) _ _
    generalize upd H4 l5 (.lst (names6.map V.str)) = H5 at w5 e5 ⊢
    refine ⟨p, 6, rfl, by decide, by decide, w5.2, fun r2 H6 g0 g1 w6' => ?_⟩
    have w6 := w5.trans w6'
    have e6 := w6'.at n5 e5
    walk_at "lk"
    obtain ⟨c, hc⟩ : ∃ c : Nat, 1 + r2 = (c : Int) := ⟨(1 + r2).toNat, by omega⟩
    rw [hc]
    have hns := names6_ok c (by omega) (by omega)
    refine ⟨l5, _, rfl, SqL.of e6, fun l hl => ?_⟩
    rw [cut_takeLe (by rw [List.length_map]; show c ≤ 6; omega), ← List.map_take]
    have w7 := w6.st (same_new (o := .lst ((names6.take c).map V.str)) hl)
    have e7 : (upd H6 l (.lst ((names6.take c).map V.str))) l = some (.lst ((names6.take c).map V.str)) := upd_same
    have nl : l ≠ p := ne_new w6.2 hl
    generalize upd H6 l (.lst ((names6.take c).map V.str)) = H7 at w7 e7 ⊢
    generalize names6.take c = ns at e7 hns ⊢
    obtain ⟨hnk, hn0, hot⟩ := hns
    have nl1 := hnk.1
    have nl2 := hnk.2.1
    clear w6 w6' e6 w5 e5 w4 hl5 n5 hl hm hc r0 r1 g0 g1
    walk_at "lk"
    refine ⟨p, l, k, m, ns, rfl, k1, k2, m1, m2, w7.2, nl, e7, nl1, nl2, fun D us rs H8 w8' hD eD hus hlen hgood => ?_⟩
    have w8 := w7.trans w8'
    have el8 := w8'.at nl e7
    have nD : D ≠ p := ne_new w7.2 hD
    have hrok : RowsOk ns rs := ⟨by omega, by omega, fun r hr => by rw [hlen]; exact (hgood r hr).1⟩
    have hrnm : ∀ r ∈ rs, RowNm r := fun r hr => rowNm_of (hgood r hr).1 hnk.2.2.1
    walk_at "lk"
    refine spr ?_
    walk_at "lk"
    refine tlc_rowsW (fun r r' => r'.low k = r.low k ∧ RowOk ns m r') w8.2 nD rfl eD hus (by have := hus.len; omega) (fun _ => rfl) (fun i v r H' hri hv wk S qs => ?_) (fun E9 ys qs H9 w9' hE eE hys hql hqr => ?_)
    · walk_at "lk"
      refine ⟨k, rfl, rfl, by omega, ?_⟩
      walk_at "lk"
      exact ⟨p, v, k, r, ns, m, rfl, k2, wk.2, hv, (hgood r (List.mem_of_getElem? hri)).1, nl2, fun u r' H2 w2 hu hlow hok => qs u r' H2 w2 hu ⟨hlow, hok⟩⟩
    have hqs : qs.map (·.low k) = rs := by
      refine List.ext_getElem? fun i => ?_
      rw [List.getElem?_map]
      cases e : rs[i]? with
      | none =>
        rw [List.getElem?_eq_none (by rw [hql]; exact List.getElem?_eq_none_iff.mp e)]
        rfl
      | some r =>
        obtain ⟨r', g1, g2, _⟩ := hqr i r e
        rw [g1]
        show some (r'.low k) = some r
        rw [g2, (hgood r (List.mem_of_getElem? e)).2]
    have hqok : RowsOk ns qs := ⟨by omega, by omega, fun r' hr' => by
      obtain ⟨i, hi⟩ := List.getElem?_of_mem hr'
      have hlt := (List.getElem?_eq_some_iff.mp hi).1
      obtain ⟨r2, g1, _, g3⟩ := hqr i _ (List.getElem?_eq_getElem (by omega))
      rw [hi] at g1
      cases g1
      rw [hql, hlen]
      exact g3⟩
    have w9 := w8.trans w9'
    have el9 := w9'.at nl el8
    have eD9 := w9'.at nD eD
    have hus9 := hus.ts (w9'.ts w8.2)
    have nE : E9 ≠ p := ne_new w8.2 hE
    have nED : E9 ≠ D := fun z => by
      rw [z, eD] at hE
      cases hE
    have nEl : E9 ≠ l := fun z => by
      rw [z, el8] at hE
      cases hE
    have hE0 := w8.none hw hE
    clear w7 w8 w8' w9' hqr e7 el8 eD hus hE
    walk_at "lk"
    refine ⟨l, _, rfl, .inl (SqL.of el9), fun g hg => ?_⟩
    have s10 : Same H9 (upd H9 g (.lst (ns.map V.str))) := same_new hg
    have eg : (upd H9 g (.lst (ns.map V.str))) g = some (.lst (ns.map V.str)) := upd_same
    have ng : g ≠ p := ne_new w9.2 hg
    have ngl : g ≠ l := fun z => by
      rw [z, el9] at hg
      cases hg
    have ngD : g ≠ D := fun z => by
      rw [z, eD9] at hg
      cases hg
    have ngE : g ≠ E9 := fun z => by
      rw [z, eE] at hg
      cases hg
    have hg0 := w9.none hw hg
    walk_at "lk"
    refine ⟨_, _, rfl, ?_⟩
    generalize upd H9 g (.lst (ns.map V.str)) = H10 at s10 eg ⊢
    walk_at "lk"
    refine s_newP k1 k2 (.inl (SqL.of eg)) hnk (.inl (SqL.of (s10 _ _ eE))) (hys.ts (Ts.of s10)) hqok fun x H11 s11 hx => ?_
    rw [hqs] at hx
    have s911 := s10.trans s11
    have w11 := w9.st s911
    have el11 := s911 _ _ el9
    have eD11 := s911 _ _ eD9
    have hus11 := hus9.ts (Ts.of s911)
    have eE11 := s911 _ _ eE
    have eg11 := s11 _ _ eg
    clear s10 s11 s911 eg hg w9 el9 eD9 hus9 eE hys
    walk_at "lk"
    refine ⟨_, rfl, .inl ⟨rfl, _, SqL.of eE11⟩, E9, _, rfl, rfl, eE11, ?_⟩
    have w12 := w11.updD (o := .lst []) hE0 nE
    have c12 : Lc H11 (upd H11 E9 (.lst [])) := Lc.upd eE11
    have el12 : (upd H11 E9 (.lst [])) l = some (.lst (ns.map V.str)) := by rw [upd_ne (Ne.symm nEl)]; exact el11
    have eD12 : (upd H11 E9 (.lst [])) D = some (.lst us) := by rw [upd_ne (Ne.symm nED)]; exact eD11
    have eg12 : (upd H11 E9 (.lst [])) g = some (.lst (ns.map V.str)) := by rw [upd_ne ngE]; exact eg11
    have hus12 := hus11.ts c12.ts
    have hx12 := hx.lc c12
    generalize upd H11 E9 (.lst []) = H12 at w12 c12 el12 eD12 eg12 hus12 hx12 ⊢
    clear w11 el11 eD11 hus11 eE11 eg11 hx c12
    walk_at "lk"
    refine ⟨.inl ⟨rfl, _, SqL.of eg12⟩, ?_⟩
    walk_at "lk"
    refine ⟨g, _, _, rfl, rfl, eg12, by rw [List.length_map]; exact small1000 (by omega), ?_⟩
    have w13 := w12.updD (o := .lst (ns.map V.str ++ [.str "no"])) hg0 ng
    have c13 : Lc H12 (upd H12 g (.lst (ns.map V.str ++ [.str "no"]))) := Lc.upd eg12
    have el : (upd H12 g (.lst (ns.map V.str ++ [.str "no"]))) l = some (.lst (ns.map V.str)) := by rw [upd_ne (Ne.symm ngl)]; exact el12
    have eD : (upd H12 g (.lst (ns.map V.str ++ [.str "no"]))) D = some (.lst us) := by rw [upd_ne (Ne.symm ngD)]; exact eD12
    have hus := hus12.ts c13.ts
    have hx := hx12.lc c13
    walk_at "lk"
    generalize upd H12 g (.lst (ns.map V.str ++ [.str "no"])) = H13 at w13 c13 el eD hus hx ⊢
    clear w12 el12 eD12 eg12 hus12 hx12 c13
    obtain ⟨dx, tv, tr, vs, hx0, hx1, hx2, hx3⟩ := hx
    have hx : ProgO K A.Program H13 x k ns rs := ⟨dx, tv, tr, vs, hx0, hx1, hx2, hx3⟩
    refine ⟨x, A.Program, dx, _, _, rfl, hx0, T.c_Program, T.n_width, rfl, ?_⟩
    walk_at "lk"
    refine ⟨x, A.Program, dx, _, _, rfl, hx0, T.c_Program, T.n_variables, rfl, ?_⟩
    walk_at "lk"
    refine ⟨x, A.Program, dx, _, _, rfl, hx0, T.c_Program, T.n_rows, rfl, ?_⟩
    walk_at "lk"
    refine snw (Nat.le_of_ble_eq_true rfl) fun t1 ht1 => ?_
    have s1 : Same H13 (upd H13 t1 (.tup [.int (k : Int), .ref tv, .ref tr])) := same_new ht1
    have e1 : (upd H13 t1 (.tup [.int (k : Int), .ref tv, .ref tr])) t1 = some (.tup [.int (k : Int), .ref tv, .ref tr]) := upd_same
    walk_at "lk"
    generalize upd H13 t1 (.tup [.int (k : Int), .ref tv, .ref tr]) = H14 at s1 e1 ⊢
    refine s_tupE (.inl (SqL.of (s1 _ _ el))) fun t2 H15 s2 h2 => ?_
    walk_at "lk"
    refine s_tupE (.inl (SqL.of (s2 _ _ (s1 _ _ eD)))) fun t3 H16 s3 h3 => ?_
    walk_at "lk"
    refine snw (Nat.le_of_ble_eq_true rfl) fun t4 ht4 => ?_
    have s4 : Same H16 (upd H16 t4 (.tup [.int (k : Int), .ref t2, .ref t3])) := same_new ht4
    have e4 : (upd H16 t4 (.tup [.int (k : Int), .ref t2, .ref t3])) t4 = some (.tup [.int (k : Int), .ref t2, .ref t3]) := upd_same
    generalize upd H16 t4 (.tup [.int (k : Int), .ref t2, .ref t3]) = H17 at s4 e4 ⊢
    have sA := ((s1.trans s2).trans s3).trans s4
    have s24 := (s2.trans s3).trans s4
    refine ⟨triD k ns rs, triD k ns rs, tri_dp (s24 _ _ e1) (same_sqT sA hx1) (same_sqT sA hx2) (hx3.ts (Ts.of sA)), tri_dp e4 (same_sqT (s3.trans s4) h2) (same_sqT s4 h3) (hus.ts (Ts.of sA)), shaped_tri hnk.2.2.1 hrnm, shaped_tri hnk.2.2.1 hrnm, ?_⟩
    rw [SeqAt.eqv_refl _ (SeqAt.canLay_of_shaped (shaped_tri hnk.2.2.1 hrnm))]
    walk_at "lk"
    refine iff_ rfl ?_
    walk_at "lk"
    have hxA := hx.lc (Lc.of sA)
    have elA := sA _ _ el
    have eDA := sA _ _ eD
    have husA := hus.ts (Ts.of sA)
    have w17 := w13.st sA
    clear s1 s2 s3 s4 s24 e1 e4 h2 h3 sA el eD hus hx hx0 hx1 hx2 hx3 w13 ht1 ht4
    obtain ⟨dx, tv, tr, vs, hx0, hx1, hx2, hx3⟩ := id hxA
    refine ⟨x, dx, _, rfl, hx0, x, k, ns, rs, rfl, hxA, rs.length, rfl, by omega, ?_⟩
    walk_at "lk"
    refine sNe rfl ?_
    rw [hlen]
    walk_at "lk"
    refine iff_ (by simp) ?_
    walk_at "lk"
    unfold tLc iRng1
    walk_at "lk"
    refine ⟨(m : Int), rfl, by omega, by omega, fun D2 hD2 => ?_⟩
    rw [Int.toNat_natCast]
    refine lc_range (lo := 0) (n := m) (fun i H' => Same H17 H' ∧ ∃ ys, H' D2 = some (.lst ys) ∧ RowsH H' ys (rs.take i)) ⟨same_new hD2, [], upd_same, .nil⟩ ?_ ?_
    · rintro i H' hi ⟨sB, ys, hys1, hys2⟩
      refine ⟨rfl, ?_⟩
      unfold tYes
      simp only [if_true]
      walk_at "lk"
      have e0 : (0 : Int) + (i : Int) = i := Int.zero_add _
      rw [e0]
      walk_at "lk"
      have hi' : i < rs.length := by omega
      refine ⟨x, dx, _, rfl, sB _ _ hx0, x, i, k, ns, rs, rs[i], rfl, hxA.lc (Lc.of sB), List.getElem?_eq_getElem hi', fun v hv => ?_⟩
      have t2 : Ts H' (upd H' D2 (.lst (ys ++ [v]))) := Ts.lst hys1
      refine ⟨ys, hys1, by rw [hys2.len, List.length_take]; exact small1000 (by omega), fun b o e => ?_, ys ++ [v], upd_same, ?_⟩
      · rw [upd_ne (ne_of_none e hD2)]
        exact sB b o e
      · rw [List.take_succ, List.getElem?_eq_getElem hi']
        exact (hys2.ts t2).append (.cons (hv.ts t2) .nil)
    rintro H18 ⟨sB, ys, hys1, hys2⟩
    rw [← hlen, List.take_length] at hys2
    walk_at "lk"
    have eD18 := sB _ _ eDA
    have hus18 := husA.ts (Ts.of sB)
    refine ⟨.list (rs.map LRow.d), .list (rs.map LRow.d), .lst (SqL.of hys1) hys2.dt.dp, .lst (SqL.of eD18) hus18.dt.dp, shaped_rowsL hrnm, shaped_rowsL hrnm, ?_⟩
    rw [SeqAt.eqv_refl _ (SeqAt.canLay_of_shaped (shaped_rowsL hrnm))]
    walk_at "lk"
    refine iff_ rfl ?_
    have w18 := w17.st sB
    have hx18 := hxA.lc (Lc.of sB)
    have el18 := sB _ _ elA
    clear hxA elA eDA husA w17 hx0 hx1 hx2 hx3 hD2 hys1 hys2
    walk_at "lk"
    obtain ⟨dx, tv, tr, vs, hx0, hx1, hx2, hx3⟩ := id hx18
    refine s_tupE (.inl (SqL.of eD18)) fun t2 H19 s2 h2 => ?_
    walk_at "lk"
    refine s_tupE (.inl (SqL.of (s2 _ _ el18))) fun t3 H20 s3 h3 => ?_
    walk_at "lk"
    have s23 := s2.trans s3
    have hrl : rs.map (·.low k) = rs := good_low fun r hr => (hgood r hr).2
    refine ⟨rfl, rfl, s_newK k1 k2 (.inr h3) hnk (.inr (same_sqT s3 h2)) (hus18.ts (Ts.of s23)) hrok fun x2 H21 s21 hx2' => ?_⟩
    rw [hrl] at hx2'
    have s221 := s23.trans s21
    obtain ⟨dy, tv', tr', vs', hy0, hy1, hy2, hy3⟩ := id hx2'
    refine ⟨x, dx, _, x2, dy, _, rfl, s221 _ _ hx0, rfl, hy0, x, .ref x2, k, ns, rs, rfl, hx18.lc (Lc.of s221), hnk.2.2.1, hrnm, .inl ⟨x2, k, ns, rs, rfl, hx2', hnk.2.2.1, hrnm, _, rfl, ?_⟩⟩
    rw [prEq_refl hnk.2.2.1 hrnm]
    walk_at "lk"
    refine iff_ rfl ?_
    have w21 := w18.st s221
    have hx21 := hx18.lc (Lc.of s221)
    have el21 := s221 _ _ el18
    have eD21 := s221 _ _ eD18
    have hus21 := hus18.ts (Ts.of s221)
    clear w18 hx18 el18 eD18 hus18 s221 s23 s2 s3 s21 h2 h3 hx2' hy0 hy1 hy2 hy3 hx0 hx1 hx2 hx3 sB
    walk_at "lk"
    obtain ⟨dx, tv, tr, vs, hx0, hx1, hx2, hx3⟩ := id hx21
    refine ⟨D, _, rfl, .inl ⟨SqL.of eD21, fun t2 ht2 => ?_⟩⟩
    have s22 : Same H21 (upd H21 t2 (.tup us)) := same_new ht2
    have e22 : (upd H21 t2 (.tup us)) t2 = some (.tup us) := upd_same
    generalize upd H21 t2 (.tup us) = H22 at s22 e22 ⊢
    refine ⟨x, dx, _, rfl, s22 _ _ hx0, .inr ⟨t2, us, rfl, e22⟩, x, .ref t2, k, ns, rs, rfl, hx21.lc (Lc.of s22), hnk.2.2.1, hrnm, .inr ⟨t2, us, rfl, e22, false, rfl, ?_⟩⟩
    walk_at "lk"
    refine iff_ rfl ?_
    have w22 := w21.st s22
    have hx22 := hx21.lc (Lc.of s22)
    have el22 := s22 _ _ el21
    have eD22 := s22 _ _ eD21
    have hus22 := hus21.ts (Ts.of s22)
    clear w21 hx21 el21 eD21 hus21 s22 e22 hx0 hx1 hx2 hx3 ht2
    walk_at "lk"
    refine ⟨p, (m : Int), rfl, by omega, Nat.lt_of_le_of_lt (show (m : Int).natAbs ≤ 25 by omega) (by decide), w22.2, fun r9 H23 c0 c1 w23' => ?_⟩
    obtain ⟨at9, rfl⟩ : ∃ i : Nat, r9 = (i : Int) := ⟨r9.toNat, by omega⟩
    have hat : at9 < rs.length := by omega
    have w23 := w22.trans w23'
    have hx23 := hx22.lc (Lc.wk w22.2 w23')
    have el23 := w23'.at nl el22
    have eD23 := w23'.at nD eD22
    have hus23 := hus22.ts (w23'.ts w22.2)
    clear w22 hx22 el22 eD22 hus22 w23'
    walk_at "lk"
    refine ⟨D, us, rfl, SqL.of eD23, fun f1 hf1 => ?_⟩
    have ul := hus23.len
    rw [cut_takeLe (by omega)]
    have s24 : Same H23 (upd H23 f1 (.lst (us.take at9))) := same_new hf1
    have e24 : (upd H23 f1 (.lst (us.take at9))) f1 = some (.lst (us.take at9)) := upd_same
    have nf1 : f1 ≠ p := ne_new w23.2 hf1
    generalize upd H23 f1 (.lst (us.take at9)) = H24 at s24 e24 ⊢
    have w24 := w23.st s24
    walk_at "lk"
    obtain ⟨v9, hv9, hv9r⟩ := hus23.get (List.getElem?_eq_getElem hat)
    refine sfr (SqL.of (s24 _ _ eD23)) (Lk.atI_nat hv9) ?_
    walk_at "lk"
    have hg9 := hgood _ (List.getElem_mem hat)
    refine ⟨p, l, v9, k, m, rs[at9], ns, "y", rfl, k1, by omega, w24.2, hv9r.ts (Ts.of s24), hg9.1, hg9.2, s24 _ _ el23, nl, hn0, nl2, hnk.2.2.1, fun u9 r9 H25 w25' hu9 hok9 hne9 => ?_⟩
    have w25 := w24.trans w25'
    have c25 : Lc H23 H25 := (Lc.of s24).trans (Lc.wk w24.2 w25')
    have hx25 := hx23.lc c25
    have el25 := w25'.at nl (s24 _ _ el23)
    have eD25 := w25'.at nD (s24 _ _ eD23)
    have hus25 := hus23.ts c25.ts
    have ef25 := w25'.at nf1 e24
    clear hx23 el23 eD23 hus23 w23 w24 w25' c25 s24 e24 hf1 hv9 hv9r hg9
    walk_at "lk"
    refine snw (Nat.le_of_ble_eq_true rfl) fun f2 hf2 => ?_
    have s26 : Same H25 (upd H25 f2 (.lst [u9])) := same_new hf2
    have e26 : (upd H25 f2 (.lst [u9])) f2 = some (.lst [u9]) := upd_same
    generalize upd H25 f2 (.lst [u9]) = H26 at s26 e26 ⊢
    refine ⟨f1, f2, _, _, rfl, rfl, s26 _ _ ef25, e26, by rw [List.length_take]; exact Nat.le_of_lt (small1000 (by simp; omega)), fun f3 hf3 => ?_⟩
    have s27 : Same H26 (upd H26 f3 (.lst (us.take at9 ++ [u9]))) := same_new hf3
    have e27 : (upd H26 f3 (.lst (us.take at9 ++ [u9]))) f3 = some (.lst (us.take at9 ++ [u9])) := upd_same
    walk_at "lk"
    generalize upd H26 f3 (.lst (us.take at9 ++ [u9])) = H27 at s27 e27 ⊢
    have s257 := s26.trans s27
    refine ⟨D, us, rfl, SqL.of (s257 _ _ eD25), fun f4 hf4 => ?_⟩
    have ec : cutV us (some ((at9 : Int) + 1)) none = us.drop (at9 + 1) := by
      have := cut_drop (xs := us) (i := at9 + 1) (by omega)
      rw [← this]
      rfl
    rw [ec]
    have s28 : Same H27 (upd H27 f4 (.lst (us.drop (at9 + 1)))) := same_new hf4
    have e28 : (upd H27 f4 (.lst (us.drop (at9 + 1)))) f4 = some (.lst (us.drop (at9 + 1))) := upd_same
    generalize upd H27 f4 (.lst (us.drop (at9 + 1))) = H28 at s28 e28 ⊢
    refine ⟨f3, f4, _, _, rfl, rfl, s28 _ _ e27, e28, by rw [List.length_append, List.length_take, List.length_drop]; exact Nat.le_of_lt (small1000 (by simp; omega)), fun f5 hf5 => ?_⟩
    have s29 : Same H28 (upd H28 f5 (.lst (us.take at9 ++ [u9] ++ us.drop (at9 + 1)))) := same_new hf5
    have e29 : (upd H28 f5 (.lst (us.take at9 ++ [u9] ++ us.drop (at9 + 1)))) f5 = some (.lst (us.take at9 ++ [u9] ++ us.drop (at9 + 1))) := upd_same
    generalize upd H28 f5 (.lst (us.take at9 ++ [u9] ++ us.drop (at9 + 1))) = H29 at s29 e29 ⊢
    have s259 := (s257.trans s28).trans s29
    have w29 := w25.st s259
    have hx29 := hx25.lc (Lc.of s259)
    have el29 := s259 _ _ el25
    have hb29 : RowsH H29 (us.take at9 ++ [u9] ++ us.drop (at9 + 1)) (rs.take at9 ++ [r9] ++ rs.drop (at9 + 1)) := (((hus25.take).append (.cons hu9 .nil)).append hus25.drop).ts (Ts.of s259)
    have hblen : (rs.take at9 ++ [r9] ++ rs.drop (at9 + 1)).length = rs.length := by
      rw [List.length_append, List.length_append, List.length_take, List.length_drop]
      simp
      omega
    have hbok : RowsOk ns (rs.take at9 ++ [r9] ++ rs.drop (at9 + 1)) := ⟨by omega, by omega, fun r hr => by
      rw [hblen]
      rcases List.mem_append.mp hr with h | h
      · rcases List.mem_append.mp h with h | h
        · exact hrok.2.2 r (List.mem_of_mem_take h)
        · rw [List.mem_singleton.mp h, hlen]
          exact hok9
      · exact hrok.2.2 r (List.mem_of_mem_drop h)⟩
    have hbne : 2 ≤ m → rs ≠ (rs.take at9 ++ [r9] ++ rs.drop (at9 + 1)).map (·.low k) := fun h2 e => by
      refine hne9 (by omega) ?_
      have e1 := congrArg (fun l => l[at9]?) e
      simp only [List.getElem?_map, List.getElem?_eq_getElem hat] at e1
      rw [List.getElem?_append_left (by rw [List.length_append, List.length_take]; simp; omega), List.getElem?_append_right (by rw [List.length_take]; omega), List.length_take, Nat.min_eq_left (by omega)] at e1
      simpa using e1
    clear hx25 el25 eD25 hus25 ef25 w25 s26 e26 s27 e27 s28 e28 s29 s257 s259 hf2 hf3 hf4 hf5 ec hu9 hok9 hne9
    refine sgn ?_
    with_reducible refine snxd ?_
    with_reducible refine ss_cont (fun H' => Wk p H H' ∧ H' l = some (.lst (ns.map V.str))) ?_ fun cont => ?_
    rotate_left 1
    · walk_at "lk"
      by_cases h1 : (1 : Int) < m
      · refine itt_ (decide_eq_true h1) ?_
        walk_at "lk"
        by_cases h2 : (1 : Int) < k
        · refine itt_ (decide_eq_true h2) ?_
          walk_at "lk"
          refine s_newP k1 k2 (.inl (SqL.of el29)) hnk (.inl (SqL.of e29)) hb29 hbok fun x3 H30 s30 hx3 => ?_
          obtain ⟨dx, tv, tr, vs, hx0, hx1, hx2, hx3'⟩ := id hx29
          obtain ⟨dy, tv', tr', vs', hy0, hy1, hy2, hy3⟩ := id hx3
          refine ⟨x, dx, _, rfl, s30 _ _ hx0, .inl ⟨x3, dy, _, rfl, hy0⟩, x, .ref x3, k, ns, rs, rfl, hx29.lc (Lc.of s30), hnk.2.2.1, hrnm, .inl ⟨x3, k, ns, _, rfl, hx3, hnk.2.2.1, fun r hr => ?_, _, rfl, ?_⟩⟩
          · obtain ⟨r0, hr0, rfl⟩ := List.mem_map.mp hr
            exact rowNm_low (rowNm_of (hbok.2.2 r0 hr0) hnk.2.2.1)
          · have ef : prEq k ns rs k ns ((rs.take at9 ++ [r9] ++ rs.drop (at9 + 1)).map (·.low k)) = false := by
              cases e : prEq k ns rs k ns ((rs.take at9 ++ [r9] ++ rs.drop (at9 + 1)).map (·.low k)) with
              | false => rfl
              | true => exact absurd (prEq_iff e).2.2 (hbne (by omega))
            rw [ef]
            walk_at "lk"
            refine iff_ rfl ?_
            exact cont _ ⟨w29.st s30, s30 _ _ el29⟩
        · refine iff_ (decide_eq_false h2) ?_
          walk_at "lk"
          refine iff_ rfl ?_
          exact cont _ ⟨w29, el29⟩
      · refine iff_ (decide_eq_false h1) ?_
        refine iff_ rfl ?_
        exact cont _ ⟨w29, el29⟩
    clear hb29 hbok hbne hblen hx29 e29 w29 el29
    rintro H31 ⟨w31, el31⟩
    walk_at "lk"
    refine ⟨l, rfl, ⟨_, SqL.of el31⟩, fun D3 hD3 => lc_list (xs := ns.map V.str) (fun i H' => Same H31 H' ∧ H' D3 = some (.lst ((otherN (ns.take i)).map V.str))) ⟨same_new hD3, upd_same⟩ (fun i H' _ h => SqL.of (h.1 _ _ el31)) ?_ ?_⟩
    · rintro i v H' hi ⟨sB, hB⟩
      have hlt : i < ns.length := by
        have := (List.getElem?_eq_some_iff.mp hi).1
        rwa [List.length_map] at this
      rw [List.getElem?_map, List.getElem?_eq_getElem hlt] at hi
      cases hi
      have hl8 : ns[i].length ≤ 8 := by
        have := hnk.2.2.1 _ (List.getElem_mem hlt)
        unfold nameS at this
        rw [Bool.and_eq_true, Bool.and_eq_true] at this
        exact of_decide_eq_true this.1.2
      have ht : otherN (ns.take (i + 1)) = otherN (ns.take i) ++ (if decide ((ns[i].length : Int) < 8) = true then [("x" : Str) ++ ns[i]] else []) := by
        unfold otherN
        rw [List.take_succ, List.getElem?_eq_getElem hlt, List.filter_append, List.map_append]
        congr 1
        show List.map _ (List.filter _ [ns[i]]) = _
        rw [List.filter_cons]
        split <;> rfl
      refine ⟨rfl, ?_⟩
      walk_at "lk"
      refine ⟨ns[i], rfl, Nat.le_of_lt (small1000 (by omega)), ?_⟩
      walk_at "lk"
      rw [ht]
      cases hd : decide ((ns[i].length : Int) < 8) with
      | false =>
        refine iff_ rfl ?_
        exact ⟨sB, by simpa using hB⟩
      | true =>
        refine itt_ rfl ?_
        walk_at "lk"
        refine ⟨_, _, rfl, rfl, Nat.le_of_lt (small1000 (by have : ("x" : Str).length = 1 := rfl; omega)), ?_⟩
        refine ⟨_, hB, ?_, fun b o e => ?_, ?_⟩
        · rw [List.length_map]
          unfold otherN
          rw [List.length_map]
          have := List.length_filter_le (fun n : Str => decide ((n.length : Int) < 8)) (ns.take i)
          rw [List.length_take] at this
          exact small1000 (by omega)
        · rw [upd_ne (ne_of_none e hD3)]
          exact sB b o e
        · rw [upd_same, if_pos rfl, List.map_append]
          rfl
    rintro H32 ⟨s32, e32⟩
    rw [List.length_map, List.take_length] at e32
    have w32 := w31.st s32
    have el32 := s32 _ _ el31
    clear w31 el31 s32 hD3
    refine sgn ?_
    with_reducible refine snxd ?_
    with_reducible refine ss_cont (fun H' => Wk p H H') ?_ fun cont => ?_
    rotate_left 1
    · walk_at "lk"
      refine ⟨D3, _, rfl, .inl (SqL.of e32), ?_⟩
      walk_at "lk"
      refine ⟨l, _, rfl, .inl (SqL.of el32), ?_⟩
      refine sEq rfl ?_
      rw [List.length_map, List.length_map]
      walk_at "lk"
      by_cases hL : (otherN ns).length = ns.length
      · refine itt_ (by rw [hL]; exact decide_eq_true rfl) ?_
        obtain ⟨ho1, ho2⟩ := hot hL
        walk_at "lk"
        refine snw (Nat.le_of_ble_eq_true rfl) fun tA htA => ?_
        have saA : Same H32 (upd H32 tA (.tup [.str "stop"])) := same_new htA
        have eaA : (upd H32 tA (.tup [.str "stop"])) tA = some (.tup [.str "stop"]) := upd_same
        walk_at "lk"
        generalize upd H32 tA (.tup [.str "stop"]) = GA at saA eaA ⊢
        refine snw (Nat.le_of_ble_eq_true rfl) fun qA hqA => ?_
        have sbA : Same GA (upd GA qA (.lst [.ref tA])) := same_new hqA
        have ebA : (upd GA qA (.lst [.ref tA])) qA = some (.lst [.ref tA]) := upd_same
        have rbA : RowsH (upd GA qA (.lst [.ref tA])) [.ref tA] [LRow.stop] := .cons ⟨tA, rfl, sbA _ _ eaA⟩ .nil
        walk_at "lk"
        generalize upd GA qA (.lst [.ref tA]) = HA at sbA ebA rbA ⊢
        have scA := saA.trans sbA
        refine s_newP k1 k2 (.inl (SqL.of (scA _ _ e32))) ho1 (.inl (SqL.of ebA)) rbA ⟨by decide, by decide, fun r hr => by rw [List.mem_singleton.mp hr]; trivial⟩ fun xA HB sxA hxA => ?_
        walk_at "lk"
        refine snw (Nat.le_of_ble_eq_true rfl) fun tC htC => ?_
        have saC : Same HB (upd HB tC (.tup [.str "stop"])) := same_new htC
        have eaC : (upd HB tC (.tup [.str "stop"])) tC = some (.tup [.str "stop"]) := upd_same
        walk_at "lk"
        generalize upd HB tC (.tup [.str "stop"]) = GC at saC eaC ⊢
        refine snw (Nat.le_of_ble_eq_true rfl) fun qC hqC => ?_
        have sbC : Same GC (upd GC qC (.lst [.ref tC])) := same_new hqC
        have ebC : (upd GC qC (.lst [.ref tC])) qC = some (.lst [.ref tC]) := upd_same
        have rbC : RowsH (upd GC qC (.lst [.ref tC])) [.ref tC] [LRow.stop] := .cons ⟨tC, rfl, sbC _ _ eaC⟩ .nil
        walk_at "lk"
        generalize upd GC qC (.lst [.ref tC]) = HC at sbC ebC rbC ⊢
        have scC := saC.trans sbC
        refine s_newP k1 k2 (.inl (SqL.of (scC _ _ (sxA _ _ (scA _ _ el32))))) hnk (.inl (SqL.of ebC)) rbC ⟨by decide, by decide, fun r hr => by rw [List.mem_singleton.mp hr]; trivial⟩ fun xC HD sxC hxC => ?_
        have hxA' := hxA.lc (Lc.of (scC.trans sxC))
        obtain ⟨d1, _, _, _, hy1, _⟩ := id hxA'
        obtain ⟨d2, _, _, _, hy2, _⟩ := id hxC
        refine ⟨xA, d1, _, rfl, hy1, .inl ⟨xC, d2, _, rfl, hy2⟩, xA, .ref xC, k, otherN ns, [.stop], rfl, hxA', ho1.2.2.1, fun r hr => by rw [List.mem_singleton.mp hr]; trivial, .inl ⟨xC, k, ns, [.stop], rfl, hxC, hnk.2.2.1, fun r hr => by rw [List.mem_singleton.mp hr]; trivial, _, rfl, ?_⟩⟩
        have ef : prEq k (otherN ns) [.stop] k ns [.stop] = false := by
          cases e : prEq k (otherN ns) [.stop] k ns [.stop] with
          | false => rfl
          | true => exact absurd (prEq_iff e).2.1 ho2
        rw [ef]
        walk_at "lk"
        refine iff_ rfl ?_
        exact cont _ (((w32.st scA).st sxA).st (scC.trans sxC))
      · refine iff_ (decide_eq_false fun z => hL (by have := V.int.inj z; omega)) ?_
        refine iff_ rfl ?_
        exact cont _ w32
    clear hot hnk hn0 nl1 nl2 hgood hrok hrnm e32 w32 el32
    rintro H33 w33
    walk_at "lk"
    refine snw (Nat.le_of_ble_eq_true rfl) fun nE hnE => ?_
    have snE : Same H33 (upd H33 nE (.lst [.str "a"])) := same_new hnE
    have enE : (upd H33 nE (.lst [.str "a"])) nE = some (.lst [.str "a"]) := upd_same
    walk_at "lk"
    generalize upd H33 nE (.lst [.str "a"]) = NE at snE enE ⊢
    refine snw (Nat.le_of_ble_eq_true rfl) fun tE htE => ?_
    have saE : Same NE (upd NE tE (.tup [.str "stop"])) := same_new htE
    have eaE : (upd NE tE (.tup [.str "stop"])) tE = some (.tup [.str "stop"]) := upd_same
    walk_at "lk"
    generalize upd NE tE (.tup [.str "stop"]) = GE at saE eaE ⊢
    refine snw (Nat.le_of_ble_eq_true rfl) fun qE hqE => ?_
    have sbE : Same GE (upd GE qE (.lst [.ref tE])) := same_new hqE
    have ebE : (upd GE qE (.lst [.ref tE])) qE = some (.lst [.ref tE]) := upd_same
    have rbE : RowsH (upd GE qE (.lst [.ref tE])) [.ref tE] [LRow.stop] := .cons ⟨tE, rfl, sbE _ _ eaE⟩ .nil
    walk_at "lk"
    generalize upd GE qE (.lst [.ref tE]) = ME at sbE ebE rbE ⊢
    have scE := saE.trans sbE
    refine s_newP (k := 7) (ns := ["a"]) (by decide) (by decide) (.inl (SqL.of (scE _ _ enE))) (by unfold NamesOk; decide +kernel) (.inl (SqL.of ebE)) rbE ⟨by decide, by decide, fun r hr => by rw [List.mem_singleton.mp hr]; trivial⟩ fun xE XE sxE hxE => ?_
    have stE := (snE.trans scE).trans sxE
    walk_at "lk"
    refine snw (Nat.le_of_ble_eq_true rfl) fun nF hnF => ?_
    have snF : Same XE (upd XE nF (.lst [.str "a"])) := same_new hnF
    have enF : (upd XE nF (.lst [.str "a"])) nF = some (.lst [.str "a"]) := upd_same
    walk_at "lk"
    generalize upd XE nF (.lst [.str "a"]) = NF at snF enF ⊢
    refine snw (Nat.le_of_ble_eq_true rfl) fun tF htF => ?_
    have saF : Same NF (upd NF tF (.tup [.str "stop"])) := same_new htF
    have eaF : (upd NF tF (.tup [.str "stop"])) tF = some (.tup [.str "stop"]) := upd_same
    walk_at "lk"
    generalize upd NF tF (.tup [.str "stop"]) = GF at saF eaF ⊢
    refine snw (Nat.le_of_ble_eq_true rfl) fun qF hqF => ?_
    have sbF : Same GF (upd GF qF (.lst [.ref tF])) := same_new hqF
    have ebF : (upd GF qF (.lst [.ref tF])) qF = some (.lst [.ref tF]) := upd_same
    have rbF : RowsH (upd GF qF (.lst [.ref tF])) [.ref tF] [LRow.stop] := .cons ⟨tF, rfl, sbF _ _ eaF⟩ .nil
    walk_at "lk"
    generalize upd GF qF (.lst [.ref tF]) = MF at sbF ebF rbF ⊢
    have scF := saF.trans sbF
    refine s_newP (k := 8) (ns := ["a"]) (by decide) (by decide) (.inl (SqL.of (scF _ _ enF))) (by unfold NamesOk; decide +kernel) (.inl (SqL.of ebF)) rbF ⟨by decide, by decide, fun r hr => by rw [List.mem_singleton.mp hr]; trivial⟩ fun xF XF sxF hxF => ?_
    have stF := (snF.trans scF).trans sxF
    have hxE' := hxE.lc (Lc.of stF)
    obtain ⟨d1, _, _, _, hy1, _⟩ := id hxE'
    obtain ⟨d2, _, _, _, hy2, _⟩ := id hxF
    refine ⟨xE, d1, _, xF, d2, _, rfl, hy1, rfl, hy2, xE, .ref xF, 7, ["a"], [.stop], rfl, hxE', by decide +kernel, fun r hr => by rw [List.mem_singleton.mp hr]; trivial, .inl ⟨xF, 8, ["a"], [.stop], rfl, hxF, by decide +kernel, fun r hr => by rw [List.mem_singleton.mp hr]; trivial, _, rfl, ?_⟩⟩
    have ef : prEq 7 ["a"] [.stop] 8 ["a"] [.stop] = false := by
      cases e : prEq 7 ["a"] [.stop] 8 ["a"] [.stop] with
      | false => rfl
      | true => exact absurd (prEq_iff e).1 (by decide)
    rw [ef]
    exact q _ ((w33.st stE).st stF)
end
end K01

namespace K01
open PySem PySem.Spec PyProof.Rows L2 Lk
local macro_rules | `(tactic| walk_at "lk") => `(tactic| (repeat (first
  | with_reducible refine ssq ?_ | with_reducible refine sas ?_ | with_reducible refine sgn ?_ | ((with_reducible show tVar _ _ _ _); refine sv rfl ?_) | with_reducible refine sc ?_ | with_reducible refine sop ?_ | with_reducible refine sun ?_
  | with_reducible refine sI0 ?_ | with_reducible refine sU ?_ | with_reducible refine stt ?_ | with_reducible refine stB ?_ | with_reducible refine sbl ?_ | with_reducible refine snt ?_ | with_reducible refine sif ?_ | with_reducible refine scB ?_
  | with_reducible refine scn ?_ | with_reducible refine snl ?_ | with_reducible refine scl ?_ | with_reducible refine stu ?_ | with_reducible refine sli ?_ | with_reducible refine sdr ?_ | with_reducible refine srt ?_ | with_reducible refine snx ?_ | with_reducible refine sfor ?_ | with_reducible refine sils ?_ | with_reducible refine sien ?_ | with_reducible refine sor ?_ | with_reducible refine sfg ?_
  | with_reducible refine sav ?_ | with_reducible refine sov ?_ | with_reducible refine snv ?_ | with_reducible refine sch ?_ | with_reducible refine san ?_ | with_reducible refine ssll ?_ | with_reducible refine spt ?_ | with_reducible refine snp ?_ | with_reducible refine sin ?_ | with_reducible refine sfl ?_ | with_reducible refine sfd ?_ | with_reducible refine sbm ?_ | with_reducible refine sifx ?_ | with_reducible refine ssli ?_
  | ((with_reducible show Or _ _); first | refine Or.inl ⟨_, rfl, ?_⟩ | refine Or.inr ⟨_, rfl, ?_⟩))))

def spLaw (K : PySem.W.Frag) : Sp := fun vs H Q _ => ∃ (a : Addr) (ns : List Int), vs = [.ref a] ∧ SqL K H a (ns.map V.int) ∧ ns.length ≤ 63 ∧ ∀ H', Q (.bl true) H'

section
variable {P : Program} {w : World} {K : PySem.W.Frag} {mg : Str → Option Value} {base : Heap} {A : Ad}
abbrev s_law : Stmt := top 39
theorem sc_law : FnScope ["_law_script", "_law_k", "_law_cell", "_law_well"] ["_law_script"] (defScope s_law) := ⟨rfl, rfl, rfl, by decide +kernel, rfl, by decide +kernel, by decide +kernel⟩
theorem ok_law {f : Addr} {fd : FuncData} (F : Fun K "law" "law" s_law f fd) (T : Txt P w K mg base A) (c__law_right : Cal P w K mg base 8 "_law_right" ["_law_well"] spRight) : FnOk P w K mg base CX0 9 f fd ["_law_script"] (spLaw K) := by
  refine F.ok sc_law (fun vs H Q E h => ?_) (fun cdv Ar outer s H vs Q E hr h => ?_)
  · obtain ⟨a, ns, rfl, _⟩ := h
    rfl
  · obtain ⟨a, ns, rfl, hS, hlen, k⟩ := h
    refine ⟨_, (pss_cons (ps_for PassesOwn.never rfl (pi_enum (by rfl) T.z_enumerate (pa_cons (pe_slice sl_list (pe_op op_catL (pv 0) (pe_lst (pa_cons pe_int pa_nil))) po_none (po_some pe_int)) pa_nil)) (pg_tup rfl (pgs_cons (pg_name (i := 1) sc_law.nd rfl (Or.inl rfl)) (pgs_cons (pg_name (i := 2) sc_law.nd rfl (Or.inl rfl)) pgs_nil))) (pss_cons (ps_set (i := 3) sc_law.nd rfl (Or.inl rfl) (pe_lst (pa_cons (pe_op op_mul (pv 2) (pe_callTy call_int1 (by rfl) T.z_int (by decide +kernel) (pa_cons (pe_cmpR op_ge (pv 2) (pe_op op_pow pe_int pe_int) (nomark _)) pa_nil))) (pa_cons (pe_op op_add (pe_op op_mod (pe_callTy call_int1 (by rfl) T.z_int (by decide +kernel) (pa_cons (pv 2) pa_nil)) pe_int) (pe_op op_mul pe_int (pv 1))) (pa_cons pe_int pa_nil)))))
        (pss_one (ps_if (pt_not (pt_val (pcal c__law_right hr (by decide) (pa_cons (pv 3) pa_nil)))) (pss_one (ps_ret pe_bl)) pss_nil))))
        (pss_one (ps_ret pe_bl))), ?_⟩
    walk_at "lk"
    refine snw (Nat.le_of_ble_eq_true rfl) fun z hz => ?_
    refine ⟨a, z, _, _, rfl, rfl, (same_new hz).seq hS, upd_same, Nat.le_of_lt (small1000 (by rw [List.length_map]; show ns.length + 1 ≤ 1000; omega)), fun l1 hl1 => ?_⟩
    walk_at "lk"
    refine ⟨l1, _, rfl, SqL.of upd_same, fun l2 hl2 => ?_⟩
    have ois : ∀ y ∈ cutV (ns.map V.int ++ [V.int 0]) none (some 6), ∃ n, y = V.int n := fun y hy => by
      have h1 : y ∈ ns.map V.int ++ [V.int 0] := List.mem_of_mem_drop (List.mem_of_mem_take hy)
      rcases List.mem_append.mp h1 with h2 | h2
      · obtain ⟨n, _, rfl⟩ := List.mem_map.mp h2
        exact ⟨n, rfl⟩
      · exact ⟨0, List.mem_singleton.mp h2⟩
    generalize cutV (ns.map V.int ++ [V.int 0]) none (some 6) = xs at ois ⊢
    walk_at "lk"
    refine ⟨l2, xs, rfl, SqL.of upd_same, ?_⟩
    generalize hHL : upd (upd (upd H z (.lst [.int 0])) l1 (.lst (ns.map V.int ++ [V.int 0]))) l2 (.lst xs) = HL
    have e2 : HL l2 = some (.lst xs) := by rw [← hHL, upd_same]
    refine en_by (fun i σ H' => (∃ e1 e2 e3, σ = [some (.ref a), e1, e2, e3]) ∧ Same HL H') ⟨⟨_, _, _, rfl⟩, Same.refl _⟩ (fun i σ H' _ h => SqL.of (h.2 _ _ e2)) ?_ ?_
    · rintro i y p σ H1 hi ⟨⟨u1, u2, u3, rfl⟩, s1⟩ hp
      obtain ⟨n, rfl⟩ := ois y (List.mem_of_getElem? hi)
      refine g_pair (SqT.of upd_same) ?_
      have s2 : Same HL (upd H1 p (.tup [.int (i : Nat), .int n])) := s1.trans (same_new hp)
      generalize upd H1 p (.tup [.int (i : Nat), .int n]) = H2 at s2 ⊢
      walk_at "lk"
      refine sI ⟨by decide, by decide, by decide⟩ ?_
      walk_at "lk"
      refine sI (.inr ⟨by split <;> decide, by split <;> decide⟩) ?_
      walk_at "lk"
      refine sI (by decide) ?_
      walk_at "lk"
      refine sI (.inl ⟨by decide, by decide⟩) ?_
      walk_at "lk"
      refine snw (Nat.le_of_ble_eq_true rfl) fun q hq => ?_
      walk_at "lk"
      refine ⟨q, rfl, ⟨_, _, _, upd_same⟩, fun H3 fr => ?_⟩
      walk_at "lk"
      refine iteF ?_
      walk_at "lk"
      refine ⟨⟨_, _, _, rfl⟩, fun b o e => fr.1 b o ?_ ?_⟩
      · exact ne_of_none (s2 b o e) hq
      · exact same_new hq _ _ (s2 b o e)
    · rintro σ H1 ⟨⟨u1, u2, u3, rfl⟩, s1⟩
      walk_at "lk"
      exact k _
end
end K01

namespace K01
open PySem PySem.Spec PyProof.Rows L2 Lk
theorem all_mk {P : PySem.Program} {w : World} {K : PySem.W.Frag} {h : Heap} {mg : Str → Option Value} {fa : Addr} {A : Ad} (X : K.In h) (G0 : h.Ns mainGlobals mg) (hfa : mg "law" = some (.ref fa)) (TT : ∀ base, Txt P w K mg base A)
    {f0 : Addr} {od0 an0 : Option Addr} {sl0 : Array (Option Value)} {oc0 kV0 dc0 pm0 cd0 ct0 : Value} (a0 : PySem.W.nsIn K mainGlobals "is_integer" = some (some (.ref f0))) (l0 : K.lookup f0 = some ⟨oc0, od0, .func (PySem.W.fnOf "is_integer" "is_integer" (defArgs s_is_integer) (defBody s_is_integer) (defScope s_is_integer) .none kV0 dc0 pm0 an0 cd0 ct0), sl0⟩) (c0 : PySem.W.codeIn K cd0 "is_integer" = true) (k0 : PySem.W.keepIn K (.ref f0) = true)
    {f1 : Addr} {od1 an1 : Option Addr} {sl1 : Array (Option Value)} {oc1 kV1 dc1 pm1 cd1 ct1 : Value} (a1 : PySem.W.nsIn K mainGlobals "is_within" = some (some (.ref f1))) (l1 : K.lookup f1 = some ⟨oc1, od1, .func (PySem.W.fnOf "is_within" "is_within" (defArgs s_is_within) (defBody s_is_within) (defScope s_is_within) .none kV1 dc1 pm1 an1 cd1 ct1), sl1⟩) (c1 : PySem.W.codeIn K cd1 "is_within" = true) (k1 : PySem.W.keepIn K (.ref f1) = true)
    {f2 : Addr} {od2 an2 : Option Addr} {sl2 : Array (Option Value)} {oc2 kV2 dc2 pm2 cd2 ct2 : Value} (a2 : PySem.W.nsIn K mainGlobals "is_width" = some (some (.ref f2))) (l2 : K.lookup f2 = some ⟨oc2, od2, .func (PySem.W.fnOf "is_width" "is_width" (defArgs s_is_width) (defBody s_is_width) (defScope s_is_width) .none kV2 dc2 pm2 an2 cd2 ct2), sl2⟩) (c2 : PySem.W.codeIn K cd2 "is_width" = true) (k2 : PySem.W.keepIn K (.ref f2) = true)
    {f3 : Addr} {od3 an3 : Option Addr} {sl3 : Array (Option Value)} {oc3 kV3 dc3 pm3 cd3 ct3 : Value} (a3 : PySem.W.nsIn K mainGlobals "is_sequence" = some (some (.ref f3))) (l3 : K.lookup f3 = some ⟨oc3, od3, .func (PySem.W.fnOf "is_sequence" "is_sequence" (defArgs s_is_sequence) (defBody s_is_sequence) (defScope s_is_sequence) .none kV3 dc3 pm3 an3 cd3 ct3), sl3⟩) (c3 : PySem.W.codeIn K cd3 "is_sequence" = true) (k3 : PySem.W.keepIn K (.ref f3) = true)
    {f4 : Addr} {od4 an4 : Option Addr} {sl4 : Array (Option Value)} {oc4 kV4 dc4 pm4 cd4 ct4 : Value} (a4 : PySem.W.nsIn K mainGlobals "are_integers" = some (some (.ref f4))) (l4 : K.lookup f4 = some ⟨oc4, od4, .func (PySem.W.fnOf "are_integers" "are_integers" (defArgs s_are_integers) (defBody s_are_integers) (defScope s_are_integers) .none kV4 dc4 pm4 an4 cd4 ct4), sl4⟩) (c4 : PySem.W.codeIn K cd4 "are_integers" = true) (k4 : PySem.W.keepIn K (.ref f4) = true)
    {f5 : Addr} {od5 an5 : Option Addr} {sl5 : Array (Option Value)} {oc5 kV5 dc5 pm5 cd5 ct5 : Value} (a5 : PySem.W.nsIn K mainGlobals "is_form" = some (some (.ref f5))) (l5 : K.lookup f5 = some ⟨oc5, od5, .func (PySem.W.fnOf "is_form" "is_form" (defArgs s_is_form) (defBody s_is_form) (defScope s_is_form) .none kV5 dc5 pm5 an5 cd5 ct5), sl5⟩) (c5 : PySem.W.codeIn K cd5 "is_form" = true) (k5 : PySem.W.keepIn K (.ref f5) = true)
    {f6 : Addr} {od6 an6 : Option Addr} {sl6 : Array (Option Value)} {oc6 kV6 dc6 pm6 cd6 ct6 : Value} (a6 : PySem.W.nsIn K mainGlobals "lowered" = some (some (.ref f6))) (l6 : K.lookup f6 = some ⟨oc6, od6, .func (PySem.W.fnOf "lowered" "lowered" (defArgs s_lowered) (defBody s_lowered) (defScope s_lowered) .none kV6 dc6 pm6 an6 cd6 ct6), sl6⟩) (c6 : PySem.W.codeIn K cd6 "lowered" = true) (k6 : PySem.W.keepIn K (.ref f6) = true)
    {f7 : Addr} {od7 an7 : Option Addr} {sl7 : Array (Option Value)} {oc7 kV7 dc7 pm7 cd7 ct7 : Value} (a7 : PySem.W.nsIn K mainGlobals "are_nexts" = some (some (.ref f7))) (l7 : K.lookup f7 = some ⟨oc7, od7, .func (PySem.W.fnOf "are_nexts" "are_nexts" (defArgs s_are_nexts) (defBody s_are_nexts) (defScope s_are_nexts) .none kV7 dc7 pm7 an7 cd7 ct7), sl7⟩) (c7 : PySem.W.codeIn K cd7 "are_nexts" = true) (k7 : PySem.W.keepIn K (.ref f7) = true)
    {f8 : Addr} {od8 an8 : Option Addr} {sl8 : Array (Option Value)} {oc8 kV8 dc8 pm8 cd8 ct8 : Value} (a8 : PySem.W.nsIn K mainGlobals "is_name" = some (some (.ref f8))) (l8 : K.lookup f8 = some ⟨oc8, od8, .func (PySem.W.fnOf "is_name" "is_name" (defArgs s_is_name) (defBody s_is_name) (defScope s_is_name) .none kV8 dc8 pm8 an8 cd8 ct8), sl8⟩) (c8 : PySem.W.codeIn K cd8 "is_name" = true) (k8 : PySem.W.keepIn K (.ref f8) = true)
    {f9 : Addr} {od9 an9 : Option Addr} {sl9 : Array (Option Value)} {oc9 kV9 dc9 pm9 cd9 ct9 : Value} (a9 : PySem.W.nsIn K mainGlobals "is_variable" = some (some (.ref f9))) (l9 : K.lookup f9 = some ⟨oc9, od9, .func (PySem.W.fnOf "is_variable" "is_variable" (defArgs s_is_variable) (defBody s_is_variable) (defScope s_is_variable) .none kV9 dc9 pm9 an9 cd9 ct9), sl9⟩) (c9 : PySem.W.codeIn K cd9 "is_variable" = true) (k9 : PySem.W.keepIn K (.ref f9) = true)
    {f10 : Addr} {od10 an10 : Option Addr} {sl10 : Array (Option Value)} {oc10 kV10 dc10 pm10 cd10 ct10 : Value} (a10 : PySem.W.nsIn K mainGlobals "lowered_row" = some (some (.ref f10))) (l10 : K.lookup f10 = some ⟨oc10, od10, .func (PySem.W.fnOf "lowered_row" "lowered_row" (defArgs s_lowered_row) (defBody s_lowered_row) (defScope s_lowered_row) .none kV10 dc10 pm10 an10 cd10 ct10), sl10⟩) (c10 : PySem.W.codeIn K cd10 "lowered_row" = true) (k10 : PySem.W.keepIn K (.ref f10) = true)
    {f11 : Addr} {od11 an11 : Option Addr} {sl11 : Array (Option Value)} {oc11 kV11 dc11 pm11 cd11 ct11 : Value} (a11 : PySem.W.nsIn K mainGlobals "is_row" = some (some (.ref f11))) (l11 : K.lookup f11 = some ⟨oc11, od11, .func (PySem.W.fnOf "is_row" "is_row" (defArgs s_is_row) (defBody s_is_row) (defScope s_is_row) .none kV11 dc11 pm11 an11 cd11 ct11), sl11⟩) (c11 : PySem.W.codeIn K cd11 "is_row" = true) (k11 : PySem.W.keepIn K (.ref f11) = true)
    {f12 : Addr} {od12 an12 : Option Addr} {sl12 : Array (Option Value)} {oc12 kV12 dc12 pm12 cd12 ct12 : Value} (a12 : PySem.W.nsIn K mainGlobals "_check_variables" = some (some (.ref f12))) (l12 : K.lookup f12 = some ⟨oc12, od12, .func (PySem.W.fnOf "_check_variables" "_check_variables" (defArgs s__check_variables) (defBody s__check_variables) (defScope s__check_variables) .none kV12 dc12 pm12 an12 cd12 ct12), sl12⟩) (c12 : PySem.W.codeIn K cd12 "_check_variables" = true) (k12 : PySem.W.keepIn K (.ref f12) = true)
    {f13 : Addr} {od13 an13 : Option Addr} {sl13 : Array (Option Value)} {oc13 kV13 dc13 pm13 cd13 ct13 : Value} (a13 : PySem.W.nsIn K mainGlobals "_check_rows" = some (some (.ref f13))) (l13 : K.lookup f13 = some ⟨oc13, od13, .func (PySem.W.fnOf "_check_rows" "_check_rows" (defArgs s__check_rows) (defBody s__check_rows) (defScope s__check_rows) .none kV13 dc13 pm13 an13 cd13 ct13), sl13⟩) (c13 : PySem.W.codeIn K cd13 "_check_rows" = true) (k13 : PySem.W.keepIn K (.ref f13) = true)
    {f14 : Addr} {od14 an14 : Option Addr} {sl14 : Array (Option Value)} {oc14 kV14 dc14 pm14 cd14 ct14 : Value} (a14 : PySem.W.nsIn K mainGlobals "check_row" = some (some (.ref f14))) (l14 : K.lookup f14 = some ⟨oc14, od14, .func (PySem.W.fnOf "check_row" "check_row" (defArgs s_check_row) (defBody s_check_row) (defScope s_check_row) .none kV14 dc14 pm14 an14 cd14 ct14), sl14⟩) (c14 : PySem.W.codeIn K cd14 "check_row" = true) (k14 : PySem.W.keepIn K (.ref f14) = true)
    {f15 : Addr} {od15 an15 : Option Addr} {sl15 : Array (Option Value)} {oc15 kV15 dc15 pm15 cd15 ct15 : Value} (a15 : PySem.W.nsIn K mainGlobals "_law_draw" = some (some (.ref f15))) (l15 : K.lookup f15 = some ⟨oc15, od15, .func (PySem.W.fnOf "_law_draw" "_law_draw" (defArgs s__law_draw) (defBody s__law_draw) (defScope s__law_draw) .none kV15 dc15 pm15 an15 cd15 ct15), sl15⟩) (c15 : PySem.W.codeIn K cd15 "_law_draw" = true) (k15 : PySem.W.keepIn K (.ref f15) = true)
    {f16 : Addr} {od16 an16 : Option Addr} {sl16 : Array (Option Value)} {oc16 kV16 dc16 pm16 cd16 ct16 : Value} (a16 : PySem.W.nsIn K mainGlobals "_law_one" = some (some (.ref f16))) (l16 : K.lookup f16 = some ⟨oc16, od16, .func (PySem.W.fnOf "_law_one" "_law_one" (defArgs s__law_one) (defBody s__law_one) (defScope s__law_one) .none kV16 dc16 pm16 an16 cd16 ct16), sl16⟩) (c16 : PySem.W.codeIn K cd16 "_law_one" = true) (k16 : PySem.W.keepIn K (.ref f16) = true)
    {f17 : Addr} {od17 an17 : Option Addr} {sl17 : Array (Option Value)} {oc17 kV17 dc17 pm17 cd17 ct17 : Value} (a17 : PySem.W.nsIn K mainGlobals "_law_number" = some (some (.ref f17))) (l17 : K.lookup f17 = some ⟨oc17, od17, .func (PySem.W.fnOf "_law_number" "_law_number" (defArgs s__law_number) (defBody s__law_number) (defScope s__law_number) .none kV17 dc17 pm17 an17 cd17 ct17), sl17⟩) (c17 : PySem.W.codeIn K cd17 "_law_number" = true) (k17 : PySem.W.keepIn K (.ref f17) = true)
    {f18 : Addr} {od18 an18 : Option Addr} {sl18 : Array (Option Value)} {oc18 kV18 dc18 pm18 cd18 ct18 : Value} (a18 : PySem.W.nsIn K mainGlobals "_law_form" = some (some (.ref f18))) (l18 : K.lookup f18 = some ⟨oc18, od18, .func (PySem.W.fnOf "_law_form" "_law_form" (defArgs s__law_form) (defBody s__law_form) (defScope s__law_form) .none kV18 dc18 pm18 an18 cd18 ct18), sl18⟩) (c18 : PySem.W.codeIn K cd18 "_law_form" = true) (k18 : PySem.W.keepIn K (.ref f18) = true)
    {f19 : Addr} {od19 an19 : Option Addr} {sl19 : Array (Option Value)} {oc19 kV19 dc19 pm19 cd19 ct19 : Value} (a19 : PySem.W.nsIn K mainGlobals "_law_row" = some (some (.ref f19))) (l19 : K.lookup f19 = some ⟨oc19, od19, .func (PySem.W.fnOf "_law_row" "_law_row" (defArgs s__law_row) (defBody s__law_row) (defScope s__law_row) .none kV19 dc19 pm19 an19 cd19 ct19), sl19⟩) (c19 : PySem.W.codeIn K cd19 "_law_row" = true) (k19 : PySem.W.keepIn K (.ref f19) = true)
    {f20 : Addr} {od20 an20 : Option Addr} {sl20 : Array (Option Value)} {oc20 kV20 dc20 pm20 cd20 ct20 : Value} (a20 : PySem.W.nsIn K mainGlobals "_law_rows" = some (some (.ref f20))) (l20 : K.lookup f20 = some ⟨oc20, od20, .func (PySem.W.fnOf "_law_rows" "_law_rows" (defArgs s__law_rows) (defBody s__law_rows) (defScope s__law_rows) .none kV20 dc20 pm20 an20 cd20 ct20), sl20⟩) (c20 : PySem.W.codeIn K cd20 "_law_rows" = true) (k20 : PySem.W.keepIn K (.ref f20) = true)
    {f21 : Addr} {od21 an21 : Option Addr} {sl21 : Array (Option Value)} {oc21 kV21 dc21 pm21 cd21 ct21 : Value} (a21 : PySem.W.nsIn K mainGlobals "_law_grown" = some (some (.ref f21))) (l21 : K.lookup f21 = some ⟨oc21, od21, .func (PySem.W.fnOf "_law_grown" "_law_grown" (defArgs s__law_grown) (defBody s__law_grown) (defScope s__law_grown) .none kV21 dc21 pm21 an21 cd21 ct21), sl21⟩) (c21 : PySem.W.codeIn K cd21 "_law_grown" = true) (k21 : PySem.W.keepIn K (.ref f21) = true)
    {f22 : Addr} {od22 an22 : Option Addr} {sl22 : Array (Option Value)} {oc22 kV22 dc22 pm22 cd22 ct22 : Value} (a22 : PySem.W.nsIn K mainGlobals "_law_grown_row" = some (some (.ref f22))) (l22 : K.lookup f22 = some ⟨oc22, od22, .func (PySem.W.fnOf "_law_grown_row" "_law_grown_row" (defArgs s__law_grown_row) (defBody s__law_grown_row) (defScope s__law_grown_row) .none kV22 dc22 pm22 an22 cd22 ct22), sl22⟩) (c22 : PySem.W.codeIn K cd22 "_law_grown_row" = true) (k22 : PySem.W.keepIn K (.ref f22) = true)
    {f23 : Addr} {od23 an23 : Option Addr} {sl23 : Array (Option Value)} {oc23 kV23 dc23 pm23 cd23 ct23 : Value} (a23 : PySem.W.nsIn K mainGlobals "_law_bent" = some (some (.ref f23))) (l23 : K.lookup f23 = some ⟨oc23, od23, .func (PySem.W.fnOf "_law_bent" "_law_bent" (defArgs s__law_bent) (defBody s__law_bent) (defScope s__law_bent) .none kV23 dc23 pm23 an23 cd23 ct23), sl23⟩) (c23 : PySem.W.codeIn K cd23 "_law_bent" = true) (k23 : PySem.W.keepIn K (.ref f23) = true)
    {f24 : Addr} {od24 an24 : Option Addr} {sl24 : Array (Option Value)} {oc24 kV24 dc24 pm24 cd24 ct24 : Value} (a24 : PySem.W.nsIn K mainGlobals "_law_right" = some (some (.ref f24))) (l24 : K.lookup f24 = some ⟨oc24, od24, .func (PySem.W.fnOf "_law_right" "_law_right" (defArgs s__law_right) (defBody s__law_right) (defScope s__law_right) .none kV24 dc24 pm24 an24 cd24 ct24), sl24⟩) (c24 : PySem.W.codeIn K cd24 "_law_right" = true) (k24 : PySem.W.keepIn K (.ref f24) = true)
    {f25 : Addr} {od25 an25 : Option Addr} {sl25 : Array (Option Value)} {oc25 kV25 dc25 pm25 cd25 ct25 : Value} (a25 : PySem.W.nsIn K mainGlobals "law" = some (some (.ref f25))) (l25 : K.lookup f25 = some ⟨oc25, od25, .func (PySem.W.fnOf "law" "law" (defArgs s_law) (defBody s_law) (defScope s_law) .none kV25 dc25 pm25 an25 cd25 ct25), sl25⟩) (c25 : PySem.W.codeIn K cd25 "law" = true) (k25 : PySem.W.keepIn K (.ref f25) = true)
    {fm0 : Addr} {odm0 anm0 : Option Addr} {slm0 : Array (Option Value)} {ocm0 kVm0 dcm0 pmm0 cdm0 ctm0 : Value} (am0 : PySem.W.findIn K (.ref A.Program) "__init__" = some (some (.ref fm0))) (tm0 : PySem.W.isFn K (.ref fm0) = true) (lm0 : K.lookup fm0 = some ⟨ocm0, odm0, .func (PySem.W.fnOf "__init__" "Program.__init__" (defArgs s_Program___init__) (defBody s_Program___init__) (defScope s_Program___init__) .none kVm0 dcm0 pmm0 anm0 cdm0 ctm0), slm0⟩) (cm0 : PySem.W.codeIn K cdm0 "Program.__init__" = true) (km0 : PySem.W.keepIn K (.ref fm0) = true)
    {fm1 : Addr} {odm1 anm1 : Option Addr} {slm1 : Array (Option Value)} {ocm1 kVm1 dcm1 pmm1 cdm1 ctm1 : Value} (am1 : PySem.W.findIn K (.ref A.Program) "__eq__" = some (some (.ref fm1))) (tm1 : PySem.W.isFn K (.ref fm1) = true) (lm1 : K.lookup fm1 = some ⟨ocm1, odm1, .func (PySem.W.fnOf "__eq__" "Program.__eq__" (defArgs s_Program___eq__) (defBody s_Program___eq__) (defScope s_Program___eq__) .none kVm1 dcm1 pmm1 anm1 cdm1 ctm1), slm1⟩) (cm1 : PySem.W.codeIn K cdm1 "Program.__eq__" = true) (km1 : PySem.W.keepIn K (.ref fm1) = true)
    {fm2 : Addr} {odm2 anm2 : Option Addr} {slm2 : Array (Option Value)} {ocm2 kVm2 dcm2 pmm2 cdm2 ctm2 : Value} (am2 : PySem.W.findIn K (.ref A.Program) "__len__" = some (some (.ref fm2))) (tm2 : PySem.W.isFn K (.ref fm2) = true) (lm2 : K.lookup fm2 = some ⟨ocm2, odm2, .func (PySem.W.fnOf "__len__" "Program.__len__" (defArgs s_Program___len__) (defBody s_Program___len__) (defScope s_Program___len__) .none kVm2 dcm2 pmm2 anm2 cdm2 ctm2), slm2⟩) (cm2 : PySem.W.codeIn K cdm2 "Program.__len__" = true) (km2 : PySem.W.keepIn K (.ref fm2) = true)
    {fm3 : Addr} {odm3 anm3 : Option Addr} {slm3 : Array (Option Value)} {ocm3 kVm3 dcm3 pmm3 cdm3 ctm3 : Value} (am3 : PySem.W.findIn K (.ref A.Program) "__getitem__" = some (some (.ref fm3))) (tm3 : PySem.W.isFn K (.ref fm3) = true) (lm3 : K.lookup fm3 = some ⟨ocm3, odm3, .func (PySem.W.fnOf "__getitem__" "Program.__getitem__" (defArgs s_Program___getitem__) (defBody s_Program___getitem__) (defScope s_Program___getitem__) .none kVm3 dcm3 pmm3 anm3 cdm3 ctm3), slm3⟩) (cm3 : PySem.W.codeIn K cdm3 "Program.__getitem__" = true) (km3 : PySem.W.keepIn K (.ref fm3) = true)
    (pm : PySem.W.makesIn K A.Program = true) (pk : PySem.W.keepIn K (.ref A.Program) = true) (pf : PySem.W.fnIn K fm3 = true)
    : ∃ fd : FuncData, (∀ (s : Shared) (v : Value), BindsTo s fd ⟨[v], []⟩ [("_law_script", v)]) ∧ ∀ base : Heap, K.In base → base.Ns mainGlobals mg → FnOk P w K mg base CX0 9 fa fd ["_law_script"] (spLaw K) := by
  have e := hfa.symm.trans (PySem.W.mg_of X G0 a25)
  cases e
  refine ⟨PySem.W.fnOf "law" "law" (defArgs s_law) (defBody s_law) (defScope s_law) .none kV25 dc25 pm25 an25 cd25 ct25, fun s v => .of_eq rfl, fun base _ _ => ?_⟩
  have T := TT base
  have F0 := fun_mk (st := s_is_integer) l0 c0 k0
  have b0 := F0.binds (ps := ["value"]) fun _ _ _ _ _ _ us hl => match us, hl with | [_], _ => rfl
  have c_is_integer : Cal P w K mg base 1 "is_integer" ["value"] (spIsInt K) := ⟨_, _, PySem.W.mg_of X G0 a0, k0, b0, ok_is_integer F0 T⟩
  have F1 := fun_mk (st := s_is_within) l1 c1 k1
  have b1 := F1.binds (ps := ["value", "least", "most"]) fun _ _ _ _ _ _ us hl => match us, hl with | [_, _, _], _ => rfl
  have c_is_within : Cal P w K mg base 2 "is_within" ["value", "least", "most"] (spWithin K) := ⟨_, _, PySem.W.mg_of X G0 a1, k1, b1, ok_is_within F1 T c_is_integer⟩
  have F2 := fun_mk (st := s_is_width) l2 c2 k2
  have b2 := F2.binds (ps := ["value"]) fun _ _ _ _ _ _ us hl => match us, hl with | [_], _ => rfl
  have c_is_width : Cal P w K mg base 3 "is_width" ["value"] (spWidth K) := ⟨_, _, PySem.W.mg_of X G0 a2, k2, b2, ok_is_width F2 T c_is_within⟩
  have F3 := fun_mk (st := s_is_sequence) l3 c3 k3
  have b3 := F3.binds (ps := ["value", "least", "most"]) fun _ _ _ _ _ _ us hl => match us, hl with | [_, _, _], _ => rfl
  have c_is_sequence : Cal P w K mg base 1 "is_sequence" ["value", "least", "most"] (spSeq K) := ⟨_, _, PySem.W.mg_of X G0 a3, k3, b3, ok_is_sequence F3 T⟩
  have F4 := fun_mk (st := s_are_integers) l4 c4 k4
  have b4 := F4.binds (ps := ["items"]) fun _ _ _ _ _ _ us hl => match us, hl with | [_], _ => rfl
  have c_are_integers : Cal P w K mg base 2 "are_integers" ["items"] (spAreInts K) := ⟨_, _, PySem.W.mg_of X G0 a4, k4, b4, ok_are_integers F4 T c_is_integer⟩
  have F5 := fun_mk (st := s_is_form) l5 c5 k5
  have b5 := F5.binds (ps := ["value", "size"]) fun _ _ _ _ _ _ us hl => match us, hl with | [_, _], _ => rfl
  have c_is_form : Cal P w K mg base 3 "is_form" ["value", "size"] (spForm K) := ⟨_, _, PySem.W.mg_of X G0 a5, k5, b5, ok_is_form F5 T c_are_integers⟩
  have F6 := fun_mk (st := s_lowered) l6 c6 k6
  have b6 := F6.binds (ps := ["numbers", "width"]) fun _ _ _ _ _ _ us hl => match us, hl with | [_, _], _ => rfl
  have c_lowered : Cal P w K mg base 1 "lowered" ["numbers", "width"] (spLow K) := ⟨_, _, PySem.W.mg_of X G0 a6, k6, b6, ok_lowered F6 T⟩
  have F7 := fun_mk (st := s_are_nexts) l7 c7 k7
  have b7 := F7.binds (ps := ["value", "least", "most", "many"]) fun _ _ _ _ _ _ us hl => match us, hl with | [_, _, _, _], _ => rfl
  have c_are_nexts : Cal P w K mg base 3 "are_nexts" ["value", "least", "most", "many"] (spNexts K) := ⟨_, _, PySem.W.mg_of X G0 a7, k7, b7, ok_are_nexts F7 T c_is_within⟩
  have F8 := fun_mk (st := s_is_name) l8 c8 k8
  have b8 := F8.binds (ps := ["value"]) fun _ _ _ _ _ _ us hl => match us, hl with | [_], _ => rfl
  have c_is_name : Cal P w K mg base 1 "is_name" ["value"] (spIsName K) := ⟨_, _, PySem.W.mg_of X G0 a8, k8, b8, ok_is_name F8 T⟩
  have F9 := fun_mk (st := s_is_variable) l9 c9 k9
  have b9 := F9.binds (ps := ["value", "variables"]) fun _ _ _ _ _ _ us hl => match us, hl with | [_, _], _ => rfl
  have c_is_variable : Cal P w K mg base 1 "is_variable" ["value", "variables"] (spIsVar K) := ⟨_, _, PySem.W.mg_of X G0 a9, k9, b9, ok_is_variable F9 T⟩
  have F10 := fun_mk (st := s_lowered_row) l10 c10 k10
  have b10 := F10.binds (ps := ["item", "width"]) fun _ _ _ _ _ _ us hl => match us, hl with | [_, _], _ => rfl
  have c_lowered_row : Cal P w K mg base 2 "lowered_row" ["item", "width"] (spLowRow K) := ⟨_, _, PySem.W.mg_of X G0 a10, k10, b10, ok_lowered_row F10 T c_lowered⟩
  have F11 := fun_mk (st := s_is_row) l11 c11 k11
  have b11 := F11.binds (ps := ["item", "variables", "many"]) fun _ _ _ _ _ _ us hl => match us, hl with | [_, _, _], _ => rfl
  have c_is_row : Cal P w K mg base 4 "is_row" ["item", "variables", "many"] (spIsRow K) := ⟨_, _, PySem.W.mg_of X G0 a11, k11, b11, ok_is_row F11 T c_is_variable c_is_form c_is_within c_are_nexts⟩
  have F12 := fun_mk (st := s__check_variables) l12 c12 k12
  have b12 := F12.binds (ps := ["variables"]) fun _ _ _ _ _ _ us hl => match us, hl with | [_], _ => rfl
  have c__check_variables : Cal P w K mg base 2 "_check_variables" ["variables"] (spCheckVars K) := ⟨_, _, PySem.W.mg_of X G0 a12, k12, b12, ok_check_variables F12 T c_is_sequence c_is_name⟩
  have F13 := fun_mk (st := s__check_rows) l13 c13 k13
  have b13 := F13.binds (ps := ["variables", "rows"]) fun _ _ _ _ _ _ us hl => match us, hl with | [_, _], _ => rfl
  have c__check_rows : Cal P w K mg base 5 "_check_rows" ["variables", "rows"] (spCheckRows K) := ⟨_, _, PySem.W.mg_of X G0 a13, k13, b13, ok_check_rows F13 T c_is_sequence c_is_row⟩
  have F14 := fun_mk (st := s_check_row) l14 c14 k14
  have b14 := F14.binds (ps := ["program", "row"]) fun _ _ _ _ _ _ us hl => match us, hl with | [_, _], _ => rfl
  have c_check_row : Cal P w K mg base 3 "check_row" ["program", "row"] (spCheckRow K A) := ⟨_, _, PySem.W.mg_of X G0 a14, k14, b14, ok_check_row F14 T c_is_within⟩
  have Fm0 := fun_mk (st := s_Program___init__) lm0 cm0 km0
  have bm0 := Fm0.binds (ps := ["self", "width", "variables", "rows"]) fun _ _ _ _ _ _ us hl => match us, hl with | [_, _, _, _], _ => rfl
  have om0 : FnOk P w K mg base CX0 6 fm0 _ ["self", "width", "variables", "rows"] (spInit K A) := ok_init Fm0 T c_is_width c__check_variables c__check_rows c_lowered_row
  have Fm1 := fun_mk (st := s_Program___eq__) lm1 cm1 km1
  have bm1 := Fm1.binds (ps := ["self", "other"]) fun _ _ _ _ _ _ us hl => match us, hl with | [_, _], _ => rfl
  have om1 : FnOk P w K mg base CX0 1 fm1 _ ["self", "other"] (spEqP K A) := ok_eq Fm1 T
  have Fm2 := fun_mk (st := s_Program___len__) lm2 cm2 km2
  have bm2 := Fm2.binds (ps := ["self"]) fun _ _ _ _ _ _ us hl => match us, hl with | [_], _ => rfl
  have om2 : FnOk P w K mg base CX0 1 fm2 _ ["self"] (spLen K A) := ok_len Fm2 T
  have Fm3 := fun_mk (st := s_Program___getitem__) lm3 cm3 km3
  have bm3 := Fm3.binds (ps := ["self", "at"]) fun _ _ _ _ _ _ us hl => match us, hl with | [_, _], _ => rfl
  have om3 : FnOk P w K mg base CX0 4 fm3 _ ["self", "at"] (spItem K A) := ok_item Fm3 T c_check_row
  have G : Prg P w K mg base A := ⟨⟨_, _, ⟨pm, am0, tm0, pk⟩, om0, bm0, kb_rev fun us ws h1 h2 => match us, ws, h1, h2 with | [_], [_, _, _], _, _ => rfl⟩, ⟨_, _, am1, tm1, om1, bm1⟩, ⟨_, _, am2, tm2, om2, bm2⟩, ⟨_, _, am3, pf, tm3, om3, bm3⟩⟩
  have F15 := fun_mk (st := s__law_draw) l15 c15 k15
  have b15 := F15.binds (ps := ["_law_well", "_law_many"]) fun _ _ _ _ _ _ us hl => match us, hl with | [_, _], _ => rfl
  have c__law_draw : Cal P w K mg base 1 "_law_draw" ["_law_well", "_law_many"] spDraw := ⟨_, _, PySem.W.mg_of X G0 a15, k15, b15, ok_draw F15 T⟩
  have F16 := fun_mk (st := s__law_one) l16 c16 k16
  have b16 := F16.binds (ps := ["_law_well", "_law_some"]) fun _ _ _ _ _ _ us hl => match us, hl with | [_, _], _ => rfl
  have c__law_one : Cal P w K mg base 2 "_law_one" ["_law_well", "_law_some"] spOne := ⟨_, _, PySem.W.mg_of X G0 a16, k16, b16, ok_one F16 T c__law_draw⟩
  have F17 := fun_mk (st := s__law_number) l17 c17 k17
  have b17 := F17.binds (ps := ["_law_well", "_law_width_so"]) fun _ _ _ _ _ _ us hl => match us, hl with | [_, _], _ => rfl
  have c__law_number : Cal P w K mg base 2 "_law_number" ["_law_well", "_law_width_so"] spNumber := ⟨_, _, PySem.W.mg_of X G0 a17, k17, b17, ok_number F17 T c__law_draw⟩
  have F18 := fun_mk (st := s__law_form) l18 c18 k18
  have b18 := F18.binds (ps := ["_law_well", "_law_width_so", "_law_many"]) fun _ _ _ _ _ _ us hl => match us, hl with | [_, _, _], _ => rfl
  have c__law_form : Cal P w K mg base 3 "_law_form" ["_law_well", "_law_width_so", "_law_many"] spForm0 := ⟨_, _, PySem.W.mg_of X G0 a18, k18, b18, ok_form F18 T c__law_draw c__law_number⟩
  have F19 := fun_mk (st := s__law_row) l19 c19 k19
  have b19 := F19.binds (ps := ["_law_well", "_law_width_so", "_law_names", "_law_total", "_law_k"]) fun _ _ _ _ _ _ us hl => match us, hl with | [_, _, _, _, _], _ => rfl
  have c__law_row : Cal P w K mg base 4 "_law_row" ["_law_well", "_law_width_so", "_law_names", "_law_total", "_law_k"] spRow := ⟨_, _, PySem.W.mg_of X G0 a19, k19, b19, ok_row F19 T c__law_draw c__law_one c__law_form⟩
  have F20 := fun_mk (st := s__law_rows) l20 c20 k20
  have b20 := F20.binds (ps := ["_law_well", "_law_width_so", "_law_names", "_law_total"]) fun _ _ _ _ _ _ us hl => match us, hl with | [_, _, _, _], _ => rfl
  have c__law_rows : Cal P w K mg base 5 "_law_rows" ["_law_well", "_law_width_so", "_law_names", "_law_total"] spRows := ⟨_, _, PySem.W.mg_of X G0 a20, k20, b20, ok_rows F20 T c__law_row⟩
  have F21 := fun_mk (st := s__law_grown) l21 c21 k21
  have b21 := F21.binds (ps := ["_law_well", "_law_form_here", "_law_modulus"]) fun _ _ _ _ _ _ us hl => match us, hl with | [_, _, _], _ => rfl
  have c__law_grown : Cal P w K mg base 3 "_law_grown" ["_law_well", "_law_form_here", "_law_modulus"] spGrown := ⟨_, _, PySem.W.mg_of X G0 a21, k21, b21, ok_grown F21 T c__law_one⟩
  have F22 := fun_mk (st := s__law_grown_row) l22 c22 k22
  have b22 := F22.binds (ps := ["_law_well", "_law_row_here", "_law_modulus"]) fun _ _ _ _ _ _ us hl => match us, hl with | [_, _, _], _ => rfl
  have c__law_grown_row : Cal P w K mg base 4 "_law_grown_row" ["_law_well", "_law_row_here", "_law_modulus"] spGrownRow := ⟨_, _, PySem.W.mg_of X G0 a22, k22, b22, ok_grown_row F22 T c__law_grown⟩
  have F23 := fun_mk (st := s__law_bent) l23 c23 k23
  have b23 := F23.binds (ps := ["_law_well", "_law_row_here", "_law_names", "_law_total"]) fun _ _ _ _ _ _ us hl => match us, hl with | [_, _, _, _], _ => rfl
  have c__law_bent : Cal P w K mg base 3 "_law_bent" ["_law_well", "_law_row_here", "_law_names", "_law_total"] spBent := ⟨_, _, PySem.W.mg_of X G0 a23, k23, b23, ok_bent F23 T c__law_one⟩
  have F24 := fun_mk (st := s__law_right) l24 c24 k24
  have b24 := F24.binds (ps := ["_law_well"]) fun _ _ _ _ _ _ us hl => match us, hl with | [_], _ => rfl
  have c__law_right : Cal P w K mg base 8 "_law_right" ["_law_well"] spRight := ⟨_, _, PySem.W.mg_of X G0 a24, k24, b24, ok_right F24 T c__law_draw c__law_one c__law_rows c__law_bent c__law_grown_row G⟩
  exact ok_law (fun_mk (st := s_law) l25 c25 k25) T c__law_right
theorem walk {l : PySem.W.OpenLaw} {q : PySem.Program} {loose : List Str} {XP : (Str → Option Value) → Heap → Prop} {YP : World → Heap → Prop} {d : DefRec} {K : Params → PySem.W.Frag} (hn : l.most = some 63) (hdf : d.params.defaults = [])
    (hY : ∀ (w : World) (h : Heap), YP w h → (K w.params).In h)
    (F : ∀ (w : World) (mg : Str → Option Value) (fa : Addr) (h : Heap), (K w.params).In h → h.Ns mainGlobals mg → mg d.name = some (.ref fa) →
      ∃ fd : FuncData, (∀ (s : Shared) (u : Value), BindsTo s fd ⟨[u], []⟩ [("_law_script", u)]) ∧ ∀ base : Heap, (K w.params).In base → base.Ns mainGlobals mg → FnOk l.prog w (K w.params) mg base CX0 9 fa fd ["_law_script"] (spLaw (K w.params))) :
    PySem.W.WalkO q loose XP YP l.row.toRowW d [] (fun f vs => PySem.call f vs) :=
  L2.walk_of (n := 63) (k := 9) (x := "_law_script") (CX := fun _ => CX0) (sp := fun w => spLaw (K w.params)) hn (by decide) hdf ⟨rfl, by decide, by decide⟩ hY F (fun _ _ a ns hl _ hS => ⟨a, ns, rfl, hS, hl, fun _ => rfl⟩) fun _ _ _ _ _ z => z
theorem txt_mk {P : PySem.Program} {w : World} {K : PySem.W.Frag} {mg : Str → Option Value} {h : Heap} {cNoProgram cNoRow cProgram : Addr} (X : K.In h) (G : h.Ns mainGlobals mg)
    (z_int : PySem.W.nsIn K mainGlobals "int" = some none) (z_bool : PySem.W.nsIn K mainGlobals "bool" = some none) (z_str : PySem.W.nsIn K mainGlobals "str" = some none) (z_list : PySem.W.nsIn K mainGlobals "list" = some none) (z_tuple : PySem.W.nsIn K mainGlobals "tuple" = some none) (z_len : PySem.W.nsIn K mainGlobals "len" = some none) (z_isinstance : PySem.W.nsIn K mainGlobals "isinstance" = some none) (z_range : PySem.W.nsIn K mainGlobals "range" = some none) (z_enumerate : PySem.W.nsIn K mainGlobals "enumerate" = some none) (z_all : PySem.W.nsIn K mainGlobals "all" = some none) (z_TypeError : PySem.W.nsIn K mainGlobals "TypeError" = some none)
    (g_NoProgram : PySem.W.nsIn K mainGlobals "NoProgram" = some (some (.ref cNoProgram))) (g_NoRow : PySem.W.nsIn K mainGlobals "NoRow" = some (some (.ref cNoRow))) (g_Program : PySem.W.nsIn K mainGlobals "Program" = some (some (.ref cProgram)))
    (pg : PySem.W.plainGet K cProgram Str.empty = true) (hd : PySem.W.hasDictIn K cProgram = true) (po : PySem.W.plainOver K cProgram = true) (sa : PySem.W.findIn K (.ref cProgram) "__setattr__" = some (some (.builtin "object.__setattr__")))
    (i_cls : PySem.W.findIn K (.ref cProgram) "__class__" = some (some (.builtin "object.__class__")))
    (i_get : PySem.W.specialIn K (.builtin "object.__class__") "__get__" = some (some (.builtin "getset_descriptor.__get__")))
    (i_tk : PySem.W.takesIn K (.builtin "object.__class__") = some true)
    (i_mro : PySem.W.mroIn K cProgram (.type "object") = some true)
    (i_self : PySem.W.kitOne K (.ref cProgram) (.ref cProgram) = some true)
    (i_tup : PySem.W.kitOne K (.type "tuple") (.ref cProgram) = some false)
    (o_nf : PySem.W.notFirst K cProgram (.type "tuple") = true)
    (o_ne : PySem.W.findIn K (.ref cProgram) "__ne__" = some (some (.builtin "object.__ne__")))
    (n_width : PySem.W.findIn K (.ref cProgram) "width" = some none)
    (n_variables : PySem.W.findIn K (.ref cProgram) "variables" = some none)
    (n_rows : PySem.W.findIn K (.ref cProgram) "rows" = some none)
    {tWIDEST : Nat} (g_WIDEST : PySem.W.nsIn K mainGlobals "WIDEST" = some (some (.int 64 tWIDEST)))
    {tMOST_VARIABLES : Nat} (g_MOST_VARIABLES : PySem.W.nsIn K mainGlobals "MOST_VARIABLES" = some (some (.int 6 tMOST_VARIABLES)))
    {tMOST_ROWS : Nat} (g_MOST_ROWS : PySem.W.nsIn K mainGlobals "MOST_ROWS" = some (some (.int 25 tMOST_ROWS)))
    {tMOST_NEXTS : Nat} (g_MOST_NEXTS : PySem.W.nsIn K mainGlobals "MOST_NEXTS" = some (some (.int 6 tMOST_NEXTS)))
    {tLONGEST_NAME : Nat} (g_LONGEST_NAME : PySem.W.nsIn K mainGlobals "LONGEST_NAME" = some (some (.int 8 tLONGEST_NAME)))
    (base : Heap) : Txt P w K mg base ⟨cNoProgram, cNoRow, cProgram⟩ :=
  ⟨PySem.W.mg_none_of X G z_int, PySem.W.mg_none_of X G z_bool, PySem.W.mg_none_of X G z_str, PySem.W.mg_none_of X G z_list, PySem.W.mg_none_of X G z_tuple, PySem.W.mg_none_of X G z_len, PySem.W.mg_none_of X G z_isinstance, PySem.W.mg_none_of X G z_range, PySem.W.mg_none_of X G z_enumerate, PySem.W.mg_none_of X G z_all, PySem.W.mg_none_of X G z_TypeError, PySem.W.mg_of X G g_NoProgram, PySem.W.mg_of X G g_NoRow, PySem.W.mg_of X G g_Program, ⟨pg, hd, po, sa⟩, i_cls, i_get, i_tk, i_mro, i_self, i_tup, o_nf, o_ne, n_width, n_variables, n_rows, ⟨_, PySem.W.mg_of X G g_WIDEST⟩, ⟨_, PySem.W.mg_of X G g_MOST_VARIABLES⟩, ⟨_, PySem.W.mg_of X G g_MOST_ROWS⟩, ⟨_, PySem.W.mg_of X G g_MOST_NEXTS⟩, ⟨_, PySem.W.mg_of X G g_LONGEST_NAME⟩⟩
end K01
open PySem PySem.W PyProof.Rows in
set_option maxRecDepth 100000 in
set_option maxHeartbeats 0 in
theorem PySem.Challenge.cw_leastkeep_k01_programs_made_holds : PySem.Challenge.rw_leastkeep_k01_programs_made.Holds := by
  w_on; o_law; k_head; (case hw => w_witness2)
  k_fill
  refine K01.walk (l := PySem.Challenge.rw_leastkeep_k01_programs_made) rfl rfl (fun w h Y => PySem.W.kIn_of Y) ?F
  case F =>
    intro w mg fa h KX G hmg
    refine' K01.all_mk KX G hmg (K01.txt_mk KX G ?z_int ?z_bool ?z_str ?z_list ?z_tuple ?z_len ?z_isinstance ?z_range ?z_enumerate ?z_all ?z_TypeError ?g_NoProgram ?g_NoRow ?g_Program ?pg ?hd ?po ?sa ?i_cls ?i_get ?i_tk ?i_mro ?i_self ?i_tup ?o_nf ?o_ne ?n_width ?n_variables ?n_rows ?g_WIDEST ?g_MOST_VARIABLES ?g_MOST_ROWS ?g_MOST_NEXTS ?g_LONGEST_NAME) ?a0 ?l0 ?c0 ?k0 ?a1 ?l1 ?c1 ?k1 ?a2 ?l2 ?c2 ?k2 ?a3 ?l3 ?c3 ?k3 ?a4 ?l4 ?c4 ?k4 ?a5 ?l5 ?c5 ?k5 ?a6 ?l6 ?c6 ?k6 ?a7 ?l7 ?c7 ?k7 ?a8 ?l8 ?c8 ?k8 ?a9 ?l9 ?c9 ?k9 ?a10 ?l10 ?c10 ?k10 ?a11 ?l11 ?c11 ?k11 ?a12 ?l12 ?c12 ?k12 ?a13 ?l13 ?c13 ?k13 ?a14 ?l14 ?c14 ?k14 ?a15 ?l15 ?c15 ?k15 ?a16 ?l16 ?c16 ?k16 ?a17 ?l17 ?c17 ?k17 ?a18 ?l18 ?c18 ?k18 ?a19 ?l19 ?c19 ?k19 ?a20 ?l20 ?c20 ?k20 ?a21 ?l21 ?c21 ?k21 ?a22 ?l22 ?c22 ?k22 ?a23 ?l23 ?c23 ?k23 ?a24 ?l24 ?c24 ?k24 ?a25 ?l25 ?c25 ?k25 ?am0 ?tm0 ?lm0 ?cm0 ?km0 ?am1 ?tm1 ?lm1 ?cm1 ?km1 ?am2 ?tm2 ?lm2 ?cm2 ?km2 ?am3 ?tm3 ?lm3 ?cm3 ?km3 ?pm ?pk ?pf
    (case g_NoProgram => k_is); (case g_NoRow => k_is); (case g_Program => k_is); (case g_WIDEST => k_is); (case g_MOST_VARIABLES => k_is); (case g_MOST_ROWS => k_is); (case g_MOST_NEXTS => k_is); (case g_LONGEST_NAME => k_is)
    (case z_int => k_is); (case z_bool => k_is); (case z_str => k_is); (case z_list => k_is); (case z_tuple => k_is); (case z_len => k_is); (case z_isinstance => k_is); (case z_range => k_is); (case z_enumerate => k_is); (case z_all => k_is); (case z_TypeError => k_is); (case pg => k_is); (case hd => k_is); (case po => k_is); (case sa => k_is); (case i_cls => k_is); (case i_get => k_is); (case i_tk => k_is); (case i_mro => k_is); (case i_self => kit_is); (case i_tup => kit_is); (case o_nf => k_is); (case o_ne => k_is); (case n_width => k_is); (case n_variables => k_is); (case n_rows => k_is)
    (case a0 => k_is); (case a1 => k_is); (case a2 => k_is); (case a3 => k_is); (case a4 => k_is); (case a5 => k_is); (case a6 => k_is); (case a7 => k_is); (case a8 => k_is); (case a9 => k_is); (case a10 => k_is); (case a11 => k_is); (case a12 => k_is); (case a13 => k_is); (case a14 => k_is); (case a15 => k_is); (case a16 => k_is); (case a17 => k_is); (case a18 => k_is); (case a19 => k_is); (case a20 => k_is); (case a21 => k_is); (case a22 => k_is); (case a23 => k_is); (case a24 => k_is); (case a25 => k_is); (case am0 => k_is); (case am1 => k_is); (case am2 => k_is); (case am3 => k_is)
    (case l0 => k_is); (case l1 => k_is); (case l2 => k_is); (case l3 => k_is); (case l4 => k_is); (case l5 => k_is); (case l6 => k_is); (case l7 => k_is); (case l8 => k_is); (case l9 => k_is); (case l10 => k_is); (case l11 => k_is); (case l12 => k_is); (case l13 => k_is); (case l14 => k_is); (case l15 => k_is); (case l16 => k_is); (case l17 => k_is); (case l18 => k_is); (case l19 => k_is); (case l20 => k_is); (case l21 => k_is); (case l22 => k_is); (case l23 => k_is); (case l24 => k_is); (case l25 => k_is); (case lm0 => k_is); (case lm1 => k_is); (case lm2 => k_is); (case lm3 => k_is)
    (case c0 => k_is); (case k0 => k_is); (case c1 => k_is); (case k1 => k_is); (case c2 => k_is); (case k2 => k_is); (case c3 => k_is); (case k3 => k_is); (case c4 => k_is); (case k4 => k_is); (case c5 => k_is); (case k5 => k_is); (case c6 => k_is); (case k6 => k_is); (case c7 => k_is); (case k7 => k_is); (case c8 => k_is); (case k8 => k_is); (case c9 => k_is); (case k9 => k_is); (case c10 => k_is); (case k10 => k_is); (case c11 => k_is); (case k11 => k_is); (case c12 => k_is); (case k12 => k_is); (case c13 => k_is); (case k13 => k_is); (case c14 => k_is); (case k14 => k_is); (case c15 => k_is); (case k15 => k_is); (case c16 => k_is); (case k16 => k_is); (case c17 => k_is); (case k17 => k_is); (case c18 => k_is); (case k18 => k_is); (case c19 => k_is); (case k19 => k_is); (case c20 => k_is); (case k20 => k_is); (case c21 => k_is); (case k21 => k_is); (case c22 => k_is); (case k22 => k_is); (case c23 => k_is); (case k23 => k_is); (case c24 => k_is); (case k24 => k_is); (case c25 => k_is); (case k25 => k_is); (case tm0 => k_is); (case cm0 => k_is); (case km0 => k_is); (case tm1 => k_is); (case cm1 => k_is); (case km1 => k_is); (case tm2 => k_is); (case cm2 => k_is); (case km2 => k_is); (case tm3 => k_is); (case cm3 => k_is); (case km3 => k_is); (case pm => k_is); (case pk => k_is); (case pf => k_is)
