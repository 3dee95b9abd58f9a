import PyProof.Rows.All
import Wide.All
import OpenK.AllK
import Wide.FinOn
import HandS.Base
import HandS.Call
import HandS.List
import HandS.Comp
import HandS.Iter
import HandS.Ends
import HandS.Words
import HandS.WordsList
import HandS.Exc
import HandS.ExcInit
import HandS.ExcValue
import HandS.ExcField
import HandS.IsInst
import HandS.Defaults
import HandS.MakeKwOnly
import KE.KExcIs
import HandS.Walk
import PyProof.Rows.SeqMore
import KE.GoesMore
import HandS.Wide
import HandS.WideBits
import HandS.TupMul
import HandS.TupAny
import HandS.Text
import HandS.Flow
import HandS.OwnEq
import HandS.More
import OpenK.KOps
import OpenK.KMeth
import PyProof.InstNe
import PyProof.P3Eq
import HandS.Zip
import HandS.Strs
import HandS.ExcOwn
import HandS.WordsExc
import HandS.Dict
import HandS.Lambda
import HandS.EndTab
import HandS.TryMany
import PySem.Challenge.RW_leastkeep_k41_invalid_codes
import KE.RegKIsAll
set_option Elab.async false
set_option linter.all false
set_option maxRecDepth 100000
set_option maxHeartbeats 4000000
namespace Lk
open PySem PySem.Spec PyProof.Rows L2
/-- a def that may be called by its name: it lets no error out -/
structure Cal (P : Program) (w : World) (K : PySem.W.Frag) (mg : Str → Option Value) (base : Heap) (k : Nat) (x : Str) (ps : List Str) (sp : Sp) : Prop where
  ex : ∃ f fd, mg x = some (.ref f) ∧ PySem.W.keepIn K (.ref f) = true ∧ Binds K fd ps [] ∧ FnOk P w K mg base CX0 k f fd ps sp
theorem pcal {X : Cx} {k j : Nat} {x : Str} {ps : List Str} {sp : Sp} {e : Expr} {es : List Expr} {t : TA} {p pos : Pos} (c : Cal X.prog X.w X.K X.mg X.base k x ps sp) (hr : Room j X.A) (hk : k ≤ j) (ha : PA X (e :: es) t) (hg : Gl X x := by rfl)
    (hdb : (x == ("__debug__" : Str)) = false := by decide) (he : starEach (e :: es) X.env = (false, eval e X.env) :: starEach es X.env := by rfl) (hpl : (backTo pos (starEach es X.env)).any (·.1) = false := by rfl) :
    PE X (.Call (.Name x p) (e :: es) [] pos) (tCall sp [] E0 t) := by
  obtain ⟨f, fd, hm, kp, b, F⟩ := c.ex
  exact pe_call F (hr.mono hk) hg hm kp b .nil pass0 ha hdb he hpl
section
variable {σ : L2.St} {H : Hp} {i j : Nat} {v x y : V} {Q : VK} {D : Ends} {ta tb te : TE} {t u : TS} {tt tu : TT} {tl tr : TA} {r : R2} {g : TG}
theorem sv (h : σ[i]? = some (some v)) (q : Q v H) : tVar i σ H Q := ⟨v, h, q⟩
theorem sc (q : Q v H) : tC v σ H Q := q
theorem ssq (q : t { D with nx := u D } σ H) : tSeq t u D σ H := q
theorem snx (q : D.nx σ H) : tNext D σ H := q
theorem sas (q : te σ H fun x H1 => g x σ H1 D.nx) : tAsg te g D σ H := q
theorem sgn {K : L2.St → Hp → Prop} (q : K (σ.set i (some v)) H) : gName i v σ H K := q
theorem sdr (q : te σ H fun _ H1 => D.nx σ H1) : tDrop te D σ H := q
theorem srt (q : te σ H D.rt) : tRet te D σ H := q
theorem sop (q : ta σ H fun x H1 => tb σ H1 fun y H2 => r x y H2 Q) : tOp r ta tb σ H Q := q
theorem sun {r : V → Hp → VK → Prop} (q : ta σ H fun x H1 => r x H1 Q) : tUn r ta σ H Q := q
theorem sI0 {f : Int → Int → V} {a b : Int} (q : Q (f a b) H) : rI0 f (.int a) (.int b) H Q := ⟨a, b, rfl, rfl, q⟩
theorem sI {C : Int → Int → Prop} {f : Int → Int → V} {a b : Int} (h : C a b) (q : Q (f a b) H) : rI C f (.int a) (.int b) H Q := ⟨a, b, rfl, rfl, h, q⟩
theorem sU {f : Int → V} {a : Int} (q : Q (f a) H) : rU f (.int a) H Q := ⟨a, rfl, q⟩
theorem sEq (h : scal x y = true) (q : Q (.bl (decide (x = y))) H) : rEq x y H Q := ⟨h, q⟩
theorem sNe (h : scal x y = true) (q : Q (.bl (!decide (x = y))) H) : rNe x y H Q := ⟨h, q⟩
theorem stt {Q : Bool → Hp → Prop} (q : te σ H fun x H' => ∃ k, x = .bl k ∧ Q k H') : tTest te σ H Q := q
theorem stB {Q : Bool → Hp → Prop} (q : te σ H fun x H' => ∃ k, x = .bl k ∧ Q k H') : tB te σ H Q := q
theorem sbl {b : Bool} {Q : Bool → Prop} (q : Q b) : ∃ k, V.bl b = .bl k ∧ Q k := ⟨b, rfl, q⟩
theorem snt {Q : Bool → Hp → Prop} (q : tt σ H fun c H1 => Q (!c) H1) : tNot tt σ H Q := q
theorem sif (q : tt σ H fun b H1 => if b = true then t D σ H1 else u D σ H1) : tIfS tt t u D σ H := q
theorem scB {r : List V → Hp → VK → Prop} (q : tl σ H fun vs H1 => r vs H1 Q) : tCB r tl σ H Q := q
theorem scn {Q : List V → Hp → Prop} (q : ta σ H fun x H1 => tr σ H1 fun xs H2 => Q (x :: xs) H2) : tCons ta tr σ H Q := q
theorem snl {Q : List V → Hp → Prop} (q : Q [] H) : tNil σ H Q := q
theorem scl {sp : Sp} {E : XK} (q : tl σ H fun vs H1 => sp (vs ++ []) H1 Q E) : tCall sp [] E tl σ H Q := q
theorem stu (q : tl σ H fun xs H1 => xs.length ≤ sizeLine ∧ ∀ p, H1 p = none → Q (.ref p) (upd H1 p (.tup xs))) : tTup tl σ H Q := q
theorem sli (q : tl σ H fun xs H1 => xs.length ≤ sizeLine ∧ ∀ p, H1 p = none → Q (.ref p) (upd H1 p (.lst xs))) : tLst tl σ H Q := q
theorem snw {n : Nat} {R : Addr → Prop} (h : n ≤ 1000) (q : ∀ p, H p = none → R p) : n ≤ sizeLine ∧ ∀ p, H p = none → R p := ⟨Nat.le_of_lt (small1000 h), q⟩
theorem sfr {K : PySem.W.Frag} {p : Addr} {xs : List V} {z : Int} (hp : SqL K H p xs) (hz : atI xs z = some v) (q : Q v H) : rIxL K (.ref p) (.int z) H Q := ⟨p, xs, z, v, rfl, rfl, hp, hz, q⟩
theorem sfg {s : TSet} {K : L2.St → Hp → Prop} (q : ta σ H fun o H1 => tb σ H1 fun z H2 => s o z v H2 fun H3 => K σ H3) : gSub ta tb s v σ H K := q
theorem ssl {p : Addr} {xs : List V} {z : Int} {j : Nat} {K : Hp → Prop} (hp : H p = some (.lst xs)) (hz : ixN xs.length z = some j) (q : K (upd H p (.lst (xs.set j v)))) : rSetL (.ref p) (.int z) v H K := ⟨p, xs, z, j, rfl, rfl, hp, hz, q⟩
theorem sI1 {a : Int} (q : Q (.int a) H) : (∃ i, [V.int a] = [.int i] ∧ Q (.int i) H) ∨ ∃ k, [V.int a] = [.bl k] ∧ Q (.int (if k then 1 else 0)) H := .inl ⟨a, rfl, q⟩
theorem sI2 {b : Bool} (q : Q (.int (if b then 1 else 0)) H) : (∃ i, [V.bl b] = [.int i] ∧ Q (.int i) H) ∨ ∃ k, [V.bl b] = [.bl k] ∧ Q (.int (if k then 1 else 0)) H := .inr ⟨b, rfl, q⟩
end
end Lk

/-! ### an error class with its own __init__, called with keywords: the keywords go by the base's __new__ and reach the own __init__ -/
namespace PySem.HandSPX
open Builtin Builtin.ObjectAttr
section
variable {prog : Program} {w : World} {Ar : Around} {E : Value → Shared → Prop} {R : Result → Shared → Prop} {hp : Heap} {gs : Array GenState} {dr : Drawn} {tk : Nat} {os : OsState}
variable {nm qn : Str} {C N : Addr} {bs bm bmB : List Value} {hdct ab : Bool} {sn : List Str} {sub us : List Value} {col : Option Bool} {dd : Option Addr} {m0 m1 m2 m3 m5 : Option Value} {B nid iid : String} {kw : List (Str × Value)}
/-- the check ahead of __new__ passes any keywords -/
theorem kw_check (F : ExcBaseFacts B nid iid bmB) (tl : ∀ Y : String, bm.contains (.type Y) = bmB.contains (.type Y)) (oC : hp.get? C = some (excClassObj nm qn C N bs bm hdct sn sub ab col dd m0 m1 m2 m3 m5 nid)) {Q : Unit → Shared → Prop} (q : Q () ⟨hp, gs, dr, tk, os⟩) :
    wpAny (model prog w) Ar (checkBuiltinCall nid ⟨.ref C :: us, kw⟩) Q E ⟨hp, gs, dr, tk, os⟩ := by
  have inB : (Value.ref C :: bm).contains (.type B) = true := (List.contains_cons).trans (by rw [tl, F.hasB]; exact Bool.or_true _)
  have star := F.noStar
  simp only [checkBuiltinCall, F.newSplit, F.newKind, F.newRow]
  repeat first
    | (refine wpAny_isSubtype_exc oC ?_
       rw [inB])
    | refine wpAny_madeBy_exc oC ?_
    | refine wpAny_staticBase_exc oC ?_
    | refine wpAny_loadPart_at oC ?_
    | simp only [Bool.false_eq_true, if_false, bne_self_eq_false]
    | wp_step
  exact q
/-- __new__ lays the args and the error, and looks at no keyword -/
theorem kw_new (F : ExcBaseFacts B nid iid bmB) (tl : ∀ Y : String, bm.contains (.type Y) = bmB.contains (.type Y)) (oC : hp.get? C = some (excClassObj nm qn C N bs bm hdct sn sub ab col dd m0 m1 m2 m3 m5 nid)) (len : us.length ≤ sizeLine)
    (q : R (.ok (.ret (.ref (hp.objs.size + 1)))) ⟨(hp.push (W.kdv_tup us)).push (excO C hp.objs.size), gs, dr, tk, os⟩) : codeAny (model prog w) Ar (.builtin nid ⟨.ref C :: us, kw⟩) R ⟨hp, gs, dr, tk, os⟩ := by
  have in1 : (Value.ref C :: bm).contains (.type B) = true := (List.contains_cons).trans (by rw [tl, F.hasB]; exact Bool.or_true _)
  have in2 : (Value.ref C :: bm).contains (.type "NameError") = false := (List.contains_cons).trans (by rw [tl, F.noName]; rfl)
  have in3 : (Value.ref C :: bm).contains (.type "AttributeError") = false := (List.contains_cons).trans (by rw [tl, F.noAttr]; rfl)
  have fin := F.ends
  refine codeAny_builtinAt F.entry ?_
  unfold Builtin.«BaseException.__new__»
  refine wpAt_bind (show wpAt _ _ _ (stack >>= _) _ _ _ from wpAt_bind (wpAt_stack fun _ _ => wpAt_of_wpAny ?_))
  wp_walk
  refine wpAt_of_wpAny ?_
  rw [F.owner]
  repeat first
    | with_reducible refine wpAny_loadPart_at oC ?_
    | with_reducible refine wpAny_madeHere_exc F.canon oC ?_
    | (with_reducible refine wpAny_isSubtype_exc oC ?_
       first | rw [in1] | rw [in2] | rw [in3])
    | wp_step
  show R _ _
  rw [Heap.size_push]
  exact q
/-- the whole call -/
theorem call_kw (F : ExcBaseFacts B nid iid bmB) (tl : ∀ Y : String, bm.contains (.type Y) = bmB.contains (.type Y)) {fI : Addr} (oC : hp.get? C = some (excClassObj nm qn C N bs bm hdct sn sub ab col dd m0 m1 m2 m3 m5 nid))
    (li : W.Looks (model prog w) hp (typeLookup (.ref C) "__init__") (some (.ref fI))) (lb : ∀ self, W.Looks (model prog w) hp (bindSpecial (.ref fI) self) (.ref fI, [self])) (len : us.length ≤ sizeLine)
    (q : codeAny (model prog w) (Ar.under (.builtin "type.__call__" ⟨.ref C :: us, kw⟩)) (.call (.ref fI) ⟨.ref (hp.objs.size + 1) :: us, kw⟩) (W.InitBack (hp.objs.size + 1) R) ⟨(hp.push (W.kdv_tup us)).push (excO C hp.objs.size), gs, dr, tk, os⟩) :
    codeAny (model prog w) Ar (.call (.ref C) ⟨us, kw⟩) R ⟨hp, gs, dr, tk, os⟩ := by
  have old : ∀ b o, hp.get? b = some o → ((hp.push (W.kdv_tup us)).push (excO C hp.objs.size)).get? b = some o := fun b o z => Heap.get?_push_of_some _ (Heap.get?_push_of_some _ z)
  have oE : ((hp.push (W.kdv_tup us)).push (excO C hp.objs.size)).get? (hp.objs.size + 1) = some (excO C hp.objs.size) := by heap_get
  have oC' := old _ _ oC
  have inC : (Value.ref C :: bm).contains (.ref C) = true := by simp
  have c1 := tc_lookup
  have c2 := tc_bind (.ref C)
  have c3 : (⟨hp, gs, dr, tk, os⟩ : Shared).TypeIs (.ref C) "type" := ⟨_, oC, rfl⟩
  refine codeAny_of_tree (show wpAny _ _ (callAny (.ref C) _) _ _ _ from ?_)
  repeat (any_goals (first | with_reducible refine wpAny_loadPart_at oC ?_ | assumption | wp_step))
  refine ⟨rfl, codeAny_call_builtin_at (Code.quiet_builtin _ (by decide +kernel)) entry_typeCall (wpAny_check_type_call_sub oC ?_)⟩
  repeat (first | with_reducible refine wpAny_madeBy_exc oC ?_ | with_reducible refine wpAny_loadPart_at oC ?_ | wp_step)
  refine codeAny_call_builtin_code (Code.quiet_builtin _ F.quiet) (kw_check (us := us) F tl oC (kw_new (us := us) F tl oC len ?_))
  show wpAny _ _ _ _ _ _
  unfold isInstance
  repeat first
    | with_reducible refine wpAny_loadPart_at oE ?_
    | (with_reducible refine wpAny_isSubtype_exc oC' ?_
       rw [inC])
    | wp_step
  show wpAny _ _ (typeLookup (.ref C) _) _ _ _
  refine (li.keeps old).at (wpAny_holding (wpAny_bind (((lb (.ref (hp.objs.size + 1))).keeps old).at (wpAny_bind (wpAny_call (codeAny_mono q fun r s' z => ?_))))))
  cases r with
  | error e => exact z
  | ok fl =>
    cases fl with
    | ret v =>
      obtain ⟨ev, z⟩ := z
      subst ev
      first
        | exact wpAny_pure (wpAny_pure z)
        | (wp_walk; exact z)
    | next => exact z.elim
    | brk => exact z.elim
    | cont => exact z.elim
end
end PySem.HandSPX

namespace Lk
open PySem PySem.Spec PyProof.Rows L2
/-- one error class of the program: its object, its own __init__, what isinstance and reading ask -/
structure ErC (K : PySem.W.Frag) (C fI : Addr) : Prop where
  ox : OexC K C
  ini : PySem.W.findIn K (.ref C) "__init__" = some (some (.ref fI))
  tyI : PySem.W.typeIn K (.ref fI) = some (.type "function")
/-- a made error of the class at C: the object at a, its dict, its fields -/
def erAt (H : Hp) (a C : Addr) (fs : List (Str × V)) : Prop := ∃ d, H a = some (exo a C (some d)) ∧ H d = some (exd d fs)
def tXm (C : Addr) (sp : Sp) (t : TA) : TE := fun σ H Q => t σ H fun vs H1 => vs.length ≤ 1000 ∧ ∀ a, H1 a = none → sp (.ref a :: vs) (upd H1 a (exo a C none)) (fun v H2 => v = .non ∧ Q (.ref a) H2) E0
def tXk (C : Addr) (m : Nat) (sp : Sp) (gV : List V → List V → List V) (tk : TA) : TE := fun σ H Q => tk σ H fun zs H1 => zs.length = m ∧ ∀ a, H1 a = none → sp (gV [.ref a] zs) (upd H1 a (exo a C none)) (fun v H2 => v = .non ∧ Q (.ref a) H2) E0
section
variable {X : Cx} {k : Nat} {fI C : Addr} {fd : FuncData} {ps ks : List Str} {sp : Sp} {x : Str} {p pos : Pos} {e : Expr} {es : List Expr} {kws : List Keyword} {t tk : TA} {g : List Value → List Value → List Value} {gV : List V → List V → List V}
theorem run_xm {pins : List (Addr × Obj)} {σ : L2.St} {H : Hp} {s : Shared} {Q : VK} {us : List Value} {kw : List (Str × Value)} {ls : List Value} {vv : Addr → List V} (T : ErC X.K C fI)
    (F1 : FnOk X.prog X.w X.K X.mg X.base CX0 k fI fd ps sp) (hr : Room (k + 1) X.A) (I : Inv X pins σ H s) (hus : us.length ≤ sizeLine)
    (hb : ∀ s' : Shared, X.K.In s'.heap → BindsTo s' fd ⟨.ref (s.heap.objs.size + 1) :: us, kw⟩ (ps.zip ls)) (hv : Vals (vv (s.heap.objs.size + 1)) ls)
    (h : ∀ a, H a = none → sp (vv a) (upd H a (exo a C none)) (fun v H2 => v = .non ∧ Q (.ref a) H2) E0) :
    wpAny (model X.prog X.w) X.A (call (.ref C) us kw) (EP X pins σ Q) X.xe s := by
  obtain ⟨nm, q, N, bs, bm, sn, sub, ab, col, dd, k0, k1, k2, k3, k5, hC, hbm⟩ := T.ox.cls
  obtain ⟨hp, gg, dr, tk, os⟩ := s
  have nw : H (hp.objs.size + 1) = none := I.hok.fresh (Nat.le_succ _)
  have kk : ∀ b o, hp.get? b = some o → ((hp.push (PySem.W.kdv_tup us)).push (PySem.HandSPX.excO C hp.objs.size)).get? b = some o := fun b o z => Heap.get?_push_of_some _ (Heap.get?_push_of_some _ z)
  have ob : ((hp.push (PySem.W.kdv_tup us)).push (PySem.HandSPX.excO C hp.objs.size)).get? (hp.objs.size + 1) = some (PySem.HandSPX.excO C hp.objs.size) := by heap_get
  have J : Inv X pins σ (upd H (hp.objs.size + 1) (exo (hp.objs.size + 1) C none)) ⟨(hp.push (PySem.W.kdv_tup us)).push (PySem.HandSPX.excO C hp.objs.size), gg, dr, tk, os⟩ := I.laid (t' := tk) kk (Nat.le_succ _) (exo_ok ob)
  refine wpAny_call (PySem.HandSPX.call_kw F.excBase_ValueError (fun Y => PySem.HandSPX.refsVE_contains Y bm hbm) (I.kIn _ _ hC) (PySem.W.looks_findIn I.kIn T.ini) (fun self => PySem.W.bind_fn I.kIn self T.tyI) hus
    (codeAny_mono (F1.run _ X.stack _ _ _ ls _ _ E0 (hr.make C us kw) (J.env0.make C us kw) (hb _ J.kIn) hv (h _ nw)) fun r s' z => ?_))
  cases r with
  | error er => exact z.elim
  | ok fl =>
    cases fl with
    | ret u =>
      obtain ⟨v, H', I3, rv, ev, q3⟩ := J.after z
      subst ev
      exact ⟨rv, ⟨.ref (hp.objs.size + 1), H', I3, rfl, q3⟩⟩
    | next => exact z.elim
    | brk => exact z.elim
    | cont => exact z.elim
/-- C(e, ..) as a value -/
theorem pe_xm (T : ErC X.K C fI) (F1 : FnOk X.prog X.w X.K X.mg X.base CX0 k fI fd ps sp) (hr : Room (k + 1) X.A) (hb : Binds X.K fd ps []) (hm : X.mg x = some (.ref C)) (ha : PA X (e :: es) t) (hg : Gl X x := by rfl)
    (hdb : (x == ("__debug__" : Str)) = false := by decide) (he : starEach (e :: es) X.env = (false, eval e X.env) :: starEach es X.env := by rfl) (hpl : (backTo pos (starEach es X.env)).any (·.1) = false := by rfl) :
    PE X (.Call (.Name x p) (e :: es) [] pos) (tXm C sp t) := by
  refine ⟨fun pins s σ H Q I h => wpAny_Call_Name_kw (ld_glob I hg hm ?_ hdb)⟩
  refine PySem.W.callWith_K (h₀ := X.base) I.ok.mod.kin T.ox.kC (thn (ha.run pos pins s σ H _ I h) fun us s1 ⟨vs, H1, I1, r1, hz, q1⟩ => ⟨I1.kIn, ?_⟩) he hpl
  have l1 : us.length ≤ sizeLine := by
    rw [← Paired.length r1, sizeLine_eq]
    omega
  have l2 : vs.length + 1 = ps.length := F1.len _ _ _ _ (q1 _ (I1.hok.fresh (Nat.le_refl _)))
  refine run_xm (vv := fun a => .ref a :: vs) (ls := .ref (s1.heap.objs.size + 1) :: us) T F1 hr I1 l1 (fun s' ks => ?_) (.cons rfl r1) q1
  have z := hb s' (.ref (s1.heap.objs.size + 1) :: us) ks (by rw [List.append_nil, List.length_cons, ← r1.length]; exact l2)
  rw [List.append_nil] at z
  exact z
/-- C(k = e, ..) as a value -/
theorem pe_xk (T : ErC X.K C fI) (F1 : FnOk X.prog X.w X.K X.mg X.base CX0 k fI fd ps sp) (hr : Room (k + 1) X.A) (hb : KBn X.K fd ps 1 ks g gV) (hm : X.mg x = some (.ref C)) (hkw : PK X kws tk) (hg : Gl X x := by rfl)
    (hall : (backToKw pos (keywordEach kws X.env)).all (·.1.isSome) = true := by rfl) (hks : (backToKw pos (keywordEach kws X.env)).filterMap (·.1) = ks := by rfl) (hdb : (x == ("__debug__" : Str)) = false := by decide)
    (hpl : ((backTo pos (starEach [] X.env)).any (·.1) || (backToKw pos (keywordEach kws X.env)).any (·.1.isNone)) = false := by rfl) :
    PE X (.Call (.Name x p) [] kws pos) (tXk C ks.length sp gV tk) := by
  refine ⟨fun pins s σ H Q I h => wpAny_Call_Name_kw (ld_glob I hg hm ?_ hdb)⟩
  refine PySem.W.callWith_KW0 (h₀ := X.base) I.ok.mod.kin T.ox.kC hall ?_ hpl
  refine thn (hkw.run pos pins s σ H _ I h) fun ws s2 ⟨zs, H2, I2, rz, l2, q2⟩ => ⟨I2.kIn, ?_⟩
  rw [hks]
  have r1 : Vals [V.ref (s2.heap.objs.size + 1)] [Value.ref (s2.heap.objs.size + 1)] := .cons rfl .nil
  exact run_xm (vv := fun a => gV [.ref a] zs) (us := []) T F1 hr I2 (Nat.zero_le _) (fun s' kin => hb.to s' _ ws kin rfl (rz.length.symm.trans l2)) (hb.rel r1 rz) q2
/-- C(), the class has no __init__ of its own -/
theorem pe_x0 {bmB : List Value} {B newId initId : String} (F : ExcBaseFacts B newId initId bmB) (q : PySem.W.excIn X.K C bmB newId = true) (gC : X.mg x = some (.ref C)) (kC : PySem.W.keepIn X.K (.ref C) = true) (hg : Gl X x := by rfl) (hdb : (x == ("__debug__" : Str)) = false := by decide) :
    PE X (.Call (.Name x p) [] [] pos) (fun σ H Q => ∀ a, H a = none → Q (.ref a) (upd H a (ExO (.ref C) a))) := by
  refine ⟨fun pins s σ H Q I h => wpAny_Call_Name_kw (ld_glob I hg gC ?_ hdb)⟩
  refine PySem.W.callWith_K0 I.kIn kC ?_
  show wpAny _ _ (call (.ref C) []) _ _ _
  obtain ⟨bm, N, nm, qn, bs, hdct, sn, sub, ab, col, dd, k0, k1, k2, k3, k5, mN, hC, hN, hni, T⟩ := exc_obj I.kIn q
  refine wpAny_call_exc_subT F T hC hN hni (fun h' a mk => ?_) (Nat.zero_le _)
  obtain ⟨t, ht, _, _⟩ := mk.there
  have nw : H a = none := I.hok.gone mk.new
  exact ⟨.ref a, _, I.laidN mk.keeps mk.new nw (exO_ok ht ⟨rfl, rfl⟩ rfl rfl rfl (show 4 < 6 by decide)), rfl, h a nw⟩
/-- ValueError(e) -/
def VeO (a : Addr) : HO := .ext fun h => PySem.W.KitAt a "ValueError" h
theorem pe_ve (hm : X.mg "ValueError" = none) (ha : PA X (e :: es) t) (hg : Gl X "ValueError" := by rfl)
    (he : starEach (e :: es) X.env = (false, eval e X.env) :: starEach es X.env := by rfl) (hpl : (backTo pos (starEach es X.env)).any (·.1) = false := by rfl) :
    PE X (.Call (.Name "ValueError" p) (e :: es) [] pos) (fun σ H Q => t σ H fun vs H1 => vs.length ≤ 1000 ∧ ∀ a, H1 a = none → Q (.ref a) (upd H1 a (VeO a))) := by
  refine ⟨fun pins s σ H Q I h => wpAny_Call_Name_kw (ld_blt I hg hm (u := .type "ValueError") (by decide +kernel) ?_)⟩
  refine PyProof.Rows.callWith_type1 (thn (ha.run pos pins s σ H _ I h) fun us s1 ⟨vs, H1, I1, r1, hz, q1⟩ => ?_) he hpl
  have l1 : us.length ≤ sizeLine := by
    rw [← Paired.length r1, sizeLine_eq]
    omega
  obtain ⟨hp, gg, dr, tk, os⟩ := s1
  refine wpAny_call_exc PySem.F.excCall_ValueError (fun h' a mk => ?_) l1
  obtain ⟨t0, ht, _, _⟩ := (PySem.Heap.MadeExc.of mk).there
  have nw : H1 a = none := I1.hok.gone mk.new
  refine ⟨.ref a, _, I1.laidN mk.keeps mk.new nw (o := VeO a) ⟨⟨_, ht, rfl⟩, ⟨_, ht⟩, fun h1 h2 ⟨o, z1, z2⟩ kp => ⟨o, kp o z1, z2⟩⟩, rfl, q1 a nw⟩
end
/-! ### what is asked of made errors -/
/-- an error that stands: its class, with a dict of its own or without -/
inductive ErV (H : Hp) : V → Addr → Prop where
  | d {a C d : Addr} {fs : List (Str × V)} (h : H a = some (exo a C (some d))) (h2 : H d = some (exd d fs)) : ErV H (.ref a) C
  | n {a C : Addr} (h : H a = some (ExO (.ref C) a)) : ErV H (.ref a) C
/-- what the class must say, so that isinstance asks its errors rightly -/
structure EkC (K : PySem.W.Frag) (C : Addr) : Prop where
  cl : (PySem.W.clsIn K C).isSome = true
  ga : PySem.W.findIn K (.ref C) "__getattribute__" = some (some (.builtin "BaseException.__getattribute__"))
  gt : PySem.W.findIn K (.ref C) "__getattr__" = some none
  su : PySem.W.subIn K (.ref C) (.type "BaseException") = some true
  ca : PySem.W.findIn K (.ref C) "__class__" = some (some (.builtin "object.__class__"))
  sp : PySem.W.specialIn K (.builtin "object.__class__") "__get__" = some (some (.builtin "getset_descriptor.__get__"))
  tk : PySem.W.takesIn K (.builtin "object.__class__") = some true
  mo : PySem.W.mroIn K C (.type "object") = some true
def rIsX (K : PySem.W.Frag) : List V → Hp → VK → Prop := fun xs H Q => ∃ (x c : V) (D : Addr) (cv : Value) (b : Bool), xs = [x, c] ∧ ErV H x D ∧ EkC K D ∧ ClsV c cv ∧ PySem.W.kitOne K (.ref D) cv = some b ∧ Q (.bl b) H
theorem call_isX {X : Cx} : CallR X (.builtin "isinstance") (rIsX X.K) := by
  intro pins s σ H xs us Q I r h
  obtain ⟨x, c, D, cv, b, rfl, hx, T, hc, e, q⟩ := h
  cases r with
  | cons r1 rr =>
    cases rr with
    | cons r2 rr =>
      cases rr
      have ec := hc.eq r2
      subst ec
      cases hx with
      | d h h2 =>
        cases r1
        obtain ⟨t1, g1⟩ := exo_at I.hok h
        obtain ⟨mA, ⟨od, es, ep, g2, _⟩, _⟩ := exd_at I.hok h2
        have J : PySem.W.InstAt s.heap _ _ D (some od) := ⟨g1, rfl, rfl, g2⟩
        exact PySem.W.kia_one (PySem.W.kitx_exc T.cl T.ga T.gt T.su T.ca T.sp T.tk T.mo) I.kIn J e (fun z => nomatch z) fun tk => ⟨.bl b, H, I.kept (t' := tk) fun _ _ z => z, rfl, q⟩
      | n h =>
        cases r1
        rename_i a0
        obtain ⟨⟨oe, vs, g1, hz, hd, _⟩, _, _⟩ := I.hok _ _ h
        have J : PySem.W.InstAt s.heap a0 oe D none := by
          obtain ⟨oc, od, oda, osl⟩ := oe
          obtain ⟨z1, z2⟩ := hz
          dsimp only at z1 z2 hd
          subst z1 z2 hd
          exact ⟨g1, rfl, rfl, trivial⟩
        exact PySem.W.kia_one (PySem.W.kitx_exc T.cl T.ga T.gt T.su T.ca T.sp T.tk T.mo) I.kIn J e (fun z => nomatch z) fun tk => ⟨.bl b, H, I.kept (t' := tk) fun _ _ z => z, rfl, q⟩
def rIsVe (K : PySem.W.Frag) : List V → Hp → VK → Prop := fun xs H Q => ∃ (a : Addr) (c : V) (cv : Value) (b : Bool), xs = [.ref a, c] ∧ H a = some (VeO a) ∧ ClsV c cv ∧ PySem.W.kitOne K (.type "ValueError") cv = some b ∧ Q (.bl b) H
theorem call_isVe {X : Cx} : CallR X (.builtin "isinstance") (rIsVe X.K) := by
  intro pins s σ H xs us Q I r h
  obtain ⟨a, c, cv, b, rfl, hx, hc, e, q⟩ := h
  cases r with
  | cons r1 rr =>
    cases rr with
    | cons r2 rr =>
      cases rr
      have ec := hc.eq r2
      subst ec
      cases r1
      obtain ⟨p, _, _⟩ := I.hok _ _ hx
      exact PySem.W.kia_one (PySem.W.kitx_bexc PySem.F.excAttr_ValueError PySem.F.lkClass_ValueError PySem.F.soClass_ValueError (by decide)) I.kIn p e (fun z => nomatch z) fun tk => ⟨.bl b, H, I.kept (t' := tk) fun _ _ z => z, rfl, q⟩
/-- e.f of a made error -/
structure EfC (K : PySem.W.Frag) (C : Addr) (f : Str) : Prop where
  k : EkC K C
  hd : PySem.W.hasDictIn K C = true
  no : PySem.W.findIn K (.ref C) f = some none
def tEf (K : PySem.W.Frag) (f : Str) (te : TE) : TE := fun σ H Q => te σ H fun x H1 => ∃ (a C d : Addr) (fs : List (Str × V)) (v : V), x = .ref a ∧ H1 a = some (exo a C (some d)) ∧ H1 d = some (exd d fs) ∧ EfC K C f ∧ fs.lookup f = some v ∧ Q v H1
theorem pe_ef {X : Cx} {e : Expr} {te : TE} {f : Str} {pos : Pos} (he : PE X e te) (hb : attributeBase e f X.env (eval e X.env) = eval e X.env := by rfl) : PE X (.Attribute e f pos) (tEf X.K f te) := by
  refine ⟨fun pins s σ H Q I h => attr_of hb (thn (he.run pins s σ H _ I h) fun u s1 ⟨x, H1, I1, rx, a, C, d, fs, v, ex, h1, h2, T, l, q⟩ => ?_)⟩
  subst ex
  obtain rfl : u = Value.ref a := rx
  obtain ⟨t1, g1⟩ := exo_at I1.hok h1
  obtain ⟨mA, hns, hrel⟩ := exd_at I1.hok h2
  obtain ⟨od, ho, hl⟩ := lookIn_ns hns
  obtain ⟨u, hu, ru⟩ := RelO.some_of (v := v) (o := mA f) (by rw [← l]; exact hrel f)
  have J : PySem.W.InstAt s1.heap a _ C (some od) := ⟨g1, rfl, rfl, ho⟩
  exact HandSPX.exc_get I1.kIn J T.k.ga T.k.gt T.k.su (PySem.W.findObj_own T.hd T.no rfl (by rw [hl, hu])) (handed_of ru) ⟨v, H1, I1.tok _, ru, q⟩
end Lk

namespace Lk
open PySem PySem.Spec PyProof.Rows L2
/-! ### the promises of __init__: one, two, three fields -/
def spI1 (C : Addr) (f : Str) : Sp := fun vs H Q _ => ∃ (a : Addr) (x : V), vs = [.ref a, x] ∧ H a = some (exo a C none) ∧
  ∀ (d : Addr) (H' : Hp), H d = none → d ≠ a → H' a = some (exo a C (some d)) → H' d = some (exd d [(f, x)]) → (∀ b, b ≠ a → b ≠ d → H' b = H b) → Q .non H'
def spI2 (C : Addr) (f g : Str) : Sp := fun vs H Q _ => ∃ (a : Addr) (x y : V), vs = [.ref a, x, y] ∧ H a = some (exo a C none) ∧
  ∀ (d : Addr) (H' : Hp), H d = none → d ≠ a → H' a = some (exo a C (some d)) → H' d = some (exd d [(g, y), (f, x)]) → (∀ b, b ≠ a → b ≠ d → H' b = H b) → Q .non H'
def spI3 (C : Addr) (f g h : Str) : Sp := fun vs H Q _ => ∃ (a : Addr) (x y z : V), vs = [.ref a, x, y, z] ∧ H a = some (exo a C none) ∧
  ∀ (d : Addr) (H' : Hp), H d = none → d ≠ a → H' a = some (exo a C (some d)) → H' d = some (exd d [(h, z), (g, y), (f, x)]) → (∀ b, b ≠ a → b ≠ d → H' b = H b) → Q .non H'
/-- the reading of the first store, of a later one -/
theorem st0 {K : PySem.W.Frag} {C a : Addr} {f : Str} {i j : Nat} {x : V} {D : Ends} {σ : L2.St} {H : Hp} (T : OexC K C) (n : PySem.W.findIn K (.ref C) f = some none) (hi : σ[i]? = some (some (.ref a))) (hj : σ[j]? = some (some x)) (ha : H a = some (exo a C none))
    (q : ∀ d, H d = none → d ≠ a → D.nx σ (upd (upd H d (exd d [(f, x)])) a (exo a C (some d)))) : tOst K f (tVar i) (tVar j) D σ H :=
  ⟨x, hj, .ref a, hi, a, C, rfl, T, n, .inl ⟨ha, q⟩⟩
theorem st1 {K : PySem.W.Frag} {C a d : Addr} {f : Str} {i j : Nat} {x : V} {fs : List (Str × V)} {D : Ends} {σ : L2.St} {H : Hp} (T : OexC K C) (n : PySem.W.findIn K (.ref C) f = some none) (hi : σ[i]? = some (some (.ref a))) (hj : σ[j]? = some (some x)) (ha : H a = some (exo a C (some d)))
    (hd : H d = some (exd d fs)) (hl : fs.length ≤ 900) (q : D.nx σ (upd H d (exd d ((f, x) :: fs)))) : tOst K f (tVar i) (tVar j) D σ H :=
  ⟨x, hj, .ref a, hi, a, C, rfl, T, n, .inr ⟨d, fs, ha, hd, hl, q⟩⟩
section
variable {K : PySem.W.Frag} {C a : Addr} {f g h : Str} {i1 i2 i3 : Nat} {x y z : V} {D : Ends} {σ : L2.St} {H : Hp}
theorem rd1 (T : OexC K C) (n : PySem.W.findIn K (.ref C) f = some none) (h0 : σ[0]? = some (some (.ref a))) (h1 : σ[1]? = some (some x)) (ha : H a = some (exo a C none))
    (k : ∀ (d : Addr) (H' : Hp), H d = none → d ≠ a → H' a = some (exo a C (some d)) → H' d = some (exd d [(f, x)]) → (∀ b, b ≠ a → b ≠ d → H' b = H b) → D.nx σ H') : tOst K f (tVar 0) (tVar 1) D σ H := by
  refine st0 T n h0 h1 ha fun d hd hne => k d _ hd hne upd_same (by rw [upd_ne hne, upd_same]) fun b n1 n2 => by rw [upd_ne n1, upd_ne n2]
theorem rd2 (T : OexC K C) (n : PySem.W.findIn K (.ref C) f = some none) (m : PySem.W.findIn K (.ref C) g = some none) (h0 : σ[0]? = some (some (.ref a))) (h1 : σ[1]? = some (some x)) (h2 : σ[2]? = some (some y)) (ha : H a = some (exo a C none))
    (k : ∀ (d : Addr) (H' : Hp), H d = none → d ≠ a → H' a = some (exo a C (some d)) → H' d = some (exd d [(g, y), (f, x)]) → (∀ b, b ≠ a → b ≠ d → H' b = H b) → D.nx σ H') :
    tSeq (tOst K f (tVar 0) (tVar 1)) (tOst K g (tVar 0) (tVar 2)) D σ H := by
  refine rd1 T n h0 h1 ha fun d H' hd hne e1 e2 e3 => ?_
  refine st1 T m h0 h2 e1 e2 (by show 1 ≤ 900; decide) (k d _ hd hne (by rw [upd_ne (Ne.symm hne)]; exact e1) upd_same fun b n1 n2 => by rw [upd_ne n2]; exact e3 b n1 n2)
theorem rd3 (T : OexC K C) (n : PySem.W.findIn K (.ref C) f = some none) (m : PySem.W.findIn K (.ref C) g = some none) (o : PySem.W.findIn K (.ref C) h = some none) (h0 : σ[0]? = some (some (.ref a))) (h1 : σ[1]? = some (some x)) (h2 : σ[2]? = some (some y)) (h3 : σ[3]? = some (some z)) (ha : H a = some (exo a C none))
    (k : ∀ (d : Addr) (H' : Hp), H d = none → d ≠ a → H' a = some (exo a C (some d)) → H' d = some (exd d [(h, z), (g, y), (f, x)]) → (∀ b, b ≠ a → b ≠ d → H' b = H b) → D.nx σ H') :
    tSeq (tOst K f (tVar 0) (tVar 1)) (tSeq (tOst K g (tVar 0) (tVar 2)) (tOst K h (tVar 0) (tVar 3))) D σ H := by
  refine rd2 T n m h0 h1 h2 ha fun d H' hd hne e1 e2 e3 => ?_
  refine st1 T o h0 h3 e1 e2 (by show 2 ≤ 900; decide) (k d _ hd hne (by rw [upd_ne (Ne.symm hne)]; exact e1) upd_same fun b n1 n2 => by rw [upd_ne n2]; exact e3 b n1 n2)
end
/-! ### keywords handed in the other way round -/
theorem vals_rev : ∀ {vs : List V} {us : List Value}, Vals vs us → Vals vs.reverse us.reverse
  | _, _, .nil => .nil
  | _, _, .cons r t => by
    rw [List.reverse_cons, List.reverse_cons]
    exact (vals_rev t).append (.cons r .nil)
theorem kb_rev {K : PySem.W.Frag} {fd : FuncData} {ps ks : List Str} (h : ∀ us ws : List Value, us.length = 1 → ws.length = ks.length → bindArgs fd ⟨us, ks.zip ws⟩ = pure (ps.zip (us ++ ws.reverse))) :
    KBn K fd ps 1 ks (fun us ws => us ++ ws.reverse) (fun us ws => us ++ ws.reverse) :=
  ⟨fun s us ws _ h1 h2 => .of_eq (h us ws h1 h2), fun r1 r2 => r1.append (vals_rev r2)⟩
/-! ### an error class as the top has left it -/
structure ErK (K : PySem.W.Frag) (mg : Str → Option Value) (x : Str) (C B : Addr) : Prop where
  g : mg x = some (.ref C)
  ob : ∃ nm q N bs sn sub ab col dd k0 k1 k2 k3 k5, K.lookup C = some (excClassObj nm q C N bs [.ref B, .type "ValueError", .type "Exception", .type "BaseException", .type "object"] true sn sub ab col dd k0 k1 k2 k3 k5 "ValueError.__new__")
  sa : PySem.W.findIn K (.ref C) "__setattr__" = some (some (.builtin "object.__setattr__"))
  ty : PySem.W.typeIn K (.ref C) = some (.type "type")
  kp : PySem.W.keepIn K (.ref C) = true
  ek : EkC K C
theorem ErK.ox {K : PySem.W.Frag} {mg : Str → Option Value} {x : Str} {C B : Addr} (E : ErK K mg x C B) : OexC K C := by
  obtain ⟨nm, q, N, bs, sn, sub, ab, col, dd, k0, k1, k2, k3, k5, h⟩ := E.ob
  exact ⟨⟨nm, q, N, bs, _, sn, sub, ab, col, dd, k0, k1, k2, k3, k5, h, rfl⟩, E.sa, E.ek.su, E.ty, E.kp⟩
theorem erk_cls {K : PySem.W.Frag} {mg : Str → Option Value} {x : Str} {C B : Addr} (E : ErK K mg x C B) : ∃ cd, PySem.W.clsIn K C = some cd ∧ cd.mro = [.ref C, .ref B, .type "ValueError", .type "Exception", .type "BaseException", .type "object"] := by
  obtain ⟨nm, q, N, bs, sn, sub, ab, col, dd, k0, k1, k2, k3, k5, h⟩ := E.ob
  refine ⟨_, by unfold PySem.W.clsIn; rw [h], rfl⟩
theorem rne {a b : Addr} (h : a ≠ b) : (Value.ref a == Value.ref b) = false := beq_eq_false_iff_ne.mpr fun z => h (Value.ref.inj z)
theorem rty {a : Addr} {n : String} : (Value.ref a == Value.type n) = false := beq_eq_false_iff_ne.mpr fun z => by cases z
/-- isinstance of an error of the class D, asked of another of these classes -/
theorem kit_er {K : PySem.W.Frag} {mg : Str → Option Value} {x y : Str} {C D B : Addr} (E : ErK K mg x D B) (F : ErK K mg y C B) (hn : C ≠ B) : PySem.W.kitOne K (.ref D) (.ref C) = some (decide (D = C)) := by
  obtain ⟨cd, e1, e2⟩ := erk_cls E
  obtain ⟨cd', e3, _⟩ := erk_cls F
  unfold PySem.W.kitOne
  by_cases h : D = C
  · subst h
    rw [if_pos (by simp), decide_eq_true rfl]
  · have h1 : ¬ ((Value.ref D == Value.ref C) = true) := fun z => h (Value.ref.inj (beq_iff_eq.mp z))
    rw [if_neg h1, decide_eq_false h]
    unfold PySem.W.kitCls
    have h2 : ((PySem.W.clsIn K C).isSome && PySem.W.typeIn K (.ref C) == some (.type "type")) = true := by rw [e3, F.ty]; rfl
    simp only []
    rw [if_pos h2]
    show PySem.W.mroIn K D (.ref C) = some false
    unfold PySem.W.mroIn
    rw [e1, Option.bind_some, e2]
    have h3 : ¬ C = D := fun z => h z.symm
    simp [List.contains, List.elem, rne h3, rne hn, rty]
theorem kit_ve {K : PySem.W.Frag} {mg : Str → Option Value} {x : Str} {D B : Addr} (E : ErK K mg x D B) : PySem.W.kitOne K (.ref D) (.type "ValueError") = some true := by
  obtain ⟨cd, e1, e2⟩ := erk_cls E
  unfold PySem.W.kitOne
  rw [if_neg (by intro z; cases beq_iff_eq.mp z)]
  unfold PySem.W.kitCls
  simp only []
  rw [if_pos (by decide +kernel)]
  show PySem.W.mroIn K D _ = some true
  unfold PySem.W.mroIn
  rw [e1, Option.bind_some, e2]
  rfl
/-- asked of their base -/
theorem kit_base {K : PySem.W.Frag} {mg : Str → Option Value} {x : Str} {D B : Addr} (E : ErK K mg x D B) (h1 : (PySem.W.clsIn K B).isSome = true) (h2 : PySem.W.typeIn K (.ref B) = some (.type "type")) (hn : D ≠ B) : PySem.W.kitOne K (.ref D) (.ref B) = some true := by
  obtain ⟨cd, e1, e2⟩ := erk_cls E
  unfold PySem.W.kitOne
  rw [if_neg (fun z => hn (Value.ref.inj (beq_iff_eq.mp z)))]
  unfold PySem.W.kitCls
  simp only []
  rw [if_pos (by rw [h1, h2]; rfl)]
  show PySem.W.mroIn K D _ = some true
  unfold PySem.W.mroIn
  rw [e1, Option.bind_some, e2]
  simp [List.contains, List.elem]
  cases Value.ref B == Value.ref D <;> rfl
theorem kit_veB {K : PySem.W.Frag} {B : Addr} (h1 : (PySem.W.clsIn K B).isSome = true) (h2 : PySem.W.typeIn K (.ref B) = some (.type "type")) : PySem.W.kitOne K (.type "ValueError") (.ref B) = some false := by
  unfold PySem.W.kitOne
  rw [if_neg (by intro z; cases beq_iff_eq.mp z)]
  unfold PySem.W.kitCls
  simp only []
  rw [if_pos (by rw [h1, h2]; rfl)]
  show (PySem.fastBuiltinMro "ValueError").map _ = some false
  have e : ∃ l, PySem.fastBuiltinMro "ValueError" = some l ∧ l = [.type "ValueError", .type "Exception", .type "BaseException", .type "object"] := ⟨_, by decide +kernel, rfl⟩
  obtain ⟨l, e, rfl⟩ := e
  rw [e]
  simp [List.contains, List.elem, rty]
end Lk

namespace Lk
open PySem PySem.Spec PyProof.Rows L2
theorem lkA {f : Str} {v : V} {r : List (Str × V)} : List.lookup f ((f, v) :: r) = some v := by simp [List.lookup]
theorem lkB {f g : Str} {v w : V} {r : List (Str × V)} (h : ¬ f = g) (t : List.lookup f r = some v) : List.lookup f ((g, w) :: r) = some v := by
  have e : (f == g) = false := by simpa using h
  simp [List.lookup, e, t]
theorem same_new {H : Hp} {p : Addr} {o : HO} (h : H p = none) : Same H (upd H p o) := fun b u e => by
  rw [upd_ne (ne_of_none e h)]
  exact e
theorem erv_same {H H' : Hp} {x : V} {C : Addr} (s : Same H H') (h : ErV H x C) : ErV H' x C := by
  cases h with
  | d h h2 => exact .d (s _ _ h) (s _ _ h2)
  | n h => exact .n (s _ _ h)
theorem erat_same {H H' : Hp} {a C : Addr} {fs : List (Str × V)} (s : Same H H') (h : erAt H a C fs) : erAt H' a C fs := by
  obtain ⟨d, h1, h2⟩ := h
  exact ⟨d, s _ _ h1, s _ _ h2⟩
/-! ### a value, a list of values, that leaves the heap as it is -/
def Pv (te : TE) (σ : L2.St) (H : Hp) (v : V) : Prop := ∀ H', Same H H' → ∀ Q : VK, Q v H' → te σ H' Q
def Pl (ta : TA) (σ : L2.St) (H : Hp) (vs : List V) : Prop := ∀ H', Same H H' → ∀ Q : List V → Hp → Prop, Q vs H' → ta σ H' Q
section
variable {σ : L2.St} {H : Hp} {te ta tb : TE} {tl : TA} {v : V} {vs us : List V} {i : Nat} {D : Ends} {p : Addr}
theorem pv_var (h : σ[i]? = some (some v)) : Pv (tVar i) σ H v := fun _ _ _ q => ⟨v, h, q⟩
theorem pv_c : Pv (tC v) σ H v := fun _ _ _ q => q
theorem pv_neg {n : Int} (h : Pv te σ H (.int n)) : Pv (tUn (rU fun i => .int (-i)) te) σ H (.int (-n)) := fun H' s Q q => h H' s _ ⟨n, rfl, q⟩
theorem pl_nil : Pl tNil σ H [] := fun _ _ _ q => q
theorem pl_cons (h : Pv te σ H v) (t : Pl tl σ H vs) : Pl (tCons te tl) σ H (v :: vs) := fun H' s Q q => h H' s _ (t H' s _ q)
theorem pv_isx {K : PySem.W.Frag} {x c : V} {D : Addr} {cv : Value} {b : Bool} (ha : Pv ta σ H x) (hb : Pv tb σ H c) (hx : ErV H x D) (hk : EkC K D) (hc : ClsV c cv) (e : PySem.W.kitOne K (.ref D) cv = some b) : Pv (tCB (rIsX K) (tCons ta (tCons tb tNil))) σ H (.bl b) := fun H' s Q q =>
  ha H' s _ (hb H' s _ ⟨x, c, D, cv, b, rfl, erv_same s hx, hk, hc, e, q⟩)
/-- x = [..]; x = x + [..] -/
theorem as_new (h : Pl tl σ H vs) (hl : vs.length ≤ 1000) (q : ∀ p H', Same H H' → H p = none → H' p = some (.lst vs) → D.nx (σ.set i (some (.ref p))) H') : tAsg (tLst tl) (gName i) D σ H :=
  h H (Same.refl H) _ ⟨Nat.le_of_lt (small1000 hl), fun p hp => q p _ (same_new hp) hp upd_same⟩
theorem as_cat (hi : σ[i]? = some (some (.ref p))) (hp : H p = some (.lst us)) (h : Pl tl σ H vs) (hl : us.length + vs.length ≤ 1000)
    (q : ∀ r H', Same H H' → H r = none → H' r = some (.lst (us ++ vs)) → D.nx (σ.set i (some (.ref r))) H') : tAsg (tOp rCat (tVar i) (tLst tl)) (gName i) D σ H := by
  refine ⟨_, hi, h H (Same.refl H) _ ⟨Nat.le_of_lt (small1000 (by omega)), fun b hb => ?_⟩⟩
  have s1 : Same H (upd H b (.lst vs)) := same_new hb
  refine ⟨p, b, us, vs, rfl, rfl, s1 _ _ hp, upd_same, Nat.le_of_lt (small1000 hl), fun r hr => q r _ (s1.trans (same_new hr)) (s1.free hr) upd_same⟩
end
section
variable {σ : L2.St} {H : Hp} {tl : TA} {vs us : List V} {i : Nat} {D : Ends} {p : Addr} {u : TS}
theorem ss_new (h : Pl tl σ H vs) (hl : vs.length ≤ 1000) (q : ∀ p H', Same H H' → H p = none → H' p = some (.lst vs) → u D (σ.set i (some (.ref p))) H') : tSeq (tAsg (tLst tl) (gName i)) u D σ H := as_new h hl q
theorem ss_cat (hi : σ[i]? = some (some (.ref p))) (hp : H p = some (.lst us)) (h : Pl tl σ H vs) (hl : us.length + vs.length ≤ 1000)
    (q : ∀ r H', Same H H' → H r = none → H' r = some (.lst (us ++ vs)) → u D (σ.set i (some (.ref r))) H') : tSeq (tAsg (tOp rCat (tVar i) (tLst tl)) (gName i)) u D σ H := as_cat hi hp h hl q
end
/-! ### errors that are made -/
def Mds (H : Hp) : List Addr → List (Addr × List (Str × V)) → Prop
  | [], [] => True
  | a :: as, r :: rs => erAt H a r.1 r.2 ∧ Mds H as rs
  | _, _ => False
theorem Mds.same {H H' : Hp} (s : Same H H') : ∀ {as : List Addr} {rs : List (Addr × List (Str × V))}, Mds H as rs → Mds H' as rs
  | [], [], _ => trivial
  | _ :: _, _ :: _, h => ⟨erat_same s h.1, Mds.same s h.2⟩
  | [], _ :: _, h => h.elim
  | _ :: _, [], h => h.elim
theorem Mds.append {H : Hp} : ∀ {as bs : List Addr} {rs qs : List (Addr × List (Str × V))}, Mds H as rs → Mds H bs qs → Mds H (as ++ bs) (rs ++ qs)
  | [], _, [], _, _, k => k
  | _ :: _, _, _ :: _, _, h, k => ⟨h.1, Mds.append h.2 k⟩
  | [], _, _ :: _, _, h, _ => h.elim
  | _ :: _, _, [], _, h, _ => h.elim
theorem Mds.len {H : Hp} : ∀ {as : List Addr} {rs : List (Addr × List (Str × V))}, Mds H as rs → as.length = rs.length
  | [], [], _ => rfl
  | _ :: _, _ :: _, h => congrArg Nat.succ (Mds.len h.2)
  | [], _ :: _, h => h.elim
  | _ :: _, [], h => h.elim
theorem Mds.at {H : Hp} : ∀ {as : List Addr} {rs : List (Addr × List (Str × V))} {i : Nat} {r : Addr × List (Str × V)}, Mds H as rs → rs[i]? = some r → ∃ a, as[i]? = some a ∧ erAt H a r.1 r.2
  | [], [], _, _, _, e => by simp at e
  | a :: _, _ :: _, 0, _, h, e => by
    simp at e
    subst e
    exact ⟨a, rfl, h.1⟩
  | _ :: as, _ :: rs, i + 1, _, h, e => by
    obtain ⟨a, e1, e2⟩ := Mds.at (as := as) (rs := rs) (i := i) h.2 (by simpa using e)
    exact ⟨a, by simpa using e1, e2⟩
  | [], _ :: _, _, _, h, _ => h.elim
  | _ :: _, [], _, _, h, _ => h.elim
def Mk1 (te : TE) (σ : L2.St) (C : Addr) (fs : List (Str × V)) : Prop := ∀ (H : Hp) (Q : VK), (∀ a H', Same H H' → erAt H' a C fs → Q (.ref a) H') → te σ H Q
def MkL (ta : TA) (σ : L2.St) (rs : List (Addr × List (Str × V))) : Prop := ∀ (H : Hp) (Q : List V → Hp → Prop), (∀ as H', Same H H' → Mds H' as rs → Q (as.map V.ref) H') → ta σ H Q
section
variable {σ : L2.St} {H : Hp} {te : TE} {tl : TA} {C : Addr} {fs : List (Str × V)} {rs qs : List (Addr × List (Str × V))} {i : Nat} {D : Ends} {p : Addr} {as : List Addr}
theorem mkl_nil : MkL tNil σ [] := fun H Q q => q [] H (Same.refl H) trivial
theorem mkl_cons (h : Mk1 te σ C fs) (t : MkL tl σ rs) : MkL (tCons te tl) σ ((C, fs) :: rs) := fun H Q q =>
  h H _ fun a H1 s1 e1 => t H1 _ fun as H2 s2 e2 => q (a :: as) H2 (s1.trans s2) ⟨erat_same s2 e1, e2⟩
theorem er_made {H H' : Hp} {a d : Addr} (ha : H a = none) (hd : upd H a (exo a C none) d = none) (hne : d ≠ a) (e3 : ∀ b, b ≠ a → b ≠ d → H' b = upd H a (exo a C none) b) : Same H H' := fun b o e => by
  have n1 : b ≠ a := ne_of_none e ha
  have n2 : b ≠ d := fun z => by
    rw [z] at e
    rw [upd_ne hne, e] at hd
    cases hd
  rw [e3 b n1 n2, upd_ne n1]
  exact e
theorem mk1 {f : Str} {x : V} {t : TA} (h : ∀ H, Pl t σ H [x]) : Mk1 (tXm C (spI1 C f) t) σ C [(f, x)] := fun H Q q => h H H (Same.refl H) _ ⟨by simp, fun a ha =>
  ⟨a, x, rfl, upd_same, fun d H' hd hne e1 e2 e3 => ⟨rfl, q a H' (er_made ha hd hne e3) ⟨d, e1, e2⟩⟩⟩⟩
theorem mk2 {f g : Str} {x y : V} {t : TA} (h : ∀ H, Pl t σ H [x, y]) : Mk1 (tXm C (spI2 C f g) t) σ C [(g, y), (f, x)] := fun H Q q => h H H (Same.refl H) _ ⟨by simp, fun a ha =>
  ⟨a, x, y, rfl, upd_same, fun d H' hd hne e1 e2 e3 => ⟨rfl, q a H' (er_made ha hd hne e3) ⟨d, e1, e2⟩⟩⟩⟩
theorem mk3 {f g l : Str} {x y z : V} {t : TA} (h : ∀ H, Pl t σ H [x, y, z]) : Mk1 (tXm C (spI3 C f g l) t) σ C [(l, z), (g, y), (f, x)] := fun H Q q => h H H (Same.refl H) _ ⟨by simp, fun a ha =>
  ⟨a, x, y, z, rfl, upd_same, fun d H' hd hne e1 e2 e3 => ⟨rfl, q a H' (er_made ha hd hne e3) ⟨d, e1, e2⟩⟩⟩⟩
theorem mk1k {f : Str} {x : V} {t : TA} (h : ∀ H, Pl t σ H [x]) : Mk1 (tXk C 1 (spI1 C f) (fun us ws => us ++ ws.reverse) t) σ C [(f, x)] := fun H Q q => h H H (Same.refl H) _ ⟨rfl, fun a ha =>
  ⟨a, x, rfl, upd_same, fun d H' hd hne e1 e2 e3 => ⟨rfl, q a H' (er_made ha hd hne e3) ⟨d, e1, e2⟩⟩⟩⟩
theorem mk2k {f g : Str} {x y : V} {t : TA} (h : ∀ H, Pl t σ H [y, x]) : Mk1 (tXk C 2 (spI2 C f g) (fun us ws => us ++ ws.reverse) t) σ C [(g, y), (f, x)] := fun H Q q => h H H (Same.refl H) _ ⟨rfl, fun a ha =>
  ⟨a, x, y, rfl, upd_same, fun d H' hd hne e1 e2 e3 => ⟨rfl, q a H' (er_made ha hd hne e3) ⟨d, e1, e2⟩⟩⟩⟩
theorem mk3k {f g l : Str} {x y z : V} {t : TA} (h : ∀ H, Pl t σ H [z, y, x]) : Mk1 (tXk C 3 (spI3 C f g l) (fun us ws => us ++ ws.reverse) t) σ C [(l, z), (g, y), (f, x)] := fun H Q q => h H H (Same.refl H) _ ⟨rfl, fun a ha =>
  ⟨a, x, y, z, rfl, upd_same, fun d H' hd hne e1 e2 e3 => ⟨rfl, q a H' (er_made ha hd hne e3) ⟨d, e1, e2⟩⟩⟩⟩
theorem as_mk (h : MkL tl σ rs) (hl : rs.length ≤ 1000) (q : ∀ p as H', Same H H' → H' p = some (.lst (as.map V.ref)) → Mds H' as rs → D.nx (σ.set i (some (.ref p))) H') : tAsg (tLst tl) (gName i) D σ H := by
  refine h H _ fun as H1 s1 e1 => ⟨Nat.le_of_lt (small1000 (by rw [List.length_map, e1.len]; exact hl)), fun p hp => ?_⟩
  exact q p as _ (s1.trans (same_new hp)) upd_same (e1.same (same_new hp))
theorem as_mkcat (hi : σ[i]? = some (some (.ref p))) (hp : H p = some (.lst (as.map V.ref))) (hm : Mds H as rs) (h : MkL tl σ qs) (hl : rs.length + qs.length ≤ 1000)
    (q : ∀ r bs H', Same H H' → H' r = some (.lst (bs.map V.ref)) → Mds H' bs (rs ++ qs) → D.nx (σ.set i (some (.ref r))) H') : tAsg (tOp rCat (tVar i) (tLst tl)) (gName i) D σ H := by
  refine ⟨_, hi, h H _ fun bs H1 s1 e1 => ⟨Nat.le_of_lt (small1000 (by rw [List.length_map, e1.len]; omega)), fun b hb => ?_⟩⟩
  have s2 : Same H1 (upd H1 b (.lst (bs.map V.ref))) := same_new hb
  refine ⟨p, b, as.map V.ref, bs.map V.ref, rfl, rfl, s2 _ _ (s1 _ _ hp), upd_same, Nat.le_of_lt (small1000 (by rw [List.length_map, List.length_map, hm.len, e1.len]; exact hl)), fun r hr => ?_⟩
  have s3 := (s1.trans s2).trans (same_new (o := .lst (as.map V.ref ++ bs.map V.ref)) hr)
  refine q r (as ++ bs) _ s3 (by rw [upd_same, List.map_append]) ((hm.same s3).append (e1.same (s2.trans (same_new hr))))
theorem ss_mk {u : TS} (h : MkL tl σ rs) (hl : rs.length ≤ 1000) (q : ∀ p as H', Same H H' → H' p = some (.lst (as.map V.ref)) → Mds H' as rs → u D (σ.set i (some (.ref p))) H') : tSeq (tAsg (tLst tl) (gName i)) u D σ H := as_mk h hl q
theorem ss_mkcat {u : TS} (hi : σ[i]? = some (some (.ref p))) (hp : H p = some (.lst (as.map V.ref))) (hm : Mds H as rs) (h : MkL tl σ qs) (hl : rs.length + qs.length ≤ 1000)
    (q : ∀ r bs H', Same H H' → H' r = some (.lst (bs.map V.ref)) → Mds H' bs (rs ++ qs) → u D (σ.set i (some (.ref r))) H') : tSeq (tAsg (tOp rCat (tVar i) (tLst tl)) (gName i)) u D σ H := as_mkcat hi hp hm h hl q
/-- e.f of the i-th -/
theorem pv_ef {K : PySem.W.Frag} {f : Str} {l : Addr} {j n : Nat} {v : V} (hi : σ[j]? = some (some (.ref l))) (hl : SqL K H l (as.map V.ref)) (hm : Mds H as rs) (hr : rs[n]? = some (C, fs)) (T : EfC K C f) (hf : fs.lookup f = some v) : Pv (tEf K f (tOp (rIxL K) (tVar j) (tC (.int (n : Nat))))) σ H v := fun H' s Q q => by
  obtain ⟨a, e1, d, h1, h2⟩ := hm.at hr
  refine ⟨_, hi, l, as.map V.ref, _, .ref a, rfl, rfl, s.seq hl, atI_nat (by rw [List.getElem?_map, e1]; rfl), a, C, d, fs, v, rfl, s _ _ h1, s _ _ h2, T, hf, q⟩
end
end Lk

namespace Lk
open PySem PySem.Spec PyProof.Rows L2
section
variable {K : PySem.W.Frag} {tl : TE} {ta : TA} {g : TG} {tb : TS} {D : Ends} {σ : L2.St} {H : Hp}
theorem sfor {wi : TI} (q : wi σ H fun J H1 => ∃ W : Nat → Nat → L2.St → Hp → Prop, (∃ m, W 0 m σ H1) ∧ ∀ i m σ H, W i m σ H →
    (J.stop i H ∧ D.nx σ H) ∨ (J.go i H ∧ ∃ N : L2.St → Hp → Prop, (∀ σ' H', N σ' H' → ∃ m', m' < m ∧ W (i + 1) m' σ' H') ∧ ∀ x H', J.yld i H x H' → g x σ H' fun σ2 H2 => tb { D with nx := N, ct := N, bk := D.nx } σ2 H2)) : tFor wi g tb D σ H := q
theorem sils {R : It → Hp → Prop} (q : tl σ H fun x H1 => ∃ a, x = .ref a ∧ (∃ xs, SqL K H1 a xs) ∧ R (Itl K a) H1) : iList K tl σ H R := q
theorem sien {R : It → Hp → Prop} (q : ta σ H fun vs H1 => ∃ a xs, vs = [.ref a] ∧ SqL K H1 a xs ∧ R (Ite K a) H1) : iEnum K ta σ H R := q
theorem en_by {a : Addr} {xs : List V} (I : Nat → L2.St → Hp → Prop) (h0 : I 0 σ H) (hl : ∀ i σ H, i ≤ xs.length → I i σ H → SqL K H a xs)
    (ht : ∀ i x p σ H, xs[i]? = some x → I i σ H → H p = none → g (.ref p) σ (upd H p (.tup [.int (i : Nat), x])) fun σ2 H2 => tb { D with nx := I (i + 1), ct := I (i + 1), bk := D.nx } σ2 H2) (hd : ∀ σ H, I xs.length σ H → D.nx σ H) :
    ∃ W : Nat → Nat → L2.St → Hp → Prop, (∃ m, W 0 m σ H) ∧ ∀ i m σ H, W i m σ H →
      ((Ite K a).stop i H ∧ D.nx σ H) ∨ ((Ite K a).go i H ∧ ∃ N : L2.St → Hp → Prop, (∀ σ' H', N σ' H' → ∃ m', m' < m ∧ W (i + 1) m' σ' H') ∧ ∀ x H', (Ite K a).yld i H x H' → g x σ H' fun σ2 H2 => tb { D with nx := N, ct := N, bk := D.nx } σ2 H2) := by
  refine for_it walk_enum I h0 hl (fun i v σ H H' hi hI hy => ?_) hd
  obtain ⟨T, x, y, rfl, hT, rfl, e1, e2⟩ := hy
  cases Option.some.inj e1
  exact ht i y T σ H e2 hI hT
/-- i, x = (i, x) -/
theorem g_pair {i j : Nat} {x y : V} {p : Addr} {R : L2.St → Hp → Prop} (h : SqT K H p [x, y]) (q : R ((σ.set i (some x)).set j (some y)) H) : gTup K 2 (gCons (gName i) (gCons (gName j) gNil)) (.ref p) σ H R :=
  ⟨p, [x, y], rfl, h, rfl, x, [y], rfl, y, [], rfl, rfl, q⟩
/-! ### data -/
theorem dp_same {H' : Hp} (s : Same H H') : ∀ {d : PyData} {v : V}, Dp K H v d → Dp K H' v d := fun {d v} h => by
  refine Dp.rec (motive_1 := fun v d _ => Dp K H' v d) (motive_2 := fun vs ds _ => DpAll K H' vs ds) .non .bl .int .str (fun hl _ ih => .lst (s.seq hl) ih) (fun ht _ ih => .tup ?_ ih) .nil (fun _ _ a b => .cons a b) h
  rcases ht with (e | ⟨o, e⟩) | e
  · exact .inl (.inl (s _ _ e))
  · exact .inl (.inr ⟨o, s _ _ e⟩)
  · exact .inr e
theorem dp_bools : ∀ bs : List Bool, DpAll K H (bs.map V.bl) (bs.map PyData.bool)
  | [] => .nil
  | b :: bs => .cons (.bl b) (dp_bools bs)
end
section
variable {tc tu : TT} {t u : TS} {D : Ends} {σ : L2.St} {H : Hp} {Q : Bool → Hp → Prop}
theorem sor (q : tc σ H fun c H1 => if c = true then Q true H1 else tu σ H1 Q) : tOr tc tu σ H Q := q
theorem san (q : tc σ H fun c H1 => if c = true then tu σ H1 Q else Q false H1) : tAnd tc tu σ H Q := q
end
end Lk

namespace Lk
open PySem PySem.Spec PyProof.Rows L2
/-- xs + ys, xs any list that may be read -/
def rCatL (K : PySem.W.Frag) : R2 := fun x y H Q => ∃ (l b : Addr) (xs zs : List V), x = .ref l ∧ y = .ref b ∧ SqL K H l xs ∧ H b = some (.lst zs) ∧ xs.length + zs.length ≤ sizeLine ∧ ∀ r, H r = none → Q (.ref r) (upd H r (.lst (xs ++ zs)))
theorem op_catL {X : Cx} : OpR X (binaryOp .Add) (rCatL X.K) := by
  intro pins s σ H x y v u Q I rx ry ⟨l, b, xs, zs, ex, ey, hS, hB, hz, q⟩
  subst ex ey
  cases rx
  cases ry
  obtain ⟨us, r1, ⟨⟨c1, d1, e1, f1⟩, n1, g1, h1, i1, j1⟩, _⟩ := I.list hS
  obtain ⟨_, ws, n2, r2, l2, g2⟩ := I.lstM hB
  dsimp only at h1 i1 j1
  subst h1 i1 j1
  have hl : us.toArray.size + ws.toArray.size ≤ sizeLine := by
    rw [List.size_toArray, List.size_toArray, ← r1.length, ← l2]
    exact hz
  refine concat_meets ⟨_, g1, rfl⟩ ⟨_, g2, rfl⟩ noFill_list_add seq_list_add
    PySem.F.slot_list_add PySem.F.entry_list_add (PySem.F.args_list_add_2 _ _)
    (list_addW l b us.toArray ws.toArray n1 n2 none none f1 #[] hl) ⟨g1, g2, ?_⟩
  rw [show us.toArray ++ ws.toArray = (us ++ ws).toArray by simp]
  exact ⟨.ref _, _, I.lnew (t' := s.toks) (r1.append r2) (by rw [List.length_append]; exact hz), rfl, q _ I.fresh⟩
end Lk

/-! ### enumerate(tuple) -/
namespace Lk
open PySem PySem.Spec PyProof.Rows L2
open AutoSeq1 (wpAny_loadPart')
theorem enum_newT (t : Addr) (its : Array Value) (o : Obj) (hc : o.cls = .type "tuple") (hd : ∃ n, o.data = .seq its n) :
    Meets (Builtin.«enumerate.__new__» ⟨[.type "enumerate", .ref t], []⟩) (fun _ R s => s.heap.get? t = some o ∧
      R (.ok (.ret (.ref (s.heap.push { cls := .type "tuple_iterator", data := .fields #[.ref t, .int 0 0] }).objs.size)))
        { s with heap := (s.heap.push { cls := .type "tuple_iterator", data := .fields #[.ref t, .int 0 0] }).push { cls := .type "enumerate", data := .fields #[.none, .bool false, .ref s.heap.objs.size, rawInt 0, .none, .none] } }) :=
  .of_wp fun prog w A R s ⟨hl, h⟩ => by
    obtain ⟨n, hd⟩ := hd
    have hsub := sub_enumerate
    have hT : s.heap.IsTuple t its := ⟨o, hl, hc, n, hd⟩
    obtain ⟨hp, g, d, tk, os⟩ := s
    wp_walk using wpAny_loadPart' hl
    refine wpAny_stack_any fun st => wpAny_pure ?_
    split
    · rename_i c _ _ _ _ _
      cases (c == Value.type "enumerate") <;>
        (wp_walk using wpAny_loadPart' hl, wpAny_pyIter_tuple hT
         exact ⟨_, rfl, h⟩)
    · wp_walk using wpAny_loadPart' hl, wpAny_pyIter_tuple hT
      exact ⟨_, rfl, h⟩
section
variable {prog : Program} {w : World} {A : Around} {E : Value → Shared → Prop} {s : Shared}
theorem call_enumT {t : Addr} {its : Array Value} {Q : Value → Shared → Prop} (hT : s.heap.IsTuple t its)
    (h : ∀ h', IsEnum h' (s.heap.objs.size + 1) s.heap.objs.size 0 .none → h'.IsTupleIter s.heap.objs.size t 0 → (∀ b o, s.heap.get? b = some o → h'.get? b = some o) → Q (.ref (s.heap.objs.size + 1)) { s with heap := h' }) :
    wpAny (model prog w) A (call (.type "enumerate") [.ref t]) Q E s := by
  obtain ⟨o, ho, hc, hd⟩ := hT
  refine callType_new F.called_enumerate (by decide) (F.typeCall_enumerate_1 _) (F.newCall_enumerate_1 _) (fun obj => F.args_object_init_2 obj _) F.entry_enumerate_new (enum_newT t its o hc hd) ⟨ho, ?_⟩
  have z : (s.heap.push { cls := .type "tuple_iterator", data := .fields #[.ref t, .int 0 0] }).objs.size = s.heap.objs.size + 1 := Heap.size_push ..
  show _ ∧ _
  rw [z]
  have e : IsEnum ((s.heap.push { cls := .type "tuple_iterator", data := .fields #[.ref t, .int 0 0] }).push { cls := .type "enumerate", data := .fields #[.none, .bool false, .ref s.heap.objs.size, rawInt 0, .none, .none] }) (s.heap.objs.size + 1) s.heap.objs.size 0 .none := by
    have q := Heap.get?_push_size (s.heap.push { cls := .type "tuple_iterator", data := .fields #[.ref t, .int 0 0] }) (o := { cls := .type "enumerate", data := .fields #[.none, .bool false, .ref s.heap.objs.size, rawInt 0, .none, .none] }) rfl
    rw [z] at q
    exact q
  exact ⟨⟨_, e, rfl⟩, h _ e ⟨_, Heap.get?_push_of_some _ (Heap.get?_push_size _ rfl), rfl, rfl⟩ fun b o x => Heap.get?_push_of_some _ (Heap.get?_push_of_some _ x)⟩
theorem enum_endT {e it t : Addr} {i : Nat} {its : Array Value} {old : Value} {Q : Option Value → Shared → Prop} (hh : A.handled = none) (he : IsEnum s.heap e it i old) (hit : s.heap.IsTupleIter it t i) (ht : s.heap.IsTuple t its) (hx : its[i]? = none)
    (q : ∀ h', Heap.ExtBut it s.heap h' → Q none { s with heap := h' }) : wpAny (model prog w) A (pyNext (.ref e)) Q E s := by
  have ty : s.TypeIs (.ref e) "enumerate" := ⟨_, he, rfl⟩
  unfold pyNext
  refine wpAny_bind (wpAny_attempt (wpAny_callSpecial?_slot (name := Str.ofString "__next__") ty F.slot_enumerate_next (wpAny_call_entry F.slot_enumerate_next ty F.entry_enumerate_next (show wpAny _ _ (field (.ref e) 2 >>= _) _ _ _ from wpAny_bind (wpAny_field he rfl (x := .ref it) rfl ?_)) (F.args_enumerate_next_1 _))))
  refine wpAny_bind (wpAny_nextOf_tuple_end hh hit ht hx fun h' x k ⟨o, ho, hc⟩ => wpAny_bind (wpAny_isInstance (T := "StopIteration") (b := true) ⟨o, ho, hc⟩ isSubtype_stop (wpAny_pure (q _ k))))
end
/-- the tuple at a, each item in a new pair -/
def Itet (K : PySem.W.Frag) (a : Addr) : It :=
  ⟨fun i H => ∃ (xs : List V) (x : V), SqT K H a xs ∧ xs[i]? = some x, fun i H v H' => ∃ T x, v = .ref T ∧ H T = none ∧ H' = upd H T (.tup [.int (i : Nat), x]) ∧ ∀ xs, SqT K H a xs → xs[i]? = some x, fun i H => ∃ xs : List V, SqT K H a xs ∧ xs.length ≤ i⟩
theorem turn_enumT {P : Program} {w : World} {K : PySem.W.Frag} {elts : List Expr} {kk : Nat} {tpos : Pos} (a e it : Addr) (hai : a ≠ it) (hae : e ≠ a) :
    Turn P w K (.Tuple elts kk tpos) (Itet K a) [e, it] e (fun i h => (∃ old, IsEnum h e it ((i : Nat) : Int) old) ∧ h.IsTupleIter it a i ∧ e ≠ it) where
  mem := by simp
  obj := fun i h ⟨⟨old, he⟩, ⟨o, ho, hc, hd⟩, _⟩ b hb => by
    simp only [List.mem_cons, List.not_mem_nil, or_false] at hb
    rcases hb with rfl | rfl
    · exact ⟨_, he, fun v q => nomatch q⟩
    · exact ⟨o, ho, fun v q => by rw [hd] at q; cases q⟩
  keep := fun i h h' ⟨⟨old, he⟩, hi, hne⟩ k => ⟨⟨old, k e (by simp) _ he⟩, hi.at fun o q => k it (by simp) o q, hne⟩
  item := by
    intro X hP hw hK hc i pins s σ H E I hf ⟨⟨old, he⟩, hit, hne⟩ ⟨xs, x, hq, hx⟩
    subst hP hw hK
    obtain ⟨its, rv, p, hz⟩ := I.tuple hq
    obtain ⟨u, hu, ru⟩ := rv.get hx
    have hel : e < s.heap.objs.size := Heap.lt_size he
    have hil : it < s.heap.objs.size := by
      obtain ⟨_, q, _⟩ := hit
      exact Heap.lt_size q
    have hui : its.toArray[i]? = some u := by simpa using hu
    have D : Draws X.prog X.w X.A.in1 it [it, a] its.toArray.size (fun i v => its.toArray[i]? = some v) (fun i h => h.IsTupleIter it a i ∧ h.IsTuple a its.toArray) := Draws.tuple (show X.A.in1.handled = none from I.ok.hd hc) it a hai its.toArray
    refine wpAny_pyNext_enum_itemD D he ⟨hit, p⟩ (Array.getElem?_eq_some_iff.mp hui).1 hne (by simp [hne, hae]) fun y h' tk hy ho hs' hT hsz hk => ?_
    rw [hui] at hy
    cases hy
    refine ⟨_, rfl, wpAny_letOwnedTupleGo_enum (s := { s with heap := h', toks := tk + 1 }) ho fun h'' he' sb => ?_⟩
    have hT2 : h''.get? s.heap.objs.size = some { cls := .type "tuple", data := .seq #[.int i tk, u] } := (sb.2 _ (Nat.ne_of_gt hel)).trans hT
    have new : ObjOk X.prog X.w (upd H s.heap.objs.size (.tup [.int (i : Nat), x])) h'' s.heap.objs.size (.tup [.int (i : Nat), x]) :=
      ⟨by show 2 ≤ sizeLine; decide, [.int i tk, u], .cons ⟨_, rfl⟩ (.cons ru .nil), ⟨_, hT2, rfl, _, rfl⟩⟩
    have I1 : Inv X pins σ (upd H s.heap.objs.size (.tup [.int (i : Nat), x])) { s with heap := h'', toks := tk + 1 } :=
      I.turnedNew (ch := [e, it]) (fun b ob hb q => (sb.2 b (fun z => hb (by simp [z]))).trans (hk b ob (fun z => hb (by simp [z])) (fun z => hb (by simp [z])) q)) hf (Nat.le_refl _) new
    refine ⟨.ref s.heap.objs.size, _, I1, rfl, ⟨_, x, rfl, I.hok.fresh (Nat.le_refl _), rfl, fun ys hy => by rw [I.tuple_inj hy hq]; exact hx⟩, ⟨⟨u, ?_⟩, hs'.1.at fun o q => (sb.2 it (Ne.symm hne)).trans q, hne⟩, fun b hb => ?_⟩
    · rw [show ((i + 1 : Nat) : Int) = (i : Int) + 1 by omega]
      exact he'
    · have hb' : b < s.heap.objs.size := by
        simp only [List.mem_cons, List.not_mem_nil, or_false] at hb
        rcases hb with rfl | rfl
        · exact hel
        · exact hil
      rw [upd_ne (Nat.ne_of_lt hb')]
      exact (hf b hb).1
  done := by
    intro X hP hw hK hc i pins s σ H E I hf ⟨⟨old, he⟩, hit, hne⟩ ⟨xs, hq, hx⟩
    subst hP hw hK
    obtain ⟨its, rv, p, hz⟩ := I.tuple hq
    obtain ⟨f0, f1, f2, f3, f4, f5⟩ := hf it (by simp)
    have out : its.toArray[i]? = none := List.getElem?_toArray ▸ rv.none_of (List.getElem?_eq_none hx)
    exact enum_endT (I.ok.hd hc) he hit p out fun h' eb => ⟨rfl, I.turned (t' := s.toks) (fun b o hb q => eb b o hb q) f0 f1 f3 f4 f5⟩
  self := fun A i s Q E ⟨⟨_, he⟩, _⟩ h => wpAny_pyIter_enum he h
def iEnumT (K : PySem.W.Frag) (ta : TA) : TI := fun σ H R => ta σ H fun vs H1 => ∃ a xs, vs = [.ref a] ∧ SqT K H1 a xs ∧ R (Itet K a) H1
theorem pi_enumT {X : Cx} {e : Expr} {ta : TA} {p pos tpos : Pos} {elts : List Expr} {kk : Nat} (hg : Gl X "enumerate") (hm : X.mg "enumerate" = none) (ha : PA X [e] ta) (hs : starEach [e] X.env = [(false, eval e X.env)] := by rfl) :
    PI X (.Tuple elts kk tpos) (.Call (.Name "enumerate" p) [e] [] pos) (iEnumT X.K ta) := by
  refine ⟨fun pins s σ H R I h => Call_ (ld_blt I hg hm boot_enumerate (PyProof.Rows.callWith_type1 (thn (ha.run pos pins s σ H _ I h) fun us s1 ⟨vs, H1, I1, r1, a, xs, ex, hq, q⟩ => ?_) hs rfl))⟩
  subst ex
  cases r1 with
  | cons r rr =>
    cases rr
    cases r
    obtain ⟨its, rv, p', hz⟩ := I1.tuple hq
    have la : a < s1.heap.objs.size := p'.lt
    refine call_enumT p' fun h' he hit hk => wpAny_pyIter_enum he ?_
    refine ⟨s1.heap.objs.size + 1, [s1.heap.objs.size + 1, s1.heap.objs.size], _, _, H1, rfl, I1.kept (t' := s1.toks) hk, turn_enumT a (s1.heap.objs.size + 1) s1.heap.objs.size (Nat.ne_of_lt la) (Nat.ne_of_gt (Nat.lt_succ_of_lt la)), ⟨⟨.none, he⟩, hit, Nat.succ_ne_self _⟩, fun b hb => ?_, q⟩
    have hle : s1.heap.objs.size ≤ b := by
      simp only [List.mem_cons, List.not_mem_nil, or_false] at hb
      rcases hb with rfl | rfl
      · exact Nat.le_succ _
      · exact Nat.le_refl _
    exact I1.fpOk hle (I1.hok.fresh hle)
theorem walk_enumT {K : PySem.W.Frag} {a : Addr} {xs : List V} : Walk (Itet K a) xs.length (fun H => SqT K H a xs) (YPair (fun i => some (.int (i : Nat))) (fun i => xs[i]?)) :=
  ⟨fun i _ hi q => ⟨xs, xs[i], q, by simp [hi]⟩, fun _ q => ⟨xs, q, Nat.le_refl _⟩, fun i H v H' _ q ⟨T, x, h1, h2, h3, h4⟩ => ⟨T, .int (i : Nat), x, h1, h2, h3, rfl, h4 xs q⟩⟩
end Lk

namespace Lk
open PySem PySem.Spec PyProof.Rows L2
/-! ### data made of tuples alone -/
/-- tuples stay -/
def Ts (H H' : Hp) : Prop := ∀ a xs, H a = some (.tup xs) → H' a = some (.tup xs)
theorem Ts.refl (H : Hp) : Ts H H := fun _ _ e => e
theorem Ts.trans {H H1 H2 : Hp} (s : Ts H H1) (t : Ts H1 H2) : Ts H H2 := fun a xs e => t a xs (s a xs e)
theorem Ts.of {H H' : Hp} (s : Same H H') : Ts H H' := fun a xs e => s _ _ e
theorem Ts.new {H : Hp} {p : Addr} {o : HO} (h : H p = none) : Ts H (upd H p o) := Ts.of (same_new h)
theorem Ts.lst {H : Hp} {p : Addr} {xs : List V} {o : HO} (h : H p = some (.lst xs)) : Ts H (upd H p o) := fun a ys e => by
  rw [upd_ne (fun z => by rw [z, h] at e; cases e)]
  exact e
mutual
inductive Dt (H : Hp) : V → PyData → Prop
  | non : Dt H .non .none
  | bl (b : Bool) : Dt H (.bl b) (.bool b)
  | int (i : Int) : Dt H (.int i) (.int i)
  | str (x : Str) : Dt H (.str x) (.str x)
  | tup {a : Addr} {xs : List V} {ds : List PyData} : H a = some (.tup xs) → DtAll H xs ds → Dt H (.ref a) (.tuple ds)
inductive DtAll (H : Hp) : List V → List PyData → Prop
  | nil : DtAll H [] []
  | cons {v : V} {vs : List V} {d : PyData} {ds : List PyData} : Dt H v d → DtAll H vs ds → DtAll H (v :: vs) (d :: ds)
end
section
variable {K : PySem.W.Frag} {H H' : Hp}
theorem Dt.ts (s : Ts H H') {d : PyData} {v : V} (h : Dt H v d) : Dt H' v d := by
  refine Dt.rec (motive_1 := fun v d _ => Dt H' v d) (motive_2 := fun vs ds _ => DtAll H' vs ds) .non .bl .int .str (fun hl _ ih => .tup (s _ _ hl) ih) .nil (fun _ _ a b => .cons a b) h
theorem DtAll.ts (s : Ts H H') {ds : List PyData} {vs : List V} (h : DtAll H vs ds) : DtAll H' vs ds := by
  refine DtAll.rec (motive_1 := fun v d _ => Dt H' v d) (motive_2 := fun vs ds _ => DtAll H' vs ds) .non .bl .int .str (fun hl _ ih => .tup (s _ _ hl) ih) .nil (fun _ _ a b => .cons a b) h
theorem Dt.dp {d : PyData} {v : V} (h : Dt H v d) : Dp K H v d := by
  refine Dt.rec (motive_1 := fun v d _ => Dp K H v d) (motive_2 := fun vs ds _ => DpAll K H vs ds) .non .bl .int .str (fun hl _ ih => .tup (.inl (.inl hl)) ih) .nil (fun _ _ a b => .cons a b) h
theorem DtAll.dp {ds : List PyData} {vs : List V} (h : DtAll H vs ds) : DpAll K H vs ds := by
  refine DtAll.rec (motive_1 := fun v d _ => Dp K H v d) (motive_2 := fun vs ds _ => DpAll K H vs ds) .non .bl .int .str (fun hl _ ih => .tup (.inl (.inl hl)) ih) .nil (fun _ _ a b => .cons a b) h
theorem dpa_same (s : Same H H') : ∀ {ds : List PyData} {vs : List V}, DpAll K H vs ds → DpAll K H' vs ds
  | _, _, .nil => .nil
  | _, _, .cons h t => .cons (dp_same s h) (dpa_same s t)
theorem dpa_len : ∀ {vs : List V} {ds : List PyData}, DpAll K H vs ds → vs.length = ds.length
  | _, _, .nil => rfl
  | _, _, .cons _ t => congrArg Nat.succ (dpa_len t)
theorem dpa_at : ∀ {vs : List V} {ds : List PyData} {i : Nat} {v : V}, DpAll K H vs ds → vs[i]? = some v → ∃ d, ds[i]? = some d ∧ Dp K H v d
  | _, _, _, _, .nil, e => by simp at e
  | _, _, 0, _, .cons h _, e => by
    simp at e
    subst e
    exact ⟨_, rfl, h⟩
  | _, _, i + 1, _, .cons _ t, e => by
    obtain ⟨d, e1, e2⟩ := dpa_at (i := i) t (by simpa using e)
    exact ⟨d, by simpa using e1, e2⟩
theorem DtAll.len : ∀ {vs : List V} {ds : List PyData}, DtAll H vs ds → vs.length = ds.length
  | _, _, .nil => rfl
  | _, _, .cons _ t => congrArg Nat.succ t.len
theorem DtAll.at : ∀ {vs : List V} {ds : List PyData} {i : Nat} {v : V}, DtAll H vs ds → vs[i]? = some v → ∃ d, ds[i]? = some d ∧ Dt H v d
  | _, _, _, _, .nil, e => by simp at e
  | _, _, 0, _, .cons h _, e => by
    simp at e
    subst e
    exact ⟨_, rfl, h⟩
  | _, _, i + 1, _, .cons _ t, e => by
    obtain ⟨d, e1, e2⟩ := DtAll.at (i := i) t (by simpa using e)
    exact ⟨d, by simpa using e1, e2⟩
theorem DtAll.append : ∀ {vs us : List V} {ds es : List PyData}, DtAll H vs ds → DtAll H us es → DtAll H (vs ++ us) (ds ++ es)
  | _, _, _, _, .nil, k => k
  | _, _, _, _, .cons h t, k => .cons h (t.append k)
theorem dt_ints : ∀ xs : List Int, DtAll H (xs.map V.int) (xs.map PyData.int)
  | [] => .nil
  | x :: xs => .cons (.int x) (dt_ints xs)
/-! ### isinstance of data -/
def tyn : PyData → String
  | .none => "NoneType"
  | .bool _ => "bool"
  | .int _ => "int"
  | .str _ => "str"
  | .list _ => "list"
  | .tuple _ => "tuple"
  | .dict _ => "dict"
theorem tyx_dp {v : V} {d : PyData} (h : Dp K H v d) : TyX K H v (.type (tyn d)) := by
  cases h with
  | non => exact .base .non
  | bl b => exact .base (.bl b)
  | int i => exact .base (.int i)
  | str x => exact .base (.str x)
  | lst hs _ =>
    rcases hs with (e | ⟨o, e⟩) | ⟨o, its, n, e, c, _⟩
    · exact .base (.lst e)
    · exact .base (.frz e)
    · exact .kList e c
  | tup hs _ =>
    rcases hs with (e | ⟨o, e⟩) | ⟨o, its, n, e, c, _⟩
    · exact .base (.tup e)
    · exact .fTuple e
    · exact .kTuple e c
def isIntI : PyData → Bool
  | .bool _ => true
  | .int _ => true
  | _ => false
def isBoolD : PyData → Bool
  | .bool _ => true
  | _ => false
def isStrD : PyData → Bool
  | .str _ => true
  | _ => false
def isTupD : PyData → Bool
  | .tuple _ => true
  | _ => false
def isListD : PyData → Bool
  | .list _ => true
  | _ => false
theorem ki_int (d : PyData) : kitB (tyn d) "int" = some (isIntI d) := by cases d <;> simp only [tyn, isIntI] <;> decide +kernel
theorem ki_bool (d : PyData) : kitB (tyn d) "bool" = some (isBoolD d) := by cases d <;> simp only [tyn, isBoolD] <;> decide +kernel
theorem ki_str (d : PyData) : kitB (tyn d) "str" = some (isStrD d) := by cases d <;> simp only [tyn, isStrD] <;> decide +kernel
theorem ki_tup (d : PyData) : kitB (tyn d) "tuple" = some (isTupD d) := by cases d <;> simp only [tyn, isTupD] <;> decide +kernel
theorem ki_list (d : PyData) : kitB (tyn d) "list" = some (isListD d) := by cases d <;> simp only [tyn, isListD] <;> decide +kernel
theorem s_isi {v : V} {d : PyData} {n : String} {b : Bool} {Q : VK} (h : Dp K H v d) (e : kitB (tyn d) n = some b) (q : Q (.bl b) H) : rIsi K [v, .ty n] H Q := ⟨v, _, _, _, b, rfl, .ty n, tyx_dp h, kit_ty e, q⟩
theorem ki_lt (d : PyData) : PySem.W.kitAny K (.type (tyn d)) [.type "list", .type "tuple"] = some (isListD d || isTupD d) := by
  refine kitAny_cons (kit_ty (ki_list d)) (fun _ => kitAny_cons (kit_ty (ki_tup d)) (fun z => ?_) fun z => by rw [z, Bool.or_true]) fun z => by rw [z, Bool.true_or]
  rename_i y
  rw [y, z]
  rfl
theorem s_isiLT {v : V} {d : PyData} {t : Addr} {Q : VK} (h : Dp K H v d) (ht : H t = some (.tup [.ty "list", .ty "tuple"])) (q : Q (.bl (isListD d || isTupD d)) H) : rIsiT K [v, .ref t] H Q :=
  ⟨v, t, _, _, _, _, rfl, ht, .cons (.ty _) (.cons (.ty _) .nil), tyx_dp h, ki_lt d, q⟩
/-! ### what the checks tell -/
def isIntD : PyData → Bool
  | .int _ => true
  | _ => false
def withinD (d : PyData) (a b : Int) : Bool := match d with
  | .int x => decide (a ≤ x) && decide (x ≤ b)
  | _ => false
def seqD (d : PyData) (a b : Int) : Bool := match d with
  | .list ds => decide (a ≤ ds.length) && decide ((ds.length : Int) ≤ b)
  | .tuple ds => decide (a ≤ ds.length) && decide ((ds.length : Int) ≤ b)
  | _ => false
def formD (d : PyData) (n : Int) : Bool := match d with
  | .tuple ds => decide ((ds.length : Int) = n + 1) && ds.all isIntD
  | _ => false
def nextsD (d : PyData) (a b m : Int) : Bool := match d with
  | .tuple ds => decide (a ≤ ds.length) && decide ((ds.length : Int) ≤ b) && ds.all fun e => withinD e 0 (m - 1)
  | _ => false
end
section
variable {σ : L2.St} {H : Hp} {ta tb tc : TE} {Q : VK} {r r' : R2}
theorem sav (q : ta σ H fun x H1 => ∃ c, x = .bl c ∧ if c = true then tb σ H1 Q else Q (.bl false) H1) : tAndV ta tb σ H Q := q
theorem sov (q : ta σ H fun x H1 => ∃ c, x = .bl c ∧ if c = true then Q (.bl true) H1 else tb σ H1 Q) : tOrV ta tb σ H Q := q
theorem snv (q : ta σ H fun x H1 => ∃ c, x = .bl c ∧ Q (.bl (!c)) H1) : tNotV ta σ H Q := q
theorem sch (q : ta σ H fun x H1 => tb σ H1 fun y H2 => r x y H2 fun z H3 => ∃ k, z = .bl k ∧ if k = true then tc σ H3 fun z' H4 => r' y z' H4 Q else Q (.bl false) H3) : tChain r r' ta tb tc σ H Q := q
theorem pe_gint {X : Cx} {x : Str} {i : Int} {pos : Pos} (hg : Gl X x) (hm : ∃ t, X.mg x = some (.int i t)) (hd : (x == ("__debug__" : Str)) = false := by decide) : PE X (.Name x pos) (tC (.int i)) := by
  obtain ⟨t, h⟩ := hm
  exact pe_glob hg h ⟨t, rfl⟩ hd
end
section
variable {K : PySem.W.Frag} {H : Hp} {Q : VK}
theorem s_lenL {v : V} {ds : List PyData} (h : Dp K H v (.list ds)) (q : Q (.int ds.length) H) : ∃ p ys, [v] = [V.ref p] ∧ (SqL K H p ys ∨ SqT K H p ys) ∧ Q (.int ys.length) H := by
  cases h with
  | lst hs ha => exact ⟨_, _, rfl, .inl hs, by rw [dpa_len ha]; exact q⟩
theorem s_lenT {v : V} {ds : List PyData} (h : Dp K H v (.tuple ds)) (q : Q (.int ds.length) H) : ∃ p ys, [v] = [V.ref p] ∧ (SqL K H p ys ∨ SqT K H p ys) ∧ Q (.int ys.length) H := by
  cases h with
  | tup hs ha => exact ⟨_, _, rfl, .inr hs, by rw [dpa_len ha]; exact q⟩
/-- a <= i <= b, the second part behind the first one -/
theorem two_le {a i b : Int} (q : Q (.bl (decide (a ≤ i) && decide (i ≤ b))) H) : if decide (a ≤ i) = true then Q (.bl (decide (i ≤ b))) H else Q (.bl false) H := by
  by_cases h : a ≤ i
  · rw [if_pos (decide_eq_true h)]
    rw [decide_eq_true h, Bool.true_and] at q
    exact q
  · rw [if_neg (by simpa using h)]
    rw [decide_eq_false h, Bool.false_and] at q
    exact q
end
end Lk

namespace Lk
open PySem PySem.Spec PyProof.Rows L2
section
variable {K : PySem.W.Frag} {H H' : Hp}
theorem same_sqT {a : Addr} {xs : List V} (s : Same H H') (h : SqT K H a xs) : SqT K H' a xs := by
  rcases h with (e | ⟨o, e⟩) | e
  · exact .inl (.inl (s _ _ e))
  · exact .inl (.inr ⟨o, s _ _ e⟩)
  · exact .inr e
theorem dp_listI {v : V} {ds : List PyData} (h : Dp K H v (.list ds)) : ∃ a xs, v = .ref a ∧ SqL K H a xs ∧ DpAll K H xs ds := by
  cases h with
  | lst hs ha => exact ⟨_, _, rfl, hs, ha⟩
theorem dp_tupI {v : V} {ds : List PyData} (h : Dp K H v (.tuple ds)) : ∃ a xs, v = .ref a ∧ SqT K H a xs ∧ DpAll K H xs ds := by
  cases h with
  | tup hs ha => exact ⟨_, _, rfl, hs, ha⟩
theorem dp_intI {v : V} {i : Int} (h : Dp K H v (.int i)) : v = .int i := by cases h; rfl
theorem dp_strI {v : V} {x : Str} (h : Dp K H v (.str x)) : v = .str x := by cases h; rfl
/-- [e for x in t], t a tuple: item by item, where only objects are made -/
theorem tlc_mapT {σ : L2.St} {a : Addr} {xs ys : List V} {j k : Nat} {te : TE} {vs : List Nat} {Q : VK} (hj : σ[j]? = some (some (.ref a))) (hx : SqT K H a xs) (hl : ys.length = xs.length) (h3 : xs.length ≤ 1000)
    (hw : ∀ x, wipe ((wipe σ vs).set k (some x)) vs = wipe σ vs)
    (he : ∀ (i : Nat) (x y : V) (H' : Hp), xs[i]? = some x → ys[i]? = some y → Same H H' → ∀ R : VK, (∀ H'', Same H' H'' → R y H'') → te ((wipe σ vs).set k (some x)) H' R)
    (q : ∀ D H', Same H H' → H D = none → H' D = some (.lst ys) → Q (.ref D) H') : tLc (iTup K (tVar j)) (gName k) tYes te vs σ H Q := by
  refine ⟨_, hj, a, rfl, ⟨xs, hx⟩, fun D hD => lc_tup (fun i H' => Same H H' ∧ H' D = some (.lst (ys.take i))) ⟨same_new hD, upd_same⟩ (fun i H' _ h => same_sqT h.1 hx) (fun i x H' hi h => ?_) (fun H' h => ?_)⟩
  · have hlt : i < ys.length := by
      rw [hl]
      exact (List.getElem?_eq_some_iff.mp hi).1
    refine ⟨hw x, ?_⟩
    unfold tYes
    simp only [if_true]
    refine he i x ys[i] H' hi (List.getElem?_eq_getElem hlt) h.1 _ fun H2 s2 => ⟨_, s2 _ _ h.2, ?_, fun b o e => ?_, ?_⟩
    · rw [List.length_take]
      exact small1000 (by omega)
    · rw [upd_ne (ne_of_none e hD)]
      exact s2 _ _ (h.1 _ _ e)
    · rw [upd_same, List.take_succ, List.getElem?_eq_getElem hlt]
      rfl
  · rw [← hl, List.take_length] at h
    exact q D H' h.1 hD h.2
/-- the same over a list -/
theorem tlc_mapL {σ : L2.St} {a : Addr} {xs ys : List V} {j k : Nat} {te : TE} {vs : List Nat} {Q : VK} (hj : σ[j]? = some (some (.ref a))) (hx : SqL K H a xs) (hl : ys.length = xs.length) (h3 : xs.length ≤ 1000)
    (hw : ∀ x, wipe ((wipe σ vs).set k (some x)) vs = wipe σ vs)
    (he : ∀ (i : Nat) (x y : V) (H' : Hp), xs[i]? = some x → ys[i]? = some y → Same H H' → ∀ R : VK, (∀ H'', Same H' H'' → R y H'') → te ((wipe σ vs).set k (some x)) H' R)
    (q : ∀ D H', Same H H' → H D = none → H' D = some (.lst ys) → Q (.ref D) H') : tLc (iList K (tVar j)) (gName k) tYes te vs σ H Q := by
  refine ⟨_, hj, a, rfl, ⟨xs, hx⟩, fun D hD => lc_list (fun i H' => Same H H' ∧ H' D = some (.lst (ys.take i))) ⟨same_new hD, upd_same⟩ (fun i H' _ h => h.1.seq hx) (fun i x H' hi h => ?_) (fun H' h => ?_)⟩
  · have hlt : i < ys.length := by
      rw [hl]
      exact (List.getElem?_eq_some_iff.mp hi).1
    refine ⟨hw x, ?_⟩
    unfold tYes
    simp only [if_true]
    refine he i x ys[i] H' hi (List.getElem?_eq_getElem hlt) h.1 _ fun H2 s2 => ⟨_, s2 _ _ h.2, ?_, fun b o e => ?_, ?_⟩
    · rw [List.length_take]
      exact small1000 (by omega)
    · rw [upd_ne (ne_of_none e hD)]
      exact s2 _ _ (h.1 _ _ e)
    · rw [upd_same, List.take_succ, List.getElem?_eq_getElem hlt]
      rfl
  · rw [← hl, List.take_length] at h
    exact q D H' h.1 hD h.2
theorem sft {p : Addr} {xs : List V} {z : Int} {v : V} {Q : VK} (hp : SqT K H p xs) (hz : atI xs z = some v) (q : Q v H) : rIxT K (.ref p) (.int z) H Q := ⟨p, xs, z, v, rfl, rfl, hp, hz, q⟩
theorem itt_ {c : Bool} {A B : Prop} (h : c = true) (q : A) : if c = true then A else B := by rw [if_pos h]; exact q
theorem iff_ {c : Bool} {A B : Prop} (h : c = false) (q : B) : if c = true then A else B := by rw [if_neg (by rw [h]; decide)]; exact q
theorem ssll {r : V → Option Int → Option Int → Hp → VK → Prop} {te : TE} {tl th : TO} {σ : L2.St} {Q : VK} (q : te σ H fun x H1 => tl σ H1 fun l H2 => th σ H2 fun u H3 => r x l u H3 Q) : tSl r te tl th σ H Q := q
theorem spt {t : TE} {σ : L2.St} {Q : Option Int → Hp → Prop} (q : t σ H fun x H1 => ∃ i, x = .int i ∧ Q (some i) H1) : tPart t σ H Q := q
theorem snp {σ : L2.St} {Q : Option Int → Hp → Prop} (q : Q none H) : tNoPart σ H Q := q
theorem sin {i : Int} {Q : Int → Prop} (q : Q i) : ∃ j, V.int i = .int j ∧ Q j := ⟨i, rfl, q⟩
/-- t[1:] -/
theorem s_cut {a : Addr} {x : V} {ys : List V} {Q : VK} (ha : SqT K H a (x :: ys)) (q : ∀ p, H p = none → Q (.ref p) (upd H p (.tup ys))) : rSlA K (.ref a) (some 1) none H Q := by
  have e0 : HT.sIx (x :: ys).length 0 (some 1) = 1 := by
    have := HT.sIx_nat (x :: ys).length 0 1
    rw [show ((1 : Nat) : Int) = 1 from rfl] at this
    rw [this]
    simp
  have e1 : HT.sIx (x :: ys).length (x :: ys).length none = (x :: ys).length := rfl
  refine ⟨a, x :: ys, rfl, ha, fun z => ?_, fun _ p hp => ?_⟩
  · rw [e0] at z
    exact absurd z.1 (by decide)
  · have e2 : cutV (x :: ys) (some 1) none = ys := by
      unfold cutV
      rw [e0, e1]
      simp
    rw [e2]
    exact q p hp
/-- what all tells of such a list -/
theorem all_bls {ds : List PyData} {p : PyData → Bool} {D : Addr} {Q : VK} (h : H D = some (.lst (ds.map fun d => V.bl (p d)))) (q : Q (.bl (ds.all p)) H) : rAll K [V.ref D] H Q := by
  refine ⟨D, ds.map p, rfl, .inl (.inl (by rw [h, List.map_map]; rfl)), ?_⟩
  rw [List.all_map]
  exact q
end
end Lk

namespace Lk
open PySem PySem.Spec PyProof.Rows L2
/-! ### rows of programs -/
inductive LRow where
  | set (n : Str) (f : List Int) (k : Int)
  | say (f : List Int) (k : Int)
  | ask (n : Str) (k : Int)
  | choose (ks : List Int)
  | look (k : Int)
  | stop
def intsD (xs : List Int) : PyData := .tuple (xs.map .int)
def LRow.d : LRow → PyData
  | .set n f k => .tuple [.str "set", .str n, intsD f, .int k]
  | .say f k => .tuple [.str "say", intsD f, .int k]
  | .ask n k => .tuple [.str "ask", .str n, .int k]
  | .choose ks => .tuple [.str "choose", intsD ks]
  | .look k => .tuple [.str "look", .int k]
  | .stop => .tuple [.str "stop"]
/-- the row as it lies in the heap -/
def RowH (H : Hp) (v : V) : LRow → Prop
  | .set n f k => ∃ a b, v = .ref a ∧ H a = some (.tup [.str "set", .str n, .ref b, .int k]) ∧ H b = some (.tup (f.map .int))
  | .say f k => ∃ a b, v = .ref a ∧ H a = some (.tup [.str "say", .ref b, .int k]) ∧ H b = some (.tup (f.map .int))
  | .ask n k => ∃ a, v = .ref a ∧ H a = some (.tup [.str "ask", .str n, .int k])
  | .choose ks => ∃ a b, v = .ref a ∧ H a = some (.tup [.str "choose", .ref b]) ∧ H b = some (.tup (ks.map .int))
  | .look k => ∃ a, v = .ref a ∧ H a = some (.tup [.str "look", .int k])
  | .stop => ∃ a, v = .ref a ∧ H a = some (.tup [.str "stop"])
/-- what a row must be over these variables, among m rows -/
def RowOk (names : List Str) (m : Int) : LRow → Prop
  | .set n f k => n ∈ names ∧ f.length = names.length + 1 ∧ 0 ≤ k ∧ k < m
  | .say f k => f.length = names.length + 1 ∧ 0 ≤ k ∧ k < m
  | .ask n k => n ∈ names ∧ 0 ≤ k ∧ k < m
  | .choose ks => 1 ≤ ks.length ∧ ks.length ≤ 6 ∧ ∀ k ∈ ks, 0 ≤ k ∧ k < m
  | .look k => 0 ≤ k ∧ k < m
  | .stop => True
/-- its numbers reduced -/
def LRow.low (w : Nat) : LRow → LRow
  | .set n f k => .set n (f.map (· % 2 ^ w)) k
  | .say f k => .say (f.map (· % 2 ^ w)) k
  | r => r
section
variable {K : PySem.W.Frag} {H H' : Hp}
theorem RowH.ts (s : Ts H H') {v : V} {r : LRow} (h : RowH H v r) : RowH H' v r := by
  cases r with
  | set n f k => obtain ⟨a, b, e, h1, h2⟩ := h; exact ⟨a, b, e, s _ _ h1, s _ _ h2⟩
  | say f k => obtain ⟨a, b, e, h1, h2⟩ := h; exact ⟨a, b, e, s _ _ h1, s _ _ h2⟩
  | ask n k => obtain ⟨a, e, h1⟩ := h; exact ⟨a, e, s _ _ h1⟩
  | choose ks => obtain ⟨a, b, e, h1, h2⟩ := h; exact ⟨a, b, e, s _ _ h1, s _ _ h2⟩
  | look k => obtain ⟨a, e, h1⟩ := h; exact ⟨a, e, s _ _ h1⟩
  | stop => obtain ⟨a, e, h1⟩ := h; exact ⟨a, e, s _ _ h1⟩
theorem dt_intsT {b : Addr} {xs : List Int} (h : H b = some (.tup (xs.map .int))) : Dt H (.ref b) (intsD xs) := .tup h (dt_ints xs)
theorem RowH.dt {v : V} {r : LRow} (h : RowH H v r) : Dt H v r.d := by
  cases r with
  | set n f k => obtain ⟨a, b, rfl, h1, h2⟩ := h; exact .tup h1 (.cons (.str _) (.cons (.str _) (.cons (dt_intsT h2) (.cons (.int _) .nil))))
  | say f k => obtain ⟨a, b, rfl, h1, h2⟩ := h; exact .tup h1 (.cons (.str _) (.cons (dt_intsT h2) (.cons (.int _) .nil)))
  | ask n k => obtain ⟨a, rfl, h1⟩ := h; exact .tup h1 (.cons (.str _) (.cons (.str _) (.cons (.int _) .nil)))
  | choose ks => obtain ⟨a, b, rfl, h1, h2⟩ := h; exact .tup h1 (.cons (.str _) (.cons (dt_intsT h2) .nil))
  | look k => obtain ⟨a, rfl, h1⟩ := h; exact .tup h1 (.cons (.str _) (.cons (.int _) .nil))
  | stop => obtain ⟨a, rfl, h1⟩ := h; exact .tup h1 (.cons (.str _) .nil)
theorem RowH.ref {v : V} {r : LRow} (h : RowH H v r) : ∃ a xs, v = .ref a ∧ H a = some (.tup xs) := by
  cases r with
  | set n f k => obtain ⟨a, b, e, h1, h2⟩ := h; exact ⟨a, _, e, h1⟩
  | say f k => obtain ⟨a, b, e, h1, h2⟩ := h; exact ⟨a, _, e, h1⟩
  | ask n k => obtain ⟨a, e, h1⟩ := h; exact ⟨a, _, e, h1⟩
  | choose ks => obtain ⟨a, b, e, h1, h2⟩ := h; exact ⟨a, _, e, h1⟩
  | look k => obtain ⟨a, e, h1⟩ := h; exact ⟨a, _, e, h1⟩
  | stop => obtain ⟨a, e, h1⟩ := h; exact ⟨a, _, e, h1⟩
/-- a list of rows -/
inductive RowsH (H : Hp) : List V → List LRow → Prop
  | nil : RowsH H [] []
  | cons {v : V} {vs : List V} {r : LRow} {rs : List LRow} : RowH H v r → RowsH H vs rs → RowsH H (v :: vs) (r :: rs)
theorem RowsH.ts (s : Ts H H') : ∀ {vs : List V} {rs : List LRow}, RowsH H vs rs → RowsH H' vs rs
  | _, _, .nil => .nil
  | _, _, .cons h t => .cons (h.ts s) (t.ts s)
theorem RowsH.len : ∀ {vs : List V} {rs : List LRow}, RowsH H vs rs → vs.length = rs.length
  | _, _, .nil => rfl
  | _, _, .cons _ t => congrArg Nat.succ t.len
theorem RowsH.at : ∀ {vs : List V} {rs : List LRow} {i : Nat} {v : V}, RowsH H vs rs → vs[i]? = some v → ∃ r, rs[i]? = some r ∧ RowH H v r
  | _, _, _, _, .nil, e => by simp at e
  | _, _, 0, _, .cons h _, e => by
    simp at e
    subst e
    exact ⟨_, rfl, h⟩
  | _, _, i + 1, _, .cons _ t, e => by
    obtain ⟨d, e1, e2⟩ := RowsH.at (i := i) t (by simpa using e)
    exact ⟨d, by simpa using e1, e2⟩
theorem RowsH.get : ∀ {vs : List V} {rs : List LRow} {i : Nat} {r : LRow}, RowsH H vs rs → rs[i]? = some r → ∃ v, vs[i]? = some v ∧ RowH H v r
  | _, _, _, _, .nil, e => by simp at e
  | _, _, 0, _, .cons h _, e => by
    simp at e
    subst e
    exact ⟨_, rfl, h⟩
  | _, _, i + 1, _, .cons _ t, e => by
    obtain ⟨d, e1, e2⟩ := RowsH.get (i := i) t (by simpa using e)
    exact ⟨d, by simpa using e1, e2⟩
theorem atI_nat {α : Type} {xs : List α} {i : Nat} {x : α} (h : xs[i]? = some x) : atI xs (i : Int) = some x := by
  have hlt := (List.getElem?_eq_some_iff.mp h).1
  unfold atI ixN
  rw [if_pos (by omega), if_pos (by omega)]
  exact h
theorem RowsH.append : ∀ {vs us : List V} {rs qs : List LRow}, RowsH H vs rs → RowsH H us qs → RowsH H (vs ++ us) (rs ++ qs)
  | _, _, _, _, .nil, k => k
  | _, _, _, _, .cons h t, k => .cons h (t.append k)
theorem RowsH.dt : ∀ {vs : List V} {rs : List LRow}, RowsH H vs rs → DtAll H vs (rs.map LRow.d)
  | _, _, .nil => .nil
  | _, _, .cons h t => .cons h.dt t.dt
/-! ### names -/
def letD (c : Nat) : Bool := decide (97 ≤ c) && decide (c ≤ 122)
def nameS (s : Str) : Bool := decide (1 ≤ s.length) && decide (s.length ≤ 8) && s.cps.toList.all letD
def nameD : PyData → Bool
  | .str s => nameS s
  | _ => false
theorem lex1 (a b : Nat) : decide ([a] < [b]) = decide (a < b) := by
  refine decide_eq_decide.mpr ⟨fun h => ?_, fun h => ?_⟩
  · cases h with
    | rel h => exact h
    | cons h => cases h
  · exact .rel h
/-- [e for c in s] -/
theorem tlc_mapS {σ : L2.St} {z : Str} {ys : List V} {j k : Nat} {te : TE} {vs : List Nat} {Q : VK} (hj : σ[j]? = some (some (.str z))) (hl : ys.length = z.cps.size) (h3 : z.cps.size ≤ 1000)
    (hw : ∀ x, wipe ((wipe σ vs).set k (some x)) vs = wipe σ vs)
    (he : ∀ (i c : Nat) (y : V) (H' : Hp), z.cps[i]? = some c → ys[i]? = some y → Same H H' → ∀ R : VK, (∀ H'', Same H' H'' → R y H'') → te ((wipe σ vs).set k (some (.str ⟨#[c]⟩))) H' R)
    (q : ∀ D H', Same H H' → H D = none → H' D = some (.lst ys) → Q (.ref D) H') : tLc (iStr (tVar j)) (gName k) tYes te vs σ H Q := by
  refine ⟨_, hj, z, rfl, fun D hD => lc_it walk_str (fun i H' => Same H H' ∧ H' D = some (.lst (ys.take i))) ⟨same_new hD, upd_same⟩ (fun _ _ _ _ => trivial) (fun i x H1 H' hi h hy => ?_) (fun H' h => ?_)⟩
  · obtain ⟨rfl, c, hc, rfl⟩ := hy
    have hlt : i < ys.length := by
      rw [hl]
      exact hi
    refine ⟨hw _, ?_⟩
    unfold tYes
    simp only [if_true]
    refine he i c ys[i] H' hc (List.getElem?_eq_getElem hlt) h.1 _ fun H2 s2 => ⟨_, s2 _ _ h.2, ?_, fun b o e => ?_, ?_⟩
    · rw [List.length_take]
      exact small1000 (by omega)
    · rw [upd_ne (ne_of_none e hD)]
      exact s2 _ _ (h.1 _ _ e)
    · rw [upd_same, List.take_succ, List.getElem?_eq_getElem hlt]
      rfl
  · rw [← hl, List.take_length] at h
    exact q D H' h.1 hD h.2
/-- a list or a tuple -/
def SqE (K : PySem.W.Frag) (H : Hp) (p : Addr) (xs : List V) : Prop := SqL K H p xs ∨ SqT K H p xs
theorem SqE.same (s : Same H H') {p : Addr} {xs : List V} (h : SqE K H p xs) : SqE K H' p xs := h.imp s.seq (same_sqT s)
theorem inV_str {x : Str} : ∀ {ns : List Str}, x ∈ ns → inV (.str x) (ns.map V.str) = true
  | [], h => by cases h
  | n :: ns, h => by
    rw [List.map_cons]
    unfold inV
    rw [List.any_cons, Bool.or_eq_true]
    rcases List.mem_cons.mp h with rfl | h
    · exact .inl (by show (x == x) = true; exact beq_self_eq_true x)
    · exact .inr (inV_str h)
theorem flat_strs (ns : List Str) : (ns.map V.str).all flatV = true := by
  rw [List.all_map]
  exact List.all_eq_true.mpr fun _ _ => rfl
end
end Lk

namespace Lk
open PySem PySem.Spec PyProof.Rows L2
/-! ### a list or a tuple, whichever was handed in -/
section
variable {X : Cx} {tg e : Expr} {te : TE}
def rSlE (K : PySem.W.Frag) : V → Option Int → Option Int → Hp → VK → Prop := fun x lo hi H Q => rSlL K x lo hi H Q ∨ rSlA K x lo hi H Q
theorem sl_either : SlR X (rSlE X.K) := sl_list.or sl_tupA
def rTupOf (K : PySem.W.Frag) : List V → Hp → VK → Prop := fun xs H Q => ∃ p ys, xs = [.ref p] ∧ ((SqL K H p ys ∧ ∀ l, H l = none → Q (.ref l) (upd H l (.tup ys))) ∨ (SqT K H p ys ∧ Q (.ref p) H))
theorem call_tupOf : CallR X (.type "tuple") (rTupOf X.K) := call_tuple_of
def iEither (K : PySem.W.Frag) (te : TE) : TI := fun σ H R => iList K te σ H R ∨ iTup K te σ H R
theorem pi_either (he : PE X e te) : PI X tg e (iEither X.K te) := ⟨fun pins s σ H R I h => h.elim ((pi_list he).run pins s σ H R I) ((pi_tup he).run pins s σ H R I)⟩
def iEnumE (K : PySem.W.Frag) (ta : TA) : TI := fun σ H R => iEnum K ta σ H R ∨ iEnumT K ta σ H R
theorem pi_enumE {ta : TA} {p pos tpos : Pos} {elts : List Expr} {kk : Nat} (hg : Gl X "enumerate") (hm : X.mg "enumerate" = none) (ha : PA X [e] ta) (hs : starEach [e] X.env = [(false, eval e X.env)] := by rfl) :
    PI X (.Tuple elts kk tpos) (.Call (.Name "enumerate" p) [e] [] pos) (iEnumE X.K ta) := ⟨fun pins s σ H R I h => h.elim ((pi_enum hg hm ha hs).run pins s σ H R I) ((pi_enumT hg hm ha hs).run pins s σ H R I)⟩
end
section
variable {K : PySem.W.Frag} {H H' : Hp} {σ : L2.St} {a : Addr} {xs : List V}
theorem sIx_take {n i : Nat} (hi : i < n) : HT.sIx n n (some (i : Int)) = i := by
  rw [HT.sIx_nat]
  omega
theorem cut_take {i : Nat} (hi : i < xs.length) : cutV xs none (some (i : Int)) = xs.take i := by
  unfold cutV
  rw [sIx_take hi, show HT.sIx xs.length 0 none = 0 from rfl]
  simp
/-- xs[:i] -/
theorem s_take {i : Nat} {Q : VK} (hx : SqE K H a xs) (hi : i < xs.length) (q : ∀ p H', Same H H' → SqE K H' p (xs.take i) → Q (.ref p) H') : rSlE K (.ref a) none (some (i : Int)) H Q := by
  rcases hx with hx | hx
  · refine .inl ⟨a, xs, rfl, hx, fun p hp => ?_⟩
    rw [cut_take hi]
    exact q p _ (same_new hp) (.inl (SqL.of upd_same))
  · refine .inr ⟨a, xs, rfl, hx, fun z => ?_, fun _ p hp => ?_⟩
    · have := z.2
      rw [sIx_take hi] at this
      omega
    · rw [cut_take hi]
      exact q p _ (same_new hp) (.inr (SqT.of upd_same))
/-- for i, x in enumerate(xs) -/
theorem for_enE {g : TG} {tb : TS} {D : Ends} {j : Nat} (I : Nat → L2.St → Hp → Prop) (hj : σ[j]? = some (some (.ref a))) (hx : SqE K H a xs) (h0 : I 0 σ H) (hS : ∀ i σ' H', I i σ' H' → Same H H')
    (ht : ∀ (i : Nat) (x : V) p σ' H', xs[i]? = some x → I i σ' H' → H' p = none → g (.ref p) σ' (upd H' p (.tup [.int (i : Nat), x])) fun σ2 H2 => tb { D with nx := I (i + 1), ct := I (i + 1), bk := D.nx } σ2 H2)
    (hd : ∀ σ' H', I xs.length σ' H' → D.nx σ' H') : tFor (iEnumE K (tCons (tVar j) tNil)) g tb D σ H := by
  rcases hx with hx | hx
  · exact .inl ⟨_, hj, a, xs, rfl, hx, en_by I h0 (fun i σ H' _ h => (hS i σ H' h).seq hx) ht hd⟩
  · refine .inr ⟨_, hj, a, xs, rfl, hx, for_it walk_enumT I h0 (fun i σ H' _ h => same_sqT (hS i σ H' h) hx) (fun i v σ' H1 H2 hi hI hy => ?_) hd⟩
    obtain ⟨T, x, y, rfl, hT, rfl, e1, e2⟩ := hy
    cases Option.some.inj e1
    exact ht i y T σ' H1 e2 hI hT
theorem tlc_mapE {ys : List V} {j k : Nat} {te : TE} {vs : List Nat} {Q : VK} (hj : σ[j]? = some (some (.ref a))) (hx : SqE K H a xs) (hl : ys.length = xs.length) (h3 : xs.length ≤ 1000)
    (hw : ∀ x, wipe ((wipe σ vs).set k (some x)) vs = wipe σ vs)
    (he : ∀ (i : Nat) (x y : V) (H' : Hp), xs[i]? = some x → ys[i]? = some y → Same H H' → ∀ R : VK, (∀ H'', Same H' H'' → R y H'') → te ((wipe σ vs).set k (some x)) H' R)
    (q : ∀ D H', Same H H' → H D = none → H' D = some (.lst ys) → Q (.ref D) H') : tLc (iEither K (tVar j)) (gName k) tYes te vs σ H Q := by
  rcases hx with hx | hx
  · exact Or.inl (tlc_mapL hj hx hl h3 hw he q)
  · exact Or.inr (tlc_mapT hj hx hl h3 hw he q)
/-- tuple(xs) -/
theorem s_tupE {R : VK} (hx : SqE K H a xs) (q : ∀ p H', Same H H' → SqT K H' p xs → R (.ref p) H') : rTupOf K [V.ref a] H R := by
  rcases hx with hx | hx
  · exact ⟨a, xs, rfl, .inl ⟨hx, fun l hl => q l _ (same_new hl) (SqT.of upd_same)⟩⟩
  · exact ⟨a, xs, rfl, .inr ⟨hx, q a _ (Same.refl _) hx⟩⟩
/-- [f(row, ..) for row in rows] -/
theorem tlc_rowsE {rs : List LRow} {j k : Nat} {te : TE} {vs : List Nat} {Q : VK} (f : LRow → LRow) (hj : σ[j]? = some (some (.ref a))) (hx : SqE K H a xs) (hr : RowsH H xs rs) (h3 : xs.length ≤ 1000)
    (hw : ∀ x, wipe ((wipe σ vs).set k (some x)) vs = wipe σ vs)
    (he : ∀ (i : Nat) (x : V) (r : LRow) (H' : Hp), rs[i]? = some r → RowH H' x r → Same H H' → ∀ R : VK, (∀ u H'', Same H' H'' → RowH H'' u (f r) → R u H'') → te ((wipe σ vs).set k (some x)) H' R)
    (q : ∀ D ys H', Same H H' → H D = none → H' D = some (.lst ys) → RowsH H' ys (rs.map f) → Q (.ref D) H') : tLc (iEither K (tVar j)) (gName k) tYes te vs σ H Q := by
  have step : ∀ D, H D = none → ∀ i x H', xs[i]? = some x → (Same H H' ∧ ∃ ys, H' D = some (.lst ys) ∧ RowsH H' ys ((rs.take i).map f)) → gName k x (wipe σ vs) H' fun σ2 H2 => wipe σ2 vs = wipe σ vs ∧ tYes σ2 H2 fun b H3 =>
      if b = true then te σ2 H3 fun y H4 => ∃ acc, H4 D = some (.lst acc) ∧ acc.length < sizeLine ∧ (Same H (upd H4 D (.lst (acc ++ [y]))) ∧ ∃ ys, (upd H4 D (.lst (acc ++ [y]))) D = some (.lst ys) ∧ RowsH (upd H4 D (.lst (acc ++ [y]))) ys ((rs.take (i + 1)).map f)) else (Same H H3 ∧ ∃ ys, H3 D = some (.lst ys) ∧ RowsH H3 ys ((rs.take (i + 1)).map f)) := by
    intro D hD i x H' hi h
    obtain ⟨s1, ys, hys, hrs⟩ := h
    obtain ⟨r, hri, hrv⟩ := hr.at hi
    have hlen := hrs.len
    refine ⟨hw _, ?_⟩
    unfold tYes
    simp only [if_true]
    refine he i x r H' hri (hrv.ts (Ts.of s1)) s1 _ fun u H2 s2 hu => ⟨ys, s2 _ _ hys, ?_, fun b o e => ?_, _, upd_same, ?_⟩
    · rw [hlen, List.length_map, List.length_take]
      have := hr.len
      exact small1000 (by omega)
    · rw [upd_ne (ne_of_none e hD)]
      exact s2 _ _ (s1 _ _ e)
    · have t1 : Ts H2 (upd H2 D (.lst (ys ++ [u]))) := Ts.lst (s2 _ _ hys)
      rw [List.take_succ, hri, List.map_append]
      exact ((hrs.ts (Ts.of s2)).ts t1).append (.cons (hu.ts t1) .nil)
  have start : ∀ D, H D = none → Same H (upd H D (.lst [])) ∧ ∃ ys, (upd H D (.lst [])) D = some (.lst ys) ∧ RowsH (upd H D (.lst [])) ys ((rs.take 0).map f) := fun D hD => ⟨same_new hD, [], upd_same, .nil⟩
  have fin : ∀ D, H D = none → ∀ H', (Same H H' ∧ ∃ ys, H' D = some (.lst ys) ∧ RowsH H' ys ((rs.take xs.length).map f)) → Q (.ref D) H' := fun D hD H' ⟨s1, ys, h1, h2⟩ => by
    rw [hr.len, List.take_length] at h2
    exact q D ys H' s1 hD h1 h2
  rcases hx with hx | hx
  · exact Or.inl ⟨_, hj, a, rfl, ⟨xs, hx⟩, fun D hD => lc_list (fun i H' => Same H H' ∧ ∃ ys, H' D = some (.lst ys) ∧ RowsH H' ys ((rs.take i).map f)) (start D hD) (fun i H' _ h => h.1.seq hx) (step D hD) (fin D hD)⟩
  · exact Or.inr ⟨_, hj, a, rfl, ⟨xs, hx⟩, fun D hD => lc_tup (fun i H' => Same H H' ∧ ∃ ys, H' D = some (.lst ys) ∧ RowsH H' ys ((rs.take i).map f)) (start D hD) (fun i H' _ h => same_sqT h.1 hx) (step D hD) (fin D hD)⟩
/-! ### all stays but for one object -/
def Bar (x : Addr) (H H' : Hp) : Prop := ∀ b o, b ≠ x → H b = some o → H' b = some o
theorem Bar.refl {x : Addr} : Bar x H H := fun _ _ _ e => e
theorem Bar.of {x : Addr} (s : Same H H') : Bar x H H' := fun b o _ e => s b o e
theorem Bar.upd {x : Addr} {o : HO} : Bar x H (upd H x o) := fun b u n e => by rw [upd_ne n]; exact e
theorem Bar.trans {x : Addr} {H1 : Hp} (s : Bar x H H1) (t : Bar x H1 H') : Bar x H H' := fun b o n e => t b o n (s b o n e)
theorem Bar.ts {x C dx : Addr} {fs : List (Str × V)} (s : Bar x H H') (hx : H x = some (.ins C dx fs)) : Ts H H' := fun b ys e => s b _ (fun z => by rw [z, hx] at e; cases e) e
theorem Bar.sqT {x C dx : Addr} {fs : List (Str × V)} (s : Bar x H H') (hx : H x = some (.ins C dx fs)) (h : SqT K H a xs) : SqT K H' a xs := by
  rcases h with (e | ⟨o, e⟩) | e
  · exact .inl (.inl (s _ _ (fun z => by rw [z, hx] at e; cases e) e))
  · exact .inl (.inr ⟨o, s _ _ (fun z => by rw [z, hx] at e; cases e) e⟩)
  · exact .inr e
theorem Bar.sqL {x C dx : Addr} {fs : List (Str × V)} (s : Bar x H H') (hx : H x = some (.ins C dx fs)) (h : SqL K H a xs) : SqL K H' a xs := by
  rcases h with (e | ⟨o, e⟩) | e
  · exact .inl (.inl (s _ _ (fun z => by rw [z, hx] at e; cases e) e))
  · exact .inl (.inr ⟨o, s _ _ (fun z => by rw [z, hx] at e; cases e) e⟩)
  · exact .inr e
theorem Bar.sqE {x C dx : Addr} {fs : List (Str × V)} (s : Bar x H H') (hx : H x = some (.ins C dx fs)) (h : SqE K H a xs) : SqE K H' a xs := h.imp (s.sqL hx) (s.sqT hx)
theorem sfl {ta tv : TE} {f : Str} {D : Ends} (q : tv σ H fun y H1 => ta σ H1 fun x H2 => ∃ a C dx fs, x = .ref a ∧ H2 a = some (.ins C dx fs) ∧ Cls K C ∧ NoAttr K C f ∧ fs.length < 1000 ∧ D.nx σ (L2.upd H2 a (.ins C dx (putF f y fs)))) : sFld K ta tv f D σ H := q
theorem sfd {ta : TE} {f : Str} {R : VK} (q : ta σ H fun x H1 => ∃ a C dx fs v, x = .ref a ∧ H1 a = some (.ins C dx fs) ∧ Cls K C ∧ NoAttr K C f ∧ fs.lookup f = some v ∧ R v H1) : tFld K ta f σ H R := q
/-- a program in the heap, its numbers reduced -/
def prF (w : Int) (tv tr : Addr) : List (Str × V) := [("width", .int w), ("variables", .ref tv), ("rows", .ref tr)]
def ProgO (K : PySem.W.Frag) (C : Addr) (H : Hp) (p : Addr) (w : Nat) (ns : List Str) (rs : List LRow) : Prop :=
  ∃ dx tv tr vs, H p = some (.ins C dx (prF w tv tr)) ∧ SqT K H tv (ns.map V.str) ∧ SqT K H tr vs ∧ RowsH H vs rs
theorem sqe_seq {ds : List PyData} (h : SqE K H a xs) (hd : DpAll K H xs ds) : ∃ d, Dp K H (.ref a) d ∧ ∀ lo hi : Int, lo ≤ ds.length → (ds.length : Int) ≤ hi → seqD d lo hi = true := by
  rcases h with h | h
  · exact ⟨_, .lst h hd, fun lo hi h1 h2 => by simp [seqD, h1, h2]⟩
  · exact ⟨_, .tup h hd, fun lo hi h1 h2 => by simp [seqD, h1, h2]⟩
theorem dp_strs : ∀ ns : List Str, DpAll K H (ns.map V.str) (ns.map PyData.str)
  | [] => .nil
  | n :: ns => .cons (.str n) (dp_strs ns)
theorem inV_not {x : Str} {ns : List Str} (h : x ∉ ns) : inV (.str x) (ns.map V.str) = false := by
  unfold inV
  rw [List.any_map, List.any_eq_false]
  intro y hy
  show ¬ (y == x) = true
  exact fun z => h (eq_of_beq z ▸ hy)
theorem nodup_take {ns : List Str} {i : Nat} {x : Str} (nd : ns.Nodup) (hx : ns[i]? = some x) : x ∉ ns.take i := fun h => by
  obtain ⟨j, hj⟩ := List.getElem?_of_mem h
  have hlt : j < i := by
    have := (List.getElem?_eq_some_iff.mp hj).1
    rw [List.length_take] at this
    omega
  rw [List.getElem?_take_of_lt hlt] at hj
  have h1 := (List.getElem?_eq_some_iff.mp hj).1
  have := (List.getElem?_inj h1 nd).mp (hj.trans hx.symm)
  omega
end
end Lk

/-! own == and != with either answer -/
namespace LkN
open PySem PySem.Spec PyProof.Rows PySem.SeqAt
section
variable {M : Model} {prog : Program} {w : World} {A : Around} {E : Value → Shared → Prop} {s : Shared} {K : PySem.W.Frag} {x y C f : Addr} {ox oy : Obj} {od oe : Option Obj}
theorem objNe_body (X : K.In s.heap) (I : PySem.W.InstAt s.heap x ox C od) (hs : PySem.W.findIn K (.ref C) "__eq__" = some (some (.ref f))) (hf : PySem.W.isFn K (.ref f) = true) (hu : A.units < cLine) {Q : Fin → Shared → Prop}
    (hcall : wpAny (model prog w) A (call (.ref f) [.ref x, .ref y]) (fun v s' => ∃ b, v = .bool b ∧ Q (.done (.ret (.bool (!b)))) s') E s) :
    wpAny (model prog w) A (Builtin.«object.__ne__» ⟨[.ref x, .ref y], []⟩) Q E s := by
  unfold Builtin.«object.__ne__»
  repeat (first
    | with_reducible refine wpAny_cRoomFor hu ?_
    | (refine wpAny_bind (m := callSpecialIfBound? (.ref x) (Str.ofString "__eq__") [.ref y])
        (PySem.W.ifBound_K X I hs hf (wpAny_mono hcall (fun r s' hr => by
          obtain ⟨b, rfl, hq⟩ := hr
          repeat (first | exact hq | exact wpAny_pure hq | exact wpAny_truthy_bool hq | (refine wpAny_bind (m := truthy (.bool _)) (wpAny_truthy_bool ?_)) | wp_step)) fun _ _ e => e)))
    | wp_step)
theorem call_objNe {Q : Value → Shared → Prop} (X : K.In s.heap) (I : PySem.W.InstAt s.heap x ox C od) (hm : PySem.W.mroIn K C (.type "object") = some true) (hs : PySem.W.findIn K (.ref C) "__eq__" = some (some (.ref f))) (hf : PySem.W.isFn K (.ref f) = true) (hu : A.in1.units < cLine)
    (hcall : wpAny (model prog w) A.in1 (call (.ref f) [.ref x, .ref y]) (fun v s' => ∃ b, v = .bool b ∧ Q (.bool (!b)) s') E s) :
    wpAny (model prog w) A (call (.builtin "object.__ne__") [.ref x, .ref y]) Q E s :=
  wpAny_call (codeAny_call_builtin F.cmp_object.ne.plain F.cmpEntry_ne (PySem.W.check_slot F.cmpKind_ne F.cmpSplit_ne (I.type.andThen (PySem.W.looks_mroIn X hm)) (F.cmpArgs_ne _ _)
    (objNe_body (A := A.in1) X I hs hf hu (wpAny_mono hcall (fun v s' hv => by obtain ⟨b, e, q⟩ := hv; exact ⟨b, e, q⟩) fun _ _ e => e))))
theorem ifBound_objNe {args : List Value} {Q : Option Value → Shared → Prop} (X : K.In s.heap) (I : PySem.W.InstAt s.heap x ox C od) (hs : PySem.W.findIn K (.ref C) "__ne__" = some (some (.builtin "object.__ne__")))
    (h : wpAny M A (call (.builtin "object.__ne__") (.ref x :: args)) (fun v => Q (some v)) E s) : wpAny M A (callSpecialIfBound? (.ref x) "__ne__" args) Q E s := by
  simp only [callSpecialIfBound?, bindSpecialIfBound?]
  refine wpAny_holding (wpAny_bind (wpAny_bind (wpAny_bind (I.type.here ((PySem.W.looks_findIn X hs).here ?_)))))
  refine wpAny_bind (wpAny_askSetting (wpAny_ite ?_))
  have fin : wpAny M A (call (.builtin "object.__ne__") ([.ref x] ++ args) >>= fun v => pure (some v)) Q E s := wpAny_bind (wpAny_mono h (fun v s' h' => wpAny_pure h') fun _ _ h' => h')
  split
  · exact wpAny_bind (wpAny_of_eq (F.cmp_object.ne.bind _) (wpAny_pure (by exact fin)))
  · exact wpAny_tryCatch (wpAny_bind (wpAny_of_eq (F.cmp_object.ne.bind _) (wpAny_pure (by exact fin))))
theorem rc_ne {Q : Value → Shared → Prop} (X : K.In s.heap) (I : PySem.W.InstAt s.heap x ox C od) (J : PySem.W.InstAt s.heap y oy C oe) (hm : PySem.W.mroIn K C (.type "object") = some true) (hs : PySem.W.findIn K (.ref C) "__eq__" = some (some (.ref f))) (hn : PySem.W.findIn K (.ref C) "__ne__" = some (some (.builtin "object.__ne__"))) (hf : PySem.W.isFn K (.ref f) = true) (hu : A.units + 1 < cLine)
    (hcall : wpAny (model prog w) A.in1 (call (.ref f) [.ref x, .ref y]) (fun v s' => ∃ b, v = .bool b ∧ Q (.bool (!b)) s') E s) :
    wpAny (model prog w) A (richCompare .NotEq (.ref x) (.ref y)) Q E s := by
  have one : wpAny (model prog w) A (tryCompare (.ref x) "__ne__" (.ref y)) (fun r s' => ∃ b, r = some (.bool b) ∧ Q (.bool b) s') E s := by
    unfold tryCompare
    refine wpAny_bind (ifBound_objNe X I hn (call_objNe X I hm hs hf hu (wpAny_mono hcall (fun v s' hv => ?_) fun _ _ e => e)))
    obtain ⟨b, rfl, hq⟩ := hv
    refine ⟨b, rfl, ?_⟩
    exact wpAny_pure ⟨!b, rfl, hq⟩
  simp only [richCompare, cmpInfo_NotEq, oneThing_ref]
  refine wpAny_holding (wpAny_bind (wpAny_cRoomFor (Nat.lt_of_succ_lt hu) ?_))
  refine wpAny_bind (I.type.here (wpAny_bind (J.type.here ?_)))
  rw [show (Value.ref C != Value.ref C) = false from by simp]
  simp only [Bool.false_eq_true, if_false]
  refine wpAny_bind (wpAny_pure ?_)
  simp only [Bool.false_eq_true, if_false]
  refine wpAny_bind (wpAny_mono one (fun r s' z => ?_) fun _ _ e => e)
  obtain ⟨b, rfl, hq⟩ := z
  first | exact wpAny_pure hq | exact wpAny_pure (wpAny_pure hq)
end
end LkN

namespace Lk
open PySem PySem.Spec PyProof.Rows L2
section
variable {X : Cx} {CX : CXT} {n : Nat} {C f : Addr} {fd : FuncData} {ps : List Str} {sp : Sp} {E : XK}
/-- the own == , called at A below the body X -/
theorem run_own {A : Around} {pins : List (Addr × Obj)} {σ : L2.St} {H : Hp} {s : Shared} {vs : List V} {us : List Value} {R : VK} (F : FnOk X.prog X.w X.K X.mg X.base CX n f fd ps sp) (hb : Binds X.K fd ps []) (hx : Passes CX X E) (sb : Sub X n A)
    (I : Inv X pins σ H s) (r2 : Vals vs us) (hsp : sp vs H R E) : wpAny (model X.prog X.w) A (call (.ref f) us) (fun r s' => ∃ z H', Inv X pins σ H' s' ∧ RelV z r ∧ R z H') X.xe s := by
  have e0 : Env0 X.prog X.w X.K X.mg X.base A X.stack s H := by
    have e := I.env0
    exact ⟨by rw [sb.fr]; exact e.frames, e.mod, e.bs, e.bsz, e.funs, e.frf, e.hok, e.bare⟩
  have hl := F.len _ _ _ _ hsp
  refine wpAny_call (codeAny_mono (F.run A X.stack s H ⟨us, []⟩ us vs _ E sb.room e0 (by
    have := hb s us I.kIn (by rw [List.append_nil, ← r2.length]; exact hl)
    simpa using this) r2 hsp) fun r s' hq => ?_)
  cases r with
  | error e => exact hx pins σ H s e s' I hq
  | ok fl =>
    cases fl with
    | ret w =>
      obtain ⟨z, H', I', rz, q⟩ := I.after hq
      exact ⟨z, H', I', rz, q⟩
    | next => exact False.elim hq
    | brk => exact False.elim hq
    | cont => exact False.elim hq
theorem run_eq {A : Around} {pins : List (Addr × Obj)} {σ : L2.St} {H : Hp} {s : Shared} {x y : V} {u v : Value} {R : VK} (F : FnOk X.prog X.w X.K X.mg X.base CX n f fd ps sp) (hb : Binds X.K fd ps []) (hx : Passes CX X E) (sb : Sub X n A)
    (I : Inv X pins σ H s) (rx : RelV x u) (ry : RelV y v) (hsp : sp [x, y] H R E) : wpAny (model X.prog X.w) A (call (.ref f) [u, v]) (fun r s' => ∃ z H', Inv X pins σ H' s' ∧ RelV z r ∧ R z H') X.xe s := run_own F hb hx sb I (.cons rx (.cons ry .nil)) hsp
/-- len(x) by the own __len__ -/
def rLenO (C : Addr) (sp : Sp) (E : XK) : List V → Hp → VK → Prop := fun xs H Q => ∃ a dx fs, xs = [.ref a] ∧ H a = some (.ins C dx fs) ∧ sp [.ref a] H (fun z H' => ∃ k : Nat, z = .int (k : Int) ∧ k ≤ 1000 ∧ Q (.int (k : Int)) H') E
theorem call_lenO (F : FnOk X.prog X.w X.K X.mg X.base CX n f fd ps sp) (hs : PySem.W.findIn X.K (.ref C) "__len__" = some (some (.ref f))) (hf : PySem.W.isFn X.K (.ref f) = true) (hb : Binds X.K fd ps []) (hx : Passes CX X E) (hr : Room (n + 1) X.A) : CallR X (.builtin "len") (rLenO C sp E) := by
  intro pins s σ H xs us Q I r h
  obtain ⟨a, dx, fs, rfl, ha, hsp⟩ := h
  obtain ⟨u, rfl, rx⟩ := vals1 r
  cases rx
  obtain ⟨mA, J, _⟩ := ins_get I.hok ha
  obtain ⟨od, J, _⟩ := J.look
  obtain ⟨m, hF⟩ := I.fr
  have sb : Sub X (n + 1) X.A := ⟨hr, rfl⟩
  refine PySem.W.len_K hF I.ok.mod.kin J hs hf (wpAny_mono (run_own F hb hx sb.in1 I (.cons (show RelV (.ref a) (.ref a) from rfl) .nil) hsp) (fun r s' z => ?_) fun _ _ e => e)
  obtain ⟨z, H', I', rz, k, ez, hk, q⟩ := z
  subst ez
  obtain ⟨t, rfl⟩ := rz
  exact ⟨⟨by omega, by omega⟩, .int (k : Int), H', I'.tok _, ⟨_, rfl⟩, q⟩
/-- x[y] by the own __getitem__ -/
def rIxO (C : Addr) (sp : Sp) (E : XK) : R2 := fun x y H Q => ∃ a dx fs, x = .ref a ∧ H a = some (.ins C dx fs) ∧ sp [x, y] H Q E
theorem pe_ixO {a b : Expr} {ta tb : TE} {pos : Pos} (F : FnOk X.prog X.w X.K X.mg X.base CX n f fd ps sp) (hs : PySem.W.findIn X.K (.ref C) "__getitem__" = some (some (.ref f))) (hfn : PySem.W.fnIn X.K f = true) (hf : PySem.W.isFn X.K (.ref f) = true) (hb' : Binds X.K fd ps []) (hx : Passes CX X E) (hr : Room (n + 1) X.A)
    (ha : PE X a ta) (hb : PE X b tb) (hsl : ∀ v u, subscripted b true v u = runValue (.builtin "lifetime.subscript" ⟨[v, u], []⟩) := by intros; with_unfolding_all rfl) : PE X (.Subscript a b pos) (tOp (rIxO C sp E) ta tb) := by
  refine ⟨fun pins s σ H Q I h => ?_⟩
  refine Subscript_ (binT ha hb I h fun v u s2 x y H2 I2 rx ry q => ?_)
  obtain ⟨a', dx, fs, rfl, ha', hsp⟩ := q
  cases rx
  obtain ⟨mA, J, _⟩ := ins_get I2.hok ha'
  obtain ⟨od, J, _⟩ := J.look
  obtain ⟨m, hF⟩ := I2.fr
  have sb : Sub X (n + 1) X.A := ⟨hr, rfl⟩
  exact PySem.W.sub_K hF I2.ok.mod.kin J hs hfn hf (wpAny_mono (run_own F hb' hx sb.in1 I2 (.cons (show RelV (.ref a') (.ref a') from rfl) (.cons ry .nil)) hsp) (fun r s' z => by
    obtain ⟨z, H', I', rz, q⟩ := z
    exact ⟨z, H', I', rz, q⟩) fun _ _ e => e) (hsl _ _)
/-- x == y by the own __eq__ of x's class; y an instance of the same class, or a tuple -/
def rEqO (K : PySem.W.Frag) (C : Addr) (sp : Sp) (E : XK) : R2 := fun x y H Q => ∃ a dx fs, x = .ref a ∧ H a = some (.ins C dx fs) ∧ ((∃ b dy gs, y = .ref b ∧ H b = some (.ins C dy gs)) ∨ ∃ b xs, y = .ref b ∧ H b = some (.tup xs)) ∧
  sp [x, y] H (fun z H' => ∃ b, z = .bl b ∧ Q (.bl b) H') E
def rNeO (C : Addr) (sp : Sp) (E : XK) : R2 := fun x y H Q => ∃ a dx fs b dy gs, x = .ref a ∧ H a = some (.ins C dx fs) ∧ y = .ref b ∧ H b = some (.ins C dy gs) ∧
  sp [x, y] H (fun z H' => ∃ k, z = .bl k ∧ Q (.bl (!k)) H') E
theorem op_eqO (F : FnOk X.prog X.w X.K X.mg X.base CX n f fd ps sp) (hs : PySem.W.findIn X.K (.ref C) "__eq__" = some (some (.ref f))) (hf : PySem.W.isFn X.K (.ref f) = true) (hb : Binds X.K fd ps []) (hx : Passes CX X E)
    (hn : PySem.W.notFirst X.K C (.type "tuple") = true) (hr : Room n X.A) : OpR X (compareOp .Eq) (rEqO X.K C sp E) := by
  intro pins s σ H x y v u Q I rx ry hq
  obtain ⟨a, dx, fs, rfl, ha, hy, hsp⟩ := hq
  show wpAny (model X.prog X.w) X.A (richCompare .Eq v u) (EP X pins σ Q) X.xe s
  cases rx
  obtain ⟨mA, J, _⟩ := ins_get I.hok ha
  obtain ⟨od, J, _⟩ := J.look
  obtain ⟨m, hF⟩ := I.fr
  have hu := hr.units0
  have back : wpAny (model X.prog X.w) X.A (call (.ref f) [.ref a, u]) (PySem.W.CmpBack (EP X pins σ Q)) X.xe s := wpAny_mono (run_eq (x := .ref a) F hb hx ⟨hr, rfl⟩ I (show RelV (.ref a) (.ref a) from rfl) ry hsp) (fun r s' z => by
    obtain ⟨z, H', I', rz, b, ez, q⟩ := z
    subst ez
    cases rz
    exact ⟨.bl b, H', I', rfl, q⟩) fun _ _ e => e
  rcases hy with ⟨b, dy, gs, rfl, hb'⟩ | ⟨b, xs, rfl, hb'⟩
  · cases ry
    obtain ⟨mB, J', _⟩ := ins_get I.hok hb'
    obtain ⟨od', J', _⟩ := J'.look
    exact PySem.W.cmp_K (op := .Eq) (tb := .ref C) hu hF I.ok.mod.kin J J'.type (by simp [PySem.W.notFirst]) hs hf back
  · cases ry
    obtain ⟨_, _, _, o, h1, h2, _⟩ := (show ObjOk X.prog X.w H s.heap b (.tup xs) from I.hok b _ hb')
    exact PySem.W.cmp_K (op := .Eq) (tb := .type "tuple") hu hF I.ok.mod.kin J (fun A Q E s k q => wpAny_typeOf_ref (k _ _ h1) (by rw [h2]; exact q)) hn hs hf back
theorem op_neO (F : FnOk X.prog X.w X.K X.mg X.base CX n f fd ps sp) (hs : PySem.W.findIn X.K (.ref C) "__eq__" = some (some (.ref f))) (hne : PySem.W.findIn X.K (.ref C) "__ne__" = some (some (.builtin "object.__ne__"))) (hm : PySem.W.mroIn X.K C (.type "object") = some true)
    (hf : PySem.W.isFn X.K (.ref f) = true) (hb : Binds X.K fd ps []) (hx : Passes CX X E) (hr : Room (n + 1) X.A) : OpR X (compareOp .NotEq) (rNeO C sp E) := by
  intro pins s σ H x y v u Q I rx ry hq
  obtain ⟨a, dx, fs, b, dy, gs, rfl, ha, rfl, hb', hsp⟩ := hq
  cases rx
  cases ry
  show wpAny (model X.prog X.w) X.A (richCompare .NotEq (.ref a) (.ref b)) (EP X pins σ Q) X.xe s
  obtain ⟨mA, J, _⟩ := ins_get I.hok ha
  obtain ⟨od, J, _⟩ := J.look
  obtain ⟨mB, J', _⟩ := ins_get I.hok hb'
  obtain ⟨od', J', _⟩ := J'.look
  have sb : Sub X (n + 1) X.A := ⟨hr, rfl⟩
  refine LkN.rc_ne I.kIn J J' hm hs hne hf sb.in1.room.units0 (wpAny_mono (run_eq (x := .ref a) (y := .ref b) F hb hx sb.in1 I (show RelV (.ref a) (.ref a) from rfl) (show RelV (.ref b) (.ref b) from rfl) hsp) (fun r s' z => ?_) fun _ _ e => e)
  obtain ⟨z, H', I', rz, k, ez, q⟩ := z
  subst ez
  cases rz
  exact ⟨k, rfl, .bl (!k), H', I', rfl, q⟩
end
end Lk

namespace Lk
open PySem PySem.Spec PyProof.Rows L2
/-! ### what may be compared -/
theorem cl_map {α : Type} {f : α → PyData} : ∀ {xs : List α}, (∀ x ∈ xs, (f x).canLay0 = true) → PyData.canLayAll0 (xs.map f) = true
  | [], _ => by simp [PyData.canLayAll0]
  | x :: xs, h => by
    rw [List.map_cons, PyData.canLayAll0, h x (List.mem_cons_self ..), cl_map fun y hy => h y (List.mem_cons_of_mem _ hy)]
    rfl
theorem dep_map {α : Type} {f : α → PyData} {n : Nat} : ∀ {xs : List α}, (∀ x ∈ xs, (f x).depth ≤ n) → PyData.depthAll (xs.map f) ≤ n
  | [], _ => by simp [PyData.depthAll]
  | x :: xs, h => by
    rw [List.map_cons, PyData.depthAll]
    have h1 := h x (List.mem_cons_self ..)
    have h2 := dep_map (xs := xs) fun y hy => h y (List.mem_cons_of_mem _ hy)
    omega
theorem nameS_str {x : Str} (h : nameS x = true) : (PyData.str x).canLay0 = true := by
  unfold nameS at h
  rw [Bool.and_eq_true] at h
  have h3 := List.all_eq_true.mp h.2
  rw [PyData.canLay0]
  unfold PyData.strOk
  rw [← Array.all_toList]
  refine List.all_eq_true.mpr fun c hc => ?_
  have := h3 c hc
  unfold letD at this
  rw [Bool.and_eq_true] at this
  have := of_decide_eq_true this.2
  exact decide_eq_true (by omega)
theorem ints_cl (xs : List Int) : (intsD xs).canLay0 = true := by
  unfold intsD
  rw [PyData.canLay0]
  exact cl_map fun _ _ => by rw [PyData.canLay0]
theorem ints_dep (xs : List Int) : (intsD xs).depth ≤ 1 := by
  unfold intsD
  rw [PyData.depth]
  have := dep_map (f := PyData.int) (n := 0) (xs := xs) fun _ _ => by simp [PyData.depth]
  omega
/-- the row's name is a name -/
def RowNm : LRow → Prop
  | .set n _ _ => nameS n = true
  | .ask n _ => nameS n = true
  | _ => True
theorem rowNm_of {ns : List Str} {m : Int} {r : LRow} (h : RowOk ns m r) (hn : ∀ x ∈ ns, nameS x = true) : RowNm r := by
  cases r with
  | set n f k => exact hn n h.1
  | ask n k => exact hn n h.1
  | _ => trivial
theorem rowNm_low {k : Nat} {r : LRow} (h : RowNm r) : RowNm (r.low k) := by
  cases r <;> exact h
theorem row_cl {r : LRow} (h : RowNm r) : r.d.canLay0 = true := by
  cases r with
  | set n f k =>
    have h1 := nameS_str h
    have h2 := ints_cl f
    have h3 : (PyData.str "set").canLay0 = true := by decide +kernel
    simp [LRow.d, PyData.canLay0, PyData.canLayAll0] at h1 h2 h3 ⊢
    exact ⟨h3, h1, h2⟩
  | say f k =>
    have h2 := ints_cl f
    have h3 : (PyData.str "say").canLay0 = true := by decide +kernel
    simp [LRow.d, PyData.canLay0, PyData.canLayAll0] at h2 h3 ⊢
    exact ⟨h3, h2⟩
  | ask n k =>
    have h1 := nameS_str h
    have h3 : (PyData.str "ask").canLay0 = true := by decide +kernel
    simp [LRow.d, PyData.canLay0, PyData.canLayAll0] at h1 h3 ⊢
    exact ⟨h3, h1⟩
  | choose ks =>
    have h2 := ints_cl ks
    have h3 : (PyData.str "choose").canLay0 = true := by decide +kernel
    simp [LRow.d, PyData.canLay0, PyData.canLayAll0] at h2 h3 ⊢
    exact ⟨h3, h2⟩
  | look k =>
    have h3 : (PyData.str "look").canLay0 = true := by decide +kernel
    simp [LRow.d, PyData.canLay0, PyData.canLayAll0] at h3 ⊢
    exact h3
  | stop => decide +kernel
theorem row_dep (r : LRow) : r.d.depth ≤ 2 := by
  cases r with
  | set n f k => have := ints_dep f; simp only [LRow.d, PyData.depth, PyData.depthAll]; omega
  | say f k => have := ints_dep f; simp only [LRow.d, PyData.depth, PyData.depthAll]; omega
  | ask n k => simp [LRow.d, PyData.depth, PyData.depthAll]
  | choose ks => have := ints_dep ks; simp only [LRow.d, PyData.depth, PyData.depthAll]; omega
  | look k => simp [LRow.d, PyData.depth, PyData.depthAll]
  | stop => simp [LRow.d, PyData.depth, PyData.depthAll]
def rowsD (rs : List LRow) : PyData := .tuple (rs.map LRow.d)
def namesD (ns : List Str) : PyData := .tuple (ns.map PyData.str)
theorem shaped_rows {rs : List LRow} (h : ∀ r ∈ rs, RowNm r) : SeqAt.shaped (rowsD rs) = true := by
  unfold SeqAt.shaped rowsD
  rw [PyData.canLay0, cl_map fun r hr => row_cl (h r hr), PyData.depth]
  have := dep_map (f := LRow.d) (n := 2) (xs := rs) fun r _ => row_dep r
  exact decide_eq_true (by omega)
theorem shaped_rowsL {rs : List LRow} (h : ∀ r ∈ rs, RowNm r) : SeqAt.shaped (.list (rs.map LRow.d)) = true := by
  unfold SeqAt.shaped
  rw [PyData.canLay0, cl_map fun r hr => row_cl (h r hr), PyData.depth]
  have := dep_map (f := LRow.d) (n := 2) (xs := rs) fun r _ => row_dep r
  exact decide_eq_true (by omega)
theorem shaped_row {r : LRow} (h : RowNm r) : SeqAt.shaped r.d = true := by
  unfold SeqAt.shaped
  rw [row_cl h]
  have := row_dep r
  exact decide_eq_true (by omega)
theorem shaped_names {ns : List Str} (h : ∀ x ∈ ns, nameS x = true) : SeqAt.shaped (namesD ns) = true := by
  unfold SeqAt.shaped namesD
  rw [PyData.canLay0, cl_map fun r hr => nameS_str (h r hr), PyData.depth]
  have := dep_map (f := PyData.str) (n := 0) (xs := ns) fun r _ => by simp [PyData.depth]
  exact decide_eq_true (by omega)
/-- whether two programs are equal -/
def prEq (k : Nat) (ns : List Str) (rs : List LRow) (k2 : Nat) (ns2 : List Str) (rs2 : List LRow) : Bool := decide (k = k2) && PyData.eqv (namesD ns) (namesD ns2) && PyData.eqv (rowsD rs) (rowsD rs2)
end Lk

namespace Lk
open PySem PySem.Spec PyProof.Rows L2
/-! ### the well of a law: a list of three numbers; all else stays -/
def Wl (H : Hp) (p : Addr) : Prop := ∃ a b c : Int, H p = some (.lst [.int a, .int b, .int c])
def Wk (p : Addr) (H H' : Hp) : Prop := Bar p H H' ∧ Wl H' p
section
variable {K : PySem.W.Frag} {H H1 H2 : Hp} {p a : Addr} {xs : List V}
theorem Wl.same (w : Wl H p) (s : Same H H1) : Wl H1 p := by
  obtain ⟨a, b, c, h⟩ := w
  exact ⟨a, b, c, s _ _ h⟩
theorem Wk.refl (w : Wl H p) : Wk p H H := ⟨Bar.refl, w⟩
theorem Wk.of (w : Wl H p) (s : Same H H1) : Wk p H H1 := ⟨Bar.of s, w.same s⟩
theorem Wk.trans (s : Wk p H H1) (t : Wk p H1 H2) : Wk p H H2 := ⟨s.1.trans t.1, t.2⟩
theorem Wk.st (s : Wk p H H1) (t : Same H1 H2) : Wk p H H2 := s.trans (Wk.of s.2 t)
theorem Wk.at {b : Addr} {o : HO} (s : Wk p H H1) (n : b ≠ p) (h : H b = some o) : H1 b = some o := s.1 b o n h
theorem Wk.upd {x y z : Int} : Wk p H (upd H p (.lst [.int x, .int y, .int z])) := ⟨Bar.upd, x, y, z, upd_same⟩
theorem Wk.ts (w : Wl H p) (s : Wk p H H1) : Ts H H1 := by
  obtain ⟨x, y, z, h⟩ := w
  exact fun b ys e => s.1 b _ (fun q => by rw [q, h] at e; cases e) e
theorem Wk.none {q : Addr} (w : Wl H p) (s : Wk p H H1) (h : H1 q = none) : H q = none := by
  cases e : H q with
  | none => rfl
  | some o =>
    exfalso
    by_cases n : q = p
    · obtain ⟨x, y, z, hw⟩ := s.2
      rw [n, hw] at h
      cases h
    · rw [s.1 q o n e] at h
      cases h
theorem Wk.sqT (w : Wl H p) (s : Wk p H H1) (h : SqT K H a xs) : SqT K H1 a xs := by
  obtain ⟨x, y, z, hw⟩ := w
  rcases h with (e | ⟨o, e⟩) | e
  · exact .inl (.inl (s.1 _ _ (fun q => by rw [q, hw] at e; cases e) e))
  · exact .inl (.inr ⟨o, s.1 _ _ (fun q => by rw [q, hw] at e; cases e) e⟩)
  · exact .inr e
theorem Wk.updD {q : Addr} {o : HO} (s : Wk p H H1) (hq : H q = Option.none) (n : q ≠ p) : Wk p H (L2.upd H1 q o) := by
  refine ⟨fun b u m e => ?_, ?_⟩
  · rw [upd_ne (ne_of_none e hq)]
    exact s.1 b u m e
  · obtain ⟨x, y, z, h⟩ := s.2
    exact ⟨x, y, z, by rw [upd_ne (Ne.symm n)]; exact h⟩
theorem ne_well {q : Addr} {o : HO} (w : Wl H p) (h : H q = some o) (n : ∀ x y z : Int, o ≠ .lst [.int x, .int y, .int z]) : q ≠ p := fun e => by
  obtain ⟨x, y, z, hw⟩ := w
  rw [e, hw] at h
  exact n x y z (Option.some.inj h).symm
theorem ne_new {q : Addr} (w : Wl H p) (h : H q = none) : q ≠ p := fun e => by
  obtain ⟨x, y, z, hw⟩ := w
  rw [e, hw] at h
  cases h
theorem mul01 {r : Int} {k : Nat} (c : Bool) (h0 : 0 ≤ r) (h1 : r < 2 ^ k) : 0 ≤ r * (if c = true then 1 else 0) ∧ r * (if c = true then 1 else 0) < 2 ^ k := by
  cases c with
  | true => simpa using ⟨h0, h1⟩
  | false =>
    have p0 : (0 : Int) < 2 ^ k := Int.pow_pos (by decide)
    simpa using p0
theorem cmul01 {r : Int} (c : Bool) : CMul r (if c = true then 1 else 0) := by
  refine .inr ?_
  cases c <;> exact ⟨by decide, by decide⟩
theorem lt31 {r : Int} (h0 : 0 ≤ r) (h : r < 2 ^ (31 : Int).toNat) : r.natAbs < 2 ^ 40 := by
  have e : ((2 : Int) ^ (31 : Int).toNat) = 2147483648 := by decide
  rw [e] at h
  exact Nat.lt_of_lt_of_le (show r.natAbs < 2147483648 by omega) (by decide)
theorem spr {i j : Nat} {ta : TA} {D : Ends} {σ : L2.St} (q : ta σ H fun vs H' => ∃ x y, vs = [x, y] ∧ D.nx ((σ.set i (some x)).set j (some y)) H') : tPar i j ta D σ H := q
theorem sbm {T : String} {r : V → List V → Hp → VK → Prop} {to : TE} {t : TA} {σ : L2.St} {Q : VK} (q : to σ H fun x H1 => tyV K T x H1 ∧ t σ H1 fun xs H2 => r x xs H2 Q) : tBM K T r to t σ H Q := q
end
end Lk

namespace L2
open PySem PySem.Spec PyProof.Rows MeetsSeq MeetsSeq2 MeetsSeq3 SeqRoads2
open AutoSeq1 (wpAny_loadPart')
theorem tuple_mul1 (l : Addr) (items : Array Value) (n : Nat) (dd : Option Addr) (sl : Array (Option Value)) (x : Int) (u : Tok) (c0 : (decide (x < -(2 ^ 63)) || decide (x ≥ 2 ^ 63)) = false) (c1 : (items.isEmpty || x == 1) = true) :
    Meets (Builtin.«tuple.__mul__» ⟨[.ref l, .int x u], []⟩) (fun _ R s => s.heap.get? l = some { cls := .type "tuple", dict := dd, data := .seq items n, slots := sl } ∧ R (.ok (.ret (Value.ref l))) s) :=
  .of_wp fun prog w A R s h => by
    obtain ⟨hp, g, d, tk, os⟩ := s
    obtain ⟨hl, h⟩ := h
    have f1 := AutoSeq1.idx_int
    wp_walk using wpAny_loadPart' hl
    repeat (first
      | (refine wpAny_ite_false (decide_eq_false (by rw [c0]; exact Bool.false_ne_true)) ?_; wp_walk using wpAny_loadPart' hl)
      | (refine wpAny_ite_true (decide_eq_true c1) ?_; wp_walk using wpAny_loadPart' hl))
    exact ⟨_, rfl, h⟩
/-- t * k, k at least 1; t * 1 is t itself -/
def rRepN (K : PySem.W.Frag) : R2 := fun x y H Q => ∃ l k xs, x = .ref l ∧ y = .int k ∧ SqT K H l xs ∧ xs ≠ [] ∧ 1 ≤ k ∧ k ≤ 1000 ∧ xs.length ≤ 1000 ∧ (k = 1 → Q (.ref l) H) ∧ (2 ≤ k → ∀ p, H p = none → Q (.ref p) (upd H p (.tup (List.replicate k.toNat xs).flatten)))
theorem op_repN {X : Cx} : OpR X (binaryOp .Mult) (rRepN X.K) := by
  intro pins s σ H x y v u Q I rx ry h
  obtain ⟨l, k, xs, rfl, rfl, hT, hne, h1, h2, hz, q1, q2⟩ := h
  by_cases hk : k = 1
  · subst hk
    cases rx
    obtain ⟨t, rfl⟩ := ry
    obtain ⟨its, r, ⟨⟨cls, dd, data, sl⟩, ho, hc, n, hd⟩, hs⟩ := I.tuple hT
    simp only at hc hd
    subst hc hd
    have c0 : (decide ((1 : Int) < -(2 ^ 63)) || decide ((1 : Int) ≥ 2 ^ 63)) = false := by decide
    have c1 : (its.toArray.isEmpty || (1 : Int) == 1) = true := by
      rw [show ((1 : Int) == 1) = true from rfl, Bool.or_true]
    exact wpAny_binaryOp_repeat_ref (T := "tuple") (U := "int") (by decide) ⟨_, ho, rfl⟩ (fun s' => typeIs_int s' 1 t) noFill_tuple_mul F.fills_int_mul F.slot_int_rmul repeat_tuple F.slot_int_index.lookup
      (call_meets F.slot_int_rmul (typeIs_int s 1 t) F.entry_int_rmul (F.args_int_rmul_2 _ _) (int_rmul_tuple 1 t l its.toArray n dd sl)
        ⟨ho, rfl, ⟨_, ho, rfl⟩, call_meets F.slot_tuple_mul ⟨_, ho, rfl⟩ F.entry_tuple_mul (F.args_tuple_mul_2 _ _) (tuple_mul1 l its.toArray n dd sl 1 t c0 c1) ⟨ho, .ref l, H, I, rfl, q1 rfl⟩⟩)
  · exact op_repT pins s σ H _ _ v u Q I rx ry ⟨l, k, xs, rfl, rfl, hT, hne, by omega, h2, hz, q2 (by omega)⟩
end L2
namespace Lk
open PySem PySem.Spec PyProof.Rows L2
theorem sifx {tc : TT} {ta tb : TE} {σ : L2.St} {H : Hp} {Q : VK} (q : tc σ H fun c H1 => if c = true then ta σ H1 Q else tb σ H1 Q) : tIf tc ta tb σ H Q := q
theorem flat_rep {α : Type} (x : α) : ∀ n : Nat, (List.replicate n [x]).flatten = List.replicate n x
  | 0 => rfl
  | n + 1 => by rw [List.replicate_succ, List.flatten_cons, flat_rep x n, List.replicate_succ]; rfl
theorem one_lt_pow {k : Nat} (h : 1 ≤ k) : (1 : Int) < 2 ^ k := by
  obtain ⟨j, rfl⟩ : ∃ j, k = j + 1 := ⟨k - 1, by omega⟩
  have p0 : (0 : Int) < 2 ^ j := Int.pow_pos (by decide)
  rw [Int.pow_succ]
  omega
theorem s_repN {K : PySem.W.Frag} {H : Hp} {l : Addr} {x : V} {n : Nat} {Q : VK} (h : SqT K H l [x]) (h1 : 1 ≤ n) (h2 : n ≤ 1000) (q : ∀ p H', Same H H' → SqT K H' p (List.replicate n x) → Q (.ref p) H') : rRepN K (.ref l) (.int (n : Int)) H Q := by
  refine ⟨l, n, [x], rfl, rfl, h, by simp, by omega, by omega, by simp, fun e => ?_, fun _ p hp => ?_⟩
  · have e1 : n = 1 := by omega
    subst e1
    exact q l H (Same.refl H) h
  · refine q p _ (same_new hp) (SqT.of ?_)
    rw [upd_same, Int.toNat_natCast, flat_rep]
theorem s_catA {K : PySem.W.Frag} {H : Hp} {a b : Addr} {xs ys : List V} {Q : VK} (h : SqT K H a xs) (h' : SqT K H b ys) (hx : xs ≠ []) (hy : ys ≠ []) (hl : xs.length + ys.length ≤ 1000) (q : ∀ p, H p = none → Q (.ref p) (upd H p (.tup (xs ++ ys)))) : rCatA K (.ref a) (.ref b) H Q :=
  ⟨a, b, xs, ys, rfl, rfl, h, h', Nat.le_of_lt (small1000 hl), fun e => absurd e hx, fun _ e => absurd e hy, fun _ _ => q⟩
end Lk

namespace Lk
open PySem PySem.Spec PyProof.Rows L2
mutual
def nbD : PyData → Bool
  | .none | .int _ | .str _ => true
  | .list xs | .tuple xs => nbAll xs
  | .bool _ | .dict _ => false
def nbAll : List PyData → Bool
  | [] => true
  | x :: xs => nbD x && nbAll xs
end
mutual
theorem eqv_eq : ∀ d e : PyData, nbD d = true → nbD e = true → PyData.eqv d e = true → d = e
  | .none, .none, _, _, _ => rfl
  | .int i, .int j, _, _, h => by
    rw [PyData.eqv] at h
    rw [eq_of_beq h]
  | .str x, .str y, _, _, h => by
    rw [PyData.eqv] at h
    rw [eq_of_beq h]
  | .list xs, .list ys, h1, h2, h => by
    rw [PyData.eqv] at h
    rw [nbD] at h1 h2
    rw [eqvAll_eq xs ys h1 h2 h]
  | .tuple xs, .tuple ys, h1, h2, h => by
    rw [PyData.eqv] at h
    rw [nbD] at h1 h2
    rw [eqvAll_eq xs ys h1 h2 h]
  | .bool _, _, h1, _, _ => by rw [nbD] at h1; cases h1
  | .dict _, _, h1, _, _ => by rw [nbD] at h1; cases h1
  | _, .bool _, _, h1, _ => by rw [nbD] at h1; cases h1
  | _, .dict _, _, h1, _ => by rw [nbD] at h1; cases h1
  | .none, .int _, _, _, h | .none, .str _, _, _, h | .none, .list _, _, _, h | .none, .tuple _, _, _, h => by rw [PyData.eqv] at h; cases h
  | .int _, .none, _, _, h | .int _, .str _, _, _, h | .int _, .list _, _, _, h | .int _, .tuple _, _, _, h => by rw [PyData.eqv] at h; cases h
  | .str _, .none, _, _, h | .str _, .int _, _, _, h | .str _, .list _, _, _, h | .str _, .tuple _, _, _, h => by rw [PyData.eqv] at h; cases h
  | .list _, .none, _, _, h | .list _, .int _, _, _, h | .list _, .str _, _, _, h | .list _, .tuple _, _, _, h => by rw [PyData.eqv] at h; cases h
  | .tuple _, .none, _, _, h | .tuple _, .int _, _, _, h | .tuple _, .str _, _, _, h | .tuple _, .list _, _, _, h => by rw [PyData.eqv] at h; cases h
theorem eqvAll_eq : ∀ xs ys : List PyData, nbAll xs = true → nbAll ys = true → PyData.eqvAll xs ys = true → xs = ys
  | [], [], _, _, _ => rfl
  | x :: xs, y :: ys, h1, h2, h => by
    rw [PyData.eqvAll, Bool.and_eq_true] at h
    rw [nbAll, Bool.and_eq_true] at h1 h2
    rw [eqv_eq x y h1.1 h2.1 h.1, eqvAll_eq xs ys h1.2 h2.2 h.2]
  | [], _ :: _, _, _, h => by rw [PyData.eqvAll] at h; cases h
  | _ :: _, [], _, _, h => by rw [PyData.eqvAll] at h; cases h
end
theorem nb_map {α : Type} {f : α → PyData} (h : ∀ x, nbD (f x) = true) : ∀ xs : List α, nbAll (xs.map f) = true
  | [] => by simp [nbAll]
  | x :: xs => by
    rw [List.map_cons, nbAll, h x, nb_map h xs]
    rfl
theorem nb_ints (f : List Int) : nbD (intsD f) = true := by
  unfold intsD
  rw [nbD]
  exact nb_map (fun _ => by rw [nbD]) f
theorem nb_row (r : LRow) : nbD r.d = true := by
  cases r with
  | set n f k => have := nb_ints f; simp [LRow.d, nbD, nbAll, this]
  | say f k => have := nb_ints f; simp [LRow.d, nbD, nbAll, this]
  | choose ks => have := nb_ints ks; simp [LRow.d, nbD, nbAll, this]
  | _ => simp [LRow.d, nbD, nbAll]
theorem intsD_inj {f g : List Int} (h : intsD f = intsD g) : f = g := by
  unfold intsD at h
  have h1 := PyData.tuple.inj h
  exact (List.map_inj_right (fun _ _ e => PyData.int.inj e)).mp h1
def LRow.kind : LRow → Str
  | .set .. => "set"
  | .say .. => "say"
  | .ask .. => "ask"
  | .choose .. => "choose"
  | .look .. => "look"
  | .stop => "stop"
theorem kind_of {r s : LRow} (h : r.d = s.d) : r.kind = s.kind := by
  have e : ∀ r : LRow, ∃ l, r.d = .tuple (.str r.kind :: l) := fun r => by cases r <;> exact ⟨_, rfl⟩
  obtain ⟨l, hl⟩ := e r
  obtain ⟨m, hm⟩ := e s
  rw [hl, hm] at h
  have h1 := PyData.tuple.inj h
  injection h1 with h2 _
  exact PyData.str.inj h2
theorem row_inj {r s : LRow} (h : r.d = s.d) : r = s := by
  have hk := kind_of h
  cases r with
  | set n f k =>
    cases s with
    | set n' f' k' =>
      have h1 := PyData.tuple.inj h
      injection h1 with _ h1
      injection h1 with h2 h1
      injection h1 with h3 h1
      injection h1 with h4 _
      rw [PyData.str.inj h2, intsD_inj h3, PyData.int.inj h4]
    | _ => exact absurd hk (by simp only [LRow.kind]; decide +kernel)
  | say f k =>
    cases s with
    | say f' k' =>
      have h1 := PyData.tuple.inj h
      injection h1 with _ h1
      injection h1 with h3 h1
      injection h1 with h4 _
      rw [intsD_inj h3, PyData.int.inj h4]
    | _ => exact absurd hk (by simp only [LRow.kind]; decide +kernel)
  | ask n k =>
    cases s with
    | ask n' k' =>
      have h1 := PyData.tuple.inj h
      injection h1 with _ h1
      injection h1 with h2 h1
      injection h1 with h4 _
      rw [PyData.str.inj h2, PyData.int.inj h4]
    | _ => exact absurd hk (by simp only [LRow.kind]; decide +kernel)
  | choose ks =>
    cases s with
    | choose ks' =>
      have h1 := PyData.tuple.inj h
      injection h1 with _ h1
      injection h1 with h3 _
      rw [intsD_inj h3]
    | _ => exact absurd hk (by simp only [LRow.kind]; decide +kernel)
  | look k =>
    cases s with
    | look k' =>
      have h1 := PyData.tuple.inj h
      injection h1 with _ h1
      injection h1 with h4 _
      rw [PyData.int.inj h4]
    | _ => exact absurd hk (by simp only [LRow.kind]; decide +kernel)
  | stop =>
    cases s with
    | stop => rfl
    | _ => exact absurd hk (by simp only [LRow.kind]; decide +kernel)
theorem rows_eqv {rs qs : List LRow} (h : PyData.eqv (rowsD rs) (rowsD qs) = true) : rs = qs := by
  have e := eqv_eq _ _ (by unfold rowsD; rw [nbD]; exact nb_map nb_row rs) (by unfold rowsD; rw [nbD]; exact nb_map nb_row qs) h
  unfold rowsD at e
  exact (List.map_inj_right (fun _ _ e => row_inj e)).mp (PyData.tuple.inj e)
theorem names_eqv {ns ms : List Str} (h : PyData.eqv (namesD ns) (namesD ms) = true) : ns = ms := by
  have e := eqv_eq _ _ (by unfold namesD; rw [nbD]; exact nb_map (fun _ => by rw [nbD]) ns) (by unfold namesD; rw [nbD]; exact nb_map (fun _ => by rw [nbD]) ms) h
  unfold namesD at e
  exact (List.map_inj_right (fun _ _ e => PyData.str.inj e)).mp (PyData.tuple.inj e)
theorem row_eqv {r s : LRow} (h : PyData.eqv r.d s.d = true) : r = s := row_inj (eqv_eq _ _ (nb_row r) (nb_row s) h)
theorem prEq_iff {k : Nat} {ns : List Str} {rs : List LRow} {k2 : Nat} {ns2 : List Str} {rs2 : List LRow} (h : prEq k ns rs k2 ns2 rs2 = true) : k = k2 ∧ ns = ns2 ∧ rs = rs2 := by
  unfold prEq at h
  rw [Bool.and_eq_true, Bool.and_eq_true] at h
  exact ⟨of_decide_eq_true h.1.1, names_eqv h.1.2, rows_eqv h.2⟩
theorem names_refl {ns : List Str} (hn : ∀ n ∈ ns, nameS n = true) : PyData.eqv (namesD ns) (namesD ns) = true := SeqAt.eqv_refl _ (SeqAt.canLay_of_shaped (shaped_names hn))
theorem rows_refl {rs : List LRow} (h : ∀ r ∈ rs, RowNm r) : PyData.eqv (rowsD rs) (rowsD rs) = true := SeqAt.eqv_refl _ (SeqAt.canLay_of_shaped (shaped_rows h))
theorem prEq_refl {k : Nat} {ns : List Str} {rs : List LRow} (hn : ∀ n ∈ ns, nameS n = true) (h : ∀ r ∈ rs, RowNm r) : prEq k ns rs k ns rs = true := by
  unfold prEq
  rw [decide_eq_true rfl, names_refl hn, rows_refl h]
  rfl
section
variable {K : PySem.W.Frag} {H : Hp} {b : Addr} {xs : List V} {x : V} {Q : VK}
/-- t[:-1] -/
theorem s_butlast (hb : SqT K H b (xs ++ [x])) (q : ∀ p, H p = none → Q (.ref p) (upd H p (.tup xs))) : rSlA K (.ref b) none (some (-1)) H Q := by
  have hl : (xs ++ [x]).length = xs.length + 1 := by rw [List.length_append]; rfl
  have e1 : HT.sIx (xs ++ [x]).length (xs ++ [x]).length (some (-1)) = xs.length := by
    show (if (-1 : Int) < 0 then ((-1 : Int) + ((xs ++ [x]).length : Int)).toNat else min (-1 : Int).toNat (xs ++ [x]).length) = _
    rw [if_pos (by decide), hl]
    omega
  have e0 : HT.sIx (xs ++ [x]).length 0 none = 0 := rfl
  refine ⟨b, xs ++ [x], rfl, hb, fun z => ?_, fun _ p hp => ?_⟩
  · have := z.2
    rw [e1, hl] at this
    omega
  · have e2 : cutV (xs ++ [x]) none (some (-1)) = xs := by
      unfold cutV
      rw [e0, e1]
      simp
    rw [e2]
    exact q p hp
theorem atI_last {α : Type} {xs : List α} {x : α} : atI (xs ++ [x]) (-1) = some x := by
  unfold atI ixN
  have hl : (xs ++ [x]).length = xs.length + 1 := by rw [List.length_append]; rfl
  rw [if_neg (by decide), hl, if_pos (by omega)]
  have e : ((-1 : Int) + ((xs.length + 1 : Nat) : Int)).toNat = xs.length := by omega
  show (xs ++ [x])[((-1 : Int) + ((xs.length + 1 : Nat) : Int)).toNat]? = some x
  rw [e]
  simp
end
theorem bump {z : Int} {k : Nat} (k1 : 1 ≤ k) (h0 : 0 ≤ z) (h1 : z < 2 ^ k) : (z + 1) % 2 ^ k ≠ z := fun h => by
  have p1 := one_lt_pow k1
  by_cases e : z + 1 < 2 ^ k
  · rw [Int.emod_eq_of_lt (by omega) e] at h
    omega
  · have e2 : z + 1 = 2 ^ k := by omega
    rw [e2, Int.emod_self] at h
    omega
end Lk

namespace Lk
open PySem PySem.Spec PyProof.Rows L2
section
variable {K : PySem.W.Frag} {H : Hp} {σ : L2.St} {a p : Addr} {xs : List V}
theorem cut_takeLe {i : Nat} (hi : i ≤ xs.length) : cutV xs none (some (i : Int)) = xs.take i := by
  unfold cutV
  rw [HT.sIx_nat, show HT.sIx xs.length 0 none = 0 from rfl, Nat.min_eq_left hi]
  simp
theorem cut_drop {i : Nat} (hi : i ≤ xs.length) : cutV xs (some (i : Int)) none = xs.drop i := by
  unfold cutV
  rw [HT.sIx_nat, show HT.sIx xs.length xs.length none = xs.length from rfl, Nat.min_eq_left hi]
  rw [List.take_of_length_le (by rw [List.length_drop]; omega)]
/-- [f(well, row, ..) for row in rows]: the well is drawn from -/
theorem tlc_rowsW {rs : List LRow} {j k : Nat} {te : TE} {vs : List Nat} {Q : VK} (R : LRow → LRow → Prop) (w : Wl H p) (np : a ≠ p) (hj : σ[j]? = some (some (.ref a))) (hx : H a = some (.lst xs)) (hr : RowsH H xs rs) (h3 : xs.length ≤ 1000)
    (hw : ∀ x, wipe ((wipe σ vs).set k (some x)) vs = wipe σ vs)
    (he : ∀ (i : Nat) (x : V) (r : LRow) (H' : Hp), rs[i]? = some r → RowH H' x r → Wk p H H' → ∀ S : VK, (∀ u r' H'', Wk p H' H'' → RowH H'' u r' → R r r' → S u H'') → te ((wipe σ vs).set k (some x)) H' S)
    (q : ∀ D ys qs H', Wk p H H' → H D = none → H' D = some (.lst ys) → RowsH H' ys qs → qs.length = rs.length → (∀ (i : Nat) r, rs[i]? = some r → ∃ r', qs[i]? = some r' ∧ R r r') → Q (.ref D) H') : tLc (iList K (tVar j)) (gName k) tYes te vs σ H Q := by
  have hlen := hr.len
  refine ⟨_, hj, a, rfl, ⟨xs, SqL.of hx⟩, fun D hD => ?_⟩
  have nD : D ≠ p := ne_new w hD
  refine lc_list (xs := xs) (fun i H' => Wk p H H' ∧ ∃ ys qs, H' D = some (.lst ys) ∧ RowsH H' ys qs ∧ qs.length = i ∧ ∀ (n : Nat) r, n < i → rs[n]? = some r → ∃ r', qs[n]? = some r' ∧ R r r') ⟨Wk.of w (same_new hD), [], [], upd_same, .nil, rfl, fun n r h _ => by omega⟩ (fun i H' _ h => SqL.of (h.1.at np hx)) (fun i x H' hi h => ?_) (fun H' h => ?_)
  · obtain ⟨w1, ys, qs, h1, h2, h4, h5⟩ := h
    obtain ⟨r, hri, hrv⟩ := hr.at hi
    refine ⟨hw _, ?_⟩
    unfold tYes
    simp only [if_true]
    refine he i x r H' hri (hrv.ts (w1.ts w)) w1 _ fun u r' H2 w2 hu hR => ?_
    have e2 := w2.at nD h1
    have t2 : Ts H2 (upd H2 D (.lst (ys ++ [u]))) := Ts.lst e2
    have hi' : i < xs.length := (List.getElem?_eq_some_iff.mp hi).1
    refine ⟨ys, e2, by rw [h2.len, h4]; exact small1000 (by omega), (w1.trans w2).updD hD nD, ys ++ [u], qs ++ [r'], upd_same, ((h2.ts (w2.ts w1.2)).ts t2).append (.cons (hu.ts t2) .nil), by rw [List.length_append, h4]; rfl, fun n r0 hn hr0 => ?_⟩
    by_cases hni : n < i
    · obtain ⟨r1, g1, g2⟩ := h5 n r0 hni hr0
      exact ⟨r1, by rw [List.getElem?_append_left (by omega)]; exact g1, g2⟩
    · have : n = i := by omega
      subst this
      rw [hri] at hr0
      cases hr0
      exact ⟨r', by rw [List.getElem?_append_right (by omega), h4]; simp, hR⟩
  · obtain ⟨w1, ys, qs, h1, h2, h4, h5⟩ := h
    rw [hlen] at h4 h5
    exact q D ys qs H' w1 hD h1 h2 h4 fun n r hr' => h5 n r (List.getElem?_eq_some_iff.mp hr').1 hr'
end
/-! ### lists may change, all else stays -/
def Lc (H H' : Hp) : Prop := ∀ b o, H b = some o → (∀ ys, o ≠ .lst ys) → H' b = some o
section
variable {K : PySem.W.Frag} {H H1 H2 : Hp} {p : Addr}
theorem Lc.of (s : Same H H1) : Lc H H1 := fun b o e _ => s b o e
theorem Lc.trans (s : Lc H H1) (t : Lc H1 H2) : Lc H H2 := fun b o e n => t b o (s b o e n) n
theorem Lc.wk (w : Wl H p) (s : Wk p H H1) : Lc H H1 := fun b o e n => s.1 b o (fun z => by
  obtain ⟨x, y, z', h⟩ := w
  rw [z, h] at e
  exact n _ (Option.some.inj e).symm) e
theorem Lc.upd {q : Addr} {xs : List V} {o : HO} (h : H q = some (.lst xs)) : Lc H (L2.upd H q o) := fun b u e n => by
  rw [upd_ne (fun z => by rw [z, h] at e; exact n _ (Option.some.inj e).symm)]
  exact e
theorem Lc.ts (s : Lc H H1) : Ts H H1 := fun a xs e => s a _ e (fun _ z => by cases z)
theorem Lc.sqT {a : Addr} {xs : List V} (s : Lc H H1) (h : SqT K H a xs) : SqT K H1 a xs := by
  rcases h with (e | ⟨o, e⟩) | e
  · exact .inl (.inl (s _ _ e (fun _ z => by cases z)))
  · exact .inl (.inr ⟨o, s _ _ e (fun _ z => by cases z)⟩)
  · exact .inr e
theorem ProgO.lc {C x : Addr} {k : Nat} {ns : List Str} {rs : List LRow} (s : Lc H H1) (h : ProgO K C H x k ns rs) : ProgO K C H1 x k ns rs := by
  obtain ⟨dx, tv, tr, vs, h1, h2, h3, h4⟩ := h
  exact ⟨dx, tv, tr, vs, s _ _ h1 (fun _ z => by cases z), s.sqT h2, s.sqT h3, h4.ts s.ts⟩
theorem good_low {k : Nat} : ∀ {rs : List LRow}, (∀ r ∈ rs, r.low k = r) → rs.map (·.low k) = rs
  | [], _ => rfl
  | r :: rs, h => by
    rw [List.map_cons, h r (List.mem_cons_self ..), good_low fun q hq => h q (List.mem_cons_of_mem _ hq)]
theorem RowsH.take : ∀ {vs : List V} {rs : List LRow} {n : Nat}, RowsH H vs rs → RowsH H (vs.take n) (rs.take n)
  | _, _, 0, _ => by simpa using RowsH.nil
  | _, _, n + 1, .nil => by simpa using RowsH.nil
  | _, _, n + 1, .cons h t => by
    rw [List.take_succ_cons, List.take_succ_cons]
    exact .cons h (RowsH.take (n := n) t)
theorem RowsH.drop : ∀ {vs : List V} {rs : List LRow} {n : Nat}, RowsH H vs rs → RowsH H (vs.drop n) (rs.drop n)
  | _, _, 0, h => h
  | _, _, n + 1, .nil => by simpa using RowsH.nil
  | _, _, n + 1, .cons h t => by
    rw [List.drop_succ_cons, List.drop_succ_cons]
    exact RowsH.drop (n := n) t
theorem snxd {u b c : L2.St → Hp → Prop} {r : VK} {σ : L2.St} (q : u σ H) : Ends.nx ⟨u, r, b, c⟩ σ H := q
/-- the rest once for all ways through a statement that stores nothing -/
theorem ss_cont {t u : TS} {D : Ends} {σ : L2.St} (I : Hp → Prop) (h1 : ∀ H', I H' → u D σ H') (h2 : (∀ H', I H' → u D σ H') → t { D with nx := u D } σ H) : tSeq t u D σ H := h2 h1
/-- width, variables, rows as one tuple -/
def triD (k : Nat) (ns : List Str) (rs : List LRow) : PyData := .tuple [.int (k : Int), namesD ns, rowsD rs]
theorem shaped_tri {k : Nat} {ns : List Str} {rs : List LRow} (hn : ∀ n ∈ ns, nameS n = true) (hr : ∀ r ∈ rs, RowNm r) : SeqAt.shaped (triD k ns rs) = true := by
  have h1 := SeqAt.canLay_of_shaped (shaped_names hn)
  have h2 := SeqAt.canLay_of_shaped (shaped_rows hr)
  have d1 : (namesD ns).depth ≤ 1 := by
    unfold namesD
    rw [PyData.depth]
    have := dep_map (f := PyData.str) (n := 0) (xs := ns) fun r _ => by simp [PyData.depth]
    omega
  have d2 : (rowsD rs).depth ≤ 3 := by
    unfold rowsD
    rw [PyData.depth]
    have := dep_map (f := LRow.d) (n := 2) (xs := rs) fun r _ => row_dep r
    omega
  unfold SeqAt.shaped triD
  rw [Bool.and_eq_true]
  constructor
  · simp [PyData.canLay0, PyData.canLayAll0, h1, h2]
  · refine decide_eq_true ?_
    simp only [PyData.depth, PyData.depthAll]
    omega
theorem tri_dp {a t v : Addr} {k : Nat} {ns : List Str} {rs : List LRow} {us : List V} (ha : H a = some (.tup [.int (k : Int), .ref t, .ref v])) (h1 : SqT K H t (ns.map V.str)) (h2 : SqT K H v us) (h3 : RowsH H us rs) : Dp K H (.ref a) (triD k ns rs) :=
  .tup (SqT.of ha) (.cons (.int _) (.cons (.tup h1 (dp_strs ns)) (.cons (.tup h2 h3.dt.dp) .nil)))
end
end Lk

namespace Lk
open PySem PySem.Spec PyProof.Rows L2
/-! ### what a run does -/
def dot (f v : List Int) : Int := (List.zipWith (· * ·) f v).sum
def valM (k : Nat) (f st : List Int) : Int := dot f (1 :: st) % 2 ^ k
def stM (k : Nat) (ns : List Str) (r : LRow) (st : List Int) (x : Int) : List Int := match r with
  | .set n f _ => st.set (ns.idxOf n) (valM k f st)
  | .ask n _ => st.set (ns.idxOf n) (x % 2 ^ k)
  | _ => st
def sdM (k : Nat) (r : LRow) (st : List Int) : List Int := match r with
  | .say f _ => [valM k f st]
  | .look _ => st
  | _ => []
def nxM (r : LRow) (x : Int) : Int := match r with
  | .set _ _ j => j
  | .say _ j => j
  | .ask _ j => j
  | .look j => j
  | .choose ks => ks.getD x.toNat 0
  | .stop => 0
def fitM (r : LRow) (x : Int) : Prop := match r with
  | .ask _ _ => True
  | .choose ks => 0 ≤ x ∧ x < ks.length
  | .stop => False
  | _ => x = 0
/-- the row that is next, the state, what was said -/
abbrev Q3 := Int × List Int × List Int
def stp (k : Nat) (ns : List Str) (rs : List LRow) (q : Q3) (x : Int) : Q3 := match rs[q.1.toNat]? with
  | some r => (nxM r x, stM k ns r q.2.1 x, q.2.2 ++ sdM k r q.2.1)
  | none => q
def runF (k : Nat) (ns : List Str) (rs : List LRow) (q : Q3) (nums : List Int) : Q3 := nums.foldl (stp k ns rs) q
/-- each number fits the row that is executed with it -/
def Fits (k : Nat) (ns : List Str) (rs : List LRow) (q : Q3) (nums : List Int) : Prop := ∀ i x, nums[i]? = some x → ∃ r, rs[(runF k ns rs q (nums.take i)).1.toNat]? = some r ∧ fitM r x
def InR (k : Nat) (st : List Int) : Prop := ∀ x ∈ st, 0 ≤ x ∧ x < 2 ^ k
section
variable {k : Nat} {ns : List Str} {rs : List LRow} {q : Q3} {nums more : List Int} {x : Int} {r : LRow} {st : List Int} {m : Int}
theorem runF_nil : runF k ns rs q [] = q := rfl
theorem runF_snoc : runF k ns rs q (nums ++ [x]) = stp k ns rs (runF k ns rs q nums) x := by
  unfold runF
  rw [List.foldl_append]
  rfl
theorem runF_append : runF k ns rs q (nums ++ more) = runF k ns rs (runF k ns rs q nums) more := by
  unfold runF
  rw [List.foldl_append]
theorem take_snoc {α : Type} {l : List α} {i : Nat} {y : α} (h : l[i]? = some y) : l.take (i + 1) = l.take i ++ [y] := by
  rw [List.take_succ, h]
  rfl
theorem runF_take {i : Nat} (h : nums[i]? = some x) : runF k ns rs q (nums.take (i + 1)) = stp k ns rs (runF k ns rs q (nums.take i)) x := by
  rw [take_snoc h, runF_snoc]
/-- what is said is put behind what was said -/
theorem stp_said {q' : Q3} (h1 : q.1 = q'.1) (h2 : q.2.1 = q'.2.1) : (stp k ns rs q x).1 = (stp k ns rs q' x).1 ∧ (stp k ns rs q x).2.1 = (stp k ns rs q' x).2.1 := by
  unfold stp
  rw [h1]
  cases rs[q'.1.toNat]? with
  | none => exact ⟨h1, h2⟩
  | some r => exact ⟨rfl, by rw [h2]⟩
theorem fits_nil : Fits k ns rs q [] := fun i x h => by simp at h
theorem fits_snoc (h : Fits k ns rs q nums) (hr : rs[(runF k ns rs q nums).1.toNat]? = some r) (hx : fitM r x) : Fits k ns rs q (nums ++ [x]) := fun i y hy => by
  by_cases hi : i < nums.length
  · rw [List.getElem?_append_left hi] at hy
    obtain ⟨r', e1, e2⟩ := h i y hy
    exact ⟨r', by rw [List.take_append_of_le_length (by omega)]; exact e1, e2⟩
  · have hle := (List.getElem?_eq_some_iff.mp hy).1
    rw [List.length_append, List.length_singleton] at hle
    have : i = nums.length := by omega
    subst this
    rw [List.getElem?_append_right (Nat.le_refl _)] at hy
    simp at hy
    subst hy
    exact ⟨r, by rw [List.take_left' rfl]; exact hr, hx⟩
theorem nx_ok (h : RowOk ns m r) (hx : fitM r x) : 0 ≤ nxM r x ∧ nxM r x < m := by
  cases r with
  | set n f j => exact ⟨h.2.2.1, h.2.2.2⟩
  | say f j => exact ⟨h.2.1, h.2.2⟩
  | ask n j => exact ⟨h.2.1, h.2.2⟩
  | look j => exact h
  | stop => exact hx.elim
  | choose ks =>
    obtain ⟨h1, h2, h3⟩ := h
    obtain ⟨x0, x1⟩ := hx
    show 0 ≤ ks.getD x.toNat 0 ∧ ks.getD x.toNat 0 < m
    have hlt : x.toNat < ks.length := by omega
    rw [List.getD_eq_getElem?_getD, List.getElem?_eq_getElem hlt]
    exact h3 _ (List.getElem_mem hlt)
theorem valM_in {f : List Int} : 0 ≤ valM k f st ∧ valM k f st < 2 ^ k := by
  have p0 : (0 : Int) < 2 ^ k := Int.pow_pos (by decide)
  exact ⟨Int.emod_nonneg _ (by omega), Int.emod_lt_of_pos _ p0⟩
theorem inR_set {i : Nat} {y : Int} (h : InR k st) (hy : 0 ≤ y ∧ y < 2 ^ k) : InR k (st.set i y) := fun z hz => by
  rcases List.mem_or_eq_of_mem_set hz with hz | rfl
  · exact h z hz
  · exact hy
theorem stM_in (h : InR k st) : InR k (stM k ns r st x) := by
  have p0 : (0 : Int) < 2 ^ k := Int.pow_pos (by decide)
  cases r with
  | set n f j => exact inR_set h valM_in
  | ask n j => exact inR_set h ⟨Int.emod_nonneg _ (by omega), Int.emod_lt_of_pos _ p0⟩
  | _ => exact h
theorem stM_len : (stM k ns r st x).length = st.length := by
  cases r with
  | set n f j => exact List.length_set
  | ask n j => exact List.length_set
  | _ => rfl
/-- what holds along a run -/
structure Good3 (k n : Nat) (m : Int) (q : Q3) : Prop where
  r0 : 0 ≤ q.1
  r1 : q.1 < m
  len : q.2.1.length = n
  inr : InR k q.2.1
theorem good_stp {n : Nat} (hok : ∀ r ∈ rs, RowOk ns m r) (h : Good3 k n m q) (hr : rs[q.1.toNat]? = some r) (hx : fitM r x) : Good3 k n m (stp k ns rs q x) := by
  have z := nx_ok (hok r (List.mem_of_getElem? hr)) hx
  unfold stp
  rw [hr]
  exact ⟨z.1, z.2, by show (stM k ns r q.2.1 x).length = n; rw [stM_len]; exact h.len, stM_in h.inr⟩
theorem good_run {n : Nat} (hok : ∀ r ∈ rs, RowOk ns m r) (h : Good3 k n m q) (hf : Fits k ns rs q nums) : ∀ i, i ≤ nums.length → Good3 k n m (runF k ns rs q (nums.take i))
  | 0, _ => h
  | i + 1, hi => by
    have hlt : i < nums.length := hi
    obtain ⟨r, h1, h2⟩ := hf i _ (List.getElem?_eq_getElem hlt)
    rw [runF_take (List.getElem?_eq_getElem hlt)]
    exact good_stp hok (good_run hok h hf i (Nat.le_of_lt hlt)) h1 h2
end
/-! ### ways out of rows, in the heap -/
def exR : LRow → Str × List Int
  | .stop => ("stop", [])
  | .choose ks => ("choose", ks)
  | .ask _ j => ("ask", [j])
  | .set _ _ j => ("go", [j])
  | .say _ j => ("go", [j])
  | .look j => ("go", [j])
def ExH (H : Hp) (v : V) (g : Str × List Int) : Prop := ∃ a b, v = .ref a ∧ H a = some (.tup [.str g.1, .ref b]) ∧ H b = some (.tup (g.2.map .int))
theorem ExH.ts {H H' : Hp} (s : Ts H H') {v : V} {g : Str × List Int} (h : ExH H v g) : ExH H' v g := by
  obtain ⟨a, b, e, h1, h2⟩ := h
  exact ⟨a, b, e, s _ _ h1, s _ _ h2⟩
/-! ### lists that are related item by item -/
inductive F2 {α : Type} (R : V → α → Prop) : List V → List α → Prop
  | nil : F2 R [] []
  | cons {v : V} {vs : List V} {a : α} {as : List α} : R v a → F2 R vs as → F2 R (v :: vs) (a :: as)
section
variable {α β : Type} {R S : V → α → Prop}
theorem F2.mono (h : ∀ v a, R v a → S v a) : ∀ {vs : List V} {as : List α}, F2 R vs as → F2 S vs as
  | _, _, .nil => .nil
  | _, _, .cons x t => .cons (h _ _ x) (t.mono h)
theorem F2.len : ∀ {vs : List V} {as : List α}, F2 R vs as → vs.length = as.length
  | _, _, .nil => rfl
  | _, _, .cons _ t => congrArg Nat.succ t.len
theorem F2.at : ∀ {vs : List V} {as : List α} {i : Nat} {v : V}, F2 R vs as → vs[i]? = some v → ∃ a, as[i]? = some a ∧ R v a
  | _, _, _, _, .nil, e => by simp at e
  | _, _, 0, _, .cons h _, e => by
    simp at e
    subst e
    exact ⟨_, rfl, h⟩
  | _, _, i + 1, _, .cons _ t, e => by
    obtain ⟨d, e1, e2⟩ := F2.at (i := i) t (by simpa using e)
    exact ⟨d, by simpa using e1, e2⟩
theorem F2.get : ∀ {vs : List V} {as : List α} {i : Nat} {a : α}, F2 R vs as → as[i]? = some a → ∃ v, vs[i]? = some v ∧ R v a
  | _, _, _, _, .nil, e => by simp at e
  | _, _, 0, _, .cons h _, e => by
    simp at e
    subst e
    exact ⟨_, rfl, h⟩
  | _, _, i + 1, _, .cons _ t, e => by
    obtain ⟨d, e1, e2⟩ := F2.get (i := i) t (by simpa using e)
    exact ⟨d, by simpa using e1, e2⟩
theorem F2.append : ∀ {vs us : List V} {as bs : List α}, F2 R vs as → F2 R us bs → F2 R (vs ++ us) (as ++ bs)
  | _, _, _, _, .nil, k => k
  | _, _, _, _, .cons h t, k => .cons h (t.append k)
theorem f2_rows {H : Hp} : ∀ {vs : List V} {rs : List LRow}, RowsH H vs rs → F2 (RowH H) vs rs
  | _, _, .nil => .nil
  | _, _, .cons h t => .cons h (f2_rows t)
theorem f2_ints : ∀ xs : List Int, F2 (fun v (x : Int) => v = .int x) (xs.map V.int) xs
  | [] => .nil
  | _ :: xs => .cons rfl (f2_ints xs)
theorem f2_ints_of : ∀ {vs : List V} {xs : List Int}, F2 (fun v (x : Int) => v = .int x) vs xs → vs = xs.map V.int
  | _, _, .nil => rfl
  | _, _, .cons h t => by rw [h, f2_ints_of t]; rfl
end
section
variable {K : PySem.W.Frag} {H : Hp} {σ : L2.St} {a : Addr} {xs : List V}
/-- [f(x) for x in t], t a tuple or a list, only objects made: the results are of one kind, which tuples alone tell -/
theorem tlc_core {α β : Type} {J : It} {as : List α} {k : Nat} {te : TE} {vs : List Nat} {Q : VK} {D : Addr} (Rin : Hp → V → α → Prop) (Rout : Hp → V → β → Prop) (f : α → β)
    (iS : ∀ {H H' v x}, Same H H' → Rin H v x → Rin H' v x) (oS : ∀ {H H' v x}, Ts H H' → Rout H v x → Rout H' v x) (hr : F2 (Rin H) xs as) (h3 : xs.length ≤ 1000) (hD : H D = none)
    (hw : ∀ x, wipe ((wipe σ vs).set k (some x)) vs = wipe σ vs)
    (he : ∀ (i : Nat) (x : V) (r : α) (H' : Hp), as[i]? = some r → Rin H' x r → Same H H' → ∀ R : VK, (∀ u H'', Same H' H'' → Rout H'' u (f r) → R u H'') → te ((wipe σ vs).set k (some x)) H' R)
    (lc : ∀ (Pv : Nat → Hp → Prop), Pv 0 (upd H D (.lst [])) → (∀ i H', Pv i H' → Same H H') → (∀ i x H', xs[i]? = some x → Pv i H' → gName k x (wipe σ vs) H' fun σ2 H2 => wipe σ2 vs = wipe σ vs ∧ tYes σ2 H2 fun b H3 =>
        if b = true then te σ2 H3 fun y H4 => ∃ acc, H4 D = some (.lst acc) ∧ acc.length < sizeLine ∧ Pv (i + 1) (upd H4 D (.lst (acc ++ [y]))) else Pv (i + 1) H3) → (∀ H', Pv xs.length H' → Q (.ref D) H') →
      ∃ W : Nat → Nat → Hp → Prop, (∃ m, W 0 m (upd H D (.lst []))) ∧ ∀ i m H, W i m H → (J.stop i H ∧ Q (.ref D) H) ∨ (J.go i H ∧ ∃ Nx : Hp → Prop, (∀ H', Nx H' → ∃ m', m' < m ∧ W (i + 1) m' H') ∧ ∀ x H', J.yld i H x H' → gName k x (wipe σ vs) H' fun σ2 H2 => wipe σ2 vs = wipe σ vs ∧ tYes σ2 H2 fun b H3 =>
        if b = true then te σ2 H3 fun y H4 => ∃ acc, H4 D = some (.lst acc) ∧ acc.length < sizeLine ∧ Nx (upd H4 D (.lst (acc ++ [y]))) else Nx H3))
    (q : ∀ ys H', Same H H' → H' D = some (.lst ys) → F2 (Rout H') ys (as.map f) → Q (.ref D) H') :
    ∃ W : Nat → Nat → Hp → Prop, (∃ m, W 0 m (upd H D (.lst []))) ∧ ∀ i m H, W i m H → (J.stop i H ∧ Q (.ref D) H) ∨ (J.go i H ∧ ∃ Nx : Hp → Prop, (∀ H', Nx H' → ∃ m', m' < m ∧ W (i + 1) m' H') ∧ ∀ x H', J.yld i H x H' → gName k x (wipe σ vs) H' fun σ2 H2 => wipe σ2 vs = wipe σ vs ∧ tYes σ2 H2 fun b H3 =>
        if b = true then te σ2 H3 fun y H4 => ∃ ac, H4 D = some (.lst ac) ∧ ac.length < sizeLine ∧ Nx (upd H4 D (.lst (ac ++ [y]))) else Nx H3) := by
  refine lc (fun i H' => Same H H' ∧ ∃ ys, H' D = some (.lst ys) ∧ F2 (Rout H') ys ((as.take i).map f)) ⟨same_new hD, [], upd_same, .nil⟩ (fun i H' h => h.1) ?_ ?_
  · rintro i x H' hi ⟨s1, ys, hys, hrs⟩
    obtain ⟨r, hri, hrv⟩ := hr.at hi
    have hlen := hrs.len
    refine ⟨hw _, ?_⟩
    unfold tYes
    simp only [if_true]
    refine he i x r H' hri (iS s1 hrv) s1 _ fun u H2 s2 hu => ⟨ys, s2 _ _ hys, ?_, fun b o e => ?_, _, upd_same, ?_⟩
    · rw [hlen, List.length_map, List.length_take]
      have := hr.len
      exact small1000 (by omega)
    · rw [upd_ne (ne_of_none e hD)]
      exact s2 _ _ (s1 _ _ e)
    · have t1 : Ts H2 (upd H2 D (.lst (ys ++ [u]))) := Ts.lst (s2 _ _ hys)
      rw [List.take_succ, hri, List.map_append]
      exact (hrs.mono fun v b h => oS t1 (oS (Ts.of s2) h)).append (.cons (oS t1 hu) .nil)
  · rintro H' ⟨s1, ys, h1, h2⟩
    rw [hr.len, List.take_length] at h2
    exact q ys H' s1 h1 h2
theorem tlc_F2E {α β : Type} {as : List α} {j k : Nat} {te : TE} {vs : List Nat} {Q : VK} (Rin : Hp → V → α → Prop) (Rout : Hp → V → β → Prop) (f : α → β)
    (iS : ∀ {H H' v x}, Same H H' → Rin H v x → Rin H' v x) (oS : ∀ {H H' v x}, Ts H H' → Rout H v x → Rout H' v x) (hj : σ[j]? = some (some (.ref a))) (hx : SqE K H a xs) (hr : F2 (Rin H) xs as) (h3 : xs.length ≤ 1000)
    (hw : ∀ x, wipe ((wipe σ vs).set k (some x)) vs = wipe σ vs)
    (he : ∀ (i : Nat) (x : V) (r : α) (H' : Hp), as[i]? = some r → Rin H' x r → Same H H' → ∀ R : VK, (∀ u H'', Same H' H'' → Rout H'' u (f r) → R u H'') → te ((wipe σ vs).set k (some x)) H' R)
    (q : ∀ D ys H', Same H H' → H D = none → H' D = some (.lst ys) → F2 (Rout H') ys (as.map f) → Q (.ref D) H') : tLc (iEither K (tVar j)) (gName k) tYes te vs σ H Q := by
  rcases hx with hx | hx
  · exact Or.inl ⟨_, hj, a, rfl, ⟨xs, hx⟩, fun D hD => tlc_core (J := Itl K a) (D := D) Rin Rout f iS oS hr h3 hD hw he (fun Pv p0 pS ht hd => lc_list Pv p0 (fun i H' _ h => (pS i H' h).seq hx) ht hd) fun ys H' s e h => q D ys H' s hD e h⟩
  · exact Or.inr ⟨_, hj, a, rfl, ⟨xs, hx⟩, fun D hD => tlc_core (J := Itt K a) (D := D) Rin Rout f iS oS hr h3 hD hw he (fun Pv p0 pS ht hd => lc_tup Pv p0 (fun i H' _ h => same_sqT (pS i H' h) hx) ht hd) fun ys H' s e h => q D ys H' s hD e h⟩
end
end Lk

namespace Lk
open PySem PySem.Spec PyProof.Rows L2
/-- an own error with two fields, as the top has left it -/
structure Ec2 (P : Program) (w : World) (K : PySem.W.Frag) (mg : Str → Option Value) (base : Heap) (x : Str) (B C : Addr) (f g : Str) : Prop where
  k : ErK K mg x C B
  i : ∃ fI fd, PySem.W.findIn K (.ref C) "__init__" = some (some (.ref fI)) ∧ PySem.W.typeIn K (.ref fI) = some (.type "function") ∧ FnOk P w K mg base CX0 1 fI fd ["self", f, g] (spI2 C f g) ∧ Binds K fd ["self", f, g] []
  hd : PySem.W.hasDictIn K C = true
  nf : PySem.W.findIn K (.ref C) f = some none
  ng : PySem.W.findIn K (.ref C) g = some none
theorem Ec2.xf {P : Program} {w : World} {K : PySem.W.Frag} {mg : Str → Option Value} {base : Heap} {x : Str} {B C : Addr} {f g : Str} (E : Ec2 P w K mg base x B C f g) : XfC K C := ⟨E.k.ek.ga, E.k.ek.gt, E.k.ek.su, E.hd⟩
/-- what is left to show once the error's fields are there -/
def rzP (C : Addr) (f g : Str) (W : WX) (σ : L2.St) (vs : List V) (H : Hp) : Prop := vs.length ≤ 1000 ∧ ∀ a, H a = none → spI2 C f g (.ref a :: (vs ++ [])) (upd H a (exo a C none))
  (fun v H2 => v = .non ∧ ∃ (d : Addr) (fs : List (Str × V)), H2 a = some (exo a C (some d)) ∧ H2 d = some (exd d fs) ∧ H d = none ∧ W (.ref C) (some d) σ (upd (del H2 a) d (.xd fs))) (fun _ _ _ => False)
def tRz (C : Addr) (f g : Str) (W : WX) (t : TA) : TS := fun _ σ H => t σ H fun vs H1 => rzP C f g W σ vs H1
theorem srz {C : Addr} {f g : Str} {W : WX} {t : TA} {D : Ends} {σ : L2.St} {H : Hp} (q : t σ H fun vs H1 => rzP C f g W σ vs H1) : tRz C f g W t D σ H := q
theorem s_rz {C : Addr} {f g : Str} {W : WX} {σ : L2.St} {H : Hp} {x y : V} (q : ∀ d H', Same H H' → H' d = some (.xd [(g, y), (f, x)]) → W (.ref C) (some d) σ H') : rzP C f g W σ [x, y] H := by
  refine ⟨Nat.le_of_ble_eq_true rfl, fun a ha => ⟨a, x, y, rfl, upd_same, fun d H2 hd hne e1 e2 e3 => ⟨rfl, d, _, e1, e2, by rwa [upd_ne hne] at hd, q d _ (fun b o e => ?_) upd_same⟩⟩⟩
  have nb : b ≠ a := ne_of_none e ha
  have nd : b ≠ d := fun z => by
    rw [z] at e
    rw [upd_ne hne, e] at hd
    cases hd
  rw [upd_ne nd, del_ne nb, e3 b nb nd, upd_ne nb]
  exact e
section
variable {X : Cx} {x : Str} {B C : Addr} {f g : Str} {e : Expr} {es : List Expr} {t : TA} {p pos pos2 : Pos} {W : WX} {j : Nat}
theorem ps_rz (E : Ec2 X.prog X.w X.K X.mg X.base x B C f g) (hr : Room j X.A) (hj : 2 ≤ j) (tk : Takes X W) (ha : PA X (e :: es) t) (hc : X.calm = true := by rfl) (hg : Gl X x := by rfl)
    (hdb : (x == ("__debug__" : Str)) = false := by decide) (he : starEach (e :: es) X.env = (false, eval e X.env) :: starEach es X.env := by rfl) (hpl : (backTo pos (starEach es X.env)).any (·.1) = false := by rfl) :
    PS X (.Raise (some (.Call (.Name x p) (e :: es) [] pos)) none pos2) (tRz C f g W t) := by
  obtain ⟨fI, fd, h1, h2, F, b⟩ := E.i
  exact ps_raise hc tk (pmk_oex E.k.ox h1 h2 F (hr.mono hj) b .nil pass0 hg E.k.g ha hdb he hpl)
end
/-- a def that may let an error out -/
structure Cax (P : Program) (w : World) (K : PySem.W.Frag) (mg : Str → Option Value) (base : Heap) (k : Nat) (x : Str) (ps : List Str) (sp : Sp) : Prop where
  ex : ∃ f fd, mg x = some (.ref f) ∧ PySem.W.keepIn K (.ref f) = true ∧ Binds K fd ps [] ∧ FnOk P w K mg base (L2.CX P w) k f fd ps sp
theorem pcax {X : Cx} {k j : Nat} {x : Str} {ps : List Str} {sp : Sp} {e : Expr} {es : List Expr} {t : TA} {p pos : Pos} {W : WX} (c : Cax X.prog X.w X.K X.mg X.base k x ps sp) (hr : Room j X.A) (hk : k ≤ j) (tk : Takes X W) (ha : PA X (e :: es) t) (hg : Gl X x := by rfl)
    (hdb : (x == ("__debug__" : Str)) = false := by decide) (he : starEach (e :: es) X.env = (false, eval e X.env) :: starEach es X.env := by rfl) (hpl : (backTo pos (starEach es X.env)).any (·.1) = false := by rfl) :
    PE X (.Call (.Name x p) (e :: es) [] pos) (tCallS sp (WE W) t) := by
  obtain ⟨f, fd, hm, kp, b, F⟩ := c.ex
  exact pe_callS F (hr.mono hk) hg hm kp b (fun σ => passAt tk σ) ha hdb he hpl
theorem scx {sp : Sp} {E : L2.St → XK} {tl : TA} {σ : L2.St} {H : Hp} {Q : VK} (q : tl σ H fun vs H1 => sp vs H1 Q (E σ)) : tCallS sp E tl σ H Q := q
/-- C(..), the errors of its __init__ wished for at the slots -/
def mkP (C : Addr) (sp : Sp) (E : XK) (vs : List V) (H : Hp) (Q : VK) : Prop := ∀ x dx, H x = none → H dx = none → dx ≠ x → sp (.ref x :: vs) (upd (upd H dx (.own x)) x (.ins C dx [])) (fun v H2 => v = .non ∧ Q (.ref x) H2) E
def tMakeX (C : Addr) (sp : Sp) (W : WX) (t : TA) : TE := fun σ H Q => t σ H fun vs H1 => mkP C sp (WE W σ) vs H1 Q
theorem smx {C : Addr} {sp : Sp} {W : WX} {t : TA} {σ : L2.St} {H : Hp} {Q : VK} (q : t σ H fun vs H1 => mkP C sp (WE W σ) vs H1 Q) : tMakeX C sp W t σ H Q := q
section
variable {X : Cx} {x : Str} {C f : Addr} {k : Nat} {fd : FuncData} {ps : List Str} {sp : Sp} {e : Expr} {es : List Expr} {t : TA} {p pos : Pos} {W : WX}
theorem pe_makeX (M : Mk X.K C f) (F : FnOk X.prog X.w X.K X.mg X.base (L2.CX X.prog X.w) k f fd ps sp) (hr : Room (k + 1) X.A) (hm : X.mg x = some (.ref C)) (hb : Binds X.K fd ps []) (tk : Takes X W) (ha : PA X (e :: es) t) (hg : Gl X x := by rfl)
    (hdb : (x == ("__debug__" : Str)) = false := by decide) (he : starEach (e :: es) X.env = (false, eval e X.env) :: starEach es X.env := by rfl) (hpl : (backTo pos (starEach es X.env)).any (·.1) = false := by rfl) :
    PE X (.Call (.Name x p) (e :: es) [] pos) (tMakeX C sp W t) := by
  refine ⟨fun pins s σ H Q I h => wpAny_Call_Name_kw (ld_glob I hg hm ?_ hdb)⟩
  refine PySem.W.callWith_K (h₀ := X.base) I.ok.mod.kin M.kp (thn (ha.run pos pins s σ H _ I h) fun us s1 hh => ?_) he hpl
  obtain ⟨vs, H1, I1, r, q⟩ := hh
  refine ⟨I1.kIn, ?_⟩
  obtain ⟨n, hn⟩ : ∃ n, n = s1.heap.objs.size := ⟨_, rfl⟩
  have fr0 : H1 n = none := by rw [hn]; exact I1.hok.fresh (Nat.le_refl _)
  have fr1 : H1 (n + 1) = none := by rw [hn]; exact I1.hok.fresh (Nat.le_succ _)
  have go := q (n + 1) n fr1 fr0 (Nat.ne_of_lt (Nat.lt_succ_self _))
  have J := Inv.made (C := C) I1
  rw [← hn] at J
  have rr : Vals (V.ref (n + 1) :: vs) (Value.ref (n + 1) :: us) := .cons rfl r
  have len : (Value.ref (n + 1) :: us).length = ps.length := by rw [← rr.length]; exact F.len _ _ _ _ go
  have bb := hb _ (Value.ref (n + 1) :: us) J.kIn (by rw [List.append_nil]; exact len)
  rw [List.append_nil] at bb
  rw [hn] at bb rr go J
  refine wpAny_call (make_map (f := f) I1.kIn M.makes M.init (beq_iff_eq.mp M.fn) ?_)
  refine codeAny_mono (F.run _ X.stack _ _ ⟨Value.ref (s1.heap.objs.size + 1) :: us, []⟩ (Value.ref (s1.heap.objs.size + 1) :: us) _ _ (WE W σ) (hr.make C us []) (J.env0.make C us []) bb rr go) fun r s' hq => ?_
  cases r with
  | error er => exact passAt tk σ pins _ _ er s' J hq
  | ok fl =>
    cases fl with
    | ret u =>
      obtain ⟨v, H', J3, rv, ev, q3⟩ := J.after hq
      subst ev
      exact ⟨rv, ⟨V.ref _, H', J3, rfl, q3⟩⟩
    | next => exact hq.elim
    | brk => exact hq.elim
    | cont => exact hq.elim
end
/-- e.f, e the error that the suite holds -/
theorem s_xf {a C dd : Addr} {f : Str} {i : Nat} {fs : List (Str × V)} {v : V} {σ : L2.St} {H : Hp} {Q : VK} (hi : σ[i]? = some (some (.ref a))) (hd : H dd = some (.xd fs)) (hl : fs.lookup f = some v) (q : Q v H) : tXf a (.ref C) (some dd) C f (tVar i) σ H Q :=
  ⟨.ref a, hi, rfl, rfl, dd, fs, v, rfl, hd, hl, q⟩
/-- «except C» takes an error of the class C -/
theorem exm_er {K : PySem.W.Frag} {mg : Str → Option Value} {x : Str} {C B : Addr} (E : ErK K mg x C B) : PySem.W.exmOne K (.ref C) (.ref C) = some true := by
  obtain ⟨cd, e1, e2⟩ := erk_cls E
  have a1 : (PySem.W.subIn K (.ref C) (.type "BaseException") == some true) = true := by rw [E.ek.su] <;> rfl
  have a2 : ((PySem.W.clsIn K C).isSome && PySem.W.typeIn K (.ref C) == some (.type "type")) = true := by rw [e1, E.ty] <;> rfl
  unfold PySem.W.exmOne
  rw [if_pos a1]
  unfold PySem.W.kitCls
  simp only []
  rw [if_pos a2]
  show PySem.W.mroIn K C (.ref C) = some true
  unfold PySem.W.mroIn
  rw [e1, Option.bind_some, e2]
  simp [List.contains, List.elem]
end Lk

namespace Lk
open PySem PySem.Spec PyProof.Rows L2
/-! ### data that may be of the wrong kind -/
section
variable {K : PySem.W.Frag} {H H' : Hp}
theorem ty_sqL {p : Addr} {xs : List V} (h : SqL K H p xs) : TyX K H (.ref p) (.type "list") := by
  rcases h with (e | ⟨o, e⟩) | ⟨o, its, n, e, c, _⟩
  · exact .base (.lst e)
  · exact .base (.frz e)
  · exact .kList e c
theorem ty_sqT {p : Addr} {xs : List V} (h : SqT K H p xs) : TyX K H (.ref p) (.type "tuple") := by
  rcases h with (e | ⟨o, e⟩) | ⟨o, its, n, e, c, _⟩
  · exact .base (.tup e)
  · exact .fTuple e
  · exact .kTuple e c
/-- its type stays -/
inductive Tyo (K : PySem.W.Frag) (H : Hp) : V → String → Prop
  | dp {v : V} {d : PyData} (h : Dp K H v d) : Tyo K H v (tyn d)
  | dct {a : Addr} {kvs : List (Key × V)} (h : H a = some (.dK kvs)) : Tyo K H (.ref a) "dict"
  | lst {p : Addr} {xs : List V} (h : SqL K H p xs) : Tyo K H (.ref p) "list"
theorem Tyo.ty {v : V} {t : String} (h : Tyo K H v t) : TyX K H v (.type t) := by
  cases h with
  | dp h => exact tyx_dp h
  | dct h => exact .base (.dK h)
  | lst h => exact ty_sqL h
theorem Tyo.same (s : Same H H') {v : V} {t : String} (h : Tyo K H v t) : Tyo K H' v t := by
  cases h with
  | dp h => exact .dp (dp_same s h)
  | dct h => exact .dct (s _ _ h)
  | lst h => exact .lst (s.seq h)
/-- a list or a tuple of these items, or neither -/
inductive Sh (K : PySem.W.Frag) (H : Hp) : V → Option (List V) → Prop
  | seq {p : Addr} {xs : List V} (h : SqE K H p xs) : Sh K H (.ref p) (some xs)
  | no {v : V} {t : String} (h : Tyo K H v t) (h1 : kitB t "list" = some false) (h2 : kitB t "tuple" = some false) : Sh K H v none
/-- a tuple of these data, or no tuple -/
inductive It (K : PySem.W.Frag) (H : Hp) : V → Option (List PyData) → Prop
  | tup {p : Addr} {xs : List V} {ds : List PyData} (h : SqT K H p xs) (hd : DpAll K H xs ds) : It K H (.ref p) (some ds)
  | no {v : V} {t : String} (h : Tyo K H v t) (h2 : kitB t "tuple" = some false) : It K H v none
theorem Sh.same (s : Same H H') {v : V} {o : Option (List V)} (h : Sh K H v o) : Sh K H' v o := by
  cases h with
  | seq h => exact .seq (h.same s)
  | no h h1 h2 => exact .no (h.same s) h1 h2
theorem It.same (s : Same H H') {v : V} {o : Option (List PyData)} (h : It K H v o) : It K H' v o := by
  cases h with
  | tup h hd => exact .tup (same_sqT s h) (dpa_same s hd)
  | no h h2 => exact .no (h.same s) h2
def shB (o : Option (List V)) (a b : Int) : Bool := match o with
  | some xs => decide (a ≤ xs.length) && decide ((xs.length : Int) ≤ b)
  | none => false
def tupD : PyData → Option (List PyData)
  | .tuple ds => some ds
  | _ => none
theorem it_dp {v : V} {d : PyData} (h : Dp K H v d) : It K H v (tupD d) := by
  cases d with
  | tuple ds =>
    obtain ⟨p, xs, rfl, h1, h2⟩ := dp_tupI h
    exact .tup h1 h2
  | dict kvs => cases h
  | none => exact .no (.dp h) (ki_tup _)
  | bool b => exact .no (.dp h) (ki_tup _)
  | int i => exact .no (.dp h) (ki_tup _)
  | str x => exact .no (.dp h) (ki_tup _)
  | list ds => exact .no (.dp h) (ki_tup _)
theorem it_dct {a : Addr} {kvs : List (Key × V)} (h : H a = some (.dK kvs)) : It K H (.ref a) none := .no (.dct h) (by decide +kernel)
theorem it_lst {p : Addr} {xs : List V} (h : SqL K H p xs) : It K H (.ref p) none := .no (.lst h) (by decide +kernel)
theorem sh_dct {a : Addr} {kvs : List (Key × V)} (h : H a = some (.dK kvs)) : Sh K H (.ref a) none := .no (.dct h) (by decide +kernel) (by decide +kernel)
theorem sh_non : Sh K H .non none := .no (.dp .non) (by decide +kernel) (by decide +kernel)
theorem sh_int (i : Int) : Sh K H (.int i) none := .no (.dp (.int i)) (ki_list _) (ki_tup _)
theorem sh_str (x : Str) : Sh K H (.str x) none := .no (.dp (.str x)) (ki_list _) (ki_tup _)
/-- isinstance(v, (list, tuple)) -/
theorem s_isiSh {v : V} {o : Option (List V)} {t : Addr} {Q : VK} (h : Sh K H v o) (ht : H t = some (.tup [.ty "list", .ty "tuple"])) (q : Q (.bl o.isSome) H) : rIsiT K [v, .ref t] H Q := by
  cases h with
  | seq h =>
    rcases h with h | h
    · exact ⟨_, t, _, _, _, true, rfl, ht, .cons (.ty _) (.cons (.ty _) .nil), ty_sqL h, ki_lt (.list []), q⟩
    · exact ⟨_, t, _, _, _, true, rfl, ht, .cons (.ty _) (.cons (.ty _) .nil), ty_sqT h, ki_lt (.tuple []), q⟩
  | no h h1 h2 =>
    have z : ∀ K', PySem.W.kitAny K' (.type _) [.type "list", .type "tuple"] = some false := fun K' => kitAny_cons (K := K') (b := false) (kit_ty h1) (fun _ => kitAny_cons (b := false) (kit_ty h2) (fun _ => rfl) (fun y => by cases y)) (fun y => by cases y)
    exact ⟨_, t, _, _, _, false, rfl, ht, .cons (.ty _) (.cons (.ty _) .nil), h.ty, z _, q⟩
/-- isinstance(v, tuple) -/
theorem s_isiIt {v : V} {o : Option (List PyData)} {Q : VK} (h : It K H v o) (q : Q (.bl o.isSome) H) : rIsi K [v, .ty "tuple"] H Q := by
  cases h with
  | tup h hd => exact ⟨_, _, _, _, true, rfl, .ty _, ty_sqT h, kit_ty (by decide +kernel), q⟩
  | no h h2 => exact ⟨_, _, _, _, false, rfl, .ty _, h.ty, kit_ty h2, q⟩
end
/-! ### rows of any kind -/
def varD (ns : List Str) : PyData → Bool
  | .str x => decide (x ∈ ns)
  | _ => false
def rowT (ns : List Str) (m : Int) (ds : List PyData) : Bool := match ds with
  | .str k :: rest =>
    if k = "set" ∧ rest.length = 3 then varD ns (rest.getD 0 .none) && (formD (rest.getD 1 .none) ns.length && withinD (rest.getD 2 .none) 0 (m - 1))
    else if k = "ask" ∧ rest.length = 2 then varD ns (rest.getD 0 .none) && withinD (rest.getD 1 .none) 0 (m - 1)
    else if k = "say" ∧ rest.length = 2 then formD (rest.getD 0 .none) ns.length && withinD (rest.getD 1 .none) 0 (m - 1)
    else if k = "look" ∧ rest.length = 1 then withinD (rest.getD 0 .none) 0 (m - 1)
    else if k = "choose" ∧ rest.length = 1 then nextsD (rest.getD 0 .none) 1 6 m
    else decide (k = "stop") && decide (rest.length = 0)
  | _ => false
def rowO (ns : List Str) (m : Int) (o : Option (List PyData)) : Bool := match o with
  | some ds => rowT ns m ds
  | none => false
def LRow.ds : LRow → List PyData
  | .set n f k => [.str "set", .str n, intsD f, .int k]
  | .say f k => [.str "say", intsD f, .int k]
  | .ask n k => [.str "ask", .str n, .int k]
  | .choose ks => [.str "choose", intsD ks]
  | .look k => [.str "look", .int k]
  | .stop => [.str "stop"]
theorem LRow.tupD (r : LRow) : tupD r.d = some r.ds := by cases r <;> rfl
theorem formD_ints {f : List Int} {n : Int} (h : (f.length : Int) = n + 1) : formD (intsD f) n = true := by
  show (decide (((f.map PyData.int).length : Int) = n + 1) && (f.map PyData.int).all isIntD) = true
  rw [List.length_map, List.all_map, Bool.and_eq_true]
  exact ⟨decide_eq_true h, List.all_eq_true.mpr fun _ _ => rfl⟩
theorem within_ok {i m : Int} (h0 : 0 ≤ i) (h1 : i < m) : withinD (.int i) 0 (m - 1) = true := by
  show (decide (0 ≤ i) && decide (i ≤ m - 1)) = true
  rw [Bool.and_eq_true]
  exact ⟨decide_eq_true h0, decide_eq_true (by omega)⟩
theorem nextsD_ints {ks : List Int} {m : Int} (h1 : 1 ≤ ks.length) (h2 : ks.length ≤ 6) (h : ∀ k ∈ ks, 0 ≤ k ∧ k < m) : nextsD (intsD ks) 1 6 m = true := by
  show (decide ((1 : Int) ≤ (ks.map PyData.int).length) && decide (((ks.map PyData.int).length : Int) ≤ 6) && (ks.map PyData.int).all fun e => withinD e 0 (m - 1)) = true
  rw [List.length_map, List.all_map, Bool.and_eq_true, Bool.and_eq_true]
  refine ⟨⟨decide_eq_true (by omega), decide_eq_true (by omega)⟩, List.all_eq_true.mpr fun k hk => ?_⟩
  obtain ⟨a, b⟩ := h k hk
  exact within_ok a b
theorem nand_ {a b : Str} {p : Prop} (h : a ≠ b) : ¬ (a = b ∧ p) := fun x => h x.1
theorem rowT_ok {ns : List Str} {m : Int} {r : LRow} (h : RowOk ns m r) : rowT ns m r.ds = true := by
  cases r with
  | set n f k =>
    obtain ⟨h1, h2, h3, h4⟩ := h
    unfold LRow.ds rowT
    dsimp only
    rw [if_pos ⟨rfl, rfl⟩]
    show (decide (n ∈ ns) && (formD (intsD f) ns.length && withinD (.int k) 0 (m - 1))) = true
    rw [decide_eq_true h1, formD_ints (by omega), within_ok h3 h4]
    rfl
  | say f k =>
    obtain ⟨h2, h3, h4⟩ := h
    unfold LRow.ds rowT
    dsimp only
    rw [if_neg (nand_ (by decide +kernel)), if_neg (nand_ (by decide +kernel)), if_pos ⟨rfl, rfl⟩]
    show (formD (intsD f) ns.length && withinD (.int k) 0 (m - 1)) = true
    rw [formD_ints (by omega), within_ok h3 h4]
    rfl
  | ask n k =>
    obtain ⟨h1, h3, h4⟩ := h
    unfold LRow.ds rowT
    dsimp only
    rw [if_neg (nand_ (by decide +kernel)), if_pos ⟨rfl, rfl⟩]
    show (decide (n ∈ ns) && withinD (.int k) 0 (m - 1)) = true
    rw [decide_eq_true h1, within_ok h3 h4]
    rfl
  | choose ks =>
    obtain ⟨h1, h2, h3⟩ := h
    unfold LRow.ds rowT
    dsimp only
    rw [if_neg (nand_ (by decide +kernel)), if_neg (nand_ (by decide +kernel)), if_neg (nand_ (by decide +kernel)), if_neg (nand_ (by decide +kernel)), if_pos ⟨rfl, rfl⟩]
    exact nextsD_ints h1 h2 h3
  | look k =>
    obtain ⟨h3, h4⟩ := h
    unfold LRow.ds rowT
    dsimp only
    rw [if_neg (nand_ (by decide +kernel)), if_neg (nand_ (by decide +kernel)), if_neg (nand_ (by decide +kernel)), if_pos ⟨rfl, rfl⟩]
    exact within_ok h3 h4
  | stop =>
    unfold LRow.ds rowT
    dsimp only
    rw [if_neg (nand_ (by decide +kernel)), if_neg (nand_ (by decide +kernel)), if_neg (nand_ (by decide +kernel)), if_neg (nand_ (by decide +kernel)), if_neg (nand_ (by decide +kernel))]
    rfl
/-- two tests that leave the heap as it is -/
theorem s_and2 {tc tu : TT} {σ : L2.St} {H : Hp} {Q : Bool → Hp → Prop} {a b : Bool} (h1 : ∀ R : Bool → Hp → Prop, R a H → tc σ H R) (h2 : ∀ R : Bool → Hp → Prop, R b H → tu σ H R) (q : Q (a && b) H) : tAnd tc tu σ H Q := by
  refine h1 _ ?_
  cases a with
  | true => exact itt_ rfl (h2 _ q)
  | false => exact iff_ rfl q
theorem decS {a b : Str} : decide (V.str a = V.str b) = decide (a = b) := decide_eq_decide.mpr ⟨fun h => V.str.inj h, fun h => congrArg V.str h⟩
theorem decI {a b : Int} : decide (V.int a = V.int b) = decide (a = b) := decide_eq_decide.mpr ⟨fun h => V.int.inj h, fun h => congrArg V.int h⟩
theorem decA {a b : Prop} [Decidable a] [Decidable b] [Decidable (a ∧ b)] : (decide a && decide b) = decide (a ∧ b) := by
  by_cases h1 : a <;> by_cases h2 : b <;> simp [h1, h2]
end Lk

namespace Lk
open PySem PySem.Spec PyProof.Rows L2
def NmOk (ns : List Str) : Prop := 1 ≤ ns.length ∧ ns.length ≤ 6 ∧ (∀ x ∈ ns, nameS x = true) ∧ ns.Nodup
def RwOk (ns : List Str) (rs : List LRow) : Prop := 1 ≤ rs.length ∧ rs.length ≤ 25 ∧ ∀ r ∈ rs, RowOk ns rs.length r
/-- texts in it are not too long -/
def shortD : PyData → Prop
  | .str x => x.length ≤ 900
  | _ => True
section
variable {K : PySem.W.Frag} {H H' : Hp}
inductive BadV (K : PySem.W.Frag) (H : Hp) : V → Int → Prop
  | shape {v : V} {o : Option (List V)} (h : Sh K H v o) (e : shB o 1 6 = false) : BadV K H v (-1)
  | at {l : Addr} {ns : List Str} {v : V} {us : List V} {d : PyData} (h : SqE K H l (ns.map V.str ++ v :: us)) (hl : ns.length + us.length + 1 ≤ 6) (hn : ∀ x ∈ ns, nameS x = true) (nd : ns.Nodup)
      (hd : Dp K H v d) (hs : shortD d) (hb : nameD d = false ∨ ∃ x, d = .str x ∧ x ∈ ns) : BadV K H (.ref l) (ns.length : Nat)
inductive BadR (K : PySem.W.Frag) (H : Hp) (ns : List Str) : V → Int → Prop
  | shape {v : V} {o : Option (List V)} (h : Sh K H v o) (e : shB o 1 25 = false) : BadR K H ns v (-1)
  | at {t : Addr} {us : List V} {rs : List LRow} {v : V} {ws : List V} {o : Option (List PyData)} (h : SqE K H t (us ++ v :: ws)) (hl : us.length + ws.length + 1 ≤ 25) (hr : RowsH H us rs)
      (hok : ∀ r ∈ rs, RowOk ns ((us.length + ws.length + 1 : Nat) : Int) r) (hi : It K H v o) (hb : rowO ns ((us.length + ws.length + 1 : Nat) : Int) o = false) : BadR K H ns (.ref t) (us.length : Nat)
inductive Bad (K : PySem.W.Frag) (H : Hp) : V → V → V → Str → Int → Prop
  | width {w v r : V} {d : PyData} (h : Dp K H w d) (e : withinD d 1 64 = false) : Bad K H w v r "width" (-1)
  | vars {k : Nat} {v r : V} {i : Int} (k1 : 1 ≤ k) (k2 : k ≤ 64) (h : BadV K H v i) : Bad K H (.int (k : Int)) v r "variables" i
  | rows {k : Nat} {l : Addr} {ns : List Str} {r : V} {i : Int} (k1 : 1 ≤ k) (k2 : k ≤ 64) (hl : SqE K H l (ns.map V.str)) (hn : NmOk ns) (h : BadR K H ns r i) : Bad K H (.int (k : Int)) (.ref l) r "rows" i
theorem BadV.same (s : Same H H') {v : V} {i : Int} (h : BadV K H v i) : BadV K H' v i := by
  cases h with
  | shape h e => exact .shape (h.same s) e
  | «at» h hl hn nd hd hs hb => exact .at (h.same s) hl hn nd (dp_same s hd) hs hb
theorem BadR.same (s : Same H H') {ns : List Str} {v : V} {i : Int} (h : BadR K H ns v i) : BadR K H' ns v i := by
  cases h with
  | shape h e => exact .shape (h.same s) e
  | «at» h hl hr hok hi hb => exact .at (h.same s) hl (hr.ts (Ts.of s)) hok (hi.same s) hb
theorem Bad.same (s : Same H H') {w v r : V} {p : Str} {i : Int} (h : Bad K H w v r p i) : Bad K H' w v r p i := by
  cases h with
  | width h e => exact .width (dp_same s h) e
  | vars k1 k2 h => exact .vars k1 k2 (h.same s)
  | rows k1 k2 hl hn h => exact .rows k1 k2 (hl.same s) hn (h.same s)
/-- what is wished for where NoProgram(part, i) is let out -/
def ErN (C : Addr) (p : Str) (i : Int) (E : XK) (H : Hp) : Prop := ∀ d H', Same H H' → H' d = some (.xd [("index", .int i), ("part", .str p)]) → E (.ref C) (some d) H'
theorem ErN.same (s : Same H H') {C : Addr} {p : Str} {i : Int} {E : XK} (h : ErN C p i E H) : ErN C p i E H' := fun d H2 s2 e => h d H2 (s.trans s2) e
/-- xs[:i], i the place of the item behind -/
theorem s_takeA {a : Addr} {xs ys : List V} {v : V} {Q : VK} (hx : SqE K H a (xs ++ v :: ys)) (q : ∀ p H', Same H H' → SqE K H' p xs → Q (.ref p) H') : rSlE K (.ref a) none (some (xs.length : Int)) H Q := by
  refine s_take hx (by rw [List.length_append, List.length_cons]; omega) fun p H' s h => ?_
  rw [List.take_left' rfl] at h
  exact q p H' s h
end
end Lk

namespace Lk
open PySem PySem.Spec PyProof.Rows L2
/-! ### data that is made, apart from one object that may change -/
section
variable {K : PySem.W.Frag} {p : Addr} {H H' H1 : Hp}
def DpN (K : PySem.W.Frag) (p : Addr) (H : Hp) (v : V) (d : PyData) : Prop := ∀ H', Bar p H H' → Dp K H' v d
def DpsN (K : PySem.W.Frag) (p : Addr) (H : Hp) (vs : List V) (ds : List PyData) : Prop := ∀ H', Bar p H H' → DpAll K H' vs ds
def ItN (K : PySem.W.Frag) (p : Addr) (H : Hp) (v : V) (o : Option (List PyData)) : Prop := ∀ H', Bar p H H' → It K H' v o
def ItsN (K : PySem.W.Frag) (p : Addr) (H : Hp) (vs : List V) (os : List (Option (List PyData))) : Prop := vs.length = os.length ∧ ∀ v ∈ vs, ∃ o ∈ os, ItN K p H v o
theorem DpN.bar (b : Bar p H H') {v : V} {d : PyData} (h : DpN K p H v d) : DpN K p H' v d := fun H2 c => h H2 (b.trans c)
theorem DpsN.bar (b : Bar p H H') {v : List V} {d : List PyData} (h : DpsN K p H v d) : DpsN K p H' v d := fun H2 c => h H2 (b.trans c)
theorem ItN.bar (b : Bar p H H') {v : V} {o : Option (List PyData)} (h : ItN K p H v o) : ItN K p H' v o := fun H2 c => h H2 (b.trans c)
theorem ItsN.bar (b : Bar p H H') {vs : List V} {os : List (Option (List PyData))} (h : ItsN K p H vs os) : ItsN K p H' vs os := ⟨h.1, fun v hv => by
  obtain ⟨o, h1, h2⟩ := h.2 v hv
  exact ⟨o, h1, h2.bar b⟩⟩
theorem DpN.dp {v : V} {d : PyData} (h : DpN K p H v d) : Dp K H v d := h H Bar.refl
theorem ItN.it {v : V} {o : Option (List PyData)} (h : ItN K p H v o) : It K H v o := h H Bar.refl
theorem DpN.it {v : V} {d : PyData} (h : DpN K p H v d) : ItN K p H v (tupD d) := fun H' b => it_dp (h H' b)
theorem ItsN.append {vs us : List V} {os qs : List (Option (List PyData))} (h : ItsN K p H vs os) (k : ItsN K p H us qs) : ItsN K p H (vs ++ us) (os ++ qs) := ⟨by rw [List.length_append, List.length_append, h.1, k.1], fun v hv => by
  rcases List.mem_append.mp hv with hv | hv
  · obtain ⟨o, h1, h2⟩ := h.2 v hv
    exact ⟨o, List.mem_append_left _ h1, h2⟩
  · obtain ⟨o, h1, h2⟩ := k.2 v hv
    exact ⟨o, List.mem_append_right _ h1, h2⟩⟩
theorem ItsN.one {v : V} {o : Option (List PyData)} (h : ItN K p H v o) : ItsN K p H [v] [o] := ⟨rfl, fun u hu => ⟨o, List.mem_singleton.mpr rfl, by rw [List.mem_singleton.mp hu]; exact h⟩⟩
theorem DpN.tup {a : Addr} {vs : List V} {ds : List PyData} (n : a ≠ p) (e : H a = some (.tup vs)) (h : DpsN K p H vs ds) : DpN K p H (.ref a) (.tuple ds) := fun H' b => .tup (.inl (.inl (b _ _ n e))) (h H' b)
theorem DpN.lst {a : Addr} {vs : List V} {ds : List PyData} (n : a ≠ p) (e : H a = some (.lst vs)) (h : DpsN K p H vs ds) : DpN K p H (.ref a) (.list ds) := fun H' b => .lst (.inl (.inl (b _ _ n e))) (h H' b)
end
def MkD (K : PySem.W.Frag) (p : Addr) (te : TE) (σ : L2.St) (H : Hp) (d : PyData) : Prop := ∀ H1, Same H H1 → ∀ Q : VK, (∀ v H2, Same H1 H2 → DpN K p H2 v d → Q v H2) → te σ H1 Q
def MkDs (K : PySem.W.Frag) (p : Addr) (tl : TA) (σ : L2.St) (H : Hp) (ds : List PyData) : Prop := ∀ H1, Same H H1 → ∀ Q : List V → Hp → Prop, (∀ vs H2, Same H1 H2 → DpsN K p H2 vs ds → vs.length = ds.length → Q vs H2) → tl σ H1 Q
def MkI (K : PySem.W.Frag) (p : Addr) (te : TE) (σ : L2.St) (H : Hp) (o : Option (List PyData)) : Prop := ∀ H1, Same H H1 → ∀ Q : VK, (∀ v H2, Same H1 H2 → ItN K p H2 v o → Q v H2) → te σ H1 Q
def MkIs (K : PySem.W.Frag) (p : Addr) (tl : TA) (σ : L2.St) (H : Hp) (os : List (Option (List PyData))) : Prop := ∀ H1, Same H H1 → ∀ Q : List V → Hp → Prop, (∀ vs H2, Same H1 H2 → ItsN K p H2 vs os → Q vs H2) → tl σ H1 Q
section
variable {K : PySem.W.Frag} {p : Addr} {te ty : TE} {tl : TA} {σ : L2.St} {H : Hp} {d : PyData} {ds : List PyData} {o : Option (List PyData)} {os qs : List (Option (List PyData))} {i : Nat}
theorem md_non : MkD K p (tC .non) σ H .none := fun H1 _ Q q => q _ _ (Same.refl _) fun _ _ => .non
theorem md_bl {b : Bool} : MkD K p (tC (.bl b)) σ H (.bool b) := fun H1 _ Q q => q _ _ (Same.refl _) fun _ _ => .bl b
theorem md_int {i : Int} : MkD K p (tC (.int i)) σ H (.int i) := fun H1 _ Q q => q _ _ (Same.refl _) fun _ _ => .int i
theorem md_str {x : Str} : MkD K p (tC (.str x)) σ H (.str x) := fun H1 _ Q q => q _ _ (Same.refl _) fun _ _ => .str x
theorem md_neg {i : Int} : MkD K p (tUn (rU fun i => .int (-i)) (tC (.int i))) σ H (.int (-i)) := fun H1 _ Q q => sun (sc (sU (q _ _ (Same.refl _) fun _ _ => .int (-i))))
theorem md_var {v : V} (h : σ[i]? = some (some v)) (hd : DpN K p H v d) : MkD K p (tVar i) σ H d := fun H1 s Q q => sv h (q _ _ (Same.refl _) (hd.bar (Bar.of s)))
theorem md_name {l : Addr} {ns : List Str} {n0 : Str} (h : σ[i]? = some (some (.ref l))) (hl : H l = some (.lst (ns.map V.str))) (hn : ns[0]? = some n0) : MkD K p (tOp (rIxL K) (tVar i) (tC (.int 0))) σ H (.str n0) := fun H1 s Q q =>
  sop (sv h (sc (sfr (SqL.of (s _ _ hl)) (Lk.atI_nat (i := 0) (by rw [List.getElem?_map, hn]; rfl)) (q _ _ (Same.refl _) fun _ _ => .str n0))))
theorem mds_nil : MkDs K p tNil σ H [] := fun H1 _ Q q => q _ _ (Same.refl _) (fun _ _ => .nil) rfl
theorem mds_cons (h : MkD K p te σ H d) (t : MkDs K p tl σ H ds) : MkDs K p (tCons te tl) σ H (d :: ds) := fun H1 s Q q => scn (h H1 s _ fun v H2 s2 hv => t H2 (s.trans s2) _ fun vs H3 s3 hvs hl => q _ _ (s2.trans s3) (fun H' b => .cons (hv.bar (Bar.of s3) H' b) (hvs H' b)) (congrArg Nat.succ hl))
theorem md_tup (hw : Wl H p) (h : MkDs K p tl σ H ds) (hl : ds.length ≤ 1000) : MkD K p (tTup tl) σ H (.tuple ds) := fun H1 s Q q => stu (h H1 s _ fun vs H2 s2 hvs hlen => ⟨Nat.le_of_lt (small1000 (by omega)), fun a ha =>
  q _ _ (s2.trans (same_new ha)) (.tup (ne_new (hw.same (s.trans s2)) ha) upd_same (hvs.bar (Bar.of (same_new ha))))⟩)
theorem md_lst (hw : Wl H p) (h : MkDs K p tl σ H ds) (hl : ds.length ≤ 1000) : MkD K p (tLst tl) σ H (.list ds) := fun H1 s Q q => sli (h H1 s _ fun vs H2 s2 hvs hlen => ⟨Nat.le_of_lt (small1000 (by omega)), fun a ha =>
  q _ _ (s2.trans (same_new ha)) (.lst (ne_new (hw.same (s.trans s2)) ha) upd_same (hvs.bar (Bar.of (same_new ha))))⟩)
theorem dps_rep {v : V} : ∀ (n : Nat) {H : Hp}, Dp K H v d → DpAll K H (List.replicate n v) (List.replicate n d)
  | 0, _, _ => .nil
  | n + 1, _, h => .cons h (dps_rep n h)
/-- (e,) * k -/
theorem md_repX {v : V} {k : Nat} {Q : VK} {H1 : Hp} (hw : Wl H1 p) (hx : ∀ H1 (Q : VK), Q v H1 → te σ H1 Q) (hy : ∀ H1 (Q : VK), Q (.int (k : Int)) H1 → ty σ H1 Q) (h1 : 1 ≤ k) (h2 : k ≤ 1000)
    (q : ∀ a H2, Same H1 H2 → a ≠ p → H2 a = some (.tup (List.replicate k v)) → Q (.ref a) H2) : tOp (rRepN K) (tTup (tCons te tNil)) ty σ H1 Q := by
  refine sop (stu (scn (hx _ _ (snl ⟨Nat.le_of_lt (small1000 (Nat.le_of_ble_eq_true rfl)), fun a ha => hy _ _ ?_⟩))))
  have s1 : Same H1 (upd H1 a (.tup [v])) := same_new ha
  have na : a ≠ p := ne_new hw ha
  by_cases k1 : k = 1
  · subst k1
    refine ⟨a, _, _, rfl, rfl, SqT.of upd_same, by simp, by omega, by omega, Nat.le_of_ble_eq_true rfl, fun _ => ?_, fun z => by omega⟩
    exact q _ _ s1 na upd_same
  · refine ⟨a, _, _, rfl, rfl, SqT.of upd_same, by simp, by omega, by omega, Nat.le_of_ble_eq_true rfl, fun z => by omega, fun _ b hb => ?_⟩
    have s2 := s1.trans (same_new (o := .tup (List.replicate (k : Int).toNat [v]).flatten) hb)
    refine q _ _ s2 (ne_new (hw.same s1) hb) ?_
    rw [upd_same, Int.toNat_natCast, List.flatten_replicate_singleton]
theorem md_rep {v : V} {k : Nat} (hw : Wl H p) (hv : ∀ H', Dp K H' v d) (hx : ∀ H1 (Q : VK), Q v H1 → te σ H1 Q) (hy : ∀ H1 (Q : VK), Q (.int (k : Int)) H1 → ty σ H1 Q) (h1 : 1 ≤ k) (h2 : k ≤ 1000) :
    MkD K p (tOp (rRepN K) (tTup (tCons te tNil)) ty) σ H (.tuple (List.replicate k d)) := fun H1 s Q q =>
  md_repX (hw.same s) hx hy h1 h2 fun a H2 s2 na e => q _ _ s2 (.tup na e fun H' _ => dps_rep k (hv H'))
/-- list(t) -/
theorem md_list {a : Addr} {xs : List V} (hw : Wl H p) (h : σ[i]? = some (some (.ref a))) (ha : H a = some (.tup xs)) (hd : DpsN K p H xs ds) : MkD K p (tCB (fun xs H Q => ∃ p ys, xs = [.ref p] ∧ (SqL K H p ys ∨ SqT K H p ys) ∧ ∀ l, H l = none → Q (.ref l) (upd H l (.lst ys))) (tCons (tVar i) tNil)) σ H (.list ds) := fun H1 s Q q =>
  scB (scn (sv h (snl ⟨a, xs, rfl, .inr (SqT.of (s _ _ ha)), fun l hl => q _ _ (same_new hl) (.lst (ne_new (hw.same s) hl) upd_same (hd.bar (Bar.of (s.trans (same_new hl)))))⟩)))
/-- t + (e,) -/
theorem md_cat {a : Addr} {xs : List V} {e : PyData} (hw : Wl H p) (h : σ[i]? = some (some (.ref a))) (ha : H a = some (.tup xs)) (hd : DpsN K p H xs ds) (hx : xs ≠ []) (hl : xs.length ≤ 900) (ht : MkDs K p tl σ H [e]) :
    MkD K p (tOp (rCatA K) (tVar i) (tTup tl)) σ H (.tuple (ds ++ [e])) := fun H1 s Q q => by
  refine sop (sv h (stu (ht H1 s _ fun vs H2 s2 hvs hlen => ⟨Nat.le_of_lt (small1000 (by rw [hlen]; exact Nat.le_of_ble_eq_true rfl)), fun b hb => ?_⟩)))
  have s3 := s2.trans (same_new (o := .tup vs) hb)
  match vs, hlen, hvs with
  | [v], _, hvs =>
    refine s_catA (SqT.of ((s.trans s3) _ _ ha)) (SqT.of upd_same) hx (by simp) (by simp; omega) fun c hc => ?_
    have s4 := s3.trans (same_new (o := .tup (xs ++ [v])) hc)
    refine q _ _ s4 (.tup (ne_new (hw.same (s.trans s3)) hc) upd_same fun H' b => ?_)
    have b1 : Bar p H2 H' := (Bar.of ((same_new hb).trans (same_new hc))).trans b
    have h1 := hd H' ((Bar.of (s.trans s4)).trans b)
    have h2 := hvs H' b1
    have ap : ∀ {vs us : List V} {ds es : List PyData}, DpAll K H' vs ds → DpAll K H' us es → DpAll K H' (vs ++ us) (ds ++ es) := fun {vs us ds es} k => by
      induction ds generalizing vs with
      | nil => cases k; exact id
      | cons d ds ih =>
        cases k with
        | cons k1 k2 => exact fun k3 => .cons k1 (ih k2 k3)
    exact ap h1 h2
/-! ### items -/
theorem mi_of (h : MkD K p te σ H d) : MkI K p te σ H (tupD d) := fun H1 s Q q => h H1 s Q fun v H2 s2 hv => q v H2 s2 hv.it
theorem mi_dct (hw : Wl H p) : MkI K p tDNewK σ H none := fun H1 s Q q a ha => q _ _ (same_new ha) fun H' b => it_dct (b _ _ (ne_new (hw.same s) ha) upd_same)
theorem mis_nil : MkIs K p tNil σ H [] := fun H1 _ Q q => q _ _ (Same.refl _) ⟨rfl, fun v hv => by cases hv⟩
theorem mis_cons (h : MkI K p te σ H o) (t : MkIs K p tl σ H os) : MkIs K p (tCons te tl) σ H (o :: os) := fun H1 s Q q => scn (h H1 s _ fun v H2 s2 hv => t H2 (s.trans s2) _ fun vs H3 s3 hvs =>
  q _ _ (s2.trans s3) (ItsN.append (.one (hv.bar (Bar.of s3))) hvs))
theorem s_lit {u : TS} {D : Ends} {σ : L2.St} (τ : L2.St) (e : σ = τ) (q : u D τ H) : u D σ H := by
  rw [e]
  exact q
theorem ssi_new {D : Ends} {u : TS} (hw : Wl H p) (h : MkIs K p tl σ H os) (hl : os.length ≤ 1000) (q : ∀ a vs H', Same H H' → a ≠ p → H' a = some (.lst vs) → ItsN K p H' vs os → u D (σ.set i (some (.ref a))) H') : tSeq (tAsg (tLst tl) (gName i)) u D σ H :=
  h H (Same.refl H) _ fun vs H2 s2 hvs => ⟨Nat.le_of_lt (small1000 (by rw [hvs.1]; exact hl)), fun a ha => q a vs _ (s2.trans (same_new ha)) (ne_new (hw.same s2) ha) upd_same (hvs.bar (Bar.of (same_new ha)))⟩
theorem ssi_cat {D : Ends} {u : TS} {a : Addr} {vs : List V} (hw : Wl H p) (hi : σ[i]? = some (some (.ref a))) (ha : H a = some (.lst vs)) (hvs : ItsN K p H vs os) (h : MkIs K p tl σ H qs) (hl : os.length + qs.length ≤ 1000)
    (q : ∀ b us H', Same H H' → b ≠ p → H' b = some (.lst us) → ItsN K p H' us (os ++ qs) → u D (σ.set i (some (.ref b))) H') : tSeq (tAsg (tOp rCat (tVar i) (tLst tl)) (gName i)) u D σ H := by
  refine ⟨_, hi, h H (Same.refl H) _ fun us H1 s1 hus => ⟨Nat.le_of_lt (small1000 (by rw [hus.1]; omega)), fun b hb => ?_⟩⟩
  have s2 : Same H (upd H1 b (.lst us)) := s1.trans (same_new hb)
  refine ⟨a, b, vs, us, rfl, rfl, s2 _ _ ha, upd_same, Nat.le_of_lt (small1000 (by rw [hvs.1, hus.1]; exact hl)), fun r hr => ?_⟩
  have s3 := s2.trans (same_new (o := .lst (vs ++ us)) hr)
  refine q r (vs ++ us) _ s3 (ne_new (hw.same s2) hr) upd_same ((hvs.bar (Bar.of s3)).append (hus.bar (Bar.of ((same_new hb).trans (same_new hr)))))
theorem si_cat {Q : VK} {a : Addr} {vs : List V} (hw : Wl H p) (hi : σ[i]? = some (some (.ref a))) (ha : H a = some (.lst vs)) (hvs : ItsN K p H vs os) (h : MkIs K p tl σ H qs) (hl : os.length + qs.length ≤ 1000)
    (q : ∀ b us H', Same H H' → b ≠ p → H' b = some (.lst us) → ItsN K p H' us (os ++ qs) → Q (.ref b) H') : tOp rCat (tVar i) (tLst tl) σ H Q := by
  refine ⟨_, hi, h H (Same.refl H) _ fun us H1 s1 hus => ⟨Nat.le_of_lt (small1000 (by rw [hus.1]; omega)), fun b hb => ?_⟩⟩
  have s2 : Same H (upd H1 b (.lst us)) := s1.trans (same_new hb)
  refine ⟨a, b, vs, us, rfl, rfl, s2 _ _ ha, upd_same, Nat.le_of_lt (small1000 (by rw [hvs.1, hus.1]; exact hl)), fun r hr => ?_⟩
  have s3 := s2.trans (same_new (o := .lst (vs ++ us)) hr)
  exact q r (vs ++ us) _ s3 (ne_new (hw.same s2) hr) upd_same ((hvs.bar (Bar.of s3)).append (hus.bar (Bar.of ((same_new hb).trans (same_new hr)))))
end
/-! ### rows that are none -/
section
variable {ns : List Str} {m : Int} {a b c d : PyData} {k : Str} {K : PySem.W.Frag} {p : Addr} {H : Hp}
theorem rT_set : rowT ns m [.str "set", a, b, c] = (varD ns a && (formD b ns.length && withinD c 0 (m - 1))) := by
  unfold rowT
  dsimp only
  rw [if_pos ⟨rfl, rfl⟩]
  rfl
theorem rT_ask : rowT ns m [.str "ask", a, b] = (varD ns a && withinD b 0 (m - 1)) := by
  unfold rowT
  dsimp only
  rw [if_neg (nand_ (by decide +kernel)), if_pos ⟨rfl, rfl⟩]
  rfl
theorem rT_say : rowT ns m [.str "say", a, b] = (formD a ns.length && withinD b 0 (m - 1)) := by
  unfold rowT
  dsimp only
  rw [if_neg (nand_ (by decide +kernel)), if_neg (nand_ (by decide +kernel)), if_pos ⟨rfl, rfl⟩]
  rfl
theorem rT_look : rowT ns m [.str "look", a] = withinD a 0 (m - 1) := by
  unfold rowT
  dsimp only
  rw [if_neg (nand_ (by decide +kernel)), if_neg (nand_ (by decide +kernel)), if_neg (nand_ (by decide +kernel)), if_pos ⟨rfl, rfl⟩]
  rfl
theorem rT_choose : rowT ns m [.str "choose", a] = nextsD a 1 6 m := by
  unfold rowT
  dsimp only
  rw [if_neg (nand_ (by decide +kernel)), if_neg (nand_ (by decide +kernel)), if_neg (nand_ (by decide +kernel)), if_neg (nand_ (by decide +kernel)), if_pos ⟨rfl, rfl⟩]
  rfl
/-- a kind with another number of parts -/
def kindN (k : Str) (n : Nat) : Bool := (k == "set" && n == 3) || (k == "ask" && n == 2) || (k == "say" && n == 2) || (k == "look" && n == 1) || (k == "choose" && n == 1) || (k == "stop" && n == 0)
theorem rT_odd {ds : List PyData} (n : Nat) (hn : ds.length = n) (hb : kindN k n = false) : rowT ns m (.str k :: ds) = false := by
  subst hn
  unfold kindN at hb
  simp only [Bool.or_eq_false_iff, Bool.and_eq_false_iff, beq_eq_false_iff_ne] at hb
  obtain ⟨⟨⟨⟨⟨h1, h2⟩, h3⟩, h4⟩, h5⟩, h6⟩ := hb
  have nn : ∀ {x y : Str} {a b : Nat}, x ≠ y ∨ a ≠ b → ¬ (x = y ∧ a = b) := fun h z => h.elim (fun q => q z.1) fun q => q z.2
  unfold rowT
  dsimp only
  rw [if_neg (nn h1), if_neg (nn h2), if_neg (nn h3), if_neg (nn h4), if_neg (nn h5), decA, decide_eq_false (nn h6)]
theorem rowT_more {r : LRow} : rowT ns m (r.ds ++ [.none]) = false := by
  cases r with
  | set n f k => exact rT_odd 4 rfl (by decide +kernel)
  | say f k => exact rT_odd 3 rfl (by decide +kernel)
  | ask n k => exact rT_odd 3 rfl (by decide +kernel)
  | choose ks => exact rT_odd 2 rfl (by decide +kernel)
  | look k => exact rT_odd 2 rfl (by decide +kernel)
  | stop => exact rT_odd 1 rfl (by decide +kernel)
theorem row_dps {v : V} {r : LRow} (hw : Wl H p) (h : RowH H v r) : ∃ a xs, v = .ref a ∧ H a = some (.tup xs) ∧ DpsN K p H xs r.ds ∧ xs ≠ [] ∧ xs.length ≤ 4 := by
  have ts : ∀ H', Bar p H H' → Ts H H' := fun H' b a xs e => b _ _ (ne_well hw e fun _ _ _ z => by cases z) e
  cases r with
  | set n f k =>
    obtain ⟨a, b, rfl, h1, h2⟩ := h
    exact ⟨a, _, rfl, h1, fun H' q => .cons (.str _) (.cons (.str _) (.cons (dt_intsT (ts H' q _ _ h2)).dp (.cons (.int _) .nil))), by simp, by simp⟩
  | say f k =>
    obtain ⟨a, b, rfl, h1, h2⟩ := h
    exact ⟨a, _, rfl, h1, fun H' q => .cons (.str _) (.cons (dt_intsT (ts H' q _ _ h2)).dp (.cons (.int _) .nil)), by simp, by simp⟩
  | ask n k =>
    obtain ⟨a, rfl, h1⟩ := h
    exact ⟨a, _, rfl, h1, fun H' q => .cons (.str _) (.cons (.str _) (.cons (.int _) .nil)), by simp, by simp⟩
  | choose ks =>
    obtain ⟨a, b, rfl, h1, h2⟩ := h
    exact ⟨a, _, rfl, h1, fun H' q => .cons (.str _) (.cons (dt_intsT (ts H' q _ _ h2)).dp .nil), by simp, by simp⟩
  | look k =>
    obtain ⟨a, rfl, h1⟩ := h
    exact ⟨a, _, rfl, h1, fun H' q => .cons (.str _) (.cons (.int _) .nil), by simp, by simp⟩
  | stop =>
    obtain ⟨a, rfl, h1⟩ := h
    exact ⟨a, _, rfl, h1, fun H' q => .cons (.str _) .nil, by simp, by simp⟩
end
end Lk

namespace Lk
open PySem PySem.Spec PyProof.Rows L2 RZ
section
variable {K : PySem.W.Frag} {a b : Addr} {xs ys : List V} {H : Hp} {σ : L2.St}
theorem walk_zipT (hl : xs.length = ys.length) : Walk (ItzT K a b) xs.length (fun H => SqT K H a xs ∧ SqT K H b ys) (YPair (fun i => xs[i]?) (fun i => ys[i]?)) :=
  ⟨fun i _ hi q => ⟨xs, ys, xs[i], ys[i]'(by omega), q.1, q.2, by simp [hi], by simp [hl ▸ hi]⟩, fun _ q => ⟨xs, ys, q.1, q.2, .inl (Nat.le_refl _)⟩, fun i H v H' _ q ⟨T, x, y, h1, h2, h3, h4, h5⟩ => ⟨T, x, y, h1, h2, h3, h4 xs q.1, h5 ys q.2⟩⟩
/-- [e for x, y in zip(t, u)], two tuples of numbers -/
theorem tlc_zipT {fs gs : List Int} {f : Int → Int → Int} {i j p q : Nat} {te : TE} {vs : List Nat} {Q : VK} (hi : σ[i]? = some (some (.ref a))) (hj : σ[j]? = some (some (.ref b))) (ha : SqT K H a (fs.map V.int)) (hb : SqT K H b (gs.map V.int)) (hl : fs.length = gs.length) (h3 : fs.length ≤ 1000)
    (hw : ∀ x y, wipe (((wipe σ vs).set p (some x)).set q (some y)) vs = wipe σ vs)
    (he : ∀ (x y : Int) (H' : Hp) (R : VK), x ∈ fs → R (.int (f x y)) H' → te (((wipe σ vs).set p (some (.int x))).set q (some (.int y))) H' R)
    (k : ∀ D H', Same H H' → H' D = some (.lst ((List.zipWith f fs gs).map V.int)) → Q (.ref D) H') : tLc (iZipA K (tCons (tVar i) (tCons (tVar j) tNil))) (gTup K 2 (gCons (gName p) (gCons (gName q) gNil))) tYes te vs σ H Q := by
  refine ⟨_, hi, _, hj, a, b, _, _, rfl, .inr ⟨ha, hb, fun D hD => ?_⟩⟩
  refine lc_it (walk_zipT (K := K) (a := a) (b := b) (xs := fs.map V.int) (ys := gs.map V.int) (by rw [List.length_map, List.length_map]; exact hl)) (fun n H' => Same H H' ∧ H' D = some (.lst (((List.zipWith f fs gs).take n).map V.int))) ⟨same_new hD, upd_same⟩ (fun n H' _ h => ⟨same_sqT h.1 ha, same_sqT h.1 hb⟩) (fun n v H1 H' hn h hy => ?_) (fun H' h => ?_)
  · obtain ⟨T, x, y, rfl, hT, rfl, e1, e2⟩ := hy
    rw [List.length_map] at hn
    have hn2 : n < gs.length := by omega
    dsimp only at e1 e2
    rw [List.getElem?_map, List.getElem?_eq_getElem hn] at e1
    rw [List.getElem?_map, List.getElem?_eq_getElem hn2] at e2
    cases e1
    cases e2
    obtain ⟨s1, hl1⟩ := h
    refine g_pair (SqT.of upd_same) ⟨hw _ _, ?_⟩
    have s2 : Same H1 (upd H1 T (.tup [.int fs[n], .int gs[n]])) := same_new hT
    have l2 := s2 _ _ hl1
    have s3 := s1.trans s2
    generalize upd H1 T (.tup [.int fs[n], .int gs[n]]) = H2 at s2 l2 s3 ⊢
    unfold tYes
    simp only [if_true]
    refine he _ _ _ _ (List.getElem_mem hn) ⟨_, l2, ?_, fun c o e => ?_, ?_⟩
    · rw [List.length_map, List.length_take, List.length_zipWith]
      exact small1000 (by omega)
    · rw [upd_ne (ne_of_none e hD)]
      exact s3 _ _ e
    · rw [upd_same, List.take_succ, List.getElem?_eq_getElem (by rw [List.length_zipWith]; omega), List.getElem_zipWith, List.map_append]
      rfl
  · rw [List.length_map] at h
    rw [List.take_of_length_le (by rw [List.length_zipWith]; omega)] at h
    exact k D H' h.1 h.2
/-- [f(i) for i in range(n)], only objects made -/
theorem tlc_rangeC {β : Type} {lo : Int} {n k : Nat} {te : TE} {vs : List Nat} {Qd : Hp → Prop} {D : Addr} (Rout : Hp → V → β → Prop) (f : Nat → β) (oS : ∀ {H H' v x}, Ts H H' → Rout H v x → Rout H' v x) (hD : H D = none) (h3 : n ≤ 1000)
    (hw : ∀ x, wipe ((wipe σ vs).set k (some x)) vs = wipe σ vs)
    (he : ∀ (i : Nat) (H' : Hp), i < n → Same H H' → ∀ R : VK, (∀ u H'', Same H' H'' → Rout H'' u (f i) → R u H'') → te ((wipe σ vs).set k (some (.int (lo + (i : Int))))) H' R)
    (q : ∀ ys H', Same H H' → H' D = some (.lst ys) → F2 (Rout H') ys ((List.range n).map f) → Qd H') :
    ∃ W : Nat → Nat → Hp → Prop, (∃ m, W 0 m (upd H D (.lst []))) ∧ ∀ i m H, W i m H → ((Itr lo n).stop i H ∧ Qd H) ∨ ((Itr lo n).go i H ∧ ∃ Nx : Hp → Prop, (∀ H', Nx H' → ∃ m', m' < m ∧ W (i + 1) m' H') ∧ ∀ x H', (Itr lo n).yld i H x H' → gName k x (wipe σ vs) H' fun σ2 H2 => wipe σ2 vs = wipe σ vs ∧ tYes σ2 H2 fun b H3 =>
        if b = true then te σ2 H3 fun y H4 => ∃ ac, H4 D = some (.lst ac) ∧ ac.length < sizeLine ∧ Nx (upd H4 D (.lst (ac ++ [y]))) else Nx H3) := by
  refine lc_range (lo := lo) (n := n) (fun i H' => Same H H' ∧ ∃ ys, H' D = some (.lst ys) ∧ F2 (Rout H') ys ((List.range i).map f)) ⟨same_new hD, [], upd_same, .nil⟩ ?_ ?_
  · rintro i H' hi ⟨s1, ys, hys, hrs⟩
    have hlen := hrs.len
    refine ⟨hw _, ?_⟩
    unfold tYes
    simp only [if_true]
    refine he i H' hi s1 _ fun u H2 s2 hu => ⟨ys, s2 _ _ hys, ?_, fun b o e => ?_, _, upd_same, ?_⟩
    · rw [hlen, List.length_map, List.length_range]
      exact small1000 (by omega)
    · rw [upd_ne (ne_of_none e hD)]
      exact s2 _ _ (s1 _ _ e)
    · have t1 : Ts H2 (upd H2 D (.lst (ys ++ [u]))) := Ts.lst (s2 _ _ hys)
      rw [List.range_succ, List.map_append]
      exact (hrs.mono fun v b h => oS t1 (oS (Ts.of s2) h)).append (.cons (oS t1 hu) .nil)
  · rintro H' ⟨s1, ys, h1, h2⟩
    exact q ys H' s1 h1 h2
/-- tuple(l) of a new list -/
theorem s_tupL {D : Addr} {R : VK} (hx : H D = some (.lst xs)) (q : ∀ p H', Same H H' → H p = none → H' p = some (.tup xs) → R (.ref p) H') : rTupOf K [V.ref D] H R :=
  ⟨D, xs, rfl, .inl ⟨SqL.of hx, fun l hl => q l _ (same_new hl) hl upd_same⟩⟩
/-- t[:i], t[i:] of a tuple, i within it -/
theorem s_takeT {t : Addr} {i : Nat} {R : VK} (ht : SqT K H t xs) (hi : i < xs.length) (q : ∀ p, H p = none → R (.ref p) (upd H p (.tup (xs.take i)))) : rSlA K (.ref t) none (some (i : Int)) H R :=
  ⟨t, xs, rfl, ht, fun z => by
    have := z.2
    rw [sIx_take hi] at this
    omega, fun _ p hp => by
    rw [cut_take hi]
    exact q p hp⟩
theorem s_dropT {t : Addr} {i : Nat} {R : VK} (ht : SqT K H t xs) (h1 : 1 ≤ i) (hi : i ≤ xs.length) (hx : xs ≠ []) (q : ∀ p, H p = none → R (.ref p) (upd H p (.tup (xs.drop i)))) : rSlA K (.ref t) (some (i : Int)) none H R :=
  ⟨t, xs, rfl, ht, fun z => by
    have := z.1
    rw [HT.sIx_nat] at this
    have hl : 0 < xs.length := List.length_pos_iff.mpr hx
    omega, fun _ p hp => by
    rw [cut_drop hi]
    exact q p hp⟩
theorem s_cat2 {t u : Addr} {ys : List V} {R : VK} (ht : SqT K H t xs) (hu : SqT K H u ys) (hx : xs ≠ []) (hl : xs.length + ys.length ≤ 1000) (h0 : ys = [] → ∀ Q : Prop, (H t = some (.tup xs) → Q) → Q)
    (q : ∀ p H', Same H H' → H' p = some (.tup (xs ++ ys)) → R (.ref p) H') : rCatA K (.ref t) (.ref u) H R :=
  ⟨t, u, xs, ys, rfl, rfl, ht, hu, Nat.le_of_lt (small1000 hl), fun e => absurd e hx, fun _ e => by
    refine h0 e _ fun e2 => q t H (Same.refl _) ?_
    rw [e, List.append_nil]
    exact e2, fun _ _ p hp => q p _ (same_new hp) upd_same⟩
end
end Lk

namespace Lk
open PySem PySem.Spec PyProof.Rows L2
/-! ### tuples that are made with no dictionary of their own: their methods can be called -/
def TzH (H : Hp) (p : Addr) : Prop := ∃ (o : Obj) (xs : List V), H p = some (.frz o (.tup xs)) ∧ o.cls = .type "tuple" ∧ o.dict = none
theorem TzH.same {H H' : Hp} (s : Same H H') {p : Addr} (h : TzH H p) : TzH H' p := by
  obtain ⟨o, xs, h1, h2, h3⟩ := h
  exact ⟨o, xs, s _ _ h1, h2, h3⟩
theorem TzH.lc {H H' : Hp} (s : Lc H H') {p : Addr} (h : TzH H p) : TzH H' p := by
  obtain ⟨o, xs, h1, h2, h3⟩ := h
  exact ⟨o, xs, s _ _ h1 (fun ys e => by cases e), h2, h3⟩
theorem TzH.bar {x C dx : Addr} {fs : List (Str × V)} {H H' : Hp} (s : Bar x H H') (hx : H x = some (.ins C dx fs)) {p : Addr} (h : TzH H p) : TzH H' p := by
  obtain ⟨o, xs, h1, h2, h3⟩ := h
  exact ⟨o, xs, s _ _ (fun z => by rw [z, hx] at h1; cases h1) h1, h2, h3⟩
def rTupFz (K : PySem.W.Frag) : List V → Hp → VK → Prop := fun xs H Q => ∃ p ys, xs = [.ref p] ∧ SqL K H p ys ∧ ∀ l o, H l = none → o.cls = .type "tuple" → o.dict = none → Q (.ref l) (upd H l (.frz o (.tup ys)))
section
variable {X : Cx}
theorem call_tupFz : CallR X (.type "tuple") (rTupFz X.K) := by
  intro pins s σ H xs us Q I r h
  obtain ⟨p, ys, rfl, hsq, q⟩ := h
  obtain ⟨u, rfl, rx⟩ := vals1 r
  cases rx
  obtain ⟨its, r', pl, hz⟩ := I.list hsq
  have hlen := r'.length
  refine call_tuple_list pl.isList (fun hp2 kp => ?_) (by simp only [List.size_toArray]; omega)
  have I1 : L2.Inv X pins σ H { s with heap := hp2 } := I.kept (t' := s.toks) kp
  have I2 : L2.Inv X pins σ (upd H hp2.objs.size (.frz { cls := .type "tuple", data := .seq its.toArray } (.tup ys))) { s with heap := hp2.push { cls := .type "tuple", data := .seq its.toArray } } :=
    I1.laid (t' := s.toks) (fun b o e => Heap.get?_push_of_some _ e) (Nat.le_refl _) (show ObjOk X.prog X.w _ _ _ (.frz _ (.tup ys)) from ⟨Heap.get?_push_size _ rfl, hz, its, r', IsTup.new _ _⟩)
  exact ⟨.ref hp2.objs.size, _, I2, rfl, q _ _ (I1.hok.fresh (Nat.le_refl _)) rfl rfl⟩
/-- o.m(..) of such a tuple -/
def tBMz (r : V → List V → Hp → VK → Prop) (to : TE) (t : TA) : TE := fun σ H Q => to σ H fun x H1 => (∃ p, x = .ref p ∧ TzH H1 p) ∧ t σ H1 fun xs H2 => r x xs H2 Q
theorem pe_bmz {o e : Expr} {es : List Expr} {to : TE} {t : TA} {name : Str} {apos cpos : Pos} {id : String} {r : V → List V → Hp → VK → Prop} (pa : PlainAttrs "tuple") (slot : Slot "tuple" name id) (hty : typeOf (.builtin id) = pure (.type "method_descriptor")) (hm : MtR X id r)
    (ho : PE X o to) (ha : PA X (e :: es) t) (hbase : attributeBase o name X.env (eval o X.env) = eval o X.env := by rfl)
    (hfew : (((backTo cpos (starEach (e :: es) X.env)).all (fun x => !x.1)) && ((backToKw cpos (keywordEach [] X.env)).all (fun x => x.1.isSome)) && decide (((e :: es).length + ([] : List Keyword).length + if ([] : List Keyword).isEmpty then 0 else 1) < 30)) = true := by rfl)
    (hline : (apos.endLine == cpos.line) = true := by rfl) (hs : starEach (e :: es) X.env = (false, eval e X.env) :: starEach es X.env := by rfl) (hplain : ((backTo cpos (starEach es X.env)).any (fun x => x.1)) = false := by rfl) : PE X (.Call (.Attribute o name apos) (e :: es) [] cpos) (tBMz r to t) := by
  refine ⟨fun pins s σ H Q I h => ?_⟩
  refine wpAny_Call_method_late hbase hfew hline rfl (thn (ho.run pins s σ H (fun x H1 => (∃ p, x = .ref p ∧ TzH H1 p) ∧ t σ H1 fun xs H2 => r x xs H2 Q) I h) fun v s1 x => ?_)
  obtain ⟨x, H1, I1, r1, ⟨p, rfl, ob, ys, hp, hc, hd⟩, q1⟩ := x
  cases r1
  have hob : s1.heap.get? p = some ob := (show ObjOk X.prog X.w H1 s1.heap p (.frz ob (.tup ys)) from I1.hok _ _ hp).1
  refine ⟨"tuple", id, pa, slot, hty, ⟨ob, hob, hc⟩, fun a e => by cases e; exact ⟨ob, hob, hd⟩, ?_⟩
  have hA := ha.run cpos pins s1 σ H1 (fun xs H2 => r (.ref p) xs H2 Q) I1 q1
  rw [hs] at hA ⊢
  refine Calls.callWith_builtin (by
    refine (congrArg (fun z => (false || z)) hplain).trans rfl) (Calls.evalArgs_plain (thn hA fun us s2 x => ?_))
  obtain ⟨vs, H2, I2, r2, q2⟩ := x
  exact hm pins s2 σ H2 (.ref p) vs (.ref p) us Q I2 rfl r2 q2
end
/-- a field, within a comprehension -/
theorem pe_fldB {X : Cx} {K : PySem.W.Frag} {e : Expr} {f : Str} {pos : Pos} {ta : TE} (ho : PE X e ta) (hb : attributeBase e f X.env (eval e X.env) = eval e X.env) (hK : X.K = K) : PE X (e.Attribute f pos) (tFld K ta f) := by
  subst hK
  exact pe_fld ho hb
section
variable {K : PySem.W.Frag} {H : Hp} {a : Addr} {xs : List V} {σ : L2.St}
theorem s_tupFz {R : VK} (hx : SqL K H a xs) (q : ∀ p H', Same H H' → SqT K H' p xs → TzH H' p → R (.ref p) H') : rTupFz K [V.ref a] H R :=
  ⟨a, xs, rfl, hx, fun l o hl h1 h2 => q l _ (same_new hl) (.inl (.inr ⟨o, upd_same⟩)) ⟨o, xs, upd_same, h1, h2⟩⟩
theorem sbz {r : V → List V → Hp → VK → Prop} {to : TE} {t : TA} {Q : VK} (q : to σ H fun x H1 => (∃ p, x = .ref p ∧ TzH H1 p) ∧ t σ H1 fun xs H2 => r x xs H2 Q) : tBMz r to t σ H Q := q
end
/-- a program whose variables are such a tuple -/
def VzH (H : Hp) (x : Addr) : Prop := ∃ (C dx : Addr) (w tv tr : V) (z : Addr), H x = some (.ins C dx [("width", w), ("variables", tv), ("rows", tr)]) ∧ tv = .ref z ∧ TzH H z
theorem VzH.same {H H' : Hp} (s : Same H H') {x : Addr} (h : VzH H x) : VzH H' x := by
  obtain ⟨C, dx, w, tv, tr, z, h1, h2, h3⟩ := h
  exact ⟨C, dx, w, tv, tr, z, s _ _ h1, h2, h3.same s⟩
theorem VzH.lc {H H' : Hp} (s : Lc H H') {x : Addr} (h : VzH H x) : VzH H' x := by
  obtain ⟨C, dx, w, tv, tr, z, h1, h2, h3⟩ := h
  exact ⟨C, dx, w, tv, tr, z, s _ _ h1 (fun ys e => by cases e), h2, h3.lc s⟩
end Lk

namespace Lk
open PySem PySem.Spec PyProof.Rows L2
/-- an own error with one field, as the top has left it -/
structure Ec1 (P : Program) (w : World) (K : PySem.W.Frag) (mg : Str → Option Value) (base : Heap) (x : Str) (B C : Addr) (f : Str) : Prop where
  k : ErK K mg x C B
  i : ∃ fI fd, PySem.W.findIn K (.ref C) "__init__" = some (some (.ref fI)) ∧ PySem.W.typeIn K (.ref fI) = some (.type "function") ∧ FnOk P w K mg base CX0 1 fI fd ["self", f] (spI1 C f) ∧ Binds K fd ["self", f] []
  hd : PySem.W.hasDictIn K C = true
  nf : PySem.W.findIn K (.ref C) f = some none
theorem Ec1.xf {P : Program} {w : World} {K : PySem.W.Frag} {mg : Str → Option Value} {base : Heap} {x : Str} {B C : Addr} {f : Str} (E : Ec1 P w K mg base x B C f) : XfC K C := ⟨E.k.ek.ga, E.k.ek.gt, E.k.ek.su, E.hd⟩
/-- what is left to show once the error's field is there -/
def rzQ (C : Addr) (f : Str) (W : WX) (σ : L2.St) (vs : List V) (H : Hp) : Prop := vs.length ≤ 1000 ∧ ∀ a, H a = none → spI1 C f (.ref a :: (vs ++ [])) (upd H a (exo a C none))
  (fun v H2 => v = .non ∧ ∃ (d : Addr) (fs : List (Str × V)), H2 a = some (exo a C (some d)) ∧ H2 d = some (exd d fs) ∧ H d = none ∧ W (.ref C) (some d) σ (upd (del H2 a) d (.xd fs))) (fun _ _ _ => False)
def tRz1 (C : Addr) (f : Str) (W : WX) (t : TA) : TS := fun _ σ H => t σ H fun vs H1 => rzQ C f W σ vs H1
theorem srz1 {C : Addr} {f : Str} {W : WX} {t : TA} {D : Ends} {σ : L2.St} {H : Hp} (q : t σ H fun vs H1 => rzQ C f W σ vs H1) : tRz1 C f W t D σ H := q
theorem s_rz1 {C : Addr} {f : Str} {W : WX} {σ : L2.St} {H : Hp} {x : V} (q : ∀ d H', Same H H' → H' d = some (.xd [(f, x)]) → W (.ref C) (some d) σ H') : rzQ C f W σ [x] H := by
  refine ⟨Nat.le_of_ble_eq_true rfl, fun a ha => ⟨a, x, rfl, upd_same, fun d H2 hd hne e1 e2 e3 => ⟨rfl, d, _, e1, e2, by rwa [upd_ne hne] at hd, q d _ (fun b o e => ?_) upd_same⟩⟩⟩
  have nb : b ≠ a := ne_of_none e ha
  have nd : b ≠ d := fun z => by
    rw [z] at e
    rw [upd_ne hne, e] at hd
    cases hd
  rw [upd_ne nd, del_ne nb, e3 b nb nd, upd_ne nb]
  exact e
section
variable {X : Cx} {x : Str} {B C : Addr} {f : Str} {e : Expr} {es : List Expr} {t : TA} {p pos pos2 : Pos} {W : WX} {j : Nat}
theorem ps_rz1 (E : Ec1 X.prog X.w X.K X.mg X.base x B C f) (hr : Room j X.A) (hj : 2 ≤ j) (tk : Takes X W) (ha : PA X (e :: es) t) (hc : X.calm = true := by rfl) (hg : Gl X x := by rfl)
    (hdb : (x == ("__debug__" : Str)) = false := by decide) (he : starEach (e :: es) X.env = (false, eval e X.env) :: starEach es X.env := by rfl) (hpl : (backTo pos (starEach es X.env)).any (·.1) = false := by rfl) :
    PS X (.Raise (some (.Call (.Name x p) (e :: es) [] pos)) none pos2) (tRz1 C f W t) := by
  obtain ⟨fI, fd, h1, h2, F, b⟩ := E.i
  exact ps_raise hc tk (pmk_oex E.k.ox h1 h2 F (hr.mono hj) b .nil pass0 hg E.k.g ha hdb he hpl)
end
end Lk

namespace Lk
open PySem PySem.Spec PyProof.Rows L2
/-- an own error with three fields, as the top has left it -/
structure Ec3 (P : Program) (w : World) (K : PySem.W.Frag) (mg : Str → Option Value) (base : Heap) (x : Str) (B C : Addr) (f g l : Str) : Prop where
  k : ErK K mg x C B
  i : ∃ fI fd, PySem.W.findIn K (.ref C) "__init__" = some (some (.ref fI)) ∧ PySem.W.typeIn K (.ref fI) = some (.type "function") ∧ FnOk P w K mg base CX0 1 fI fd ["self", f, g, l] (spI3 C f g l) ∧ Binds K fd ["self", f, g, l] []
  hd : PySem.W.hasDictIn K C = true
  nf : PySem.W.findIn K (.ref C) f = some none
  ng : PySem.W.findIn K (.ref C) g = some none
  nl : PySem.W.findIn K (.ref C) l = some none
theorem Ec3.xf {P : Program} {w : World} {K : PySem.W.Frag} {mg : Str → Option Value} {base : Heap} {x : Str} {B C : Addr} {f g l : Str} (E : Ec3 P w K mg base x B C f g l) : XfC K C := ⟨E.k.ek.ga, E.k.ek.gt, E.k.ek.su, E.hd⟩
/-- what is left to show once the error's fields are there -/
def rzT (C : Addr) (f g l : Str) (W : WX) (σ : L2.St) (vs : List V) (H : Hp) : Prop := vs.length ≤ 1000 ∧ ∀ a, H a = none → spI3 C f g l (.ref a :: (vs ++ [])) (upd H a (exo a C none))
  (fun v H2 => v = .non ∧ ∃ (d : Addr) (fs : List (Str × V)), H2 a = some (exo a C (some d)) ∧ H2 d = some (exd d fs) ∧ H d = none ∧ W (.ref C) (some d) σ (upd (del H2 a) d (.xd fs))) (fun _ _ _ => False)
def tRz3 (C : Addr) (f g l : Str) (W : WX) (t : TA) : TS := fun _ σ H => t σ H fun vs H1 => rzT C f g l W σ vs H1
theorem srz3 {C : Addr} {f g l : Str} {W : WX} {t : TA} {D : Ends} {σ : L2.St} {H : Hp} (q : t σ H fun vs H1 => rzT C f g l W σ vs H1) : tRz3 C f g l W t D σ H := q
theorem s_rz3 {C : Addr} {f g l : Str} {W : WX} {σ : L2.St} {H : Hp} {x y z : V} (q : ∀ d H', Same H H' → H' d = some (.xd [(l, z), (g, y), (f, x)]) → W (.ref C) (some d) σ H') : rzT C f g l W σ [x, y, z] H := by
  refine ⟨Nat.le_of_ble_eq_true rfl, fun a ha => ⟨a, x, y, z, rfl, upd_same, fun d H2 hd hne e1 e2 e3 => ⟨rfl, d, _, e1, e2, by rwa [upd_ne hne] at hd, q d _ (fun b o e => ?_) upd_same⟩⟩⟩
  have nb : b ≠ a := ne_of_none e ha
  have nd : b ≠ d := fun zz => by
    rw [zz] at e
    rw [upd_ne hne, e] at hd
    cases hd
  rw [upd_ne nd, del_ne nb, e3 b nb nd, upd_ne nb]
  exact e
section
variable {X : Cx} {x : Str} {B C : Addr} {f g l : Str} {e : Expr} {es : List Expr} {t : TA} {p pos pos2 : Pos} {W : WX} {j : Nat}
theorem ps_rz3 (E : Ec3 X.prog X.w X.K X.mg X.base x B C f g l) (hr : Room j X.A) (hj : 2 ≤ j) (tk : Takes X W) (ha : PA X (e :: es) t) (hc : X.calm = true := by rfl) (hg : Gl X x := by rfl)
    (hdb : (x == ("__debug__" : Str)) = false := by decide) (he : starEach (e :: es) X.env = (false, eval e X.env) :: starEach es X.env := by rfl) (hpl : (backTo pos (starEach es X.env)).any (·.1) = false := by rfl) :
    PS X (.Raise (some (.Call (.Name x p) (e :: es) [] pos)) none pos2) (tRz3 C f g l W t) := by
  obtain ⟨fI, fd, h1, h2, F, b⟩ := E.i
  exact ps_raise hc tk (pmk_oex E.k.ox h1 h2 F (hr.mono hj) b .nil pass0 hg E.k.g ha hdb he hpl)
end
end Lk

namespace Lk
open PySem PySem.Spec PyProof.Rows L2
/-! ### tuples of what may be no form -/
inductive Fv (K : PySem.W.Frag) (H : Hp) : V → Option (List (Option (List PyData))) → Prop
  | tup {p : Addr} {us : List V} {os : List (Option (List PyData))} (h : SqT K H p us) (hd : F2 (It K H) us os) : Fv K H (.ref p) (some os)
  | no {v : V} {t : String} (h : Tyo K H v t) (h2 : kitB t "tuple" = some false) : Fv K H v none
/-- tuples of such tuples -/
inductive Cv (K : PySem.W.Frag) (H : Hp) : V → Option (List (Option (List (Option (List PyData))))) → Prop
  | tup {p : Addr} {us : List V} {os : List (Option (List (Option (List PyData))))} (h : SqT K H p us) (hd : F2 (Fv K H) us os) : Cv K H (.ref p) (some os)
  | no {v : V} {t : String} (h : Tyo K H v t) (h2 : kitB t "tuple" = some false) : Cv K H v none
section
variable {K : PySem.W.Frag} {H H' : Hp} {v : V} {Q : VK}
theorem Fv.same (s : Same H H') {o : Option (List (Option (List PyData)))} (h : Fv K H v o) : Fv K H' v o := by
  cases h with
  | tup h hd => exact .tup (same_sqT s h) (hd.mono fun _ _ z => z.same s)
  | no h h2 => exact .no (h.same s) h2
theorem Cv.same (s : Same H H') {o : Option (List (Option (List (Option (List PyData)))))} (h : Cv K H v o) : Cv K H' v o := by
  cases h with
  | tup h hd => exact .tup (same_sqT s h) (hd.mono fun _ _ z => z.same s)
  | no h h2 => exact .no (h.same s) h2
theorem s_isiTo {t : String} {b : Bool} (h : Tyo K H v t) (e : kitB t "tuple" = some b) (q : Q (.bl b) H) : rIsi K [v, .ty "tuple"] H Q := ⟨v, _, _, _, b, rfl, .ty "tuple", h.ty, kit_ty e, q⟩
theorem s_isiTq {p : Addr} {xs : List V} (h : SqT K H p xs) (q : Q (.bl true) H) : rIsi K [.ref p, .ty "tuple"] H Q := ⟨_, _, _, _, true, rfl, .ty "tuple", ty_sqT h, kit_ty (by decide +kernel), q⟩
theorem s_isiFv {o : Option (List (Option (List PyData)))} (h : Fv K H v o) (q : Q (.bl o.isSome) H) : rIsi K [v, .ty "tuple"] H Q := by
  cases h with
  | tup h hd => exact s_isiTq h q
  | no h h2 => exact s_isiTo h h2 q
theorem s_isiCv {o : Option (List (Option (List (Option (List PyData)))))} (h : Cv K H v o) (q : Q (.bl o.isSome) H) : rIsi K [v, .ty "tuple"] H Q := by
  cases h with
  | tup h hd => exact s_isiTq h q
  | no h h2 => exact s_isiTo h h2 q
end
def formO (n : Int) (o : Option (List PyData)) : Bool := match o with
  | some ds => decide ((ds.length : Int) = n + 1) && ds.all isIntD
  | none => false
def formsO (m n : Int) (o : Option (List (Option (List PyData)))) : Bool := match o with
  | some os => decide ((os.length : Int) = m) && os.all (formO n)
  | none => false
/-- the place of the first that doesn't pass -/
def firstB {α : Type} (p : α → Bool) : List α → Nat → Option Nat
  | [], _ => none
  | a :: r, n => if p a = true then firstB p r (n + 1) else some n
theorem firstB_at {α : Type} {p : α → Bool} : ∀ {as : List α} {i n : Nat} {a : α}, (∀ (k : Nat) (b : α), k < i → as[k]? = some b → p b = true) → as[i]? = some a → p a = false → firstB p as n = some (n + i)
  | [], i, n, a, _, h, _ => by simp at h
  | b :: r, 0, n, a, _, h, e => by
    cases h
    unfold firstB
    rw [if_neg (by rw [e]; decide)]
    rfl
  | b :: r, i + 1, n, a, g, h, e => by
    unfold firstB
    rw [if_pos (g 0 b (Nat.succ_pos _) rfl), firstB_at (as := r) (i := i) (fun k c hk hc => g (k + 1) c (Nat.succ_lt_succ hk) hc) h e]
    congr 1
    omega
theorem firstB_none {α : Type} {p : α → Bool} : ∀ {as : List α} {n : Nat}, (∀ (k : Nat) (b : α), as[k]? = some b → p b = true) → firstB p as n = none
  | [], _, _ => rfl
  | b :: r, n, g => by
    unfold firstB
    rw [if_pos (g 0 b rfl)]
    exact firstB_none fun k c hc => g (k + 1) c hc
/-- the error of three fields is wished for -/
def ErR (C : Addr) (r : Int) (p : Str) (i : Int) (E : XK) (H : Hp) : Prop := ∀ d H', Same H H' → H' d = some (.xd [("index", .int i), ("part", .str p), ("row", .int r)]) → E (.ref C) (some d) H'
theorem ErR.same {C : Addr} {r i : Int} {p : Str} {E : XK} {H H' : Hp} (s : Same H H') (h : ErR C r p i E H) : ErR C r p i E H' := fun d H2 s2 e => h d H2 (s.trans s2) e
def saysO (n : Int) (o : Option (List (Option (List PyData)))) : Option Int := match o with
  | none => some (-1)
  | some os => (firstB (formO n) os 0).map fun (j : Nat) => (j : Int)
def nextsO (lo hi m : Int) (o : Option (List PyData)) : Option Int := match o with
  | none => some (-1)
  | some ds => if lo ≤ (ds.length : Int) ∧ (ds.length : Int) ≤ hi then (firstB (fun d => withinD d 0 (m - 1)) ds 0).map fun (j : Nat) => (j : Int) else some (-1)
def changesO (cs : List Int) (n : Int) (o : Option (List (Option (List (Option (List PyData)))))) : Option Int := match o with
  | none => some (-1)
  | some os => if os.length = cs.length then (firstB (fun x : Int × Option (List (Option (List PyData))) => formsO x.1 n x.2) (cs.zip os) 0).map fun (j : Nat) => (j : Int) else some (-1)
end Lk

namespace Lk
open PySem PySem.Spec PyProof.Rows L2
/-! ### data of any kind, an empty dict among them -/
inductive Dg (K : PySem.W.Frag) (H : Hp) : V → PyData → Prop
  | dp {v : V} {d : PyData} (h : Dp K H v d) : Dg K H v d
  | dct {a : Addr} (h : H a = some (.dK [])) : Dg K H (.ref a) (.dict [])
section
variable {K : PySem.W.Frag} {H H' : Hp}
theorem Dg.same (s : Same H H') {v : V} {d : PyData} (h : Dg K H v d) : Dg K H' v d := by
  cases h with
  | dp h => exact .dp (dp_same s h)
  | dct h => exact .dct (s _ _ h)
theorem Dg.ty {v : V} {d : PyData} (h : Dg K H v d) : TyX K H v (.type (tyn d)) := by
  cases h with
  | dp h => exact tyx_dp h
  | dct h => exact .base (.dK h)
theorem Dg.int {v : V} {i : Int} (h : Dg K H v (.int i)) : v = .int i := by
  cases h with
  | dp h => cases h; rfl
theorem s_isiG {v : V} {d : PyData} {n : String} {b : Bool} {Q : VK} (h : Dg K H v d) (e : kitB (tyn d) n = some b) (q : Q (.bl b) H) : rIsi K [v, .ty n] H Q := ⟨v, _, _, _, b, rfl, .ty n, h.ty, kit_ty e, q⟩
theorem dg_all (s : Same H H') {xs : List V} {ds : List PyData} (h : F2 (Dg K H) xs ds) : F2 (Dg K H') xs ds := h.mono fun _ _ z => z.same s
theorem dg_ints : ∀ xs : List Int, F2 (Dg K H) (xs.map V.int) (xs.map PyData.int)
  | [] => .nil
  | x :: xs => .cons (.dp (.int x)) (dg_ints xs)
/-! ### a list or a tuple of such data, or none -/
inductive Nv (K : PySem.W.Frag) (H : Hp) : V → Option (List PyData) → Prop
  | seq {p : Addr} {xs : List V} {ds : List PyData} (h : SqE K H p xs) (hd : F2 (Dg K H) xs ds) : Nv K H (.ref p) (some ds)
  | no {v : V} {d : PyData} (h : Dg K H v d) (h1 : isListD d = false) (h2 : isTupD d = false) : Nv K H v none
theorem Nv.same (s : Same H H') {v : V} {o : Option (List PyData)} (h : Nv K H v o) : Nv K H' v o := by
  cases h with
  | seq h hd => exact .seq (h.same s) (dg_all s hd)
  | no h h1 h2 => exact .no (h.same s) h1 h2
theorem tyx_sqE {p : Addr} {xs : List V} (h : SqE K H p xs) : TyX K H (.ref p) (.type "list") ∨ TyX K H (.ref p) (.type "tuple") := by
  rcases h with h | h
  · rcases h with (e | ⟨o, e⟩) | ⟨o, its, n, e, c, _⟩
    · exact .inl (.base (.lst e))
    · exact .inl (.base (.frz e))
    · exact .inl (.kList e c)
  · rcases h with (e | ⟨o, e⟩) | ⟨o, its, n, e, c, _⟩
    · exact .inr (.base (.tup e))
    · exact .inr (.fTuple e)
    · exact .inr (.kTuple e c)
/-- isinstance(v, (list, tuple)) -/
theorem s_isiNv {v : V} {o : Option (List PyData)} {t : Addr} {Q : VK} (h : Nv K H v o) (ht : H t = some (.tup [.ty "list", .ty "tuple"])) (q : Q (.bl o.isSome) H) : rIsiT K [v, .ref t] H Q := by
  cases h with
  | seq h hd =>
    rcases tyx_sqE h with z | z
    · exact ⟨_, t, _, _, _, true, rfl, ht, .cons (.ty _) (.cons (.ty _) .nil), z, ki_lt (.list []), q⟩
    · exact ⟨_, t, _, _, _, true, rfl, ht, .cons (.ty _) (.cons (.ty _) .nil), z, ki_lt (.tuple []), q⟩
  | no h h1 h2 =>
    exact ⟨_, t, _, _, _, false, rfl, ht, .cons (.ty _) (.cons (.ty _) .nil), h.ty, by rw [ki_lt, h1, h2]; rfl, q⟩
end
end Lk

namespace Lk
open PySem PySem.Spec PyProof.Rows L2 LamX
/-! ### lambdas: all but the tables stays -/
section
variable {K : PySem.W.Frag} {H H1 H2 : Hp} {p a : Addr} {xs : List V} {T : List (Addr × Str)}
theorem ext_lst (e : ExtN H H1) (h : H a = some (.lst xs)) : H1 a = some (.lst xs) := e _ _ h (fun _ z => by cases z)
theorem ext_ts (e : ExtN H H1) : Ts H H1 := fun b ys h => e _ _ h (fun _ z => by cases z)
theorem ext_lc (e : ExtN H H1) (n : ∀ b ps, H b ≠ some (.tbl ps)) : Lc H H1 := fun b o h _ => e _ _ h (fun ps z => n b ps (by rw [h, z]))
theorem ext_sqT (e : ExtN H H1) (h : SqT K H a xs) : SqT K H1 a xs := by
  rcases h with (z | ⟨o, z⟩) | z
  · exact .inl (.inl (e _ _ z (fun _ y => by cases y)))
  · exact .inl (.inr ⟨o, e _ _ z (fun _ y => by cases y)⟩)
  · exact .inr z
theorem ext_sqL (e : ExtN H H1) (h : SqL K H a xs) : SqL K H1 a xs := by
  rcases h with (z | ⟨o, z⟩) | z
  · exact .inl (.inl (e _ _ z (fun _ y => by cases y)))
  · exact .inl (.inr ⟨o, e _ _ z (fun _ y => by cases y)⟩)
  · exact .inr z
theorem ext_sqE (e : ExtN H H1) (h : SqE K H a xs) : SqE K H1 a xs := h.imp (ext_sqL e) (ext_sqT e)
theorem ext_prog {C x : Addr} {k : Nat} {ns : List Str} {rs : List LRow} (e : ExtN H H1) (h : ProgO K C H x k ns rs) : ProgO K C H1 x k ns rs := by
  obtain ⟨dx, tv, tr, vs, h1, h2, h3, h4⟩ := h
  exact ⟨dx, tv, tr, vs, e _ _ h1 (fun _ z => by cases z), ext_sqT e h2, ext_sqT e h3, h4.ts (ext_ts e)⟩
theorem ext_vz {x : Addr} (e : ExtN H H1) (h : VzH H x) : VzH H1 x := by
  obtain ⟨C, dx, w, tv, tr, z, h1, h2, o, ys, h3, h4, h5⟩ := h
  exact ⟨C, dx, w, tv, tr, z, e _ _ h1 (fun _ y => by cases y), h2, o, ys, e _ _ h3 (fun _ y => by cases y), h4, h5⟩
theorem ext_wl (e : ExtN H H1) (w : Wl H p) : Wl H1 p := by
  obtain ⟨x, y, z, h⟩ := w
  exact ⟨x, y, z, ext_lst e h⟩
theorem tabS_keep {P : Addr} {q : Str} (t : TabS H P q) (e : ∀ b o, H b = some o → (∀ ys, o ≠ .lst ys) → H1 b = some o) : TabS H1 P q := by
  obtain ⟨ps, h1, h2, h3⟩ := t
  refine ⟨ps, e _ _ h1 (fun _ z => by cases z), h2, fun pos cv hc => ?_⟩
  obtain ⟨c, e1, e2⟩ := h3 pos cv hc
  exact ⟨c, e1, e _ _ e2 (fun _ z => by unfold CodeO at z; cases z)⟩
theorem tabs_lc (t : Tabs T H) (e : Lc H H1) : Tabs T H1 := fun q hq => tabS_keep (t q hq) e
theorem tabs_same (t : Tabs T H) (s : Same H H1) : Tabs T H1 := tabs_lc t (Lc.of s)
theorem tabs_wk (t : Tabs T H) (w : Wl H p) (s : Wk p H H1) : Tabs T H1 := tabs_lc t (Lc.wk w s)
/-- all but one list and the tables stays -/
def Em (p : Addr) (H H' : Hp) : Prop := ∀ b o, b ≠ p → H b = some o → (∀ ps, o ≠ .tbl ps) → H' b = some o
theorem Em.ext (e : ExtN H H1) : Em p H H1 := fun b o _ h n => e b o h n
theorem Em.wk (s : Wk p H H1) : Em p H H1 := fun b o nb h _ => s.1 b o nb h
theorem Em.same (s : Same H H1) : Em p H H1 := fun b o _ h _ => s b o h
theorem Em.trans (s : Em p H H1) (t : Em p H1 H2) : Em p H H2 := fun b o nb h n => t b o nb (s b o nb h n) n
theorem Em.new (h : H p = none) (s : Em p H H1) : ExtN H H1 := fun b o e n => s b o (ne_of_none e h) e n
end
/-! ### x(lambda: ..), the one error that it may let out taken -/
def TTr (C : Addr) : (XK → Hp → VK → Prop) → Hp → VK → Prop := fun tl H Q => ∀ N : Hp → Prop, (∀ H', Q .non H' → N H') → tl (fun cls d H' => cls = .ref C ∧ ∃ (dd : Addr) (z : Int), d = some dd ∧ H' dd = some (.xd [("index", .int z)]) ∧ Q (.int z) H') H fun _ H' => N H'
/-- the end with tables of the defs that the top has made -/
theorem walk_ofTab {l : PySem.W.OpenLaw} {k : Nat} {q : PySem.Program} {loose : List Str} {XP : (Str → Option Value) → Heap → Prop} {YP : World → Heap → Prop} {d : DefRec} {K : Params → PySem.W.Frag} {CX : World → CXT} {x : Str} (fs : List Str)
    (hn : l.most = some 63) (hdf : d.params.defaults = []) (hr : Room k callerA) (hrec : (fs.all fun f => (recsOf q).any fun e => e.name == f) = true) (hY : ∀ (w : World) (h : Heap), YP w h → (K w.params).In h)
    (F : ∀ (w : World) (mg : Str → Option Value) (fa : Addr) (h : Heap), (K w.params).In h → h.Ns mainGlobals mg → mg d.name = some (.ref fa) →
      (∀ f ∈ fs, ∀ (g c P : Addr) (o1 : Obj) (fd1 : FuncData) (e1 : Value) (dd1 : Option Addr) (vs1 : Array Value) (sl1 : Array (Option Value)), mg f = some (.ref g) → (K w.params).lookup g = some o1 → o1.data = .func fd1 → fd1.code = .ref c → (K w.params).lookup c = some ⟨e1, dd1, .fields vs1, sl1⟩ → vs1[11]? = some (.ref P) → h.get? P = some { cls := .none, data := .fields #[] }) →
      LawAtS l w (K w.params) (CX w) k 63 x mg fa h)
    (hCX : ∀ (w : World) (H : Hp) (s : Shared) (e : Value) (s' : Shared), CX w [] H s (fun _ _ _ => False) e s' → False) :
    PySem.W.WalkO q loose XP YP l.row.toRowW d [] (fun f vs => PySem.call f vs) := by
  refine Att.attach_callB hn hdf fun w s0 s1 mg mb fa o pm cd doc a vs ns G Y ho hd hcd hmg hob hin hle hbi hge => ?_
  have KY := hY w _ Y
  obtain ⟨fd, cs, sp, g1, g2, g3, g4, g5, g6⟩ := F w mg fa _ KY G.T.g hmg fun f hf g c P o1 fd1 e1 dd1 vs1 sl1 m0 k1 k2 k3 k4 k5 => by
    obtain ⟨dL, hm, hn1⟩ := List.any_eq_true.mp (List.all_eq_true.mp hrec f hf)
    have hn2 : dL.name = f := beq_iff_eq.mp hn1
    obtain ⟨a', o', fd', c', P', h1, h2, h3, h4, h5, ⟨⟨oc, vc, i1, _, i3, i4⟩, hP⟩⟩ := G.T.tab dL hm
    rw [hn2, m0] at h1
    cases h1
    have j1 := KY _ _ k1
    rw [j1] at h2
    cases h2
    rw [k2] at h3
    cases h3
    rw [k3] at h4
    cases h4
    have j2 := KY _ _ k4
    rw [j2] at i1
    cases i1
    cases i3
    rw [k5] at i4
    cases i4
    exact hP
  exact law_callTs KY G.T.g G.T.b G.T.builtins G.T.nolimit hge g1 g2 g3 G.T.bmain hob hin (Nat.le_trans hle (by decide)) hr g6 g4 (fun H hH hS => g5 H a ns hle hbi hH hS) fun H e s' => hCX w H s1 e s'
end Lk

namespace Lk
open PySem PySem.Spec PyProof.Rows L2
/-! ### try with several clauses «except C as e» -/
abbrev TsA := Addr → Value → Option Addr → TS
/-- the ends of a clause's suite: the name is gone behind it -/
def offA (i : Nat) (D : Ends) : Ends := { nx := fun σ H => D.nx (σ.set i none) H, rt := D.rt, bk := fun σ H => D.bk (σ.set i none) H, ct := fun σ H => D.ct (σ.set i none) H }
/-- what the clauses wish for -/
def wClauses (K : PySem.W.Frag) (Wo : WX) (D : Ends) : List (Value × Nat × TsA) → WX
  | [] => Wo
  | q :: r => fun cls d σ H => ∃ b, PySem.W.exmOne K cls q.1 = some b ∧ (b = true → ∀ a, H a = none → q.2.2 a cls d (offA q.2.1 D) (σ.set q.2.1 (some (.ref a))) H) ∧ (b = false → wClauses K Wo D r cls d σ H)
inductive Clauses (X : Cx) : List ExceptHandler → List (Value × Nat × TsA) → Prop
  | nil : Clauses X [] []
  | cons {x n : Str} {c : Value} {i : Nat} {ts : TsA} {st : Stmt} {suite : List Stmt} {p1 p2 : Pos} {hds : List ExceptHandler} {l : List (Value × Nat × TsA)} (hi : X.N[i]? = some n) (hln : X.env.kindOf n = some .local) (hc : Names X x c)
      (hsu : ∀ (a : Addr) (oe : Obj) (cls : Value) (d : Option Addr) (pn : List (Addr × Obj)), Zc cls d oe → (∃ vs, oe.data = .fields vs) → PSs (X.suite a ((a, oe) :: pn)) (st :: suite) (ts a cls d)) (r : Clauses X hds l) :
      Clauses X (.ExceptHandler (some (.Name x p1)) (some n) (st :: suite) p2 :: hds) ((c, i, ts) :: l)
/-- the exception at a, caught by X, its clauses not yet looked at -/
structure Caught (X : Cx) (pins : List (Addr × Obj)) (a : Addr) (cls : Value) (d : Option Addr) (σ : L2.St) (H : Hp) (s : Shared) : Prop where
  ex : ∃ (B : Heap) (t : Shared), Inv X pins σ H t ∧ (∀ b o, t.heap.get? b = some o → b ∉ frs X.stack → B.get? b = some o) ∧ t.heap.UpToSlots s.heap ∧ HandSPX.FlyingZ B (X.env :: X.outer) a (Zc cls d) s.heap ∧ s.os = t.os ∧ AllBare s.gens
  na : H a = none
section
variable {X : Cx} {pins : List (Addr × Obj)} {a : Addr} {cls c : Value} {d : Option Addr} {σ : L2.St} {H : Hp} {s : Shared} {D : Ends} {Wo : WX}
/-- no clause is left -/
theorem Caught.out (C : Caught X pins a cls d σ H s) (hst : X.stack = X.env :: X.outer) (hfr : X.env.frame = some X.env.locals) (tk : Takes X Wo) (q : Wo cls d σ H) : wpAny (model X.prog X.w) X.A (handleBy (.ref a) X.env []) (SP X pins D) X.xe s := by
  obtain ⟨B, t, J, nb, up, fl, eo, eg⟩ := C.ex
  refine wpAny_handleBy_nil ?_
  obtain ⟨_, _, _, oe, vs, T, oT, tt, g1, _, g3, g4, _⟩ := id fl
  unfold PySem.passOn
  refine wpAny_bind (wpAny_field g1 g3 g4 ?_)
  rw [if_neg (by simp)]
  have up_ : wpAny (model X.prog X.w) X.A (setFlight (.ref a) X.env.frame) (fun _ z => wpAny (model X.prog X.w) X.A (throw (.ref a) : Sem Flow) (SP X pins D) X.xe z) X.xe s := by
    rw [hfr]
    refine HandSPX.setFlight_upZ fl fun h2 sk u2 => wpAny_throw (tk _ _ ⟨a, B, t, pins, σ, H, cls, d, rfl, J, nb, up.trans u2, ?_, C.na, eo, eg, q⟩)
    exact .inr (.inr (hst ▸ sk))
  first
    | exact wpAny_bind (wpAny_pure (wpAny_bind up_))
    | exact wpAny_bind up_
theorem Caught.inv (C : Caught X pins a cls d σ H s) : Inv X pins σ H s := by
  obtain ⟨B, t, J, nb, up, fl, eo, eg⟩ := C.ex
  exact J.landed nb fl.1 up eo eg
/-- the error's object is none that X keeps -/
theorem Caught.apart (C : Caught X pins a cls d σ H s) (hfr : X.env.frame = some X.env.locals) : a ≠ X.env.locals ∧ a ∉ X.fs := by
  obtain ⟨B, t, J, nb, up, fl, eo, eg⟩ := C.ex
  obtain ⟨oe, vs, g1, _, g2⟩ := fl.there
  have no : a ∉ frs (X.env :: X.outer) := fun hm => by
    obtain ⟨_, o2, g3, g4⟩ := fl.2.2.1.mem hm
    rw [g1] at g3
    cases g3
    exact g4 _ g2
  refine ⟨fun z => no (List.mem_filterMap.mpr ⟨X.env, .head _, by rw [hfr, z]⟩), fun hm => ?_⟩
  obtain ⟨e, h1, h2⟩ := List.mem_filterMap.mp hm
  exact no (List.mem_filterMap.mpr ⟨e, .tail _ h1, h2⟩)
/-- one clause: it takes the error, or those behind it are looked at -/
theorem Caught.clause (C : Caught X pins a cls d σ H s) (hfr : X.env.frame = some X.env.locals) (hN : X.N.Nodup) {x n : Str} {i : Nat} {ts : TsA} {st : Stmt} {suite : List Stmt} {p1 p2 : Pos} {hds : List ExceptHandler} {b : Bool}
    (hi : X.N[i]? = some n) (hln : X.env.kindOf n = some .local) (hc : Names X x c)
    (hsu : ∀ (a : Addr) (oe : Obj) (cls : Value) (d : Option Addr) (pn : List (Addr × Obj)), Zc cls d oe → (∃ vs, oe.data = .fields vs) → PSs (X.suite a ((a, oe) :: pn)) (st :: suite) (ts a cls d))
    (hb : PySem.W.exmOne X.K cls c = some b) (yes : b = true → ts a cls d (offA i D) (σ.set i (some (.ref a))) H) (no : b = false → wpAny (model X.prog X.w) X.A (handleBy (.ref a) X.env hds) (SP X pins D) X.xe s) :
    wpAny (model X.prog X.w) X.A (handleBy (.ref a) X.env (.ExceptHandler (some (.Name x p1)) (some n) (st :: suite) p2 :: hds)) (SP X pins D) X.xe s := by
  have J1 := C.inv
  obtain ⟨nL, nF⟩ := C.apart hfr
  obtain ⟨B, t, J, nb, up, fl, eo, eg⟩ := C.ex
  obtain ⟨oe, vs, g1, g2, g3⟩ := fl.there
  have S1 := J1.suite g1 g3 C.na nL nF
  refine wpAny_handleBy_cons (codeAny_handlers_test ?_) (fun z => by cases z)
  have lk : PySem.W.Looks (model X.prog X.w) s.heap (typeOf (.ref a)) cls := fun A Q E z k q => wpAny_typeOf_ref (k _ _ g1) (by rw [g2.1]; exact q)
  have m := PySem.W.exm_one (M := model X.prog X.w) J1.kIn lk hb
  have named : ∀ {Q E : Value → Shared → Prop}, Q c s → wpAny (model X.prog X.w) (X.A.mark (some (.ref a))) (eval (.Name x p1) X.env) Q E s := fun {Q E} q => by
    obtain ⟨y1, y2, y3⟩ := hc
    rcases y3 with y3 | ⟨y3, y4, y5⟩
    · exact ld_glob (X := X.suite a ((a, oe) :: (X.pn ++ pins))) S1 y1 y3 q y2
    · exact ld_blt (X := X.suite a ((a, oe) :: (X.pn ++ pins))) S1 y1 y3 y4 q y5 y2
  refine named (m.here ?_)
  cases b with
  | false => exact no rfl
  | true =>
    refine codeAny_handlers_suite_as (HandSPX.lands_againZ fl fun h2 fl2 u2 => ?_)
    have J2 : Inv X pins σ H { s with heap := h2 } := J.landed nb fl2.1 (up.trans u2) eo eg
    obtain ⟨oe2, vs2, k1, k2, k3⟩ := fl2.there
    refine store_ok (X := X.suite a ((a, oe2) :: (X.pn ++ pins))) (v := .ref a) (J2.suite k1 k3 C.na nL nF) hN hi (.inl hln) rfl (fun s5 S5 => ?_) (.inr hln)
    refine wpAny_mono ((hsu a oe2 cls d (X.pn ++ pins) k2 ⟨_, k3⟩).run [] s5 _ H _ S5 (yes rfl)) (fun f s6 hs => ?_) (fun _ _ z => z.elim)
    have fin : ∀ {σ6 : L2.St} {H6 : Hp} {Q : Shared → Prop}, Inv (X.suite a ((a, oe2) :: (X.pn ++ pins))) [] σ6 H6 s6 → (∀ s7, Inv X pins (σ6.set i none) H6 s7 → Q s7) →
        wpAny (model X.prog X.w) X.A (do bindName X.env n .none; unbindBehindTheSuite X.env n p2) (fun _ s7 => Q s7) X.xe s6 := fun S6 hq => gone_ok (S6.unsuite J.ok) hN hi hln hq
    cases f with
    | ret u =>
      obtain ⟨v6, _, _, S6, r6, q6⟩ := hs
      exact fin S6 fun _ J7 => ⟨_, _, _, J7, r6, q6⟩
    | next =>
      obtain ⟨_, _, S6, q6⟩ := hs
      exact fin S6 fun _ J7 => ⟨_, _, J7, q6⟩
    | brk =>
      obtain ⟨_, _, S6, q6⟩ := hs
      exact fin S6 fun _ J7 => ⟨_, _, J7, q6⟩
    | cont =>
      obtain ⟨_, _, S6, q6⟩ := hs
      exact fin S6 fun _ J7 => ⟨_, _, J7, q6⟩
theorem Caught.all (C : Caught X pins a cls d σ H s) (hst : X.stack = X.env :: X.outer) (hfr : X.env.frame = some X.env.locals) (hN : X.N.Nodup) (tk : Takes X Wo) {hds : List ExceptHandler} {l : List (Value × Nat × TsA)} (h : Clauses X hds l) :
    wClauses X.K Wo D l cls d σ H → wpAny (model X.prog X.w) X.A (handleBy (.ref a) X.env hds) (SP X pins D) X.xe s := by
  induction h with
  | nil => exact C.out hst hfr tk
  | cons hi hln hc hsu r ih =>
    rintro ⟨b, hb, yes, no⟩
    exact C.clause hfr hN hi hln hc hsu hb (fun z => yes z a C.na) fun z => ih (no z)
theorem ps_tryA {body : List Stmt} {h0 : ExceptHandler} {hds : List ExceptHandler} {l : List (Value × Nat × TsA)} {pos : Pos} {tb : WX → TS} (hst : X.stack = X.env :: X.outer) (hfr : X.env.frame = some X.env.locals) (hN : X.N.Nodup) (tk : Takes X Wo)
    (hb : ∀ (W : WX) (pn : List (Addr × Obj)) (xe : Value → Shared → Prop), Takes (X.tr pn xe) W → PassesOwn (model X.prog X.w) X.A X.env xe → PSs (X.tr pn xe) body (tb W)) (hc : Clauses X (h0 :: hds) l) :
    PS X (.Try body (h0 :: hds) [] [] pos) (fun D σ H => tb (wClauses X.K Wo D l) D σ H) := by
  refine ⟨fun pins s σ H D I h => wpAny_Try_except ?_⟩
  have run := (hb (wClauses X.K Wo D l) (X.pn ++ pins) (fun e s1 => wpAny (model X.prog X.w) X.A (noteFrame e X.env) (fun _ s2 => wpAny (model X.prog X.w) X.A (setFlight e none) (fun _ s3 =>
    wpAny (model X.prog X.w) X.A (handleBy e X.env (h0 :: hds)) (SP X pins D) X.xe s3) X.xe s2) X.xe s1) (fun u s2 xx => ?_) PassesOwn.looking).run [] s σ H D (I.toTry _) h
  · refine wpAny_mono run (fun f s1 hs => ?_) fun _ _ z => z
    cases f with
    | ret u =>
      obtain ⟨v, σ2, H2, J, r, q⟩ := hs
      exact ⟨v, σ2, H2, J.ofTry I.ok, r, q⟩
    | next =>
      obtain ⟨σ2, H2, J, q⟩ := hs
      exact wpAny_execs_nil ⟨σ2, H2, J.ofTry I.ok, q⟩
    | brk =>
      obtain ⟨σ2, H2, J, q⟩ := hs
      exact ⟨σ2, H2, J.ofTry I.ok, q⟩
    | cont =>
      obtain ⟨σ2, H2, J, q⟩ := hs
      exact ⟨σ2, H2, J.ofTry I.ok, q⟩
  · obtain ⟨a, B, t, pins2, σ2, H2, cls, d, rfl, J, nb, up, sky, na, eo, eg, w⟩ := xx
    have J0 : Inv X pins σ2 H2 t := J.ofTry I.ok
    have sk : Sky B (X.env :: X.outer) a (Zc cls d) X.env.locals s2.heap := hst ▸ sky
    show wpAny _ X.A (noteFrame (.ref a) X.env) _ _ _
    exact Sky.land Zc.steady (by rw [I.ok.frames, hst]) hfr sk fun h3 fl u3 => Caught.all (s := { s2 with heap := h3 }) ⟨⟨B, t, J0, nb, up.trans u3, fl, eo, eg⟩, na⟩ hst hfr hN tk hc w
end
/-! ### tuples whose items are the same -/
section
variable {X : Cx}
def oneB : V → Bool
  | .ref _ => true
  | v => flatB v
def rNeI (K : PySem.W.Frag) : R2 := fun x y H Q => ∃ a b xs, x = .ref a ∧ y = .ref b ∧ SqT K H a xs ∧ SqT K H b xs ∧ (∀ v ∈ xs, oneB v = true) ∧ Q (.bl false) H
theorem op_neI (hu : X.A.units + 64 < cLine) : OpR X (compareOp .NotEq) (rNeI X.K) := by
  intro pins s σ H x y v u Q I rx ry h
  obtain ⟨a, b, xs, rfl, rfl, ha, hb, hx, q⟩ := h
  cases (show v = Value.ref a from rx)
  cases (show u = Value.ref b from ry)
  obtain ⟨us, r1, p1, _⟩ := I.tuple ha
  obtain ⟨ws, r2, p2, _⟩ := I.tuple hb
  have items : ∀ {xs : List V} {us ws : List Value}, (∀ v ∈ xs, oneB v = true) → Vals xs us → Vals xs ws → ∀ j (h1 : j < us.length) (h2 : j < ws.length), SeqAt.EqAt X.A.in1 s us[j] ws[j] true := by
    intro xs
    induction xs with
    | nil =>
      intro us ws _ r1
      cases r1
      exact fun _ j h1 => absurd h1 (Nat.not_lt_zero j)
    | cons z xs ih =>
      intro us ws hz r1 r2
      cases r1 with
      | cons a1 b1 =>
        cases r2 with
        | cons a2 b2 =>
          intro j h1 h2
          cases j with
          | succ j => exact ih (fun v hv => hz v (.tail _ hv)) b1 b2 j (Nat.lt_of_succ_lt_succ h1) (Nat.lt_of_succ_lt_succ h2)
          | zero =>
            have f := hz z (.head _)
            cases z with
            | ref p =>
              rename_i y1 _ y2 _
              cases (show y1 = Value.ref p from a1)
              cases (show y2 = Value.ref p from a2)
              exact SeqAt.EqAt.same _
            | _ => exact eqAt_same a1 a2 f
  have z := SeqAt.RcNeAt.tuples (A := X.A) (s := s) (e := fun _ => true) p1 p2 (by omega) (fun j h1 h2 => items hx r1 r2 j (by simpa using h1) (by simpa using h2))
  refine z X.prog X.w _ _ ?_
  have sz : us.toArray.size = ws.toArray.size := by rw [List.size_toArray, List.size_toArray, ← r1.length, ← r2.length]
  rw [show ((List.range (min us.toArray.size ws.toArray.size)).all fun _ => true) = true from List.all_eq_true.mpr fun _ _ => rfl, sz, beq_self_eq_true]
  exact ⟨.bl false, H, I, rfl, q⟩
/-- a text times a small number -/
def rRepS : R2 := fun x y H Q => ∃ (z : Str) (k : Int), x = .str z ∧ y = .int k ∧ 1 ≤ k ∧ k ≤ 10 ∧ z.length ≤ 10 ∧ ∀ t, Q (.str t) H
theorem long_no {n : Nat} (h : n ≤ 100) : PySem.Builtin.Str.tooLong n = false := decide_eq_false (Nat.not_lt.mpr (Nat.le_trans h (by decide)))
theorem op_repS : OpR X (binaryOp .Mult) rRepS := by
  intro pins s σ H x y v u Q I rx ry h
  obtain ⟨z, k, rfl, rfl, k1, k2, hz, q⟩ := h
  obtain ⟨t1, rfl⟩ := (show ∃ t, v = Value.str z t from rx)
  obtain ⟨t2, rfl⟩ := (show ∃ t, u = Value.int k t from ry)
  have kn : k.toNat ≤ 10 := by omega
  have hl : z.length * k.toNat ≤ 100 := Nat.le_trans (Nat.mul_le_mul hz kn) (by decide)
  refine PySem.P.mul_str ?_ (fun _ _ => ?_) (fun _ _ => ?_) ?_
  · rw [decide_eq_false (by omega), decide_eq_false (by omega)]
    rfl
  · have : (10 : Int) ≤ (2 ^ 63 - 1) / k := by
      rw [Int.le_ediv_iff_mul_le (by omega)]
      omega
    omega
  · exact long_no hl
  · rw [if_neg (by omega)]
    by_cases c : (k == 1 || z.length == 0) = true
    · rw [if_pos c]
      exact ⟨.str z, H, I, ⟨_, rfl⟩, q z⟩
    · rw [if_neg c]
      exact ⟨PySem.fits_reps (long_no hl), .str _, H, I.tok _, ⟨_, rfl⟩, q _⟩
/-- «except D» takes no error of the class C -/
theorem exm_ne {K : PySem.W.Frag} {mg : Str → Option Value} {x y : Str} {C D B : Addr} (E : ErK K mg x C B) (F : ErK K mg y D B) (n1 : D ≠ C) (n2 : D ≠ B) : PySem.W.exmOne K (.ref C) (.ref D) = some false := by
  obtain ⟨cd, e1, e2⟩ := erk_cls E
  obtain ⟨dd, e3, _⟩ := erk_cls F
  have a1 : (PySem.W.subIn K (.ref D) (.type "BaseException") == some true) = true := by rw [F.ek.su] <;> rfl
  have a2 : ((PySem.W.clsIn K D).isSome && PySem.W.typeIn K (.ref D) == some (.type "type")) = true := by rw [e3, F.ty] <;> rfl
  unfold PySem.W.exmOne
  rw [if_pos a1]
  unfold PySem.W.kitCls
  simp only []
  rw [if_pos a2]
  show PySem.W.mroIn K C (.ref D) = some false
  unfold PySem.W.mroIn
  rw [e1, Option.bind_some, e2]
  have b1 : (Value.ref D == Value.ref C) = false := by simpa using n1
  have b2 : (Value.ref D == Value.ref B) = false := by simpa using n2
  show some (([Value.ref C, Value.ref B, Value.type "ValueError", Value.type "Exception", Value.type "BaseException", Value.type "object"] : List Value).contains (Value.ref D)) = some false
  simp only [List.contains, List.elem, b1, b2]
  rfl
end
end Lk

namespace Lk
open PySem PySem.Spec PyProof.Rows L2
/-! ### rows of codes -/
structure CRow where
  kd : Str
  nx : List Int
  sy : List (List Int)
  ch : List (List (List Int))
def fsD (fs : List (List Int)) : PyData := .tuple (fs.map intsD)
def csD (cs : List (List (List Int))) : PyData := .tuple (cs.map fsD)
def CRow.d (r : CRow) : PyData := .tuple [.str r.kd, intsD r.nx, fsD r.sy, csD r.ch]
def lowF (k : Nat) (f : List Int) : List Int := f.map (· % 2 ^ k)
def CRow.low (k : Nat) (r : CRow) : CRow := ⟨r.kd, r.nx, r.sy.map (lowF k), r.ch.map (·.map (lowF k))⟩
def Kd4 (k : Str) : Prop := k = "go" ∨ k = "ask" ∨ k = "choose" ∨ k = "stop"
/-- the items in the heap -/
def CfH (H : Hp) (v : V) (f : List Int) : Prop := ∃ a, v = .ref a ∧ H a = some (.tup (f.map V.int))
def CfsH (H : Hp) (v : V) (fs : List (List Int)) : Prop := ∃ a us, v = .ref a ∧ H a = some (.tup us) ∧ F2 (CfH H) us fs
def CcsH (H : Hp) (v : V) (cs : List (List (List Int))) : Prop := ∃ a us, v = .ref a ∧ H a = some (.tup us) ∧ F2 (CfsH H) us cs
def CRowH (H : Hp) (v : V) (r : CRow) : Prop := ∃ a b c d, v = .ref a ∧ H a = some (.tup [.str r.kd, b, c, d]) ∧ CfH H b r.nx ∧ CfsH H c r.sy ∧ CcsH H d r.ch
section
variable {K : PySem.W.Frag} {H H' : Hp} {v : V}
theorem CfH.ts (s : Ts H H') {f : List Int} (h : CfH H v f) : CfH H' v f := by
  obtain ⟨a, e, h1⟩ := h
  exact ⟨a, e, s _ _ h1⟩
theorem CfsH.ts (s : Ts H H') {fs : List (List Int)} (h : CfsH H v fs) : CfsH H' v fs := by
  obtain ⟨a, us, e, h1, h2⟩ := h
  exact ⟨a, us, e, s _ _ h1, h2.mono fun _ _ z => z.ts s⟩
theorem CcsH.ts (s : Ts H H') {cs : List (List (List Int))} (h : CcsH H v cs) : CcsH H' v cs := by
  obtain ⟨a, us, e, h1, h2⟩ := h
  exact ⟨a, us, e, s _ _ h1, h2.mono fun _ _ z => z.ts s⟩
theorem CRowH.ts (s : Ts H H') {r : CRow} (h : CRowH H v r) : CRowH H' v r := by
  obtain ⟨a, b, c, d, e, h1, h2, h3, h4⟩ := h
  exact ⟨a, b, c, d, e, s _ _ h1, h2.ts s, h3.ts s, h4.ts s⟩
theorem dta_of {α : Type} {R : V → α → Prop} {g : α → PyData} (h : ∀ v a, R v a → Dt H v (g a)) : ∀ {vs : List V} {as : List α}, F2 R vs as → DtAll H vs (as.map g)
  | _, _, .nil => .nil
  | _, _, .cons x t => .cons (h _ _ x) (dta_of h t)
theorem CfH.dt {f : List Int} (h : CfH H v f) : Dt H v (intsD f) := by
  obtain ⟨a, rfl, h1⟩ := h
  exact .tup h1 (dt_ints f)
theorem CfsH.dt {fs : List (List Int)} (h : CfsH H v fs) : Dt H v (fsD fs) := by
  obtain ⟨a, us, rfl, h1, h2⟩ := h
  exact .tup h1 (dta_of (fun _ _ z => z.dt) h2)
theorem CcsH.dt {cs : List (List (List Int))} (h : CcsH H v cs) : Dt H v (csD cs) := by
  obtain ⟨a, us, rfl, h1, h2⟩ := h
  exact .tup h1 (dta_of (fun _ _ z => z.dt) h2)
theorem CRowH.dt {r : CRow} (h : CRowH H v r) : Dt H v r.d := by
  obtain ⟨a, b, c, d, rfl, h1, h2, h3, h4⟩ := h
  exact .tup h1 (.cons (.str _) (.cons h2.dt (.cons h3.dt (.cons h4.dt .nil))))
theorem crows_dt {us : List V} {rs : List CRow} (h : F2 (CRowH H) us rs) : DtAll H us (rs.map CRow.d) := dta_of (fun _ _ z => z.dt) h
end
/-! ### what may be compared -/
theorem fs_cl (fs : List (List Int)) : (fsD fs).canLay0 = true := by
  unfold fsD
  rw [PyData.canLay0]
  exact cl_map fun f _ => ints_cl f
theorem fs_dep (fs : List (List Int)) : (fsD fs).depth ≤ 2 := by
  unfold fsD
  rw [PyData.depth]
  have := dep_map (f := intsD) (n := 1) (xs := fs) fun f _ => ints_dep f
  omega
theorem cs_cl (cs : List (List (List Int))) : (csD cs).canLay0 = true := by
  unfold csD
  rw [PyData.canLay0]
  exact cl_map fun f _ => fs_cl f
theorem cs_dep (cs : List (List (List Int))) : (csD cs).depth ≤ 3 := by
  unfold csD
  rw [PyData.depth]
  have := dep_map (f := fsD) (n := 2) (xs := cs) fun f _ => fs_dep f
  omega
theorem kd4_cl {k : Str} (h : Kd4 k) : (PyData.str k).canLay0 = true := by
  rcases h with rfl | rfl | rfl | rfl <;> decide +kernel
theorem crow_cl {r : CRow} (h : Kd4 r.kd) : r.d.canLay0 = true := by
  have h1 := kd4_cl h
  have h2 := ints_cl r.nx
  have h3 := fs_cl r.sy
  have h4 := cs_cl r.ch
  unfold CRow.d
  simp only [PyData.canLay0, PyData.canLayAll0] at *
  simp only [h1, h2, h3, h4]
  rfl
theorem crow_dep (r : CRow) : r.d.depth ≤ 4 := by
  have h2 := ints_dep r.nx
  have h3 := fs_dep r.sy
  have h4 := cs_dep r.ch
  unfold CRow.d
  simp only [PyData.depth, PyData.depthAll]
  omega
def crowsD (rs : List CRow) : PyData := .tuple (rs.map CRow.d)
theorem shaped_of {d : PyData} (h1 : d.canLay0 = true) (h2 : d.depth ≤ 40) : SeqAt.shaped d = true := by
  unfold SeqAt.shaped
  rw [h1]
  exact decide_eq_true (by omega)
theorem crows_cl {rs : List CRow} (h : ∀ r ∈ rs, Kd4 r.kd) : (crowsD rs).canLay0 = true := by
  unfold crowsD
  rw [PyData.canLay0]
  exact cl_map fun r hr => crow_cl (h r hr)
theorem crows_dep (rs : List CRow) : (crowsD rs).depth ≤ 5 := by
  unfold crowsD
  rw [PyData.depth]
  have := dep_map (f := CRow.d) (n := 4) (xs := rs) fun r _ => crow_dep r
  omega
theorem shaped_crows {rs : List CRow} (h : ∀ r ∈ rs, Kd4 r.kd) : SeqAt.shaped (crowsD rs) = true := shaped_of (crows_cl h) (by have := crows_dep rs; omega)
theorem shaped_ints (xs : List Int) : SeqAt.shaped (intsD xs) = true := shaped_of (ints_cl xs) (by have := ints_dep xs; omega)
/-! ### rows that are right -/
def nxOk (kd : Str) (n : Nat) : Prop := (kd = "go" ∧ n = 1) ∨ (kd = "ask" ∧ n = 1) ∨ (kd = "choose" ∧ 1 ≤ n ∧ n ≤ 6) ∨ (kd = "stop" ∧ n = 0)
theorem nxOk.kd {kd : Str} {n : Nat} (h : nxOk kd n) : Kd4 kd := by
  rcases h with h | h | h | h
  · exact .inl h.1
  · exact .inr (.inl h.1)
  · exact .inr (.inr (.inl h.1))
  · exact .inr (.inr (.inr h.1))
theorem nxOk.le {kd : Str} {n : Nat} (h : nxOk kd n) : n ≤ 6 := by
  rcases h with h | h | h | h <;> omega
def ndLim (k : Str) : Option (Int × Int) := if k = ("go" : Str) then some (1, 1) else if k = ("ask" : Str) then some (1, 1) else if k = ("choose" : Str) then some (1, 6) else if k = ("stop" : Str) then some (0, 0) else none
theorem nxOk.lim {kd : Str} {n : Nat} (h : nxOk kd n) : ∃ a b : Int, ndLim kd = some (a, b) ∧ a ≤ n ∧ n ≤ b := by
  rcases h with ⟨rfl, rfl⟩ | ⟨rfl, rfl⟩ | ⟨rfl, h1, h2⟩ | ⟨rfl, rfl⟩
  · exact ⟨1, 1, by decide +kernel, by decide, by decide⟩
  · exact ⟨1, 1, by decide +kernel, by decide, by decide⟩
  · exact ⟨1, 6, by decide +kernel, by omega, by omega⟩
  · exact ⟨0, 0, by decide +kernel, by decide, by decide⟩
theorem form_ints {f : List Int} {n : Int} (h : (f.length : Int) = n + 1) : formD (intsD f) n = true := by
  show (decide (((f.map PyData.int).length : Int) = n + 1) && (f.map PyData.int).all isIntD) = true
  rw [List.length_map, decide_eq_true h, Bool.true_and, List.all_eq_true]
  intro d hd
  obtain ⟨x, _, rfl⟩ := List.mem_map.mp hd
  rfl
def askN (kd : Str) : Nat := if kd = ("ask" : Str) then 1 else 0
structure CRowOk (cts : List Int) (i : Nat) (r : CRow) : Prop where
  nxl : nxOk r.kd r.nx.length
  nxi : ∀ j ∈ r.nx, 0 ≤ j ∧ j < cts.length
  syl : r.sy.length ≤ 900
  syf : ∀ f ∈ r.sy, (f.length : Int) = cts.getD i 0 + 1
  chl : r.ch.length = r.nx.length
  chn : ∀ (n : Nat) (j : Int) (c : List (List Int)), r.nx[n]? = some j → r.ch[n]? = some c → (c.length : Int) = cts.getD j.toNat 0
  chf : ∀ c ∈ r.ch, ∀ f ∈ c, (f.length : Int) = cts.getD i 0 + 1 + askN r.kd
/-- counts, rows and the first registers that make a code -/
structure CodeOk (cts : List Int) (rs : List CRow) (st : List Int) : Prop where
  l1 : 1 ≤ rs.length
  l2 : rs.length ≤ 200
  cl : cts.length = rs.length
  c0 : ∀ c ∈ cts, 0 ≤ c ∧ c ≤ 64
  sl : (st.length : Int) = cts.getD 0 0
  ok : ∀ i r, rs[i]? = some r → CRowOk cts i r
theorem CodeOk.cD {cts : List Int} {rs : List CRow} {st : List Int} (h : CodeOk cts rs st) (i : Nat) : 0 ≤ cts.getD i 0 ∧ cts.getD i 0 ≤ 64 := by
  rw [List.getD_eq_getElem?_getD]
  cases e : cts[i]? with
  | none => exact ⟨Int.le_refl 0, by decide⟩
  | some c => exact h.c0 c (List.mem_of_getElem? e)
/-- a code in the heap, its numbers reduced -/
def cdF (w : Int) (tc tr ts : Addr) : List (Str × V) := [("width", .int w), ("counts", .ref tc), ("rows", .ref tr), ("start", .ref ts)]
def CodeO (K : PySem.W.Frag) (C : Addr) (H : Hp) (p : Addr) (w : Nat) (cts : List Int) (rs : List CRow) (st : List Int) : Prop :=
  ∃ dx tc tr ts vs, H p = some (.ins C dx (cdF w tc tr ts)) ∧ SqT K H tc (cts.map V.int) ∧ SqT K H tr vs ∧ F2 (CRowH H) vs rs ∧ SqT K H ts (st.map V.int)
/-- whether two codes are equal -/
def cdEq (k : Nat) (cts : List Int) (rs : List CRow) (st : List Int) (k2 : Nat) (cts2 : List Int) (rs2 : List CRow) (st2 : List Int) : Bool :=
  decide (k = k2) && (PyData.eqv (intsD cts) (intsD cts2) && (PyData.eqv (crowsD rs) (crowsD rs2) && PyData.eqv (intsD st) (intsD st2)))
end Lk

namespace Lk
open PySem PySem.Spec PyProof.Rows L2
section
variable {K : PySem.W.Frag} {H : Hp}
/-! ### a pair of a text and a number, compared with its like -/
theorem pair_sh {s : Str} {i : Int} (hs : (PyData.str s).canLay0 = true) : SeqAt.shaped (.tuple [.str s, .int i]) = true := by
  unfold SeqAt.shaped
  rw [Bool.and_eq_true]
  constructor
  · simp [PyData.canLay0, PyData.canLayAll0] at hs ⊢
    exact hs
  · exact decide_eq_true (by simp [PyData.depth, PyData.depthAll])
theorem s_neP {a b : Addr} {s : Str} {i : Int} {Q : VK} (hs : (PyData.str s).canLay0 = true) (ha : H a = some (.tup [.str s, .int i])) (hb : H b = some (.tup [.str s, .int i])) (q : Q (.bl false) H) : rNeD K (.ref a) (.ref b) H Q := by
  refine ⟨.tuple [.str s, .int i], .tuple [.str s, .int i], .tup (SqT.of ha) (.cons (.str _) (.cons (.int _) .nil)), .tup (SqT.of hb) (.cons (.str _) (.cons (.int _) .nil)), pair_sh hs, pair_sh hs, ?_⟩
  rw [SeqAt.eqv_refl _ (SeqAt.canLay_of_shaped (pair_sh hs))]
  exact q
end
/-! ### for x in [..]: each item keeps a property that stays -/
def MkV (te : TE) (σ : L2.St) (H : Hp) (P : Hp → V → Prop) : Prop := ∀ H1, Same H H1 → ∀ Q : VK, (∀ v H2, Same H1 H2 → P H2 v → Q v H2) → te σ H1 Q
def MkVs (tl : TA) (σ : L2.St) (H : Hp) (P : Hp → V → Prop) (n : Nat) : Prop := ∀ H1, Same H H1 → ∀ Q : List V → Hp → Prop, (∀ vs H2, Same H1 H2 → vs.length = n → (∀ v ∈ vs, P H2 v) → Q vs H2) → tl σ H1 Q
section
variable {K : PySem.W.Frag} {te : TE} {tl : TA} {σ : L2.St} {H : Hp} {P : Hp → V → Prop} {n i : Nat} {tb : TS} {D : Ends}
theorem mv_nil : MkVs tNil σ H P 0 := fun H1 _ Q q => q _ _ (Same.refl _) rfl fun v hv => by cases hv
theorem mv_cons (st : ∀ {H H' v}, Same H H' → P H v → P H' v) (h : MkV te σ H P) (t : MkVs tl σ H P n) : MkVs (tCons te tl) σ H P (n + 1) := fun H1 s Q q => scn (h H1 s _ fun v H2 s2 hv => t H2 (s.trans s2) _ fun vs H3 s3 hl hvs =>
  q _ _ (s2.trans s3) (congrArg Nat.succ hl) fun u hu => by
    rcases List.mem_cons.mp hu with rfl | hu
    · exact st s3 hv
    · exact hvs u hu)
/-- a thing that is no new object -/
theorem mv_c {v : V} (h : ∀ H, P H v) : MkV (tC v) σ H P := fun H1 _ Q q => q _ _ (Same.refl _) (h _)
theorem mv_lst {xs : List V} (ht : ∀ H1 (Q : List V → Hp → Prop), Q xs H1 → tl σ H1 Q) (hl : xs.length ≤ 1000) (h : ∀ H a, H a = some (.lst xs) → P H (.ref a)) : MkV (tLst tl) σ H P := fun H1 _ Q q => sli (ht _ _ ⟨Nat.le_of_lt (small1000 hl), fun a ha => q _ _ (same_new ha) (h _ _ upd_same)⟩)
theorem mv_tup {xs : List V} (ht : ∀ H1 (Q : List V → Hp → Prop), Q xs H1 → tl σ H1 Q) (hl : xs.length ≤ 1000) (h : ∀ H a, H a = some (.tup xs) → P H (.ref a)) : MkV (tTup tl) σ H P := fun H1 _ Q q => stu (ht _ _ ⟨Nat.le_of_lt (small1000 hl), fun a ha => q _ _ (same_new ha) (h _ _ upd_same)⟩)
theorem mv_dct (h : ∀ H a, H a = some (.dK []) → P H (.ref a)) : MkV tDNewK σ H P := fun H1 _ Q q a ha => q _ _ (same_new ha) (h _ _ upd_same)
/-- [(v,)] * k -/
theorem mv_rep1 {v : V} {k : Nat} (hk : k ≤ 900) (h : ∀ H a t, H a = some (.lst (List.replicate k (.ref t))) → H t = some (.tup [v]) → P H (.ref a)) : MkV (tOp rRep (tLst (tCons (tTup (tCons (tC v) tNil)) tNil)) (tC (.int (k : Int)))) σ H P := fun H1 _ Q q => by
  refine sop (sli (scn (stu (scn (sc (snl ?_))))))
  refine ⟨Nat.le_of_lt (small1000 (Nat.le_of_ble_eq_true rfl)), fun t ht => snl ⟨Nat.le_of_lt (small1000 (Nat.le_of_ble_eq_true rfl)), fun a ha => sc ?_⟩⟩
  refine ⟨a, (k : Int), [.ref t], rfl, rfl, upd_same, by omega, by omega, Nat.le_of_lt (small1000 (by rw [Int.toNat_natCast]; simp; omega)), fun c hc => ?_⟩
  have s1 : Same H1 (upd H1 t (.tup [v])) := same_new ht
  have s2 := s1.trans (same_new (o := .lst [.ref t]) ha)
  have e2 := same_new (o := .lst [.ref t]) ha _ _ (upd_same (H := H1) (a := t) (o := .tup [v]))
  refine q _ _ (s2.trans (same_new hc)) (h _ _ t ?_ (same_new hc _ _ e2))
  rw [upd_same, Int.toNat_natCast, List.flatten_replicate_singleton]
theorem for_lit (st : ∀ {H H' v}, Same H H' → P H v → P H' v) (hmk : MkVs tl σ H P n) (hn : n ≤ 1000) (h0 : ∃ e, σ = σ.set i e)
    (ht : ∀ HB v H', Same H HB → Same HB H' → P H' v → tb { D with nx := fun σ' H' => (∃ e, σ' = σ.set i e) ∧ Same HB H', ct := fun σ' H' => (∃ e, σ' = σ.set i e) ∧ Same HB H', bk := D.nx } (σ.set i (some v)) H')
    (hd : ∀ e H', Same H H' → D.nx (σ.set i e) H') : tFor (iList K (tLst tl)) (gName i) tb D σ H := by
  refine sfor (sils (sli (hmk H (Same.refl H) _ fun vs H1 s1 hl hvs => ⟨Nat.le_of_lt (small1000 (by omega)), fun a ha => ⟨a, rfl, ⟨vs, SqL.of upd_same⟩, ?_⟩⟩)))
  have s2 : Same H1 (upd H1 a (.lst vs)) := same_new ha
  have e2 : (upd H1 a (.lst vs)) a = some (.lst vs) := upd_same
  generalize upd H1 a (.lst vs) = H2 at s2 e2 ⊢
  refine for_list (fun j σ' H' => (∃ e, σ' = σ.set i e) ∧ Same H2 H') ⟨h0, Same.refl _⟩ (fun j σ' H' _ h => SqL.of (h.2 _ _ e2)) ?_ ?_
  · rintro j v σ' H' hj ⟨⟨e, rfl⟩, s3⟩
    refine sgn ?_
    rw [List.set_set]
    exact ht H2 v H' (s1.trans s2) s3 (st (s2.trans s3) (hvs v (List.mem_of_getElem? hj)))
  · rintro σ' H' ⟨⟨e, rfl⟩, s3⟩
    exact hd e H' ((s1.trans s2).trans s3)
end
end Lk

namespace L2
open PySem PySem.Spec PyProof.Rows MeetsSeq MeetsSeq2 MeetsSeq3 SeqRoads2
open AutoSeq1 (wpAny_loadPart')
theorem tuple_mul0 (l : Addr) (items : Array Value) (n : Nat) (dd : Option Addr) (sl : Array (Option Value)) (x : Int) (u : Tok) (c0 : (decide (x < -(2 ^ 63)) || decide (x ≥ 2 ^ 63)) = false) (c1 : (items.isEmpty || x == 1) = false) (c2 : (decide (x ≤ 0) || items.isEmpty) = true) :
    Meets (Builtin.«tuple.__mul__» ⟨[.ref l, .int x u], []⟩) (fun _ R s => s.heap.get? l = some { cls := .type "tuple", dict := dd, data := .seq items n, slots := sl } ∧
      R (.ok (.ret (Value.ref s.heap.objs.size))) { s with heap := s.heap.push { cls := Value.type "tuple", data := Data.seq #[] }, toks := s.toks }) :=
  .of_wp fun prog w A R s h => by
    obtain ⟨hp, g, d, tk, os⟩ := s
    obtain ⟨hl, h⟩ := h
    have f1 := AutoSeq1.idx_int
    wp_walk using wpAny_loadPart' hl
    repeat (first
      | (refine wpAny_ite_false (decide_eq_false (by rw [c0]; exact Bool.false_ne_true)) ?_; wp_walk using wpAny_loadPart' hl)
      | (refine wpAny_ite_false (decide_eq_false (by rw [c1]; exact Bool.false_ne_true)) ?_; wp_walk using wpAny_loadPart' hl)
      | (refine wpAny_ite_true (decide_eq_true c2) ?_; wp_walk using wpAny_loadPart' hl))
    exact ⟨_, rfl, h⟩
/-- t * k, k at least 0 -/
def rRepZ (K : PySem.W.Frag) : R2 := fun x y H Q => ∃ l k xs, x = .ref l ∧ y = .int k ∧ SqT K H l xs ∧ xs ≠ [] ∧ 0 ≤ k ∧ k ≤ 1000 ∧ xs.length ≤ 1000 ∧ (k = 0 → ∀ p, H p = none → Q (.ref p) (upd H p (.tup []))) ∧ (k = 1 → Q (.ref l) H) ∧ (2 ≤ k → ∀ p, H p = none → Q (.ref p) (upd H p (.tup (List.replicate k.toNat xs).flatten)))
theorem op_repZ {X : Cx} : OpR X (binaryOp .Mult) (rRepZ X.K) := by
  intro pins s σ H x y v u Q I rx ry h
  obtain ⟨l, k, xs, rfl, rfl, hT, hne, h1, h2, hz, q0, q1, q2⟩ := h
  by_cases hk : k = 0
  · subst hk
    cases rx
    obtain ⟨t, rfl⟩ := ry
    obtain ⟨its, r, ⟨⟨cls, dd, data, sl⟩, ho, hc, n, hd⟩, hs⟩ := I.tuple hT
    simp only at hc hd
    subst hc hd
    have hle : its.length = xs.length := r.length.symm
    have hn : its ≠ [] := fun e => hne (by
      rw [e] at hle
      exact List.eq_nil_of_length_eq_zero hle.symm)
    have hi : its.toArray.isEmpty = false := by
      cases its with
      | nil => exact absurd rfl hn
      | cons a b => rfl
    have c0 : (decide ((0 : Int) < -(2 ^ 63)) || decide ((0 : Int) ≥ 2 ^ 63)) = false := by decide
    have c1 : (its.toArray.isEmpty || (0 : Int) == 1) = false := by
      rw [hi]
      rfl
    have c2 : (decide ((0 : Int) ≤ 0) || its.toArray.isEmpty) = true := by
      rw [show decide ((0 : Int) ≤ 0) = true from rfl, Bool.true_or]
    refine wpAny_binaryOp_repeat_ref (T := "tuple") (U := "int") (by decide) ⟨_, ho, rfl⟩ (fun s' => typeIs_int s' 0 t) noFill_tuple_mul F.fills_int_mul F.slot_int_rmul repeat_tuple F.slot_int_index.lookup
      (call_meets F.slot_int_rmul (typeIs_int s 0 t) F.entry_int_rmul (F.args_int_rmul_2 _ _) (int_rmul_tuple 0 t l its.toArray n dd sl)
        ⟨ho, rfl, ⟨_, ho, rfl⟩, call_meets F.slot_tuple_mul ⟨_, ho, rfl⟩ F.entry_tuple_mul (F.args_tuple_mul_2 _ _) (tuple_mul0 l its.toArray n dd sl 0 t c0 c1 c2) ⟨ho, ?_⟩⟩)
    refine ⟨.ref s.heap.objs.size, _, I.laid (t' := s.toks) (o := .tup []) (fun b ob q => Heap.get?_push_of_some _ q) (Nat.le_refl _) ?_, rfl, q0 rfl _ (I.hok.fresh (Nat.le_refl _))⟩
    exact ⟨Nat.zero_le _, _, .nil, IsTup.new _ _⟩
  · exact op_repN pins s σ H _ _ v u Q I rx ry ⟨l, k, xs, rfl, rfl, hT, hne, by omega, h2, hz, q1, q2⟩
end L2
namespace Lk
open PySem PySem.Spec PyProof.Rows L2
theorem s_repZ {K : PySem.W.Frag} {H : Hp} {l : Addr} {x : V} {n : Nat} {Q : VK} (h : H l = some (.tup [x])) (h2 : n ≤ 1000) (q : ∀ p H', Same H H' → H' p = some (.tup (List.replicate n x)) → Q (.ref p) H') : rRepZ K (.ref l) (.int (n : Int)) H Q :=
  ⟨l, n, [x], rfl, rfl, SqT.of h, by simp, by omega, by omega, by simp, fun e p hp => by
    have : n = 0 := by omega
    subst this
    exact q p _ (same_new hp) upd_same, fun e => q l H (Same.refl _) (by
    have : n = 1 := by omega
    subst this
    exact h), fun e p hp => q p _ (same_new hp) (by rw [upd_same, Int.toNat_natCast, flat_rep])⟩
end Lk

namespace K41
open PySem PySem.Spec PyProof.Rows L2 Lk
local macro_rules | `(tactic| walk_at "lk") => `(tactic| (repeat (first
  | with_reducible refine ssq ?_ | with_reducible refine sas ?_ | with_reducible refine sgn ?_ | ((with_reducible show tVar _ _ _ _); refine sv rfl ?_) | with_reducible refine sc ?_ | with_reducible refine sop ?_ | with_reducible refine sun ?_
  | with_reducible refine sI0 ?_ | with_reducible refine sU ?_ | with_reducible refine stt ?_ | with_reducible refine stB ?_ | with_reducible refine sbl ?_ | with_reducible refine snt ?_ | with_reducible refine sif ?_ | with_reducible refine scB ?_
  | with_reducible refine scn ?_ | with_reducible refine snl ?_ | with_reducible refine scl ?_ | with_reducible refine stu ?_ | with_reducible refine sli ?_ | with_reducible refine sdr ?_ | with_reducible refine srt ?_ | with_reducible refine snx ?_ | with_reducible refine sfor ?_ | with_reducible refine sils ?_ | with_reducible refine sien ?_ | with_reducible refine sor ?_ | with_reducible refine sfg ?_
  | with_reducible refine sav ?_ | with_reducible refine sov ?_ | with_reducible refine snv ?_ | with_reducible refine sch ?_ | with_reducible refine san ?_ | with_reducible refine ssll ?_ | with_reducible refine spt ?_ | with_reducible refine snp ?_ | with_reducible refine sin ?_ | with_reducible refine sfl ?_ | with_reducible refine sfd ?_
  | ((with_reducible show Or _ _); first | refine Or.inl ⟨_, rfl, ?_⟩ | refine Or.inr ⟨_, rfl, ?_⟩))))

def top (i : Nat) : Stmt := PySem.Challenge.pw_leastkeep_k41_invalid_codes.main.body.getD i (.Pass ⟨0, 0, 0, 0⟩)
/-- the classes -/
structure Ad where
  KeepError : Addr
  NoCode : Addr
  Code : Addr
  NEXTS : Addr
structure Txt (P : Program) (w : World) (K : PySem.W.Frag) (mg : Str → Option Value) (base : Heap) (A : Ad) : Prop where
  z_int : mg "int" = none
  z_bool : mg "bool" = none
  z_str : mg "str" = none
  z_list : mg "list" = none
  z_tuple : mg "tuple" = none
  z_len : mg "len" = none
  z_isinstance : mg "isinstance" = none
  z_range : mg "range" = none
  z_enumerate : mg "enumerate" = none
  z_all : mg "all" = none
  g_NoCode : mg "NoCode" = some (.ref A.NoCode)
  g_Code : mg "Code" = some (.ref A.Code)
  c_Code : Cls K A.Code
  i_cls : PySem.W.findIn K (.ref A.Code) "__class__" = some (some (.builtin "object.__class__"))
  i_get : PySem.W.specialIn K (.builtin "object.__class__") "__get__" = some (some (.builtin "getset_descriptor.__get__"))
  i_tk : PySem.W.takesIn K (.builtin "object.__class__") = some true
  i_mro : PySem.W.mroIn K A.Code (.type "object") = some true
  i_self : PySem.W.kitOne K (.ref A.Code) (.ref A.Code) = some true
  i_tup : PySem.W.kitOne K (.type "tuple") (.ref A.Code) = some false
  o_nf : PySem.W.notFirst K A.Code (.type "tuple") = true
  o_ne : PySem.W.findIn K (.ref A.Code) "__ne__" = some (some (.builtin "object.__ne__"))
  n_width : NoAttr K A.Code "width"
  n_counts : NoAttr K A.Code "counts"
  n_rows : NoAttr K A.Code "rows"
  n_start : NoAttr K A.Code "start"
  g_WIDEST : ∃ t, mg "WIDEST" = some (.int 64 t)
  g_MOST_ROWS : ∃ t, mg "MOST_ROWS" = some (.int 200 t)
  g_MOST_REGISTERS : ∃ t, mg "MOST_REGISTERS" = some (.int 64 t)
  z_dict : mg "dict" = none
  g_NEXTS : mg "NEXTS" = some (.ref A.NEXTS)
  x_NEXTS : ∃ es n, KDict K w A.NEXTS es n
  v_NEXTS : ∀ z a b, ndLim z = some (a, b) → ∃ p, PySem.W.nsIn K A.NEXTS z = some (some (.ref p)) ∧ ∀ H, SqT K H p [.int a, .int b]
  e_NoCode : Ec3 P w K mg base "NoCode" A.KeepError A.NoCode "row" "part" "index"
  v_no : ∀ z ∈ (["Go", "set", "say", ""] : List Str), PySem.W.nsIn K A.NEXTS z = some none
/-! ### promises of leastkeep.values, leastkeep.graphs -/
def spIsInt (K : PySem.W.Frag) : Sp := fun vs H Q _ => ∃ v d, vs = [v] ∧ Dp K H v d ∧ Q (.bl (isIntD d)) H
def spWithin (K : PySem.W.Frag) : Sp := fun vs H Q _ => ∃ v d a b, vs = [v, .int a, .int b] ∧ Dp K H v d ∧ Q (.bl (withinD d a b)) H
def spWidth (K : PySem.W.Frag) : Sp := fun vs H Q _ => ∃ v d, vs = [v] ∧ Dp K H v d ∧ Q (.bl (withinD d 1 64)) H
def spSeq (K : PySem.W.Frag) : Sp := fun vs H Q _ => ∃ v d a b, vs = [v, .int a, .int b] ∧ Dp K H v d ∧ ∀ H', Same H H' → Q (.bl (seqD d a b)) H'
def spAreInts (K : PySem.W.Frag) : Sp := fun vs H Q _ => ∃ v ds, vs = [v] ∧ Dp K H v (.tuple ds) ∧ ds.length ≤ 1000 ∧ ∀ H', Same H H' → Q (.bl (ds.all isIntD)) H'
def spForm (K : PySem.W.Frag) : Sp := fun vs H Q _ => ∃ v d n, vs = [v, .int n] ∧ Dp K H v d ∧ n ≤ 900 ∧ ∀ H', Same H H' → Q (.bl (formD d n)) H'
def spLow (K : PySem.W.Frag) : Sp := fun vs H Q _ => ∃ (a : Addr) (xs : List Int) (k : Nat), vs = [.ref a, .int (k : Int)] ∧ SqT K H a (xs.map V.int) ∧ xs.length ≤ 1000 ∧ k ≤ 64 ∧ ∀ p H', Same H H' → H p = none → H' p = some (.tup (xs.map fun x => V.int (x % 2 ^ k))) → Q (.ref p) H'
def spNexts (K : PySem.W.Frag) : Sp := fun vs H Q _ => ∃ v d a b m, vs = [v, .int a, .int b, .int m] ∧ Dp K H v d ∧ b ≤ 900 ∧ ∀ H', Same H H' → Q (.bl (nextsD d a b m)) H'
section
variable {P : Program} {w : World} {K : PySem.W.Frag} {mg : Str → Option Value} {base : Heap} {A : Ad}
abbrev s_is_integer : Stmt := top 5
theorem sc_is_integer : FnScope ["value"] ["value"] (defScope s_is_integer) := ⟨rfl, rfl, rfl, by decide +kernel, rfl, by decide +kernel, by decide +kernel⟩
theorem ok_is_integer {f : Addr} {fd : FuncData} (F : Fun K "is_integer" "is_integer" s_is_integer f fd) (T : Txt P w K mg base A) : FnOk P w K mg base CX0 1 f fd ["value"] (spIsInt K) := by
  refine F.ok sc_is_integer (fun vs H Q E h => ?_) (fun cdv Ar outer s H vs Q E hr h => ?_)
  · obtain ⟨v, d, rfl, _⟩ := h
    rfl
  · obtain ⟨v, d, rfl, hd, k⟩ := h
    refine ⟨_, (pss_one (ps_ret (pe_and (pe_callB call_isi (by rfl) T.z_isinstance (by decide +kernel) (pa_cons (pv 0) (pa_cons (pe_bltn (v := .ty "int") (by rfl) T.z_int (by first | exact PySem.boot_int | decide +kernel) rfl) pa_nil))) (pe_one (pe_not (pe_callB call_isi (by rfl) T.z_isinstance (by decide +kernel) (pa_cons (pv 0) (pa_cons (pe_bltn (v := .ty "bool") (by rfl) T.z_bool (by first | exact PySem.boot_bool | decide +kernel) rfl) pa_nil)))))))), ?_⟩
    walk_at "lk"
    refine s_isi hd (ki_int d) ?_
    walk_at "lk"
    cases d with
    | int i =>
      refine ite2 (fun _ => ?_) (fun z => absurd rfl z)
      walk_at "lk"
      refine s_isi hd (ki_bool _) ?_
      walk_at "lk"
      exact k
    | bool b =>
      refine ite2 (fun _ => ?_) (fun z => absurd rfl z)
      walk_at "lk"
      refine s_isi hd (ki_bool _) ?_
      walk_at "lk"
      exact k
    | _ => exact k
abbrev s_is_within : Stmt := top 6
theorem sc_is_within : FnScope ["value", "least", "most"] ["value", "least", "most"] (defScope s_is_within) := ⟨rfl, rfl, rfl, by decide +kernel, rfl, by decide +kernel, by decide +kernel⟩
theorem ok_is_within {f : Addr} {fd : FuncData} (F : Fun K "is_within" "is_within" s_is_within f fd) (T : Txt P w K mg base A) (c_is_integer : Cal P w K mg base 1 "is_integer" ["value"] (spIsInt K)) : FnOk P w K mg base CX0 2 f fd ["value", "least", "most"] (spWithin K) := by
  refine F.ok sc_is_within (fun vs H Q E h => ?_) (fun cdv Ar outer s H vs Q E hr h => ?_)
  · obtain ⟨v, d, a, b, rfl, _⟩ := h
    rfl
  · obtain ⟨v, d, a, b, rfl, hd, k⟩ := h
    refine ⟨_, (pss_one (ps_ret (pe_and (pcal c_is_integer hr (by decide) (pa_cons (pv 0) pa_nil)) (pe_one (pe_chain op_le op_le (pv 1) (pv 0) (pv 2)))))), ?_⟩
    walk_at "lk"
    refine ⟨v, d, rfl, hd, ?_⟩
    walk_at "lk"
    cases d with
    | int i =>
      cases hd
      refine ite2 (fun _ => ?_) (fun z => absurd rfl z)
      walk_at "lk"
      by_cases ha : a ≤ i
      · have e : withinD (.int i) a b = decide (i ≤ b) := by simp [withinD, ha]
        rw [e] at k
        rw [if_pos (decide_eq_true ha)]
        walk_at "lk"
        exact k
      · have e : withinD (.int i) a b = false := by simp [withinD, ha]
        rw [e] at k
        rw [if_neg (by simpa using ha)]
        exact k
    | _ => exact k
abbrev s_is_width : Stmt := top 7
theorem sc_is_width : FnScope ["value"] ["value"] (defScope s_is_width) := ⟨rfl, rfl, rfl, by decide +kernel, rfl, by decide +kernel, by decide +kernel⟩
theorem ok_is_width {f : Addr} {fd : FuncData} (F : Fun K "is_width" "is_width" s_is_width f fd) (T : Txt P w K mg base A) (c_is_within : Cal P w K mg base 2 "is_within" ["value", "least", "most"] (spWithin K)) : FnOk P w K mg base CX0 3 f fd ["value"] (spWidth K) := by
  refine F.ok sc_is_width (fun vs H Q E h => ?_) (fun cdv Ar outer s H vs Q E hr h => ?_)
  · obtain ⟨v, d, rfl, _⟩ := h
    rfl
  · obtain ⟨v, d, rfl, hd, k⟩ := h
    refine ⟨_, (pss_one (ps_ret (pcal c_is_within hr (by decide) (pa_cons (pv 0) (pa_cons pe_int (pa_cons (pe_gint (by rfl) T.g_WIDEST) pa_nil)))))), ?_⟩
    walk_at "lk"
    exact ⟨v, d, 1, 64, rfl, hd, k⟩
abbrev s_is_sequence : Stmt := top 8
theorem sc_is_sequence : FnScope ["value", "least", "most"] ["value", "least", "most"] (defScope s_is_sequence) := ⟨rfl, rfl, rfl, by decide +kernel, rfl, by decide +kernel, by decide +kernel⟩
theorem ok_is_sequence {f : Addr} {fd : FuncData} (F : Fun K "is_sequence" "is_sequence" s_is_sequence f fd) (T : Txt P w K mg base A) : FnOk P w K mg base CX0 1 f fd ["value", "least", "most"] (spSeq K) := by
  refine F.ok sc_is_sequence (fun vs H Q E h => ?_) (fun cdv Ar outer s H vs Q E hr h => ?_)
  · obtain ⟨v, d, a, b, rfl, _⟩ := h
    rfl
  · obtain ⟨v, d, a, b, rfl, hd, k⟩ := h
    refine ⟨_, (pss_one (ps_ret (pe_and (pe_callB call_isiT (by rfl) T.z_isinstance (by decide +kernel) (pa_cons (pv 0) (pa_cons (pe_tup (pa_cons (pe_bltn (v := .ty "list") (by rfl) T.z_list (by first | exact PySem.boot_list | decide +kernel) rfl) (pa_cons (pe_bltn (v := .ty "tuple") (by rfl) T.z_tuple (by first | exact PySem.boot_tuple | decide +kernel) rfl) pa_nil))) pa_nil))) (pe_one (pe_chain op_le op_le (pv 1) (pe_callB call_len_seq (by rfl) T.z_len PySem.boot_len (pa_cons (pv 0) pa_nil)) (pv 2)))))), ?_⟩
    walk_at "lk"
    refine snw (Nat.le_of_ble_eq_true rfl) fun t ht => ?_
    have s1 : Same H (upd H t (.tup [.ty "list", .ty "tuple"])) := same_new ht
    walk_at "lk"
    refine s_isiLT (dp_same s1 hd) upd_same ?_
    walk_at "lk"
    have hd1 := dp_same s1 hd
    have k1 := k _ s1
    generalize upd H t (.tup [.ty "list", .ty "tuple"]) = H1 at hd1 k1 ⊢
    cases d with
    | list ds =>
      refine ite2 (fun _ => ?_) (fun z => absurd rfl z)
      obtain ⟨p, xs, rfl, hx, hds⟩ := dp_listI hd1
      walk_at "lk"
      refine ⟨p, xs, rfl, .inl hx, ?_⟩
      rw [dpa_len hds]
      walk_at "lk"
      have k2 := two_le k1
      refine ite2 (fun e => ?_) (fun e => ?_)
      · rw [if_pos e] at k2
        walk_at "lk"
        exact k2
      · rw [if_neg e] at k2
        exact k2
    | tuple ds =>
      refine ite2 (fun _ => ?_) (fun z => absurd rfl z)
      obtain ⟨p, xs, rfl, hx, hds⟩ := dp_tupI hd1
      walk_at "lk"
      refine ⟨p, xs, rfl, .inr hx, ?_⟩
      rw [dpa_len hds]
      walk_at "lk"
      have k2 := two_le k1
      refine ite2 (fun e => ?_) (fun e => ?_)
      · rw [if_pos e] at k2
        walk_at "lk"
        exact k2
      · rw [if_neg e] at k2
        exact k2
    | _ => exact k1
abbrev s_are_integers : Stmt := top 9
theorem sc_are_integers : FnScope ["items", "item"] ["items"] (defScope s_are_integers) := ⟨rfl, rfl, rfl, by decide +kernel, rfl, by decide +kernel, by decide +kernel⟩
theorem ok_are_integers {f : Addr} {fd : FuncData} (F : Fun K "are_integers" "are_integers" s_are_integers f fd) (T : Txt P w K mg base A) (c_is_integer : Cal P w K mg base 1 "is_integer" ["value"] (spIsInt K)) : FnOk P w K mg base CX0 2 f fd ["items"] (spAreInts K) := by
  refine F.ok sc_are_integers (fun vs H Q E h => ?_) (fun cdv Ar outer s H vs Q E hr h => ?_)
  · obtain ⟨v, ds, rfl, _⟩ := h
    rfl
  · obtain ⟨v, ds, rfl, hd, hl, k⟩ := h
    refine ⟨_, (pss_one (ps_ret (pe_callB (cr_all rfl) (by rfl) T.z_all (by decide +kernel) (pa_cons (pe_lc (own := [("item", 1)]) (g := gName 1) (tt := tYes) rfl sc_are_integers.nd (pi_tup (pv 0)) (blkOk_by (own := [("item", 1)]) (N := ["items", "item"]) (sc := defScope s_are_integers) (by decide +kernel)) (fun _ _ _ _ _ => pg_name (i := 1) sc_are_integers.nd rfl (Or.inl rfl)) (fun _ _ _ _ _ => pts_nil) (fun _ _ _ _ _ => (pcal c_is_integer hr (by decide) (pa_cons (pv 1) pa_nil)))) pa_nil)))), ?_⟩
    obtain ⟨p, xs, rfl, hx, hds⟩ := dp_tupI hd
    walk_at "lk"
    refine tlc_mapT (ys := ds.map fun d => V.bl (isIntD d)) rfl hx (by rw [List.length_map, dpa_len hds]) (by rw [dpa_len hds]; exact hl) (fun _ => rfl) (fun i x y H' hi hy s' R q => ?_) (fun D H' s' hD hDl => ?_)
    · obtain ⟨d, e1, e2⟩ := dpa_at hds hi
      rw [List.getElem?_map, e1] at hy
      cases hy
      walk_at "lk"
      exact ⟨x, d, rfl, dp_same s' e2, q _ (Same.refl _)⟩
    · walk_at "lk"
      exact all_bls hDl (k _ s')
abbrev s_is_form : Stmt := top 11
theorem sc_is_form : FnScope ["value", "size"] ["value", "size"] (defScope s_is_form) := ⟨rfl, rfl, rfl, by decide +kernel, rfl, by decide +kernel, by decide +kernel⟩
theorem ok_is_form {f : Addr} {fd : FuncData} (F : Fun K "is_form" "is_form" s_is_form f fd) (T : Txt P w K mg base A) (c_are_integers : Cal P w K mg base 2 "are_integers" ["items"] (spAreInts K)) : FnOk P w K mg base CX0 3 f fd ["value", "size"] (spForm K) := by
  refine F.ok sc_is_form (fun vs H Q E h => ?_) (fun cdv Ar outer s H vs Q E hr h => ?_)
  · obtain ⟨v, d, n, rfl, _⟩ := h
    rfl
  · obtain ⟨v, d, n, rfl, hd, hn, k⟩ := h
    refine ⟨_, (pss_one (ps_ret (pe_and (pe_callB call_isi (by rfl) T.z_isinstance (by decide +kernel) (pa_cons (pv 0) (pa_cons (pe_bltn (v := .ty "tuple") (by rfl) T.z_tuple (by first | exact PySem.boot_tuple | decide +kernel) rfl) pa_nil))) (pe_and (pe_cmpR op_eq (pe_callB call_len_seq (by rfl) T.z_len PySem.boot_len (pa_cons (pv 0) pa_nil)) (pe_op op_add (pv 1) pe_int) (nomark _)) (pe_one (pcal c_are_integers hr (by decide) (pa_cons (pv 0) pa_nil))))))), ?_⟩
    walk_at "lk"
    refine s_isi hd (ki_tup d) ?_
    walk_at "lk"
    cases d with
    | tuple ds =>
      refine ite2 (fun _ => ?_) (fun z => absurd rfl z)
      obtain ⟨p, xs, rfl, hx, hds⟩ := dp_tupI hd
      walk_at "lk"
      refine ⟨p, xs, rfl, .inr hx, ?_⟩
      rw [dpa_len hds]
      walk_at "lk"
      refine sEq rfl ?_
      walk_at "lk"
      by_cases e : (ds.length : Int) = n + 1
      · rw [if_pos (by rw [e]; exact decide_eq_true rfl)]
        walk_at "lk"
        refine ⟨_, ds, rfl, hd, by omega, fun H' s' => ?_⟩
        have e2 : formD (.tuple ds) n = ds.all isIntD := by simp [formD, e]
        rw [← e2]
        exact k _ s'
      · rw [if_neg (fun z => e (V.int.inj (of_decide_eq_true z)))]
        have e2 : formD (.tuple ds) n = false := by simp [formD, e]
        have e3 : decide (V.int (ds.length : Int) = V.int (n + 1)) = false := decide_eq_false fun z => e (V.int.inj z)
        have k1 := k H (Same.refl H)
        rw [e2] at k1
        exact k1
    | _ => exact k _ (Same.refl H)
abbrev s_lowered : Stmt := top 12
theorem sc_lowered : FnScope ["numbers", "width", "mask", "number"] ["numbers", "width"] (defScope s_lowered) := ⟨rfl, rfl, rfl, by decide +kernel, rfl, by decide +kernel, by decide +kernel⟩
theorem ok_lowered {f : Addr} {fd : FuncData} (F : Fun K "lowered" "lowered" s_lowered f fd) (T : Txt P w K mg base A) : FnOk P w K mg base CX0 1 f fd ["numbers", "width"] (spLow K) := by
  refine F.ok sc_lowered (fun vs H Q E h => ?_) (fun cdv Ar outer s H vs Q E hr h => ?_)
  · obtain ⟨a, xs, k, rfl, _⟩ := h
    rfl
  · obtain ⟨a, xs, k, rfl, hx, hl, hk, q⟩ := h
    refine ⟨_, (pss_cons (ps_set (i := 2) sc_lowered.nd rfl (Or.inr rfl) (pe_op op_sub (pe_op op_oneShl pe_int (pv 1)) pe_int))
        (pss_one (ps_ret (pe_callTy call_tuple_of (by rfl) T.z_tuple (by decide +kernel) (pa_cons (pe_lc (own := [("number", 3)]) (g := gName 3) (tt := tYes) rfl sc_lowered.nd (pi_tup (pv 0)) (blkOk_by (own := [("number", 3)]) (N := ["numbers", "width", "mask", "number"]) (sc := defScope s_lowered) (by decide +kernel)) (fun _ _ _ _ _ => pg_name (i := 3) sc_lowered.nd rfl (Or.inl rfl)) (fun _ _ _ _ _ => pts_nil) (fun _ _ _ _ _ => (pe_op op_andM (pv 3) (pv 2)))) pa_nil))))), ?_⟩
    walk_at "lk"
    refine ⟨k, rfl, rfl, by omega, ?_⟩
    walk_at "lk"
    refine tlc_mapT (ys := xs.map fun x => V.int (x % 2 ^ k)) rfl hx (by rw [List.length_map, List.length_map]) (by rw [List.length_map]; exact hl) (fun _ => rfl) (fun i x y H' hi hy s' R r => ?_) (fun D H' s' hD hDl => ?_)
    · rw [List.getElem?_map] at hi hy
      cases e : xs[i]? with
      | none =>
        rw [e] at hi
        cases hi
      | some z =>
        rw [e] at hi hy
        cases hi
        cases hy
        walk_at "lk"
        exact ⟨z, k, rfl, rfl, r _ (Same.refl _)⟩
    · walk_at "lk"
      refine ⟨D, _, rfl, .inl ⟨SqL.of hDl, fun l hl => q _ _ (s'.trans (same_new hl)) (s'.free hl) upd_same⟩⟩
end
end K41

namespace K41
open PySem PySem.Spec PyProof.Rows L2 RZ Lk
local macro_rules | `(tactic| walk_at "lk") => `(tactic| (repeat (first
  | with_reducible refine ssq ?_ | with_reducible refine sas ?_ | with_reducible refine sgn ?_ | ((with_reducible show tVar _ _ _ _); refine sv rfl ?_) | with_reducible refine sc ?_ | with_reducible refine sop ?_ | with_reducible refine sun ?_
  | with_reducible refine sI0 ?_ | with_reducible refine sU ?_ | with_reducible refine stt ?_ | with_reducible refine stB ?_ | with_reducible refine sbl ?_ | with_reducible refine snt ?_ | with_reducible refine sif ?_ | with_reducible refine scB ?_
  | with_reducible refine scn ?_ | with_reducible refine snl ?_ | with_reducible refine scl ?_ | with_reducible refine stu ?_ | with_reducible refine sli ?_ | with_reducible refine sdr ?_ | with_reducible refine srt ?_ | with_reducible refine snx ?_ | with_reducible refine sfor ?_ | with_reducible refine sils ?_ | with_reducible refine sien ?_ | with_reducible refine sor ?_ | with_reducible refine sfg ?_
  | with_reducible refine sav ?_ | with_reducible refine sov ?_ | with_reducible refine snv ?_ | with_reducible refine sch ?_ | with_reducible refine san ?_ | with_reducible refine ssll ?_ | with_reducible refine spt ?_ | with_reducible refine snp ?_ | with_reducible refine sin ?_ | with_reducible refine sfl ?_ | with_reducible refine sfd ?_ | with_reducible refine sbm ?_ | with_reducible refine sifx ?_ | with_reducible refine smk ?_ | with_reducible refine ssli ?_ | with_reducible refine sbz ?_
  | ((with_reducible show Or _ _); first | refine Or.inl ⟨_, rfl, ?_⟩ | refine Or.inr ⟨_, rfl, ?_⟩))))

theorem ix_eitB {X : Cx} {K : PySem.W.Frag} (h : X.K = K) : IxR X (fun x y H Q => rIxL K x y H Q ∨ rIxT K x y H Q) := by
  subst h
  exact ix_list.or ix_tup
theorem g_quad {K : PySem.W.Frag} {H : Hp} {σ : L2.St} {i j k m : Nat} {x y z t : V} {p : Addr} {R : L2.St → Hp → Prop} (h : SqT K H p [x, y, z, t]) (q : R ((((σ.set i (some x)).set j (some y)).set k (some z)).set m (some t)) H) : gTup K 4 (gCons (gName i) (gCons (gName j) (gCons (gName k) (gCons (gName m) gNil)))) (.ref p) σ H R :=
  ⟨p, [x, y, z, t], rfl, h, rfl, x, [y, z, t], rfl, y, [z, t], rfl, z, [t], rfl, t, [], rfl, rfl, q⟩
theorem sre {K : PySem.W.Frag} {H : Hp} {p : Addr} {xs : List V} {z : Int} {v : V} {Q : VK} (hp : SqE K H p xs) (hz : atI xs z = some v) (q : Q v H) : rIxL K (.ref p) (.int z) H Q ∨ rIxT K (.ref p) (.int z) H Q :=
  hp.elim (fun h => .inl (sfr h hz q)) fun h => .inr (sft h hz q)
def spWrongI (K : PySem.W.Frag) : Sp := fun vs H Q _ => ∃ (a : Addr) (xs : List Int) (n : Int), vs = [.ref a, .int n] ∧ SqE K H a (xs.map V.int) ∧ (xs.length : Int) = n ∧ ∀ H', Same H H' → Q .non H'
def spHead (K : PySem.W.Frag) : Sp := fun vs H Q _ => ∃ (k : Int) (l t a : Addr) (cts : List Int) (us : List V) (rs : List CRow) (st : List Int), vs = [.int k, .ref l, .ref t, .ref a] ∧ 1 ≤ k ∧ k ≤ 64 ∧ SqE K H l (cts.map V.int) ∧ SqE K H t us ∧ F2 (CRowH H) us rs ∧ SqT K H a (st.map V.int) ∧ CodeOk cts rs st ∧ ∀ H', Same H H' → Q .non H'
def spNxs (K : PySem.W.Frag) : Sp := fun vs H Q _ => ∃ (i : Int) (kd : Str) (v : V) (m : Int) (nx : List Int), vs = [.int i, .str kd, v, .int m] ∧ CfH H v nx ∧ nxOk kd nx.length ∧ (∀ j ∈ nx, 0 ≤ j ∧ j < m) ∧ ∀ H', Same H H' → Q .non H'
def spSays (K : PySem.W.Frag) : Sp := fun vs H Q _ => ∃ (i : Int) (v : V) (n : Int) (sy : List (List Int)), vs = [.int i, v, .int n] ∧ CfsH H v sy ∧ n ≤ 900 ∧ (∀ f ∈ sy, (f.length : Int) = n + 1) ∧ ∀ H', Same H H' → Q .non H'
def spForms (K : PySem.W.Frag) : Sp := fun vs H Q _ => ∃ (v : V) (m n : Int) (fs : List (List Int)), vs = [v, .int m, .int n] ∧ CfsH H v fs ∧ (fs.length : Int) = m ∧ m ≤ 900 ∧ n ≤ 900 ∧ (∀ f ∈ fs, (f.length : Int) = n + 1) ∧ ∀ H', Same H H' → Q (.bl true) H'
def spChanges (K : PySem.W.Frag) : Sp := fun vs H Q _ => ∃ (i : Int) (v : V) (l : Addr) (n : Int) (cs : List Int) (ch : List (List (List Int))), vs = [.int i, v, .ref l, .int n] ∧ CcsH H v ch ∧ H l = some (.lst (cs.map V.int)) ∧ ch.length = cs.length ∧ n ≤ 900 ∧ (∀ (m : Nat) (j : Int) (c : List (List Int)), cs[m]? = some j → ch[m]? = some c → (c.length : Int) = j ∧ j ≤ 900) ∧ (∀ c ∈ ch, ∀ f ∈ c, (f.length : Int) = n + 1) ∧ ∀ H', Same H H' → Q .non H'
def spCRow (K : PySem.W.Frag) : Sp := fun vs H Q _ => ∃ (l : Addr) (i : Nat) (v : V) (cts : List Int) (r : CRow), vs = [.ref l, .int (i : Int), v] ∧ SqE K H l (cts.map V.int) ∧ i < cts.length ∧ (∀ j, 0 ≤ cts.getD j 0 ∧ cts.getD j 0 ≤ 64) ∧ CRowH H v r ∧ CRowOk cts i r ∧ ∀ H', Same H H' → Q .non H'
theorem atI_ints {xs : List Int} {z x : Int} (h : xs[z.toNat]? = some x) (hz : 0 ≤ z) : atI (xs.map V.int) z = some (.int x) := by
  have h1 : (xs.map V.int)[z.toNat]? = some (.int x) := by rw [List.getElem?_map, h]; rfl
  have h2 := Lk.atI_nat h1
  rwa [Int.toNat_of_nonneg hz] at h2
theorem getD_at {xs : List Int} {i : Nat} (h : i < xs.length) : xs[i]? = some (xs.getD i 0) := by
  rw [List.getD_eq_getElem?_getD, List.getElem?_eq_getElem h]
  rfl
section
variable {P : Program} {w : World} {K : PySem.W.Frag} {mg : Str → Option Value} {base : Heap} {A : Ad}
abbrev s_wrong_integer : Stmt := top 10
theorem sc_wrong_integer : FnScope ["value", "size", "index", "item"] ["value", "size"] (defScope s_wrong_integer) := ⟨rfl, rfl, rfl, by decide +kernel, rfl, by decide +kernel, by decide +kernel⟩
theorem ok_wrong_integer {f : Addr} {fd : FuncData} (F : Fun K "wrong_integer" "wrong_integer" s_wrong_integer f fd) (T : Txt P w K mg base A) (c_is_sequence : Cal P w K mg base 1 "is_sequence" ["value", "least", "most"] (spSeq K)) (c_is_integer : Cal P w K mg base 1 "is_integer" ["value"] (spIsInt K)) : FnOk P w K mg base CX0 2 f fd ["value", "size"] (spWrongI K) := by
  refine F.ok sc_wrong_integer (fun vs H Q E h => ?_) (fun cdv Ar outer s H vs Q E hr h => ?_)
  · obtain ⟨a, xs, n, rfl, _⟩ := h
    rfl
  · obtain ⟨a, xs, n, rfl, ha, hn, q⟩ := h
    refine ⟨_, (pss_cons (ps_if (pt_not (pt_val (pcal c_is_sequence hr (by decide) (pa_cons (pv 0) (pa_cons (pv 1) (pa_cons (pv 1) pa_nil)))))) (pss_one (ps_ret (pe_un un_neg pe_int))) pss_nil)
        (pss_cons (ps_for PassesOwn.never rfl (pi_enumE (by rfl) T.z_enumerate (pa_cons (pv 0) pa_nil)) (pg_tup rfl (pgs_cons (pg_name (i := 2) sc_wrong_integer.nd rfl (Or.inl rfl)) (pgs_cons (pg_name (i := 3) sc_wrong_integer.nd rfl (Or.inl rfl)) pgs_nil))) (pss_one (ps_if (pt_not (pt_val (pcal c_is_integer hr (by decide) (pa_cons (pv 3) pa_nil)))) (pss_one (ps_ret (pv 2))) pss_nil)))
        (pss_one (ps_ret pe_non)))), ?_⟩
    obtain ⟨d, hd, hs⟩ := sqe_seq ha (dt_ints xs).dp
    walk_at "lk"
    refine ⟨.ref a, d, n, n, rfl, hd, fun H1 s1 => ?_⟩
    rw [hs n n (by rw [List.length_map]; omega) (by rw [List.length_map]; omega)]
    walk_at "lk"
    refine iff_ rfl ?_
    walk_at "lk"
    refine for_enE (xs := xs.map V.int) (fun j σ' H' => (∃ e1 e2, σ' = [some (.ref a), some (.int n), e1, e2]) ∧ Same H1 H') rfl (ha.same s1) ⟨⟨_, _, rfl⟩, Same.refl _⟩ (fun j σ' H' h => h.2) ?_ ?_
    · rintro j v p σ' H' hi ⟨⟨e1, e2, rfl⟩, s2⟩ hp
      have s3 : Same H1 (upd H' p (.tup [.int (j : Nat), v])) := s2.trans (same_new hp)
      refine g_pair (SqT.of upd_same) ?_
      generalize upd H' p (.tup [.int (j : Nat), v]) = H3 at s3 ⊢
      have hlt : j < xs.length := by
        have := (List.getElem?_eq_some_iff.mp hi).1
        rwa [List.length_map] at this
      rw [List.getElem?_map, List.getElem?_eq_getElem hlt] at hi
      cases hi
      have s4 := Same.refl H3
      walk_at "lk"
      refine ⟨.int xs[j], .int xs[j], rfl, .int _, ?_⟩
      walk_at "lk"
      refine iff_ rfl ?_
      exact ⟨⟨_, _, rfl⟩, s3.trans s4⟩
    · rintro σ' H' ⟨⟨e1, e2, rfl⟩, s2⟩
      walk_at "lk"
      exact q _ (s1.trans s2)
abbrev s__check_says : Stmt := top 21
theorem sc__check_says : FnScope ["row", "says", "size", "index", "form"] ["row", "says", "size"] (defScope s__check_says) := ⟨rfl, rfl, rfl, by decide +kernel, rfl, by decide +kernel, by decide +kernel⟩
theorem ok_check_says {f : Addr} {fd : FuncData} (F : Fun K "_check_says" "_check_says" s__check_says f fd) (T : Txt P w K mg base A) (c_is_form : Cal P w K mg base 3 "is_form" ["value", "size"] (spForm K)) : FnOk P w K mg base CX0 4 f fd ["row", "says", "size"] (spSays K) := by
  refine F.ok sc__check_says (fun vs H Q E h => ?_) (fun cdv Ar outer s H vs Q E hr h => ?_)
  · obtain ⟨i, v, n, sy, rfl, _⟩ := h
    rfl
  · obtain ⟨i, v, n, sy, rfl, hv, hn, hf, q⟩ := h
    refine ⟨_, (pss_cons (ps_if (pt_not (pt_val (pe_callB call_isi (by rfl) T.z_isinstance (by decide +kernel) (pa_cons (pv 1) (pa_cons (pe_bltn (v := .ty "tuple") (by rfl) T.z_tuple (by first | exact PySem.boot_tuple | decide +kernel) rfl) pa_nil))))) (pss_one ps_never) pss_nil)
        (pss_one (ps_for PassesOwn.never rfl (pi_enumE (by rfl) T.z_enumerate (pa_cons (pv 1) pa_nil)) (pg_tup rfl (pgs_cons (pg_name (i := 3) sc__check_says.nd rfl (Or.inl rfl)) (pgs_cons (pg_name (i := 4) sc__check_says.nd rfl (Or.inl rfl)) pgs_nil))) (pss_one (ps_if (pt_not (pt_val (pcal c_is_form hr (by decide) (pa_cons (pv 4) (pa_cons (pv 2) pa_nil))))) (pss_one ps_never) pss_nil))))), ?_⟩
    walk_at "lk"
    refine s_isi hv.dt.dp (ki_tup _) ?_
    walk_at "lk"
    refine iff_ rfl ?_
    obtain ⟨a, us, rfl, ha, hus⟩ := hv
    walk_at "lk"
    refine for_enE (xs := us) (fun j σ' H' => (∃ e1 e2, σ' = [some (.int i), some (.ref a), some (.int n), e1, e2]) ∧ Same H H') rfl (.inr (SqT.of ha)) ⟨⟨_, _, rfl⟩, Same.refl _⟩ (fun j σ' H' h => h.2) ?_ ?_
    · rintro j v p σ' H' hi ⟨⟨e1, e2, rfl⟩, s2⟩ hp
      have s3 : Same H (upd H' p (.tup [.int (j : Nat), v])) := s2.trans (same_new hp)
      refine g_pair (SqT.of upd_same) ?_
      generalize upd H' p (.tup [.int (j : Nat), v]) = H3 at s3 ⊢
      obtain ⟨f, hfi, hfv⟩ := hus.at hi
      walk_at "lk"
      refine ⟨v, intsD f, n, rfl, (hfv.ts (Ts.of s3)).dt.dp, hn, fun H4 s4 => ?_⟩
      rw [form_ints (hf f (List.mem_of_getElem? hfi))]
      walk_at "lk"
      refine iff_ rfl ?_
      exact ⟨⟨_, _, rfl⟩, s3.trans s4⟩
    · rintro σ' H' ⟨⟨e1, e2, rfl⟩, s2⟩
      exact q _ s2
abbrev s_are_forms : Stmt := top 23
theorem sc_are_forms : FnScope ["forms", "many", "size", "form"] ["forms", "many", "size"] (defScope s_are_forms) := ⟨rfl, rfl, rfl, by decide +kernel, rfl, by decide +kernel, by decide +kernel⟩
theorem ok_are_forms {f : Addr} {fd : FuncData} (F : Fun K "are_forms" "are_forms" s_are_forms f fd) (T : Txt P w K mg base A) (c_is_form : Cal P w K mg base 3 "is_form" ["value", "size"] (spForm K)) : FnOk P w K mg base CX0 4 f fd ["forms", "many", "size"] (spForms K) := by
  refine F.ok sc_are_forms (fun vs H Q E h => ?_) (fun cdv Ar outer s H vs Q E hr h => ?_)
  · obtain ⟨v, m, n, fs, rfl, _⟩ := h
    rfl
  · obtain ⟨v, m, n, fs, rfl, hv, hm, hm9, hn, hf, q⟩ := h
    refine ⟨_, (pss_one (ps_ret (pe_and (pe_callB call_isi (by rfl) T.z_isinstance (by decide +kernel) (pa_cons (pv 0) (pa_cons (pe_bltn (v := .ty "tuple") (by rfl) T.z_tuple (by first | exact PySem.boot_tuple | decide +kernel) rfl) pa_nil))) (pe_and (pe_cmpR op_eq (pe_callB call_len_seq (by rfl) T.z_len PySem.boot_len (pa_cons (pv 0) pa_nil)) (pv 1) (nomark _)) (pe_one (pe_callB (cr_all rfl) (by rfl) T.z_all (by decide +kernel) (pa_cons (pe_lc (own := [("form", 3)]) (g := gName 3) (tt := tYes) rfl sc_are_forms.nd (pi_tup (pv 0)) (blkOk_by (own := [("form", 3)]) (N := ["forms", "many", "size", "form"]) (sc := defScope s_are_forms) (by decide +kernel)) (fun _ _ _ _ _ => pg_name (i := 3) sc_are_forms.nd rfl (Or.inl rfl)) (fun _ _ _ _ _ => pts_nil) (fun _ _ _ _ _ => (pcal c_is_form hr (by decide) (pa_cons (pv 3) (pa_cons (pv 2) pa_nil))))) pa_nil))))))), ?_⟩
    walk_at "lk"
    refine s_isi hv.dt.dp (ki_tup _) ?_
    walk_at "lk"
    refine itt_ rfl ?_
    obtain ⟨a, us, rfl, ha, hus⟩ := hv
    have hlen := hus.len
    walk_at "lk"
    refine ⟨a, us, rfl, .inr (SqT.of ha), ?_⟩
    walk_at "lk"
    refine sEq rfl ?_
    walk_at "lk"
    refine itt_ (decide_eq_true (by rw [hlen, hm])) ?_
    walk_at "lk"
    refine tlc_mapT (ys := (fs.map intsD).map fun d => V.bl ((fun _ => true) d)) rfl (SqT.of ha) (by rw [List.length_map, List.length_map, hlen]) (by omega) (fun _ => rfl) (fun i x y H' hi hy s' R q => ?_) (fun D H' s' hD hDl => ?_)
    · obtain ⟨f, hfi, hfv⟩ := hus.at hi
      rw [List.getElem?_map, List.getElem?_map, hfi] at hy
      cases hy
      walk_at "lk"
      refine ⟨x, intsD f, n, rfl, (hfv.ts (Ts.of s')).dt.dp, hn, fun H4 s4 => ?_⟩
      rw [form_ints (hf f (List.mem_of_getElem? hfi))]
      exact q _ s4
    · walk_at "lk"
      have e2 : (fs.map intsD).all (fun _ => true) = true := by simp
      have q1 := q _ s'
      rw [← e2] at q1
      exact all_bls hDl q1
abbrev s__check_nexts : Stmt := top 20
theorem sc__check_nexts : FnScope ["row", "kind", "nexts", "many", "least", "most", "index", "following"] ["row", "kind", "nexts", "many"] (defScope s__check_nexts) := ⟨rfl, rfl, rfl, by decide +kernel, rfl, by decide +kernel, by decide +kernel⟩
theorem ok_check_nexts {f : Addr} {fd : FuncData} (F : Fun K "_check_nexts" "_check_nexts" s__check_nexts f fd) (T : Txt P w K mg base A) (c_is_within : Cal P w K mg base 2 "is_within" ["value", "least", "most"] (spWithin K)) : FnOk P w K mg base CX0 4 f fd ["row", "kind", "nexts", "many"] (spNxs K) := by
  refine F.ok sc__check_nexts (fun vs H Q E h => ?_) (fun cdv Ar outer s H vs Q E hr h => ?_)
  · obtain ⟨i, kd, v, m, nx, rfl, _⟩ := h
    rfl
  · obtain ⟨i, kd, v, m, nx, rfl, hv, hk, hj, q⟩ := h
    refine ⟨_, (pss_cons (ps_asg (pe_ix ix_kdict (pe_glob (v := .ref A.NEXTS) (by rfl) T.g_NEXTS rfl) (pv 1) (fun _ _ => rfl)) (pg_tup rfl (pgs_cons (pg_name (i := 4) sc__check_nexts.nd rfl (Or.inl rfl)) (pgs_cons (pg_name (i := 5) sc__check_nexts.nd rfl (Or.inl rfl)) pgs_nil))))
        (pss_cons (ps_if (PW.pt (pw_or (pt_not (pt_val (pe_callB call_isi (by rfl) T.z_isinstance (by decide +kernel) (pa_cons (pv 2) (pa_cons (pe_bltn (v := .ty "tuple") (by rfl) T.z_tuple (by first | exact PySem.boot_tuple | decide +kernel) rfl) pa_nil))))) (pw_or1 (pt_not (pt_chain op_le op_le (pv 4) (pe_callB call_len_seq (by rfl) T.z_len PySem.boot_len (pa_cons (pv 2) pa_nil)) (pv 5)))))) (pss_one ps_never) pss_nil)
        (pss_one (ps_for PassesOwn.never rfl (pi_enumE (by rfl) T.z_enumerate (pa_cons (pv 2) pa_nil)) (pg_tup rfl (pgs_cons (pg_name (i := 6) sc__check_nexts.nd rfl (Or.inl rfl)) (pgs_cons (pg_name (i := 7) sc__check_nexts.nd rfl (Or.inl rfl)) pgs_nil))) (pss_one (ps_if (pt_not (pt_val (pcal c_is_within hr (by decide) (pa_cons (pv 7) (pa_cons pe_int (pa_cons (pe_op op_sub (pv 3) pe_int) pa_nil)))))) (pss_one ps_never) pss_nil)))))), ?_⟩
    obtain ⟨lo, hi, e, l1, l2⟩ := hk.lim
    obtain ⟨es, nn, KD⟩ := T.x_NEXTS
    obtain ⟨p, hp, hpt⟩ := T.v_NEXTS _ _ _ e
    walk_at "lk"
    refine ⟨A.NEXTS, kd, .ref p, rfl, rfl, ⟨es, nn, _, KD.at_, KD.lit, hp, rfl⟩, ?_⟩
    refine g_pair (hpt H) ?_
    walk_at "lk"
    refine s_isi hv.dt.dp (ki_tup _) ?_
    walk_at "lk"
    refine iff_ rfl ?_
    obtain ⟨a, rfl, ha⟩ := hv
    walk_at "lk"
    refine ⟨a, nx.map V.int, rfl, .inr (SqT.of ha), ?_⟩
    rw [List.length_map]
    walk_at "lk"
    refine itt_ (decide_eq_true l1) ?_
    walk_at "lk"
    refine iff_ (by rw [decide_eq_true l2]; rfl) ?_
    walk_at "lk"
    refine for_enE (xs := nx.map V.int) (fun j σ' H' => (∃ e1 e2, σ' = [some (.int i), some (.str kd), some (.ref a), some (.int m), some (.int lo), some (.int hi), e1, e2]) ∧ Same H H') rfl (.inr (SqT.of ha)) ⟨⟨_, _, rfl⟩, Same.refl _⟩ (fun j σ' H' h => h.2) ?_ ?_
    · rintro j v p σ' H' hi ⟨⟨e1, e2, rfl⟩, s2⟩ hp
      have s3 : Same H (upd H' p (.tup [.int (j : Nat), v])) := s2.trans (same_new hp)
      refine g_pair (SqT.of upd_same) ?_
      generalize upd H' p (.tup [.int (j : Nat), v]) = H3 at s3 ⊢
      have hlt : j < nx.length := by
        have := (List.getElem?_eq_some_iff.mp hi).1
        rwa [List.length_map] at this
      rw [List.getElem?_map, List.getElem?_eq_getElem hlt] at hi
      cases hi
      have s4 := Same.refl H3
      obtain ⟨j0, j1⟩ := hj _ (List.getElem_mem hlt)
      walk_at "lk"
      refine ⟨.int nx[j], .int nx[j], 0, m - 1, rfl, .int _, ?_⟩
      rw [show withinD (.int nx[j]) 0 (m - 1) = true from by
        show (decide (0 ≤ nx[j]) && decide (nx[j] ≤ m - 1)) = true
        rw [decide_eq_true j0, decide_eq_true (by omega)]
        rfl]
      walk_at "lk"
      refine iff_ rfl ?_
      exact ⟨⟨_, _, rfl⟩, s3.trans s4⟩
    · rintro σ' H' ⟨⟨e1, e2, rfl⟩, s2⟩
      exact q _ s2
abbrev s__check_changes : Stmt := top 22
theorem sc__check_changes : FnScope ["row", "changes", "counts", "size", "index", "forms"] ["row", "changes", "counts", "size"] (defScope s__check_changes) := ⟨rfl, rfl, rfl, by decide +kernel, rfl, by decide +kernel, by decide +kernel⟩
theorem ok_check_changes {f : Addr} {fd : FuncData} (F : Fun K "_check_changes" "_check_changes" s__check_changes f fd) (T : Txt P w K mg base A) (c_are_forms : Cal P w K mg base 4 "are_forms" ["forms", "many", "size"] (spForms K)) : FnOk P w K mg base CX0 5 f fd ["row", "changes", "counts", "size"] (spChanges K) := by
  refine F.ok sc__check_changes (fun vs H Q E h => ?_) (fun cdv Ar outer s H vs Q E hr h => ?_)
  · obtain ⟨i, v, l, n, cs, ch, rfl, _⟩ := h
    rfl
  · obtain ⟨i, v, l, n, cs, ch, rfl, hv, hl, hlen, hn, hc, hf, q⟩ := h
    refine ⟨_, (pss_cons (ps_if (PW.pt (pw_or (pt_not (pt_val (pe_callB call_isi (by rfl) T.z_isinstance (by decide +kernel) (pa_cons (pv 1) (pa_cons (pe_bltn (v := .ty "tuple") (by rfl) T.z_tuple (by first | exact PySem.boot_tuple | decide +kernel) rfl) pa_nil))))) (pw_or1 (pt_cmpR op_ne (pe_callB call_len_seq (by rfl) T.z_len PySem.boot_len (pa_cons (pv 1) pa_nil)) (pe_callB call_len_seq (by rfl) T.z_len PySem.boot_len (pa_cons (pv 2) pa_nil)) (nomark _))))) (pss_one ps_never) pss_nil)
        (pss_one (ps_for PassesOwn.never rfl (pi_enumE (by rfl) T.z_enumerate (pa_cons (pv 1) pa_nil)) (pg_tup rfl (pgs_cons (pg_name (i := 4) sc__check_changes.nd rfl (Or.inl rfl)) (pgs_cons (pg_name (i := 5) sc__check_changes.nd rfl (Or.inl rfl)) pgs_nil))) (pss_one (ps_if (pt_not (pt_val (pcal c_are_forms hr (by decide) (pa_cons (pv 5) (pa_cons (pe_ix ix_list (pv 2) (pv 4) (fun _ _ => rfl)) (pa_cons (pv 3) pa_nil)))))) (pss_one ps_never) pss_nil))))), ?_⟩
    walk_at "lk"
    refine s_isi hv.dt.dp (ki_tup _) ?_
    walk_at "lk"
    refine iff_ rfl ?_
    obtain ⟨a, us, rfl, ha, hus⟩ := hv
    have hul := hus.len
    walk_at "lk"
    refine ⟨a, us, rfl, .inr (SqT.of ha), ?_⟩
    walk_at "lk"
    refine ⟨l, cs.map V.int, rfl, .inl (SqL.of hl), ?_⟩
    refine sNe rfl ?_
    walk_at "lk"
    refine iff_ (by rw [List.length_map, hul, hlen]; simp) ?_
    walk_at "lk"
    refine for_enE (xs := us) (fun j σ' H' => (∃ e1 e2, σ' = [some (.int i), some (.ref a), some (.ref l), some (.int n), e1, e2]) ∧ Same H H') rfl (.inr (SqT.of ha)) ⟨⟨_, _, rfl⟩, Same.refl _⟩ (fun j σ' H' h => h.2) ?_ ?_
    · rintro j v p σ' H' hi ⟨⟨e1, e2, rfl⟩, s2⟩ hp
      have s3 : Same H (upd H' p (.tup [.int (j : Nat), v])) := s2.trans (same_new hp)
      refine g_pair (SqT.of upd_same) ?_
      generalize upd H' p (.tup [.int (j : Nat), v]) = H3 at s3 ⊢
      obtain ⟨c, hci, hcv⟩ := hus.at hi
      have hlt : j < cs.length := by
        have := (List.getElem?_eq_some_iff.mp hci).1
        omega
      have hcj : cs[j]? = some cs[j] := List.getElem?_eq_getElem hlt
      obtain ⟨e3, e4⟩ := hc _ _ _ hcj hci
      walk_at "lk"
      refine sfr (SqL.of (s3 _ _ hl)) (atI_ints (z := (j : Int)) (x := cs[j]) (by simpa using hcj) (by omega)) ?_
      walk_at "lk"
      refine ⟨v, cs[j], n, c, rfl, hcv.ts (Ts.of s3), e3, e4, hn, hf c (List.mem_of_getElem? hci), fun H4 s4 => ?_⟩
      walk_at "lk"
      refine iff_ rfl ?_
      exact ⟨⟨_, _, rfl⟩, s3.trans s4⟩
    · rintro σ' H' ⟨⟨e1, e2, rfl⟩, s2⟩
      exact q _ s2
abbrev s__check_row : Stmt := top 19
theorem sc__check_row : FnScope ["counts", "row", "item", "kind", "nexts", "says", "changes", "size", "following"] ["counts", "row", "item"] (defScope s__check_row) := ⟨rfl, rfl, rfl, by decide +kernel, rfl, by decide +kernel, by decide +kernel⟩
theorem ok_check_row {f : Addr} {fd : FuncData} (F : Fun K "_check_row" "_check_row" s__check_row f fd) (T : Txt P w K mg base A) (c__check_nexts : Cal P w K mg base 4 "_check_nexts" ["row", "kind", "nexts", "many"] (spNxs K)) (c__check_says : Cal P w K mg base 4 "_check_says" ["row", "says", "size"] (spSays K)) (c__check_changes : Cal P w K mg base 5 "_check_changes" ["row", "changes", "counts", "size"] (spChanges K)) : FnOk P w K mg base CX0 6 f fd ["counts", "row", "item"] (spCRow K) := by
  refine F.ok sc__check_row (fun vs H Q E h => ?_) (fun cdv Ar outer s H vs Q E hr h => ?_)
  · obtain ⟨l, i, v, cts, r, rfl, _⟩ := h
    rfl
  · obtain ⟨l, i, v, cts, r, rfl, hl, hi, hc, hv, hok, q⟩ := h
    have h := T.x_NEXTS
    obtain ⟨es, nn, KD⟩ := h
    refine ⟨_, (pss_cons (ps_if (PW.pt (pw_or (pt_not (pt_val (pe_callB call_isi (by rfl) T.z_isinstance (by decide +kernel) (pa_cons (pv 2) (pa_cons (pe_bltn (v := .ty "tuple") (by rfl) T.z_tuple (by first | exact PySem.boot_tuple | decide +kernel) rfl) pa_nil))))) (pw_or1 (pt_cmpR op_ne (pe_callB call_len_seq (by rfl) T.z_len PySem.boot_len (pa_cons (pv 2) pa_nil)) pe_int (nomark _))))) (pss_one ps_never) pss_nil)
        (pss_cons (ps_asg (pv 2) (pg_tup rfl (pgs_cons (pg_name (i := 3) sc__check_row.nd rfl (Or.inl rfl)) (pgs_cons (pg_name (i := 4) sc__check_row.nd rfl (Or.inl rfl)) (pgs_cons (pg_name (i := 5) sc__check_row.nd rfl (Or.inl rfl)) (pgs_cons (pg_name (i := 6) sc__check_row.nd rfl (Or.inl rfl)) pgs_nil))))))
        (pss_cons (ps_if (PW.pt (pw_or (pt_not (pt_val (pe_callB call_isi (by rfl) T.z_isinstance (by decide +kernel) (pa_cons (pv 3) (pa_cons (pe_bltn (v := .ty "str") (by rfl) T.z_str (by first | exact PySem.boot_str | decide +kernel) rfl) pa_nil))))) (pw_or1 (pt_cmpR (op_notIn_kd KD) (pv 3) (pe_glob (v := .ref A.NEXTS) (by rfl) T.g_NEXTS rfl) (by rfl))))) (pss_one ps_never) pss_nil)
        (pss_cons (ps_expr (pcal c__check_nexts hr (by decide) (pa_cons (pv 1) (pa_cons (pv 3) (pa_cons (pv 4) (pa_cons (pe_callB call_len_seq (by rfl) T.z_len PySem.boot_len (pa_cons (pv 0) pa_nil)) pa_nil))))))
        (pss_cons (ps_expr (pcal c__check_says hr (by decide) (pa_cons (pv 1) (pa_cons (pv 5) (pa_cons (pe_ix (ix_list.or ix_tup) (pv 0) (pv 1) (fun _ _ => rfl)) pa_nil)))))
        (pss_cons (ps_set (i := 7) sc__check_row.nd rfl (Or.inl rfl) (pe_ifExp (pt_cmpR op_eq (pv 3) pe_str (nomark _)) (pe_op op_add (pe_ix (ix_list.or ix_tup) (pv 0) (pv 1) (fun _ _ => rfl)) pe_int) (pe_ix (ix_list.or ix_tup) (pv 0) (pv 1) (fun _ _ => rfl))))
        (pss_one (ps_expr (pcal c__check_changes hr (by decide) (pa_cons (pv 1) (pa_cons (pv 6) (pa_cons (pe_lc (own := [("following", 8)]) (g := gName 8) (tt := tYes) rfl sc__check_row.nd (pi_tup (pv 4)) (blkOk_by (own := [("following", 8)]) (N := ["counts", "row", "item", "kind", "nexts", "says", "changes", "size", "following"]) (sc := defScope s__check_row) (by decide +kernel)) (fun _ _ _ _ _ => pg_name (i := 8) sc__check_row.nd rfl (Or.inl rfl)) (fun _ _ _ _ _ => pts_nil) (fun _ _ _ _ _ => (pe_ix (ix_eitB (K := K) (by rfl)) (pv 0) (pv 8) (fun _ _ => rfl)))) (pa_cons (pv 7) pa_nil))))))))))))), ?_⟩
    obtain ⟨lo, hi2, e, l1, l2⟩ := hok.nxl.lim
    obtain ⟨pn, hpn, hpt⟩ := T.v_NEXTS _ _ _ e
    have hvd := hv.dt.dp (K := K)
    walk_at "lk"
    refine s_isi hvd (ki_tup _) ?_
    walk_at "lk"
    refine iff_ rfl ?_
    obtain ⟨a, b, c, d, rfl, h1, h2, h3, h4⟩ := hv
    walk_at "lk"
    refine ⟨a, [.str r.kd, b, c, d], rfl, .inr (SqT.of h1), ?_⟩
    walk_at "lk"
    refine sNe rfl ?_
    walk_at "lk"
    refine iff_ rfl ?_
    walk_at "lk"
    refine g_quad (SqT.of h1) ?_
    walk_at "lk"
    refine s_isi (d := .str r.kd) (.str _) (ki_str _) ?_
    walk_at "lk"
    refine iff_ rfl ?_
    walk_at "lk"
    refine ⟨r.kd, _, rfl, rfl, hpn, ?_⟩
    walk_at "lk"
    refine iff_ rfl ?_
    walk_at "lk"
    refine ⟨l, cts.map V.int, rfl, hl, ?_⟩
    rw [List.length_map]
    walk_at "lk"
    refine ⟨(i : Int), r.kd, b, (cts.length : Int), r.nx, rfl, h2, hok.nxl, hok.nxi, fun H1 s1 => ?_⟩
    walk_at "lk"
    have hci : cts[((i : Nat) : Int).toNat]? = some (cts.getD i 0) := by simpa using getD_at hi
    refine sre (hl.same s1) (atI_ints hci (by omega)) ?_
    walk_at "lk"
    obtain ⟨c0, c1⟩ := hc i
    refine ⟨(i : Int), c, cts.getD i 0, r.sy, rfl, h3.ts (Ts.of s1), by omega, hok.syf, fun H2 s2 => ?_⟩
    have s12 := s1.trans s2
    walk_at "lk"
    refine sEq rfl ?_
    walk_at "lk"
    obtain ⟨b', rfl, hb⟩ := h2
    by_cases e9 : r.kd = ("ask" : Str)
    · have ea : askN r.kd = 1 := if_pos e9
      refine itt_ (decide_eq_true (by rw [e9])) ?_
      walk_at "lk"
      refine sre (hl.same s12) (atI_ints hci (by omega)) ?_
      walk_at "lk"
      refine tlc_mapT (ys := (r.nx.map fun j => cts.getD j.toNat 0).map V.int) rfl (SqT.of (s12 _ _ hb)) (by simp) (by rw [List.length_map]; have := hok.nxl.le; omega) (fun _ => rfl) (fun n x y H' hi3 hy s' R q3 => ?_) (fun D H' s' hD hDl => ?_)
      · have hlt : n < r.nx.length := by
          have := (List.getElem?_eq_some_iff.mp hi3).1
          rwa [List.length_map] at this
        rw [List.getElem?_map, List.getElem?_eq_getElem hlt] at hi3
        cases hi3
        rw [List.getElem?_map, List.getElem?_map, List.getElem?_eq_getElem hlt] at hy
        cases hy
        obtain ⟨j0, j1⟩ := hok.nxi _ (List.getElem_mem hlt)
        walk_at "lk"
        exact sre ((hl.same s12).same s') (atI_ints (getD_at (by omega)) j0) (q3 _ (Same.refl _))
      · walk_at "lk"
        have s3 := s12.trans s'
        refine ⟨(i : Int), d, D, cts.getD i 0 + 1, r.nx.map fun j => cts.getD j.toNat 0, r.ch, rfl, h4.ts (Ts.of s3), hDl, by rw [List.length_map]; exact hok.chl, by omega, ?_, ?_, fun H4 s4 => q _ (s3.trans s4)⟩
        · intro m j c hj hc2
          rw [List.getElem?_map] at hj
          cases e5 : r.nx[m]? with
          | none => rw [e5] at hj; cases hj
          | some z =>
            rw [e5] at hj
            cases hj
            exact ⟨hok.chn m z c e5 hc2, by
              show cts.getD z.toNat 0 ≤ 900
              have := (hc z.toNat).2
              omega⟩
        · intro c hc2 f hf
          have := hok.chf c hc2 f hf
          rw [ea] at this
          omega
    · have ea : askN r.kd = 0 := if_neg e9
      refine iff_ (decide_eq_false fun z => e9 (V.str.inj z)) ?_
      walk_at "lk"
      refine sre (hl.same s12) (atI_ints hci (by omega)) ?_
      walk_at "lk"
      refine tlc_mapT (ys := (r.nx.map fun j => cts.getD j.toNat 0).map V.int) rfl (SqT.of (s12 _ _ hb)) (by simp) (by rw [List.length_map]; have := hok.nxl.le; omega) (fun _ => rfl) (fun n x y H' hi3 hy s' R q3 => ?_) (fun D H' s' hD hDl => ?_)
      · have hlt : n < r.nx.length := by
          have := (List.getElem?_eq_some_iff.mp hi3).1
          rwa [List.length_map] at this
        rw [List.getElem?_map, List.getElem?_eq_getElem hlt] at hi3
        cases hi3
        rw [List.getElem?_map, List.getElem?_map, List.getElem?_eq_getElem hlt] at hy
        cases hy
        obtain ⟨j0, j1⟩ := hok.nxi _ (List.getElem_mem hlt)
        walk_at "lk"
        exact sre ((hl.same s12).same s') (atI_ints (getD_at (by omega)) j0) (q3 _ (Same.refl _))
      · walk_at "lk"
        have s3 := s12.trans s'
        refine ⟨(i : Int), d, D, cts.getD i 0, r.nx.map fun j => cts.getD j.toNat 0, r.ch, rfl, h4.ts (Ts.of s3), hDl, by rw [List.length_map]; exact hok.chl, by omega, ?_, ?_, fun H4 s4 => q _ (s3.trans s4)⟩
        · intro m j c hj hc2
          rw [List.getElem?_map] at hj
          cases e5 : r.nx[m]? with
          | none => rw [e5] at hj; cases hj
          | some z =>
            rw [e5] at hj
            cases hj
            exact ⟨hok.chn m z c e5 hc2, by
              show cts.getD z.toNat 0 ≤ 900
              have := (hc z.toNat).2
              omega⟩
        · intro c hc2 f hf
          have := hok.chf c hc2 f hf
          rw [ea] at this
          omega
abbrev s__check_head : Stmt := top 18
theorem sc__check_head : FnScope ["width", "counts", "rows", "start", "index", "many"] ["width", "counts", "rows", "start"] (defScope s__check_head) := ⟨rfl, rfl, rfl, by decide +kernel, rfl, by decide +kernel, by decide +kernel⟩
theorem ok_check_head {f : Addr} {fd : FuncData} (F : Fun K "_check_head" "_check_head" s__check_head f fd) (T : Txt P w K mg base A) (c_is_width : Cal P w K mg base 3 "is_width" ["value"] (spWidth K)) (c_is_sequence : Cal P w K mg base 1 "is_sequence" ["value", "least", "most"] (spSeq K)) (c_is_within : Cal P w K mg base 2 "is_within" ["value", "least", "most"] (spWithin K)) (c_wrong_integer : Cal P w K mg base 2 "wrong_integer" ["value", "size"] (spWrongI K)) : FnOk P w K mg base CX0 4 f fd ["width", "counts", "rows", "start"] (spHead K) := by
  refine F.ok sc__check_head (fun vs H Q E h => ?_) (fun cdv Ar outer s H vs Q E hr h => ?_)
  · obtain ⟨k, l, t, a, cts, us, rs, st, rfl, _⟩ := h
    rfl
  · obtain ⟨k, l, t, a, cts, us, rs, st, rfl, k1, k2, hl, ht, hr0, ha, hok, q⟩ := h
    refine ⟨_, (pss_cons (ps_if (pt_not (pt_val (pcal c_is_width hr (by decide) (pa_cons (pv 0) pa_nil)))) (pss_one ps_never) pss_nil)
        (pss_cons (ps_if (pt_not (pt_val (pcal c_is_sequence hr (by decide) (pa_cons (pv 2) (pa_cons pe_int (pa_cons (pe_gint (by rfl) T.g_MOST_ROWS) pa_nil)))))) (pss_one ps_never) pss_nil)
        (pss_cons (ps_if (pt_not (pt_val (pcal c_is_sequence hr (by decide) (pa_cons (pv 1) (pa_cons (pe_callB call_len_seq (by rfl) T.z_len PySem.boot_len (pa_cons (pv 2) pa_nil)) (pa_cons (pe_callB call_len_seq (by rfl) T.z_len PySem.boot_len (pa_cons (pv 2) pa_nil)) pa_nil)))))) (pss_one ps_never) pss_nil)
        (pss_cons (ps_for PassesOwn.never rfl (pi_enumE (by rfl) T.z_enumerate (pa_cons (pv 1) pa_nil)) (pg_tup rfl (pgs_cons (pg_name (i := 4) sc__check_head.nd rfl (Or.inl rfl)) (pgs_cons (pg_name (i := 5) sc__check_head.nd rfl (Or.inl rfl)) pgs_nil))) (pss_one (ps_if (pt_not (pt_val (pcal c_is_within hr (by decide) (pa_cons (pv 5) (pa_cons pe_int (pa_cons (pe_gint (by rfl) T.g_MOST_REGISTERS) pa_nil)))))) (pss_one ps_never) pss_nil)))
        (pss_one (ps_if (PW.pt (pw_or (pt_not (pt_val (pe_callB call_isi (by rfl) T.z_isinstance (by decide +kernel) (pa_cons (pv 3) (pa_cons (pe_bltn (v := .ty "tuple") (by rfl) T.z_tuple (by first | exact PySem.boot_tuple | decide +kernel) rfl) pa_nil))))) (pw_or1 (pt_cmpR op_notN (pcal c_wrong_integer hr (by decide) (pa_cons (pv 3) (pa_cons (pe_ix (ix_list.or ix_tup) (pv 1) pe_int (fun _ _ => rfl)) pa_nil))) pe_non (nomark _))))) (pss_one ps_never) pss_nil)))))), ?_⟩
    have hlen := hr0.len
    have l1 := hok.l1
    have l2 := hok.l2
    have cl := hok.cl
    obtain ⟨d, hd, hs⟩ := sqe_seq ht (crows_dt hr0).dp
    obtain ⟨d2, hd2, hs2⟩ := sqe_seq hl (dt_ints cts).dp
    walk_at "lk"
    refine ⟨.int k, .int k, rfl, .int k, ?_⟩
    rw [show withinD (.int k) 1 64 = true from by
      show (decide (1 ≤ k) && decide (k ≤ 64)) = true
      rw [decide_eq_true k1, decide_eq_true k2]
      rfl]
    walk_at "lk"
    refine iff_ rfl ?_
    walk_at "lk"
    refine ⟨.ref t, d, 1, 200, rfl, hd, fun H1 s1 => ?_⟩
    rw [hs 1 200 (by rw [List.length_map]; omega) (by rw [List.length_map]; omega)]
    walk_at "lk"
    refine iff_ rfl ?_
    walk_at "lk"
    refine ⟨t, us, rfl, ht.same s1, ?_⟩
    walk_at "lk"
    refine ⟨t, us, rfl, ht.same s1, ?_⟩
    walk_at "lk"
    refine ⟨.ref l, d2, us.length, us.length, rfl, dp_same s1 hd2, fun H2 s2 => ?_⟩
    have s12 := s1.trans s2
    rw [hs2 us.length us.length (by rw [List.length_map]; omega) (by rw [List.length_map]; omega)]
    walk_at "lk"
    refine iff_ rfl ?_
    walk_at "lk"
    refine for_enE (xs := cts.map V.int) (fun j σ' H' => (∃ e1 e2, σ' = [some (.int k), some (.ref l), some (.ref t), some (.ref a), e1, e2]) ∧ Same H2 H') rfl (hl.same s12) ⟨⟨_, _, rfl⟩, Same.refl _⟩ (fun j σ' H' h => h.2) ?_ ?_
    · rintro j v p σ' H' hi ⟨⟨e1, e2, rfl⟩, s2⟩ hp
      have s3 : Same H2 (upd H' p (.tup [.int (j : Nat), v])) := s2.trans (same_new hp)
      refine g_pair (SqT.of upd_same) ?_
      generalize upd H' p (.tup [.int (j : Nat), v]) = H3 at s3 ⊢
      have hlt : j < cts.length := by
        have := (List.getElem?_eq_some_iff.mp hi).1
        rwa [List.length_map] at this
      rw [List.getElem?_map, List.getElem?_eq_getElem hlt] at hi
      cases hi
      have s4 := Same.refl H3
      obtain ⟨j0, j1⟩ := hok.c0 _ (List.getElem_mem hlt)
      walk_at "lk"
      refine ⟨.int cts[j], .int cts[j], 0, 64, rfl, .int _, ?_⟩
      rw [show withinD (.int cts[j]) 0 64 = true from by
        show (decide (0 ≤ cts[j]) && decide (cts[j] ≤ 64)) = true
        rw [decide_eq_true j0, decide_eq_true j1]
        rfl]
      walk_at "lk"
      refine iff_ rfl ?_
      exact ⟨⟨_, _, rfl⟩, s3.trans s4⟩
    · rintro σ' H' ⟨⟨e1, e2, rfl⟩, s2⟩
      have s3 := s12.trans s2
      have had := Dp.tup ha (dt_ints st).dp
      walk_at "lk"
      refine s_isi (dp_same s3 had) (ki_tup _) ?_
      walk_at "lk"
      refine iff_ rfl ?_
      walk_at "lk"
      refine sre (hl.same s3) (atI_ints (z := 0) (x := cts.getD 0 0) (getD_at (by omega)) (by omega)) ?_
      walk_at "lk"
      refine ⟨a, st, cts.getD 0 0, rfl, .inr (same_sqT s3 ha), hok.sl, fun H4 s4 => ?_⟩
      walk_at "lk"
      refine ⟨rfl, ?_⟩
      walk_at "lk"
      refine iff_ rfl ?_
      exact q _ (s3.trans s4)
end
end K41

namespace K41
open PySem PySem.Spec PyProof.Rows L2 RZ Lk
local macro_rules | `(tactic| walk_at "lk") => `(tactic| (repeat (first
  | with_reducible refine ssq ?_ | with_reducible refine sas ?_ | with_reducible refine sgn ?_ | ((with_reducible show tVar _ _ _ _); refine sv rfl ?_) | with_reducible refine sc ?_ | with_reducible refine sop ?_ | with_reducible refine sun ?_
  | with_reducible refine sI0 ?_ | with_reducible refine sU ?_ | with_reducible refine stt ?_ | with_reducible refine stB ?_ | with_reducible refine sbl ?_ | with_reducible refine snt ?_ | with_reducible refine sif ?_ | with_reducible refine scB ?_
  | with_reducible refine scn ?_ | with_reducible refine snl ?_ | with_reducible refine scl ?_ | with_reducible refine stu ?_ | with_reducible refine sli ?_ | with_reducible refine sdr ?_ | with_reducible refine srt ?_ | with_reducible refine snx ?_ | with_reducible refine sfor ?_ | with_reducible refine sils ?_ | with_reducible refine sien ?_ | with_reducible refine sor ?_ | with_reducible refine sfg ?_
  | with_reducible refine sav ?_ | with_reducible refine sov ?_ | with_reducible refine snv ?_ | with_reducible refine sch ?_ | with_reducible refine san ?_ | with_reducible refine ssll ?_ | with_reducible refine spt ?_ | with_reducible refine snp ?_ | with_reducible refine sin ?_ | with_reducible refine sfl ?_ | with_reducible refine sfd ?_ | with_reducible refine sbm ?_ | with_reducible refine sifx ?_ | with_reducible refine smk ?_ | with_reducible refine ssli ?_ | with_reducible refine sbz ?_
  | ((with_reducible show Or _ _); first | refine Or.inl ⟨_, rfl, ?_⟩ | refine Or.inr ⟨_, rfl, ?_⟩))))

theorem tlc_F2T {K : PySem.W.Frag} {H : Hp} {σ : L2.St} {a : Addr} {xs : List V} {α β : Type} {as : List α} {j k : Nat} {te : TE} {vs : List Nat} {Q : VK} (Rin : Hp → V → α → Prop) (Rout : Hp → V → β → Prop) (f : α → β)
    (iS : ∀ {H H' v x}, Same H H' → Rin H v x → Rin H' v x) (oS : ∀ {H H' v x}, Ts H H' → Rout H v x → Rout H' v x) (hj : σ[j]? = some (some (.ref a))) (hx : SqT K H a xs) (hr : F2 (Rin H) xs as) (h3 : xs.length ≤ 1000)
    (hw : ∀ x, wipe ((wipe σ vs).set k (some x)) vs = wipe σ vs)
    (he : ∀ (i : Nat) (x : V) (r : α) (H' : Hp), as[i]? = some r → Rin H' x r → Same H H' → ∀ R : VK, (∀ u H'', Same H' H'' → Rout H'' u (f r) → R u H'') → te ((wipe σ vs).set k (some x)) H' R)
    (q : ∀ D ys H', Same H H' → H D = none → H' D = some (.lst ys) → F2 (Rout H') ys (as.map f) → Q (.ref D) H') : tLc (iTup K (tVar j)) (gName k) tYes te vs σ H Q :=
  ⟨_, hj, a, rfl, ⟨xs, hx⟩, fun D hD => tlc_core (J := Itt K a) (D := D) Rin Rout f iS oS hr h3 hD hw he (fun Pv p0 pS ht hd => lc_tup Pv p0 (fun i H' _ h => same_sqT (pS i H' h) hx) ht hd) fun ys H' s e h => q D ys H' s hD e h⟩
/-- not too long -/
structure CRowSz (r : CRow) : Prop where
  s1 : r.sy.length ≤ 1000
  s2 : ∀ f ∈ r.sy, f.length ≤ 1000
  s3 : r.ch.length ≤ 1000
  s4 : ∀ c ∈ r.ch, c.length ≤ 1000
  s5 : ∀ c ∈ r.ch, ∀ f ∈ c, f.length ≤ 1000
def spLowRow (K : PySem.W.Frag) : Sp := fun vs H Q _ => ∃ (v : V) (k : Nat) (r : CRow), vs = [v, .int (k : Int)] ∧ k ≤ 64 ∧ CRowH H v r ∧ CRowSz r ∧ ∀ u H', Same H H' → CRowH H' u (r.low k) → Q u H'
theorem _root_.Lk.CRowOk.sz {cts : List Int} {i : Nat} {r : CRow} (h : CRowOk cts i r) (hc : ∀ j, 0 ≤ cts.getD j 0 ∧ cts.getD j 0 ≤ 64) : CRowSz r := by
  have hi := hc i
  have ha : askN r.kd ≤ 1 := by
    unfold askN
    split <;> omega
  have hn := h.nxl.le
  have hcl := h.chl
  refine ⟨by have := h.syl; omega, fun f hf => by have := h.syf f hf; omega, by omega, fun c hc2 => ?_, fun c hc2 f hf => by have := h.chf c hc2 f hf; omega⟩
  obtain ⟨n, hn2⟩ := List.getElem?_of_mem hc2
  have hlt := (List.getElem?_eq_some_iff.mp hn2).1
  have := h.chn n _ c (List.getElem?_eq_getElem (by omega)) hn2
  have := (hc (r.nx[n]'(by omega)).toNat).2
  omega
def spInit (K : PySem.W.Frag) (A : Ad) : Sp := fun vs H Q _ => ∃ (x dx l t a : Addr) (k : Nat) (cts : List Int) (us : List V) (rs : List CRow) (st : List Int), vs = [.ref x, .int (k : Int), .ref l, .ref t, .ref a] ∧ H x = some (.ins A.Code dx []) ∧ 1 ≤ k ∧ k ≤ 64 ∧ SqE K H l (cts.map V.int) ∧ SqE K H t us ∧ F2 (CRowH H) us rs ∧ SqT K H a (st.map V.int) ∧ CodeOk cts rs st ∧
  ∀ H', Bar x H H' → CodeO K A.Code H' x k cts (rs.map (CRow.low k)) (st.map (· % 2 ^ k)) → Q .non H'

section
variable {P : Program} {w : World} {K : PySem.W.Frag} {mg : Str → Option Value} {base : Heap} {A : Ad}
abbrev s__lowered_row : Stmt := top 24
theorem sc__lowered_row : FnScope ["item", "width", "kind", "nexts", "says", "changes", "lowered_says", "lowered_changes", "form", "forms"] ["item", "width"] (defScope s__lowered_row) := ⟨rfl, rfl, rfl, by decide +kernel, rfl, by decide +kernel, by decide +kernel⟩
theorem ok_lowered_row {f : Addr} {fd : FuncData} (F : Fun K "_lowered_row" "_lowered_row" s__lowered_row f fd) (T : Txt P w K mg base A) (c_lowered : Cal P w K mg base 1 "lowered" ["numbers", "width"] (spLow K)) : FnOk P w K mg base CX0 2 f fd ["item", "width"] (spLowRow K) := by
  refine F.ok sc__lowered_row (fun vs H Q E h => ?_) (fun cdv Ar outer s H vs Q E hr h => ?_)
  · obtain ⟨v, k, r, rfl, _⟩ := h
    rfl
  · obtain ⟨v, k, r, rfl, hk, hv, sz, q⟩ := h
    refine ⟨_, (pss_cons (ps_asg (pv 0) (pg_tup rfl (pgs_cons (pg_name (i := 2) sc__lowered_row.nd rfl (Or.inl rfl)) (pgs_cons (pg_name (i := 3) sc__lowered_row.nd rfl (Or.inl rfl)) (pgs_cons (pg_name (i := 4) sc__lowered_row.nd rfl (Or.inl rfl)) (pgs_cons (pg_name (i := 5) sc__lowered_row.nd rfl (Or.inl rfl)) pgs_nil))))))
        (pss_cons (ps_set (i := 6) sc__lowered_row.nd rfl (Or.inl rfl) (pe_callTy call_tupOf (by rfl) T.z_tuple (by decide +kernel) (pa_cons (pe_lc (own := [("form", 8)]) (g := gName 8) (tt := tYes) rfl sc__lowered_row.nd (pi_tup (pv 4)) (blkOk_by (own := [("form", 8)]) (N := ["item", "width", "kind", "nexts", "says", "changes", "lowered_says", "lowered_changes", "form", "forms"]) (sc := defScope s__lowered_row) (by decide +kernel)) (fun _ _ _ _ _ => pg_name (i := 8) sc__lowered_row.nd rfl (Or.inl rfl)) (fun _ _ _ _ _ => pts_nil) (fun _ _ _ _ _ => (pcal c_lowered hr (by decide) (pa_cons (pv 8) (pa_cons (pv 1) pa_nil))))) pa_nil)))
        (pss_cons (ps_set (i := 7) sc__lowered_row.nd rfl (Or.inl rfl) (pe_callTy call_tupOf (by rfl) T.z_tuple (by decide +kernel) (pa_cons (pe_lc (own := [("forms", 9)]) (g := gName 9) (tt := tYes) rfl sc__lowered_row.nd (pi_tup (pv 5)) (blkOk_by (own := [("forms", 9)]) (N := ["item", "width", "kind", "nexts", "says", "changes", "lowered_says", "lowered_changes", "form", "forms"]) (sc := defScope s__lowered_row) (by decide +kernel)) (fun _ _ _ _ _ => pg_name (i := 9) sc__lowered_row.nd rfl (Or.inl rfl)) (fun _ _ _ _ _ => pts_nil) (fun _ _ _ _ _ => (pe_callTy (show CallR _ (.type "tuple") (rTupOf K) from call_tupOf) (by rfl) T.z_tuple (by decide +kernel) (pa_cons (pe_lc (own := [("form", 8)]) (g := gName 8) (tt := tYes) rfl sc__lowered_row.nd (show PI _ _ _ (iTup K (tVar 9)) from pi_tup (pv 9)) (blkOk_by (by kernel_rfl)) (fun _ _ _ _ _ => pg_name (i := 8) sc__lowered_row.nd rfl (Or.inl rfl)) (fun _ _ _ _ _ => pts_nil) (fun _ _ _ _ _ => (pcal c_lowered hr (by decide) (pa_cons (pv 8) (pa_cons (pv 1) pa_nil))))) pa_nil)))) pa_nil)))
        (pss_one (ps_ret (pe_tup (pa_cons (pv 2) (pa_cons (pv 3) (pa_cons (pv 6) (pa_cons (pv 7) pa_nil)))))))))), ?_⟩
    obtain ⟨a, b, c, d, rfl, h1, h2, h3, h4⟩ := hv
    obtain ⟨p3, us3, rfl, e3, f3⟩ := h3
    obtain ⟨p4, us4, rfl, e4, f4⟩ := h4
    walk_at "lk"
    refine g_quad (SqT.of h1) ?_
    walk_at "lk"
    refine tlc_F2T (fun H v f => CfH H v f) (fun H v f => CfH H v f) (lowF k) (fun s h => h.ts (Ts.of s)) (fun s h => h.ts s) rfl (SqT.of e3) f3 (by rw [f3.len]; exact sz.s1) (fun _ => rfl) (fun i x f H' hfi hf s' R qr => ?_) (fun D ys H1 s1 hD hDl hys => ?_)
    · obtain ⟨pf, rfl, ef⟩ := hf
      walk_at "lk"
      exact ⟨pf, f, k, rfl, SqT.of ef, sz.s2 f (List.mem_of_getElem? hfi), hk, fun p H2 s2 _ h2p => qr _ _ s2 ⟨p, rfl, by rw [h2p]; simp [lowF]⟩⟩
    · walk_at "lk"
      refine s_tupL hDl fun p H2 s2 hp0 hp => ?_
      have g3 : CfsH H2 (.ref p) (r.sy.map (lowF k)) := ⟨p, ys, rfl, hp, hys.mono fun _ _ z => z.ts (Ts.of s2)⟩
      have s12 := s1.trans s2
      walk_at "lk"
      refine tlc_F2T (fun H v c => CfsH H v c) (fun H v c => CfsH H v c) (fun c => c.map (lowF k)) (fun s h => h.ts (Ts.of s)) (fun s h => h.ts s) rfl (same_sqT s12 (SqT.of e4)) (f4.mono fun _ _ z => z.ts (Ts.of s12)) (by rw [f4.len]; exact sz.s3) (fun _ => rfl) (fun i x c H' hci hc s' R qr => ?_) (fun D2 ys2 H3 s3 hD2 hD2l hys2 => ?_)
      · obtain ⟨pc, uc, rfl, ec, fc⟩ := hc
        have hcm := List.mem_of_getElem? hci
        walk_at "lk"
        refine tlc_F2T (fun H v f => CfH H v f) (fun H v f => CfH H v f) (lowF k) (fun s h => h.ts (Ts.of s)) (fun s h => h.ts s) rfl (SqT.of ec) fc (by rw [fc.len]; exact sz.s4 c hcm) (fun _ => rfl) (fun i x f H4 hfi hf s4 R2 qr2 => ?_) (fun D4 ys4 H4 s4 hD4 hD4l hys4 => ?_)
        · obtain ⟨pf, rfl, ef⟩ := hf
          walk_at "lk"
          exact ⟨pf, f, k, rfl, SqT.of ef, sz.s5 c hcm f (List.mem_of_getElem? hfi), hk, fun p H2 s2 _ h2p => qr2 _ _ s2 ⟨p, rfl, by rw [h2p]; simp [lowF]⟩⟩
        · walk_at "lk"
          refine s_tupL hD4l fun p5 H5 s5 hp5 hp5t => ?_
          exact qr _ _ (s4.trans s5) ⟨p5, ys4, rfl, hp5t, hys4.mono fun _ _ z => z.ts (Ts.of s5)⟩
      · walk_at "lk"
        refine s_tupL hD2l fun p6 H6 s6 hp6 hp6t => ?_
        have g4 : CcsH H6 (.ref p6) (r.ch.map (·.map (lowF k))) := ⟨p6, ys2, rfl, hp6t, hys2.mono fun _ _ z => z.ts (Ts.of s6)⟩
        have s36 := s3.trans s6
        walk_at "lk"
        refine snw (Nat.le_of_ble_eq_true rfl) fun p7 hp7 => ?_
        have s7 : Same H6 (upd H6 p7 (.tup [.str r.kd, b, .ref p, .ref p6])) := same_new hp7
        exact q _ _ (s12.trans (s36.trans s7)) ⟨p7, b, .ref p, .ref p6, rfl, upd_same, h2.ts (Ts.of (s12.trans (s36.trans s7))), g3.ts (Ts.of (s36.trans s7)), g4.ts (Ts.of s7)⟩
abbrev s_Code___init__ : Stmt := inClass (top 17) 0
theorem sc_Code___init__ : FnScope ["self", "width", "counts", "rows", "start", "row", "item"] ["self", "width", "counts", "rows", "start"] (defScope s_Code___init__) := ⟨rfl, rfl, rfl, by decide +kernel, rfl, by decide +kernel, by decide +kernel⟩
theorem ok_init {f : Addr} {fd : FuncData} (F : Fun K "__init__" "Code.__init__" s_Code___init__ f fd) (T : Txt P w K mg base A) (c__check_head : Cal P w K mg base 4 "_check_head" ["width", "counts", "rows", "start"] (spHead K)) (c__check_row : Cal P w K mg base 6 "_check_row" ["counts", "row", "item"] (spCRow K)) (c__lowered_row : Cal P w K mg base 2 "_lowered_row" ["item", "width"] (spLowRow K)) (c_lowered : Cal P w K mg base 1 "lowered" ["numbers", "width"] (spLow K)) : FnOk P w K mg base CX0 7 f fd ["self", "width", "counts", "rows", "start"] (spInit K A) := by
  refine F.ok sc_Code___init__ (fun vs H Q E h => ?_) (fun cdv Ar outer s H vs Q E hr h => ?_)
  · obtain ⟨x, dx, l, t, a, k, cts, us, rs, st, rfl, _⟩ := h
    rfl
  · obtain ⟨x, dx, l, t, a, k, cts, us, rs, st, rfl, hx, k1, k2, hl, ht, hr0, ha, hok, q⟩ := h
    refine ⟨_, (pss_cons (ps_expr (pcal c__check_head hr (by decide) (pa_cons (pv 1) (pa_cons (pv 2) (pa_cons (pv 3) (pa_cons (pv 4) pa_nil))))))
        (pss_cons (ps_for PassesOwn.never rfl (pi_enumE (by rfl) T.z_enumerate (pa_cons (pv 3) pa_nil)) (pg_tup rfl (pgs_cons (pg_name (i := 5) sc_Code___init__.nd rfl (Or.inl rfl)) (pgs_cons (pg_name (i := 6) sc_Code___init__.nd rfl (Or.inl rfl)) pgs_nil))) (pss_one (ps_expr (pcal c__check_row hr (by decide) (pa_cons (pv 2) (pa_cons (pv 5) (pa_cons (pv 6) pa_nil)))))))
        (pss_cons (ps_fld (pv 0) (pv 1) (by rfl))
        (pss_cons (ps_fld (pv 0) (pe_callTy call_tupOf (by rfl) T.z_tuple (by decide +kernel) (pa_cons (pv 2) pa_nil)) (by rfl))
        (pss_cons (ps_fld (pv 0) (pe_callTy call_tupOf (by rfl) T.z_tuple (by decide +kernel) (pa_cons (pe_lc (own := [("item", 6)]) (g := gName 6) (tt := tYes) rfl sc_Code___init__.nd (pi_either (pv 3)) (blkOk_by (own := [("item", 6)]) (N := ["self", "width", "counts", "rows", "start", "row", "item"]) (sc := defScope s_Code___init__) (by decide +kernel)) (fun _ _ _ _ _ => pg_name (i := 6) sc_Code___init__.nd rfl (Or.inl rfl)) (fun _ _ _ _ _ => pts_nil) (fun _ _ _ _ _ => (pcal c__lowered_row hr (by decide) (pa_cons (pv 6) (pa_cons (pv 1) pa_nil))))) pa_nil)) (by rfl))
        (pss_one (ps_fld (pv 0) (pcal c_lowered hr (by decide) (pa_cons (pv 4) (pa_cons (pv 1) pa_nil))) (by rfl)))))))), ?_⟩
    have hlen := hr0.len
    have l2 := hok.l2
    have cl := hok.cl
    walk_at "lk"
    refine ⟨(k : Int), l, t, a, cts, us, rs, st, rfl, by omega, by omega, hl, ht, hr0, ha, hok, fun H1 s1 => ?_⟩
    walk_at "lk"
    refine for_enE (xs := us) (fun j σ' H' => (∃ e1 e2, σ' = [some (.ref x), some (.int (k : Int)), some (.ref l), some (.ref t), some (.ref a), e1, e2]) ∧ Same H1 H') rfl (ht.same s1) ⟨⟨_, _, rfl⟩, Same.refl _⟩ (fun j σ' H' h => h.2) ?_ ?_
    · rintro j v p σ' H' hi ⟨⟨e1, e2, rfl⟩, s2⟩ hp
      have s3 : Same H1 (upd H' p (.tup [.int (j : Nat), v])) := s2.trans (same_new hp)
      refine g_pair (SqT.of upd_same) ?_
      generalize upd H' p (.tup [.int (j : Nat), v]) = H3 at s3 ⊢
      obtain ⟨r, hri, hrv⟩ := hr0.at hi
      have hj : j < rs.length := (List.getElem?_eq_some_iff.mp hri).1
      have s13 := s1.trans s3
      walk_at "lk"
      refine ⟨l, j, v, cts, r, rfl, hl.same s13, by omega, hok.cD, hrv.ts (Ts.of s13), hok.ok j r hri, fun H4 s4 => ?_⟩
      exact ⟨⟨_, _, rfl⟩, s3.trans s4⟩
    rintro σ' H2 ⟨⟨e1, e2, rfl⟩, s2⟩
    have s12 := s1.trans s2
    walk_at "lk"
    refine ⟨x, A.Code, dx, [], rfl, s12 _ _ hx, T.c_Code, T.n_width, by decide, ?_⟩
    have b3 : Bar x H (upd H2 x (.ins A.Code dx (putF "width" (.int (k : Int)) []))) := (Bar.of s12).trans Bar.upd
    have x3 : (upd H2 x (.ins A.Code dx (putF "width" (.int (k : Int)) []))) x = some (.ins A.Code dx [("width", .int (k : Int))]) := upd_same
    generalize upd H2 x (.ins A.Code dx (putF "width" (.int (k : Int)) [])) = H3 at b3 x3 ⊢
    walk_at "lk"
    refine s_tupE (b3.sqE hx hl) fun tc H4 s4 h4 => ?_
    walk_at "lk"
    refine ⟨x, A.Code, dx, _, rfl, s4 _ _ x3, T.c_Code, T.n_counts, Nat.le_of_ble_eq_true rfl, ?_⟩
    have b5' : Bar x H4 (upd H4 x (.ins A.Code dx (putF "counts" (.ref tc) [("width", .int (k : Int))]))) := Bar.upd
    have x5 : (upd H4 x (.ins A.Code dx (putF "counts" (.ref tc) [("width", .int (k : Int))]))) x = some (.ins A.Code dx [("width", .int (k : Int)), ("counts", .ref tc)]) := upd_same
    generalize upd H4 x (.ins A.Code dx (putF "counts" (.ref tc) [("width", .int (k : Int))])) = H5 at b5' x5 ⊢
    have b5 : Bar x H H5 := (b3.trans (Bar.of s4)).trans b5'
    have h5 := b5'.sqT (s4 _ _ x3) h4
    walk_at "lk"
    refine tlc_F2E (fun H v r => CRowH H v r) (fun H v r => CRowH H v r) (CRow.low k) (fun s h => h.ts (Ts.of s)) (fun s h => h.ts s) rfl (b5.sqE hx ht) (hr0.mono fun _ _ z => z.ts (b5.ts hx)) (by omega) (fun _ => rfl) (fun i v r H' hri hv s' R qr => ?_) (fun D ys H6 s6 hD hDl hys => ?_)
    · walk_at "lk"
      exact ⟨v, k, r, rfl, k2, hv, (hok.ok i r hri).sz hok.cD, qr⟩
    walk_at "lk"
    refine s_tupE (.inl (SqL.of hDl)) fun tr H7 s7 h7 => ?_
    walk_at "lk"
    refine ⟨x, A.Code, dx, _, rfl, s7 _ _ (s6 _ _ x5), T.c_Code, T.n_rows, Nat.le_of_ble_eq_true rfl, ?_⟩
    have x7 := s7 _ _ (s6 _ _ x5)
    have b8' : Bar x H7 (upd H7 x (.ins A.Code dx (putF "rows" (.ref tr) [("width", .int (k : Int)), ("counts", .ref tc)]))) := Bar.upd
    have x8 : (upd H7 x (.ins A.Code dx (putF "rows" (.ref tr) [("width", .int (k : Int)), ("counts", .ref tc)]))) x = some (.ins A.Code dx [("width", .int (k : Int)), ("counts", .ref tc), ("rows", .ref tr)]) := upd_same
    generalize upd H7 x (.ins A.Code dx (putF "rows" (.ref tr) [("width", .int (k : Int)), ("counts", .ref tc)])) = H8 at b8' x8 ⊢
    have b8 : Bar x H H8 := (b5.trans (Bar.of (s6.trans s7))).trans b8'
    have h8 := b8'.sqT x7 (same_sqT s7 (same_sqT s6 h5))
    have r8 := b8'.sqT x7 h7
    have y8 : F2 (CRowH H8) ys (rs.map (CRow.low k)) := hys.mono fun _ _ z => (z.ts (Ts.of s7)).ts (b8'.ts x7)
    walk_at "lk"
    have s0 := hok.sl
    have s1' := (hok.cD 0).2
    refine ⟨a, st, k, rfl, b8.sqT hx ha, by omega, k2, fun ts H9 s9 _ h9 => ?_⟩
    walk_at "lk"
    refine ⟨x, A.Code, dx, _, rfl, s9 _ _ x8, T.c_Code, T.n_start, Nat.le_of_ble_eq_true rfl, ?_⟩
    have x9 := s9 _ _ x8
    have b10 : Bar x H9 (upd H9 x (.ins A.Code dx (putF "start" (.ref ts) [("width", .int (k : Int)), ("counts", .ref tc), ("rows", .ref tr)]))) := Bar.upd
    have x10 : (upd H9 x (.ins A.Code dx (putF "start" (.ref ts) [("width", .int (k : Int)), ("counts", .ref tc), ("rows", .ref tr)]))) x = some (.ins A.Code dx (cdF k tc tr ts)) := upd_same
    refine q _ ((b8.trans (Bar.of s9)).trans b10) ⟨dx, tc, tr, ts, ys, x10, b10.sqT x9 (same_sqT s9 h8), b10.sqT x9 (same_sqT s9 r8), (y8.mono fun _ _ z => (z.ts (Ts.of s9)).ts (b10.ts x9)), b10.sqT x9 (SqT.of ?_)⟩
    rw [h9]
    simp
end
end K41

namespace K41
open PySem PySem.Spec PyProof.Rows L2 RZ Lk
local macro_rules | `(tactic| walk_at "lk") => `(tactic| (repeat (first
  | with_reducible refine ssq ?_ | with_reducible refine sas ?_ | with_reducible refine sgn ?_ | ((with_reducible show tVar _ _ _ _); refine sv rfl ?_) | with_reducible refine sc ?_ | with_reducible refine sop ?_ | with_reducible refine sun ?_
  | with_reducible refine sI0 ?_ | with_reducible refine sU ?_ | with_reducible refine stt ?_ | with_reducible refine stB ?_ | with_reducible refine sbl ?_ | with_reducible refine snt ?_ | with_reducible refine sif ?_ | with_reducible refine scB ?_
  | with_reducible refine scn ?_ | with_reducible refine snl ?_ | with_reducible refine scl ?_ | with_reducible refine stu ?_ | with_reducible refine sli ?_ | with_reducible refine sdr ?_ | with_reducible refine srt ?_ | with_reducible refine snx ?_ | with_reducible refine sfor ?_ | with_reducible refine sils ?_ | with_reducible refine sien ?_ | with_reducible refine sor ?_ | with_reducible refine sfg ?_
  | with_reducible refine sav ?_ | with_reducible refine sov ?_ | with_reducible refine snv ?_ | with_reducible refine sch ?_ | with_reducible refine san ?_ | with_reducible refine ssll ?_ | with_reducible refine spt ?_ | with_reducible refine snp ?_ | with_reducible refine sin ?_ | with_reducible refine sfl ?_ | with_reducible refine sfd ?_ | with_reducible refine sbm ?_ | with_reducible refine sifx ?_ | with_reducible refine smk ?_ | with_reducible refine ssli ?_ | with_reducible refine sbz ?_
  | ((with_reducible show Or _ _); first | refine Or.inl ⟨_, rfl, ?_⟩ | refine Or.inr ⟨_, rfl, ?_⟩))))

/-- two codes, or a code and a tuple -/
def spEqC (K : PySem.W.Frag) (A : Ad) : Sp := fun vs H Q _ => ∃ (x : Addr) (y : V) (k : Nat) (cts : List Int) (rs : List CRow) (st : List Int), vs = [.ref x, y] ∧ CodeO K A.Code H x k cts rs st ∧ (∀ r ∈ rs, Kd4 r.kd) ∧
  ((∃ (z : Addr) (k2 : Nat) (cts2 : List Int) (rs2 : List CRow) (st2 : List Int), y = .ref z ∧ CodeO K A.Code H z k2 cts2 rs2 st2 ∧ (∀ r ∈ rs2, Kd4 r.kd) ∧ Q (.bl (cdEq k cts rs st k2 cts2 rs2 st2)) H) ∨ ∃ (t : Addr) (xs : List V), y = .ref t ∧ H t = some (.tup xs) ∧ Q (.bl false) H)
section
variable {P : Program} {w : World} {K : PySem.W.Frag} {mg : Str → Option Value} {base : Heap} {A : Ad}
abbrev s_Code___eq__ : Stmt := inClass (top 17) 1
theorem sc_Code___eq__ : FnScope ["self", "other"] ["self", "other"] (defScope s_Code___eq__) := ⟨rfl, rfl, rfl, by decide +kernel, rfl, by decide +kernel, by decide +kernel⟩
theorem ok_eq {f : Addr} {fd : FuncData} (F : Fun K "__eq__" "Code.__eq__" s_Code___eq__ f fd) (T : Txt P w K mg base A) : FnOk P w K mg base CX0 1 f fd ["self", "other"] (spEqC K A) := by
  refine F.ok sc_Code___eq__ (fun vs H Q E h => ?_) (fun cdv Ar outer s H vs Q E hr h => ?_)
  · obtain ⟨x, y, k, cts, rs, st, rfl, _⟩ := h
    rfl
  · obtain ⟨x, y, k, cts, rs, st, rfl, hp, hr1, h⟩ := h
    refine ⟨_, (pss_one (ps_ret (pe_and (pe_callB call_isi (by rfl) T.z_isinstance (by decide +kernel) (pa_cons (pv 1) (pa_cons (pe_glob (v := .ref A.Code) (by rfl) T.g_Code rfl) pa_nil))) (pe_and (pe_cmpR op_eq (pe_fld (pv 0) rfl) (pe_fld (pv 1) rfl) (nomark _)) (pe_and (pe_cmpR (op_eqD hr.units) (pe_fld (pv 0) rfl) (pe_fld (pv 1) rfl) (nomark _)) (pe_and (pe_cmpR (op_eqD hr.units) (pe_fld (pv 0) rfl) (pe_fld (pv 1) rfl) (nomark _)) (pe_one (pe_cmpR (op_eqD hr.units) (pe_fld (pv 0) rfl) (pe_fld (pv 1) rfl) (nomark _))))))))), ?_⟩
    obtain ⟨dx, tc, tr, ts, vs, hx, h1, h2, h3, h4⟩ := hp
    rcases h with ⟨z, k2, cts2, rs2, st2, rfl, hp2, hr2, q⟩ | ⟨t, xs, rfl, ht, q⟩
    · obtain ⟨dy, tc2, tr2, ts2, vs2, hz, g1, g2, g3, g4⟩ := hp2
      walk_at "lk"
      refine ⟨_, _, .ref A.Code, .ref A.Code, true, rfl, .own _, .base (.ins hz T.c_Code T.i_cls T.i_get T.i_tk T.i_mro), T.i_self, ?_⟩
      walk_at "lk"
      refine itt_ rfl ?_
      walk_at "lk"
      refine ⟨x, A.Code, dx, _, _, rfl, hx, T.c_Code, T.n_width, rfl, ?_⟩
      walk_at "lk"
      refine ⟨z, A.Code, dy, _, _, rfl, hz, T.c_Code, T.n_width, rfl, ?_⟩
      refine sEq rfl ?_
      walk_at "lk"
      have ek : decide (V.int (k : Int) = V.int (k2 : Int)) = decide (k = k2) := decide_eq_decide.mpr ⟨fun e => by have := V.int.inj e; omega, fun e => by rw [e]⟩
      rw [ek]
      unfold cdEq at q
      by_cases e : k = k2
      · refine itt_ (decide_eq_true e) ?_
        rw [decide_eq_true e, Bool.true_and] at q
        walk_at "lk"
        refine ⟨x, A.Code, dx, _, _, rfl, hx, T.c_Code, T.n_counts, rfl, ?_⟩
        walk_at "lk"
        refine ⟨z, A.Code, dy, _, _, rfl, hz, T.c_Code, T.n_counts, rfl, ?_⟩
        refine ⟨intsD cts, intsD cts2, .tup h1 (dt_ints cts).dp, .tup g1 (dt_ints cts2).dp, shaped_ints cts, shaped_ints cts2, ?_⟩
        walk_at "lk"
        cases ev : PyData.eqv (intsD cts) (intsD cts2) with
        | false =>
          rw [ev, Bool.false_and] at q
          refine iff_ rfl ?_
          exact q
        | true =>
          rw [ev, Bool.true_and] at q
          refine itt_ rfl ?_
          walk_at "lk"
          refine ⟨x, A.Code, dx, _, _, rfl, hx, T.c_Code, T.n_rows, rfl, ?_⟩
          walk_at "lk"
          refine ⟨z, A.Code, dy, _, _, rfl, hz, T.c_Code, T.n_rows, rfl, ?_⟩
          refine ⟨crowsD rs, crowsD rs2, .tup h2 (crows_dt h3).dp, .tup g2 (crows_dt g3).dp, shaped_crows hr1, shaped_crows hr2, ?_⟩
          walk_at "lk"
          cases ev2 : PyData.eqv (crowsD rs) (crowsD rs2) with
          | false =>
            rw [ev2, Bool.false_and] at q
            refine iff_ rfl ?_
            exact q
          | true =>
            rw [ev2, Bool.true_and] at q
            refine itt_ rfl ?_
            walk_at "lk"
            refine ⟨x, A.Code, dx, _, _, rfl, hx, T.c_Code, T.n_start, rfl, ?_⟩
            walk_at "lk"
            refine ⟨z, A.Code, dy, _, _, rfl, hz, T.c_Code, T.n_start, rfl, ?_⟩
            exact ⟨intsD st, intsD st2, .tup h4 (dt_ints st).dp, .tup g4 (dt_ints st2).dp, shaped_ints st, shaped_ints st2, q⟩
      · refine iff_ (decide_eq_false e) ?_
        rw [decide_eq_false e, Bool.false_and] at q
        exact q
    · walk_at "lk"
      refine ⟨_, _, .type "tuple", .ref A.Code, false, rfl, .own _, .base (.tup ht), T.i_tup, ?_⟩
      walk_at "lk"
      refine iff_ rfl ?_
      exact q
end
end K41

namespace K41
open PySem PySem.Spec PyProof.Rows L2 Lk
local macro_rules | `(tactic| walk_at "lk") => `(tactic| (repeat (first
  | with_reducible refine ssq ?_ | with_reducible refine sas ?_ | with_reducible refine sgn ?_ | ((with_reducible show tVar _ _ _ _); refine sv rfl ?_) | with_reducible refine sc ?_ | with_reducible refine sop ?_ | with_reducible refine sun ?_
  | with_reducible refine sI0 ?_ | with_reducible refine sU ?_ | with_reducible refine stt ?_ | with_reducible refine stB ?_ | with_reducible refine sbl ?_ | with_reducible refine snt ?_ | with_reducible refine sif ?_ | with_reducible refine scB ?_
  | with_reducible refine scn ?_ | with_reducible refine snl ?_ | with_reducible refine scl ?_ | with_reducible refine stu ?_ | with_reducible refine sli ?_ | with_reducible refine sdr ?_ | with_reducible refine srt ?_ | with_reducible refine snx ?_ | with_reducible refine sfor ?_ | with_reducible refine sils ?_ | with_reducible refine sien ?_ | with_reducible refine sor ?_ | with_reducible refine sfg ?_
  | with_reducible refine sav ?_ | with_reducible refine sov ?_ | with_reducible refine snv ?_ | with_reducible refine sch ?_ | with_reducible refine san ?_ | with_reducible refine ssll ?_ | with_reducible refine spt ?_ | with_reducible refine snp ?_ | with_reducible refine sin ?_ | with_reducible refine sfl ?_ | with_reducible refine sfd ?_ | with_reducible refine sbm ?_ | with_reducible refine sifx ?_
  | ((with_reducible show Or _ _); first | refine Or.inl ⟨_, rfl, ?_⟩ | refine Or.inr ⟨_, rfl, ?_⟩))))

/-- the law's own draws -/
def spDraw : Sp := fun vs H Q _ => ∃ (p : Addr) (m : Int), vs = [.ref p, .int m] ∧ 0 < m ∧ m.natAbs < 2 ^ 100 ∧ Wl H p ∧ ∀ (r : Int) (H' : Hp), 0 ≤ r → r < m → Wk p H H' → Q (.int r) H'
def spOne : Sp := fun vs H Q _ => ∃ (p l : Addr) (xs : List V), vs = [.ref p, .ref l] ∧ Wl H p ∧ l ≠ p ∧ H l = some (.lst xs) ∧ 0 < xs.length ∧ xs.length ≤ 1000 ∧ ∀ (v : V) (H' : Hp), v ∈ xs → Wk p H H' → Q v H'
def spNumber : Sp := fun vs H Q _ => ∃ (p : Addr) (k : Nat), vs = [.ref p, .int (k : Int)] ∧ k ≤ 64 ∧ Wl H p ∧ ∀ (r : Int) (H' : Hp), 0 ≤ r → r < 2 ^ k → Wk p H H' → Q (.int r) H'
def spForm0 : Sp := fun vs H Q _ => ∃ (p : Addr) (k m : Nat), vs = [.ref p, .int (k : Int), .int (m : Int)] ∧ k ≤ 64 ∧ m ≤ 6 ∧ Wl H p ∧ ∀ (b : Addr) (f : List Int) (H' : Hp), Wk p H H' → H' b = some (.tup (f.map .int)) → f.length = m + 1 → (∀ x ∈ f, 0 ≤ x ∧ x < 2 ^ k) → Q (.ref b) H'

section
variable {P : Program} {w : World} {K : PySem.W.Frag} {mg : Str → Option Value} {base : Heap} {A : Ad}
abbrev s__law_draw : Stmt := top 26
theorem sc__law_draw : FnScope ["_law_well", "_law_many", "_law_number_here", "_law_found"] ["_law_well", "_law_many"] (defScope s__law_draw) := ⟨rfl, rfl, rfl, by decide +kernel, rfl, by decide +kernel, by decide +kernel⟩
theorem ok_draw {f : Addr} {fd : FuncData} (F : Fun K "_law_draw" "_law_draw" s__law_draw f fd) (T : Txt P w K mg base A) : FnOk P w K mg base CX0 1 f fd ["_law_well", "_law_many"] spDraw := by
  refine F.ok sc__law_draw (fun vs H Q E h => ?_) (fun cdv Ar outer s H vs Q E hr h => ?_)
  · obtain ⟨p, m, rfl, _⟩ := h
    rfl
  · obtain ⟨p, m, rfl, m0, m1, hw, k⟩ := h
    refine ⟨_, (pss_cons (ps_if (pt_cmpR op_gt (pe_ix ix_list (pv 0) pe_int (fun _ _ => rfl)) pe_int (nomark _)) (pss_cons (ps_set (i := 3) sc__law_draw.nd rfl (Or.inl rfl) (pe_op op_mod (pe_callTy call_int1 (by rfl) T.z_int (by decide +kernel) (pa_cons (pe_ix ix_list (pv 0) pe_int (fun _ _ => rfl)) pa_nil)) (pv 1)))
        (pss_cons (ps_asg (pe_op op_fdivW (pe_ix ix_list (pv 0) pe_int (fun _ _ => rfl)) (pv 1)) (pg_sub (pv 0) pe_int set_list))
        (pss_one (ps_ret (pv 3))))) pss_nil)
        (pss_cons (ps_asg (pe_op op_add (pe_ix ix_list (pv 0) pe_int (fun _ _ => rfl)) pe_int) (pg_sub (pv 0) pe_int set_list))
        (pss_cons (ps_set (i := 2) sc__law_draw.nd rfl (Or.inl rfl) (pe_op op_mod (pe_callTy call_int1 (by rfl) T.z_int (by decide +kernel) (pa_cons (pe_op op_mul (pe_op op_add (pe_op op_add (pe_ix ix_list (pv 0) pe_int (fun _ _ => rfl)) (pe_op op_mul pe_int (pe_ix ix_list (pv 0) pe_int (fun _ _ => rfl)))) pe_int) pe_int) pa_nil)) pe_int))
        (pss_cons (ps_set (i := 2) sc__law_draw.nd rfl (Or.inl rfl) (pe_op op_mod (pe_callTy call_int1 (by rfl) T.z_int (by decide +kernel) (pa_cons (pe_op op_mul (pv 2) (pe_op op_add (pe_op op_fdiv (pv 2) pe_int) pe_int)) pa_nil)) pe_int))
        (pss_one (ps_ret (pe_op op_mod (pe_callTy call_int1 (by rfl) T.z_int (by decide +kernel) (pa_cons (pe_op op_mod (pe_callTy call_int1 (by rfl) T.z_int (by decide +kernel) (pa_cons (pe_op op_mul (pv 2) (pe_op op_add (pe_op op_fdiv (pv 2) pe_int) pe_int)) pa_nil)) pe_int) pa_nil)) (pv 1)))))))), ?_⟩
    obtain ⟨a, b, c, hp⟩ := hw
    walk_at "lk"
    refine sfr (SqL.of hp) (by rfl) ?_
    walk_at "lk"
    refine ite2 (fun z => ?_) (fun z => ?_)
    · walk_at "lk"
      refine sfr (SqL.of hp) (by rfl) ?_
      walk_at "lk"
      refine sI m0 ?_
      walk_at "lk"
      refine sfr (SqL.of hp) (by rfl) ?_
      walk_at "lk"
      refine sI (wide_div m0 m1 (by decide) (by decide)) ?_
      walk_at "lk"
      refine ssl hp (by rfl) ?_
      walk_at "lk"
      exact k _ _ (Int.emod_nonneg _ (by omega)) (Int.emod_lt_of_pos _ m0) Wk.upd
    · walk_at "lk"
      refine sfr (SqL.of hp) (by rfl) ?_
      walk_at "lk"
      refine ssl hp (by rfl) ?_
      walk_at "lk"
      refine sfr (SqL.of upd_same) (by rfl) ?_
      walk_at "lk"
      refine sfr (SqL.of upd_same) (by rfl) ?_
      refine sI (.inl ⟨by decide, by decide⟩) ?_
      walk_at "lk"
      refine sI (.inr ⟨by decide, by decide⟩) ?_
      walk_at "lk"
      refine sI (by decide) ?_
      walk_at "lk"
      refine sI ⟨by decide, by decide⟩ ?_
      walk_at "lk"
      refine sI (.inl ⟨by omega, by omega⟩) ?_
      walk_at "lk"
      refine sI (by decide) ?_
      walk_at "lk"
      refine sI ⟨by decide, by decide⟩ ?_
      walk_at "lk"
      refine sI (.inl ⟨by omega, by omega⟩) ?_
      walk_at "lk"
      refine sI (by decide) ?_
      walk_at "lk"
      refine sI m0 ?_
      exact k _ _ (Int.emod_nonneg _ (by omega)) (Int.emod_lt_of_pos _ m0) Wk.upd
abbrev s__law_one : Stmt := top 27
theorem sc__law_one : FnScope ["_law_well", "_law_some"] ["_law_well", "_law_some"] (defScope s__law_one) := ⟨rfl, rfl, rfl, by decide +kernel, rfl, by decide +kernel, by decide +kernel⟩
theorem ok_one {f : Addr} {fd : FuncData} (F : Fun K "_law_one" "_law_one" s__law_one f fd) (T : Txt P w K mg base A) (c__law_draw : Cal P w K mg base 1 "_law_draw" ["_law_well", "_law_many"] spDraw) : FnOk P w K mg base CX0 2 f fd ["_law_well", "_law_some"] spOne := by
  refine F.ok sc__law_one (fun vs H Q E h => ?_) (fun cdv Ar outer s H vs Q E hr h => ?_)
  · obtain ⟨p, l, xs, rfl, _⟩ := h
    rfl
  · obtain ⟨p, l, xs, rfl, hw, hlp, hl, h0, h1, k⟩ := h
    refine ⟨_, (pss_one (ps_ret (pe_ix ix_list (pv 1) (pcal c__law_draw hr (by decide) (pa_cons (pv 0) (pa_cons (pe_callB call_len_seq (by rfl) T.z_len PySem.boot_len (pa_cons (pv 1) pa_nil)) pa_nil))) (fun _ _ => rfl)))), ?_⟩
    walk_at "lk"
    refine ⟨l, xs, rfl, .inl (SqL.of hl), ?_⟩
    walk_at "lk"
    refine ⟨p, xs.length, rfl, by omega, Nat.lt_of_le_of_lt (show (xs.length : Int).natAbs ≤ 1000 by omega) (by decide), hw, fun r H' r0 r1 wk => ?_⟩
    obtain ⟨j, rfl⟩ : ∃ j : Nat, r = (j : Int) := ⟨r.toNat, by omega⟩
    have hj : j < xs.length := by omega
    refine sfr (SqL.of (wk.at hlp hl)) (Lk.atI_nat (List.getElem?_eq_getElem hj)) ?_
    exact k _ _ (List.getElem_mem hj) wk
abbrev s__law_number : Stmt := top 28
theorem sc__law_number : FnScope ["_law_well", "_law_width", "_law_half", "_law_all_bits", "_law_some"] ["_law_well", "_law_width"] (defScope s__law_number) := ⟨rfl, rfl, rfl, by decide +kernel, rfl, by decide +kernel, by decide +kernel⟩
theorem ok_number {f : Addr} {fd : FuncData} (F : Fun K "_law_number" "_law_number" s__law_number f fd) (T : Txt P w K mg base A) (c__law_draw : Cal P w K mg base 1 "_law_draw" ["_law_well", "_law_many"] spDraw) : FnOk P w K mg base CX0 2 f fd ["_law_well", "_law_width"] spNumber := by
  refine F.ok sc__law_number (fun vs H Q E h => ?_) (fun cdv Ar outer s H vs Q E hr h => ?_)
  · obtain ⟨p, k, rfl, _⟩ := h
    rfl
  · obtain ⟨p, k, rfl, hk, hw, q⟩ := h
    refine ⟨_, (pss_cons (ps_par (i := 2) (j := 3) (by rfl) sc__law_number.nd rfl rfl (by decide) rfl rfl (pa_cons (pe_op op_fdiv (pe_op op_oneShl pe_int (pv 1)) pe_int) (pa_cons (pe_op op_oneShl pe_int (pv 1)) pa_nil)) (by rfl))
        (pss_cons (ps_set (i := 4) sc__law_number.nd rfl (Or.inl rfl) (pe_lst (pa_cons pe_int (pa_cons pe_int (pa_cons pe_int (pa_cons pe_int (pa_cons pe_int (pa_cons (pe_op op_sub (pv 3) pe_int) (pa_cons (pv 2) (pa_cons (pe_op op_add (pe_op op_mulW (pcal c__law_draw hr (by decide) (pa_cons (pv 0) (pa_cons (pe_op op_pow pe_int pe_int) pa_nil))) (pe_op op_pow pe_int pe_int)) (pcal c__law_draw hr (by decide) (pa_cons (pv 0) (pa_cons (pe_op op_pow pe_int pe_int) pa_nil)))) pa_nil))))))))))
        (pss_one (ps_ret (pe_op op_mod (pe_callTy call_int1 (by rfl) T.z_int (by decide +kernel) (pa_cons (pe_ix ix_list (pv 4) (pcal c__law_draw hr (by decide) (pa_cons (pv 0) (pa_cons pe_int pa_nil))) (fun _ _ => rfl)) pa_nil)) (pv 3)))))), ?_⟩
    have p0 : (0 : Int) < 2 ^ k := Int.pow_pos (by decide)
    refine spr ?_
    walk_at "lk"
    refine ⟨k, rfl, rfl, by omega, ?_⟩
    walk_at "lk"
    refine sI ⟨by decide, by decide⟩ ?_
    walk_at "lk"
    refine ⟨k, rfl, rfl, by omega, ?_⟩
    walk_at "lk"
    refine ⟨_, _, rfl, ?_⟩
    walk_at "lk"
    refine sI ⟨by decide, by decide, by decide⟩ ?_
    walk_at "lk"
    
    refine ⟨p, _, rfl, by decide, by decide, hw, fun r1 H1 a0 a1 w1 => ?_⟩
    walk_at "lk"
    refine sI ⟨by decide, by decide, by decide⟩ ?_
    walk_at "lk"
    
    refine sI (wide_mul (a := 40) (b := 40) (lt31 a0 a1) (by decide) (by decide) (by decide) (by decide)) ?_
    walk_at "lk"
    refine sI ⟨by decide, by decide, by decide⟩ ?_
    walk_at "lk"
    
    refine ⟨p, _, rfl, by decide, by decide, w1.2, fun r2 H2 b0 b1 w2 => ?_⟩
    walk_at "lk"
    refine snw (Nat.le_of_ble_eq_true rfl) fun l hl => ?_
    have w12 := w1.trans w2
    have s3 : Same H2 (upd H2 l (.lst ([0, 1, 1, 2, 3, 2 ^ k - 1, 2 ^ k / 2, r1 * 2 ^ (33 : Int).toNat + r2].map V.int))) := same_new hl
    have e3 : (upd H2 l (.lst ([0, 1, 1, 2, 3, 2 ^ k - 1, 2 ^ k / 2, r1 * 2 ^ (33 : Int).toNat + r2].map V.int))) l = some (.lst ([0, 1, 1, 2, 3, 2 ^ k - 1, 2 ^ k / 2, r1 * 2 ^ (33 : Int).toNat + r2].map V.int)) := upd_same
    have nl : l ≠ p := ne_new w12.2 hl
    show gName 4 (.ref l) _ (upd H2 l (.lst ([0, 1, 1, 2, 3, 2 ^ k - 1, 2 ^ k / 2, r1 * 2 ^ (33 : Int).toNat + r2].map V.int))) _
    generalize upd H2 l (.lst ([0, 1, 1, 2, 3, 2 ^ k - 1, 2 ^ k / 2, r1 * 2 ^ (33 : Int).toNat + r2].map V.int)) = H3 at s3 e3 ⊢
    have hlen : ([0, 1, 1, 2, 3, 2 ^ k - 1, 2 ^ k / 2, r1 * 2 ^ (33 : Int).toNat + r2] : List Int).length = 8 := rfl
    generalize ([0, 1, 1, 2, 3, 2 ^ k - 1, 2 ^ k / 2, r1 * 2 ^ (33 : Int).toNat + r2] : List Int) = zs at e3 hlen
    have w3 := w12.st s3
    walk_at "lk"
    refine ⟨p, 8, rfl, by decide, by decide, w3.2, fun j H4 j0 j1 w4 => ?_⟩
    obtain ⟨i, rfl⟩ : ∃ i : Nat, j = (i : Int) := ⟨j.toNat, by omega⟩
    have hi : i < zs.length := by omega
    refine sfr (v := .int zs[i]) (SqL.of (w4.at nl e3)) (Lk.atI_nat (by rw [List.getElem?_map, List.getElem?_eq_getElem hi]; rfl)) ?_
    walk_at "lk"
    refine sI p0 ?_
    exact q _ _ (Int.emod_nonneg _ (by omega)) (Int.emod_lt_of_pos _ p0) (w3.trans w4)
abbrev s__law_form : Stmt := top 29
theorem sc__law_form : FnScope ["_law_well", "_law_width", "_law_many", "_law_found", "_law_k"] ["_law_well", "_law_width", "_law_many"] (defScope s__law_form) := ⟨rfl, rfl, rfl, by decide +kernel, rfl, by decide +kernel, by decide +kernel⟩
theorem ok_form {f : Addr} {fd : FuncData} (F : Fun K "_law_form" "_law_form" s__law_form f fd) (T : Txt P w K mg base A) (c__law_draw : Cal P w K mg base 1 "_law_draw" ["_law_well", "_law_many"] spDraw) (c__law_number : Cal P w K mg base 2 "_law_number" ["_law_well", "_law_width"] spNumber) : FnOk P w K mg base CX0 3 f fd ["_law_well", "_law_width", "_law_many"] spForm0 := by
  refine F.ok sc__law_form (fun vs H Q E h => ?_) (fun cdv Ar outer s H vs Q E hr h => ?_)
  · obtain ⟨p, k, m, rfl, _⟩ := h
    rfl
  · obtain ⟨p, k, m, rfl, hk, hm, hw, q⟩ := h
    refine ⟨_, (pss_cons (ps_set (i := 3) sc__law_form.nd rfl (Or.inl rfl) (pe_lst (pa_cons (pe_op op_mul (pcal c__law_number hr (by decide) (pa_cons (pv 0) (pa_cons (pv 1) pa_nil))) (pe_callTy call_int1 (by rfl) T.z_int (by decide +kernel) (pa_cons (pe_cmpR op_eq (pcal c__law_draw hr (by decide) (pa_cons (pv 0) (pa_cons pe_int pa_nil))) pe_int (nomark _)) pa_nil))) pa_nil)))
        (pss_cons (ps_for PassesOwn.never rfl (pi_range1 (by rfl) T.z_range (pa_cons (pv 2) pa_nil)) (pg_name (i := 4) sc__law_form.nd rfl (Or.inl rfl)) (pss_one (ps_expr (pe_bm PySem.F.plainAttrs_list PySem.F.slot_list_append PySem.F.type_list_append mt_append (pv 3) (pa_cons (pe_op op_mul (pcal c__law_number hr (by decide) (pa_cons (pv 0) (pa_cons (pv 1) pa_nil))) (pe_callTy call_int1 (by rfl) T.z_int (by decide +kernel) (pa_cons (pe_cmpR op_gt (pcal c__law_draw hr (by decide) (pa_cons (pv 0) (pa_cons pe_int pa_nil))) pe_int (nomark _)) pa_nil))) pa_nil)))))
        (pss_one (ps_ret (pe_callTy call_tuple_of (by rfl) T.z_tuple (by decide +kernel) (pa_cons (pv 3) pa_nil)))))), ?_⟩
    walk_at "lk"
    refine ⟨p, k, rfl, hk, hw, fun r1 H1 a0 a1 w1 => ?_⟩
    walk_at "lk"
    refine ⟨p, 3, rfl, by decide, by decide, w1.2, fun r2 H2 b0 b1 w2 => ?_⟩
    walk_at "lk"
    refine sEq rfl ?_
    walk_at "lk"
    refine sI (cmul01 _) ?_
    walk_at "lk"
    obtain ⟨c0, c1⟩ := mul01 (decide (V.int r2 = V.int 0)) a0 a1
    generalize r1 * (if decide (V.int r2 = V.int 0) = true then 1 else 0) = z at c0 c1 ⊢
    refine snw (Nat.le_of_ble_eq_true rfl) fun D hD => ?_
    have w12 := w1.trans w2
    have nD : D ≠ p := ne_new w12.2 hD
    have w3 : Wk p H (upd H2 D (.lst [.int z])) := w12.st (same_new hD)
    have e3 : (upd H2 D (.lst [.int z])) D = some (.lst ([z].map V.int)) := upd_same
    have hfree : H D = none := w12.none hw hD
    generalize upd H2 D (.lst [.int z]) = H3 at w3 e3 ⊢
    walk_at "lk"
    refine ⟨_, rfl, (m : Int), rfl, by omega, by omega, ?_⟩
    rw [Int.toNat_natCast]
    refine for_range (fun i σ' H' => (∃ e, σ' = [some (.ref p), some (.int (k : Int)), some (.int (m : Int)), some (.ref D), e]) ∧ Wk p H H' ∧ ∃ f : List Int, H' D = some (.lst (f.map V.int)) ∧ f.length = i + 1 ∧ ∀ x ∈ f, 0 ≤ x ∧ x < 2 ^ k) ⟨⟨_, rfl⟩, w3, [z], e3, rfl, fun x hx => by rw [List.mem_singleton.mp hx]; exact ⟨c0, c1⟩⟩ ?_ ?_
    · rintro i σ' H' hi ⟨⟨e, rfl⟩, wk, f, hf, hl, hb⟩
      walk_at "lk"
      refine ⟨.inl ⟨rfl, _, SqL.of hf⟩, ?_⟩
      walk_at "lk"
      refine ⟨p, k, rfl, hk, wk.2, fun r3 H4 d0 d1 w4 => ?_⟩
      walk_at "lk"
      refine ⟨p, 3, rfl, by decide, by decide, w4.2, fun r4 H5 g0 g1 w5 => ?_⟩
      walk_at "lk"
      refine sI (cmul01 _) ?_
      walk_at "lk"
      obtain ⟨c0, c1⟩ := mul01 (decide (0 < r4)) d0 d1
      generalize r3 * (if decide (0 < r4) = true then 1 else 0) = z2 at c0 c1 ⊢
      have w45 := w4.trans w5
      have hf5 := w45.at nD hf
      refine ⟨D, f.map V.int, .int z2, rfl, rfl, hf5, by rw [List.length_map, hl]; exact small1000 (by omega), ?_⟩
      refine ⟨⟨_, rfl⟩, (wk.trans w45).updD hfree nD, f ++ [z2], by rw [upd_same, List.map_append]; rfl, by rw [List.length_append, hl]; rfl, fun x hx => ?_⟩
      · rcases List.mem_append.mp hx with h | h
        · exact hb x h
        · rw [List.mem_singleton.mp h]
          exact ⟨c0, c1⟩
    · rintro σ' H' ⟨⟨e, rfl⟩, wk, f, hf, hl, hb⟩
      walk_at "lk"
      refine ⟨D, _, rfl, .inl ⟨SqL.of hf, fun b hb' => q b f _ (wk.st (same_new hb')) upd_same hl hb⟩⟩
end
end K41

namespace K41
open PySem PySem.Spec PyProof.Rows L2 Lk
local macro_rules | `(tactic| walk_at "lk") => `(tactic| (repeat (first
  | with_reducible refine ssq ?_ | with_reducible refine sas ?_ | with_reducible refine sgn ?_ | ((with_reducible show tVar _ _ _ _); refine sv rfl ?_) | with_reducible refine sc ?_ | with_reducible refine sop ?_ | with_reducible refine sun ?_
  | with_reducible refine sI0 ?_ | with_reducible refine sU ?_ | with_reducible refine stt ?_ | with_reducible refine stB ?_ | with_reducible refine sbl ?_ | with_reducible refine snt ?_ | with_reducible refine sif ?_ | with_reducible refine scB ?_
  | with_reducible refine scn ?_ | with_reducible refine snl ?_ | with_reducible refine scl ?_ | with_reducible refine stu ?_ | with_reducible refine sli ?_ | with_reducible refine sdr ?_ | with_reducible refine srt ?_ | with_reducible refine snx ?_ | with_reducible refine sfor ?_ | with_reducible refine sils ?_ | with_reducible refine sien ?_ | with_reducible refine sor ?_ | with_reducible refine sfg ?_
  | with_reducible refine sav ?_ | with_reducible refine sov ?_ | with_reducible refine snv ?_ | with_reducible refine sch ?_ | with_reducible refine san ?_ | with_reducible refine ssll ?_ | with_reducible refine spt ?_ | with_reducible refine snp ?_ | with_reducible refine sin ?_ | with_reducible refine sfl ?_ | with_reducible refine sfd ?_ | with_reducible refine sbm ?_ | with_reducible refine sifx ?_
  | ((with_reducible show Or _ _); first | refine Or.inl ⟨_, rfl, ?_⟩ | refine Or.inr ⟨_, rfl, ?_⟩))))

/-- a drawn row: good, its numbers reduced -/
def spRow : Sp := fun vs H Q _ => ∃ (p l : Addr) (k : Nat) (m j : Int) (ns : List Str), vs = [.ref p, .int (k : Int), .ref l, .int m, .int j] ∧ 1 ≤ k ∧ k ≤ 64 ∧ 1 ≤ m ∧ m ≤ 25 ∧ 0 ≤ j ∧ Wl H p ∧ l ≠ p ∧ H l = some (.lst (ns.map V.str)) ∧ 1 ≤ ns.length ∧ ns.length ≤ 6 ∧
  ∀ (v : V) (r : LRow) (H' : Hp), Wk p H H' → RowH H' v r → RowOk ns m r → r.low k = r → Q v H'
theorem red_map {f : List Int} {k : Nat} (h : ∀ x ∈ f, 0 ≤ x ∧ x < 2 ^ k) : f.map (· % 2 ^ k) = f := by
  induction f with
  | nil => rfl
  | cons x f ih =>
    rw [List.map_cons, ih fun y hy => h y (List.mem_cons_of_mem _ hy)]
    have := h x (List.mem_cons_self ..)
    rw [Int.emod_eq_of_lt this.1 this.2]

section
variable {P : Program} {w : World} {K : PySem.W.Frag} {mg : Str → Option Value} {base : Heap} {A : Ad}
abbrev s__law_row : Stmt := top 30
theorem sc__law_row : FnScope ["_law_well", "_law_width", "_law_names", "_law_total", "_law_k", "_law_ahead", "_law_kind", "_law_turn"] ["_law_well", "_law_width", "_law_names", "_law_total", "_law_k"] (defScope s__law_row) := ⟨rfl, rfl, rfl, by decide +kernel, rfl, by decide +kernel, by decide +kernel⟩
theorem ok_row {f : Addr} {fd : FuncData} (F : Fun K "_law_row" "_law_row" s__law_row f fd) (T : Txt P w K mg base A) (c__law_draw : Cal P w K mg base 1 "_law_draw" ["_law_well", "_law_many"] spDraw) (c__law_one : Cal P w K mg base 2 "_law_one" ["_law_well", "_law_some"] spOne) (c__law_form : Cal P w K mg base 3 "_law_form" ["_law_well", "_law_width", "_law_many"] spForm0) : FnOk P w K mg base CX0 4 f fd ["_law_well", "_law_width", "_law_names", "_law_total", "_law_k"] spRow := by
  refine F.ok sc__law_row (fun vs H Q E h => ?_) (fun cdv Ar outer s H vs Q E hr h => ?_)
  · obtain ⟨p, l, k, m, j, ns, rfl, _⟩ := h
    rfl
  · obtain ⟨p, l, k, m, j, ns, rfl, k1, k2, m1, m2, j0, hw, nl, hl, n1, n2, q⟩ := h
    refine ⟨_, (pss_cons (ps_set (i := 5) sc__law_row.nd rfl (Or.inl rfl) (pe_ix ix_list (pe_lst (pa_cons (pe_op op_mod (pe_callTy call_int1 (by rfl) T.z_int (by decide +kernel) (pa_cons (pe_op op_add (pv 4) pe_int) pa_nil)) (pv 3)) (pa_cons (pe_op op_mod (pe_callTy call_int1 (by rfl) T.z_int (by decide +kernel) (pa_cons (pe_op op_add (pv 4) pe_int) pa_nil)) (pv 3)) (pa_cons (pcal c__law_draw hr (by decide) (pa_cons (pv 0) (pa_cons (pv 3) pa_nil))) pa_nil)))) (pcal c__law_draw hr (by decide) (pa_cons (pv 0) (pa_cons pe_int pa_nil))) (fun _ _ => rfl)))
        (pss_cons (ps_set (i := 6) sc__law_row.nd rfl (Or.inl rfl) (pcal c__law_one hr (by decide) (pa_cons (pv 0) (pa_cons (pe_lst (pa_cons pe_str (pa_cons pe_str (pa_cons pe_str (pa_cons pe_str (pa_cons pe_str (pa_cons pe_str (pa_cons pe_str (pa_cons pe_str (pa_cons pe_str pa_nil)))))))))) pa_nil))))
        (pss_cons (ps_if (pt_cmpR op_eq (pv 6) pe_str (nomark _)) (pss_one (ps_ret (pe_tup (pa_cons pe_str (pa_cons (pcal c__law_one hr (by decide) (pa_cons (pv 0) (pa_cons (pv 2) pa_nil))) (pa_cons (pcal c__law_form hr (by decide) (pa_cons (pv 0) (pa_cons (pv 1) (pa_cons (pe_callB call_len_seq (by rfl) T.z_len PySem.boot_len (pa_cons (pv 2) pa_nil)) pa_nil)))) (pa_cons (pv 5) pa_nil))))))) pss_nil)
        (pss_cons (ps_if (pt_cmpR op_eq (pv 6) pe_str (nomark _)) (pss_one (ps_ret (pe_tup (pa_cons pe_str (pa_cons (pcal c__law_form hr (by decide) (pa_cons (pv 0) (pa_cons (pv 1) (pa_cons (pe_callB call_len_seq (by rfl) T.z_len PySem.boot_len (pa_cons (pv 2) pa_nil)) pa_nil)))) (pa_cons (pv 5) pa_nil)))))) pss_nil)
        (pss_cons (ps_if (pt_cmpR op_eq (pv 6) pe_str (nomark _)) (pss_one (ps_ret (pe_tup (pa_cons pe_str (pa_cons (pcal c__law_one hr (by decide) (pa_cons (pv 0) (pa_cons (pv 2) pa_nil))) (pa_cons (pv 5) pa_nil)))))) pss_nil)
        (pss_cons (ps_if (pt_cmpR op_eq (pv 6) pe_str (nomark _)) (pss_one (ps_ret (pe_tup (pa_cons pe_str (pa_cons (pe_callTy call_tupOf (by rfl) T.z_tuple (by decide +kernel) (pa_cons (pe_op op_cat (pe_lst (pa_cons (pv 5) pa_nil)) (pe_lc (own := [("_law_turn", 7)]) (g := gName 7) (tt := tYes) rfl sc__law_row.nd (pi_range1 (by rfl) T.z_range (pa_cons (pcal c__law_draw hr (by decide) (pa_cons (pv 0) (pa_cons pe_int pa_nil))) pa_nil)) (blkOk_by (own := [("_law_turn", 7)]) (N := ["_law_well", "_law_width", "_law_names", "_law_total", "_law_k", "_law_ahead", "_law_kind", "_law_turn"]) (sc := defScope s__law_row) (by decide +kernel)) (fun _ _ _ _ _ => pg_name (i := 7) sc__law_row.nd rfl (Or.inl rfl)) (fun _ _ _ _ _ => pts_nil) (fun _ _ _ _ _ => (pcal c__law_draw hr (by decide) (pa_cons (pv 0) (pa_cons (pv 3) pa_nil)))))) pa_nil)) pa_nil))))) pss_nil)
        (pss_cons (ps_if (PW.pt (pw_and (pt_cmpR op_eq (pv 6) pe_str (nomark _)) (pw_and1 (pt_cmpR op_eq (pcal c__law_draw hr (by decide) (pa_cons (pv 0) (pa_cons pe_int pa_nil))) pe_int (nomark _))))) (pss_one (ps_ret (pe_tup (pa_cons pe_str pa_nil)))) pss_nil)
        (pss_one (ps_ret (pe_ifExp (pt_cmpR op_eq (pcal c__law_draw hr (by decide) (pa_cons (pv 0) (pa_cons pe_int pa_nil))) pe_int (nomark _)) (pe_tup (pa_cons pe_str (pa_cons (pv 5) pa_nil))) (pe_tup (pa_cons pe_str (pa_cons (pe_op op_catA (pe_op op_repN (pe_tup (pa_cons pe_int pa_nil)) (pe_callB call_len_seq (by rfl) T.z_len PySem.boot_len (pa_cons (pv 2) pa_nil))) (pe_tup (pa_cons pe_int pa_nil))) (pa_cons (pv 5) pa_nil)))))))))))))), ?_⟩
    have m0 : 0 < m := by omega
    walk_at "lk"
    refine sI m0 ?_
    walk_at "lk"
    refine sI m0 ?_
    walk_at "lk"
    refine ⟨p, m, rfl, m0, Nat.lt_of_le_of_lt (show m.natAbs ≤ 25 by omega) (by decide), hw, fun r1 H1 r0 r1' w1 => ?_⟩
    walk_at "lk"
    refine snw (Nat.le_of_ble_eq_true rfl) fun d hd => ?_
    have w2 : Wk p H (upd H1 d (.lst ([(j + 1) % m, (j + 1) % m, r1].map V.int))) := w1.st (same_new hd)
    have e2 : (upd H1 d (.lst ([(j + 1) % m, (j + 1) % m, r1].map V.int))) d = some (.lst ([(j + 1) % m, (j + 1) % m, r1].map V.int)) := upd_same
    have nd : d ≠ p := ne_new w1.2 hd
    walk_at "lk"
    show spDraw _ (upd H1 d (.lst ([(j + 1) % m, (j + 1) % m, r1].map V.int))) _ _
    generalize upd H1 d (.lst ([(j + 1) % m, (j + 1) % m, r1].map V.int)) = H2 at w2 e2 ⊢
    have zb : ∀ z ∈ [(j + 1) % m, (j + 1) % m, r1], 0 ≤ z ∧ z < m := fun z hz => by
      have b0 := Int.emod_nonneg (j + 1) (show m ≠ 0 by omega)
      have b1 := Int.emod_lt_of_pos (j + 1) m0
      simp only [List.mem_cons, List.not_mem_nil, or_false] at hz
      rcases hz with rfl | rfl | rfl
      · exact ⟨b0, b1⟩
      · exact ⟨b0, b1⟩
      · exact ⟨r0, r1'⟩
    have zl : [(j + 1) % m, (j + 1) % m, r1].length = 3 := rfl
    generalize [(j + 1) % m, (j + 1) % m, r1] = zs at e2 zb zl
    refine ⟨p, 3, rfl, by decide, by decide, w2.2, fun i3 H3 i0 i1 w3 => ?_⟩
    obtain ⟨i, rfl⟩ : ∃ i : Nat, i3 = (i : Int) := ⟨i3.toNat, by omega⟩
    have hi : i < zs.length := by omega
    refine sfr (v := .int zs[i]) (SqL.of (w3.at nd e2)) (Lk.atI_nat (by rw [List.getElem?_map, List.getElem?_eq_getElem hi]; rfl)) ?_
    obtain ⟨a0, a1⟩ := zb _ (List.getElem_mem hi)
    generalize zs[i] = a at a0 a1 ⊢
    have w23 := w2.trans w3
    walk_at "lk"
    refine snw (Nat.le_of_ble_eq_true rfl) fun c hc => ?_
    have w4 := w23.st (same_new (o := .lst [.str "set", .str "set", .str "set", .str "say", .str "ask", .str "choose", .str "choose", .str "look", .str "stop"]) hc)
    have e4 : (upd H3 c (.lst [.str "set", .str "set", .str "set", .str "say", .str "ask", .str "choose", .str "choose", .str "look", .str "stop"])) c = some (.lst [.str "set", .str "set", .str "set", .str "say", .str "ask", .str "choose", .str "choose", .str "look", .str "stop"]) := upd_same
    have nc : c ≠ p := ne_new w23.2 hc
    walk_at "lk"
    generalize upd H3 c (.lst [.str "set", .str "set", .str "set", .str "say", .str "ask", .str "choose", .str "choose", .str "look", .str "stop"]) = H4 at w4 e4 ⊢
    refine ⟨p, c, _, rfl, w4.2, nc, e4, Nat.le_of_ble_eq_true rfl, Nat.le_of_ble_eq_true rfl, fun v H5 hv w5' => ?_⟩
    have w5 := w4.trans w5'
    have hv' : v = .str "set" ∨ v = .str "say" ∨ v = .str "ask" ∨ v = .str "choose" ∨ v = .str "look" ∨ v = .str "stop" := by
      simp only [List.mem_cons, List.not_mem_nil, or_false] at hv
      rcases hv with h | h | h | h | h | h | h | h | h <;> simp [h]
    clear hv w5' e4 w4 w3 w2 w1
    walk_at "lk"
    rcases hv' with rfl | rfl | rfl | rfl | rfl | rfl
    · refine sEq rfl ?_
      walk_at "lk"
      refine itt_ (by decide +kernel) ?_
      walk_at "lk"
      refine ⟨p, l, _, rfl, w5.2, nl, w5.at nl hl, by rw [List.length_map]; omega, by rw [List.length_map]; omega, fun v H6 hv w6 => ?_⟩
      obtain ⟨n, hn, rfl⟩ := List.mem_map.mp hv
      have w56 := w5.trans w6
      walk_at "lk"
      refine ⟨l, _, rfl, .inl (SqL.of (w56.at nl hl)), ?_⟩
      rw [List.length_map]
      walk_at "lk"
      refine ⟨p, k, ns.length, rfl, k2, n2, w56.2, fun b f HF wF hb fl fb => ?_⟩
      walk_at "lk"
      refine snw (Nat.le_of_ble_eq_true rfl) fun t ht => ?_
      refine q _ (.set n f a) _ ((w56.trans wF).st (same_new ht)) ⟨t, b, rfl, upd_same, same_new ht _ _ hb⟩ ⟨hn, by rw [fl], a0, a1⟩ ?_
      show LRow.set n (f.map (· % 2 ^ k)) a = LRow.set n f a
      rw [red_map fb]
    · refine sEq rfl ?_
      walk_at "lk"
      refine iff_ (by decide +kernel) ?_
      walk_at "lk"
      refine sEq rfl ?_
      walk_at "lk"
      refine itt_ (by decide +kernel) ?_
      walk_at "lk"
      refine ⟨l, _, rfl, .inl (SqL.of (w5.at nl hl)), ?_⟩
      rw [List.length_map]
      walk_at "lk"
      refine ⟨p, k, ns.length, rfl, k2, n2, w5.2, fun b f HF wF hb fl fb => ?_⟩
      walk_at "lk"
      refine snw (Nat.le_of_ble_eq_true rfl) fun t ht => ?_
      refine q _ (.say f a) _ ((w5.trans wF).st (same_new ht)) ⟨t, b, rfl, upd_same, same_new ht _ _ hb⟩ ⟨by rw [fl], a0, a1⟩ ?_
      show LRow.say (f.map (· % 2 ^ k)) a = LRow.say f a
      rw [red_map fb]
    · refine sEq rfl ?_
      walk_at "lk"
      refine iff_ (by decide +kernel) ?_
      walk_at "lk"
      refine sEq rfl ?_
      walk_at "lk"
      refine iff_ (by decide +kernel) ?_
      walk_at "lk"
      refine sEq rfl ?_
      walk_at "lk"
      refine itt_ (by decide +kernel) ?_
      walk_at "lk"
      refine ⟨p, l, _, rfl, w5.2, nl, w5.at nl hl, by rw [List.length_map]; omega, by rw [List.length_map]; omega, fun v H6 hv w6 => ?_⟩
      obtain ⟨n, hn, rfl⟩ := List.mem_map.mp hv
      have w56 := w5.trans w6
      walk_at "lk"
      refine snw (Nat.le_of_ble_eq_true rfl) fun t ht => ?_
      exact q _ (.ask n a) _ (w56.st (same_new ht)) ⟨t, rfl, upd_same⟩ ⟨hn, a0, a1⟩ rfl
    · refine sEq rfl ?_
      walk_at "lk"
      refine iff_ (by decide +kernel) ?_
      walk_at "lk"
      refine sEq rfl ?_
      walk_at "lk"
      refine iff_ (by decide +kernel) ?_
      walk_at "lk"
      refine sEq rfl ?_
      walk_at "lk"
      refine iff_ (by decide +kernel) ?_
      walk_at "lk"
      refine sEq rfl ?_
      walk_at "lk"
      refine itt_ (by decide +kernel) ?_
      walk_at "lk"
      refine snw (Nat.le_of_ble_eq_true rfl) fun d hd => ?_
      have w6 := w5.st (same_new (o := .lst [.int a]) hd)
      have ed : (upd H5 d (.lst [.int a])) d = some (.lst [.int a]) := upd_same
      have nd : d ≠ p := ne_new w5.2 hd
      generalize upd H5 d (.lst [.int a]) = H6 at w6 ed ⊢
      unfold tLc iRng1
      walk_at "lk"
      refine ⟨p, 3, rfl, by decide, by decide, w6.2, fun c H7 c0 c1 w7 => ?_⟩
      have ed7 := w7.at nd ed
      have w67 := w6.trans w7
      walk_at "lk"
      refine ⟨c, rfl, by omega, by omega, fun D hD => ?_⟩
      have nD : D ≠ p := ne_new w67.2 hD
      refine lc_range (lo := 0) (n := c.toNat) (fun i H' => Wk p H7 H' ∧ ∃ ks : List Int, H' D = some (.lst (ks.map V.int)) ∧ ks.length = i ∧ ∀ x ∈ ks, 0 ≤ x ∧ x < m) ⟨Wk.of w67.2 (same_new hD), [], upd_same, rfl, fun x hx => by cases hx⟩ ?_ ?_
      · rintro i H8 hi ⟨w8, ks, hks, hlk, hkb⟩
        refine ⟨rfl, ?_⟩
        unfold tYes
        simp only [if_true]
        walk_at "lk"
        refine ⟨p, m, rfl, by omega, Nat.lt_of_le_of_lt (show m.natAbs ≤ 25 by omega) (by decide), w8.2, fun y H9 y0 y1 w9 => ?_⟩
        refine ⟨_, w9.at nD hks, by rw [List.length_map, hlk]; exact small1000 (by omega), (w8.trans w9).updD hD nD, ks ++ [y], by rw [upd_same, List.map_append]; rfl, by rw [List.length_append, hlk]; rfl, fun x hx => ?_⟩
        rcases List.mem_append.mp hx with h | h
        · exact hkb x h
        · rw [List.mem_singleton.mp h]
          exact ⟨y0, y1⟩
      · rintro H8 ⟨w8, ks, hks, hlk, hkb⟩
        have w78 := w67.trans w8
        refine ⟨d, D, _, _, rfl, rfl, w8.at nd ed7, hks, by rw [List.length_map, hlk]; exact Nat.le_of_lt (small1000 (show 1 + c.toNat ≤ 1000 by omega)), fun g hg => ?_⟩
        walk_at "lk"
        have w9 := w78.st (same_new (o := .lst ([V.int a] ++ ks.map V.int)) hg)
        have eg : (upd H8 g (.lst ([V.int a] ++ ks.map V.int))) g = some (.lst ((a :: ks).map V.int)) := upd_same
        generalize upd H8 g (.lst ([V.int a] ++ ks.map V.int)) = H9 at w9 eg ⊢
        refine ⟨g, _, rfl, .inl ⟨SqL.of eg, fun u hu => ?_⟩⟩
        walk_at "lk"
        refine snw (Nat.le_of_ble_eq_true rfl) fun t ht => ?_
        refine q _ (.choose (a :: ks)) _ ((w9.st (same_new hu)).st (same_new ht)) ⟨t, u, rfl, upd_same, same_new ht _ _ upd_same⟩ ⟨by rw [List.length_cons]; omega, by rw [List.length_cons]; omega, fun x hx => ?_⟩ rfl
        rcases List.mem_cons.mp hx with rfl | h
        · exact ⟨a0, a1⟩
        · exact hkb x h
    · refine sEq rfl ?_
      walk_at "lk"
      refine iff_ (by decide +kernel) ?_
      walk_at "lk"
      refine sEq rfl ?_
      walk_at "lk"
      refine iff_ (by decide +kernel) ?_
      walk_at "lk"
      refine sEq rfl ?_
      walk_at "lk"
      refine iff_ (by decide +kernel) ?_
      walk_at "lk"
      refine sEq rfl ?_
      walk_at "lk"
      refine iff_ (by decide +kernel) ?_
      walk_at "lk"
      refine sEq rfl ?_
      walk_at "lk"
      refine iff_ (by decide +kernel) ?_
      refine iff_ rfl ?_
      walk_at "lk"
      refine ⟨p, 3, rfl, by decide, by decide, w5.2, fun r8 H8 _ _ w8' => ?_⟩
      have w8 := w5.trans w8'
      walk_at "lk"
      refine sEq rfl ?_
      walk_at "lk"
      refine ite2 (fun _ => ?_) (fun _ => ?_)
      · walk_at "lk"
        refine snw (Nat.le_of_ble_eq_true rfl) fun t ht => ?_
        exact q _ (.look a) _ (w8.st (same_new ht)) ⟨t, rfl, upd_same⟩ ⟨a0, a1⟩ rfl
      · walk_at "lk"
        refine snw (Nat.le_of_ble_eq_true rfl) fun t0 ht0 => ?_
        have sA : Same H8 (upd H8 t0 (.tup [.int 0])) := same_new ht0
        have eA : (upd H8 t0 (.tup [.int 0])) t0 = some (.tup [.int 0]) := upd_same
        generalize upd H8 t0 (.tup [.int 0]) = HA at sA eA ⊢
        have wA := w8.st sA
        walk_at "lk"
        refine ⟨l, _, rfl, .inl (SqL.of (wA.at nl hl)), ?_⟩
        rw [List.length_map]
        refine s_repN (SqT.of eA) n1 (by omega) fun tb HB sB eB => ?_
        walk_at "lk"
        refine snw (Nat.le_of_ble_eq_true rfl) fun t1 ht1 => ?_
        have sC : Same HB (upd HB t1 (.tup [.int 1])) := same_new ht1
        have eC : (upd HB t1 (.tup [.int 1])) t1 = some (.tup [.int 1]) := upd_same
        generalize upd HB t1 (.tup [.int 1]) = HC at sC eC ⊢
        refine s_catA (same_sqT sC eB) (SqT.of eC) (by cases hz : ns.length with
          | zero => omega
          | succ z => simp [List.replicate_succ]) (by simp) (by rw [List.length_replicate]; simp; omega) fun td htd => ?_
        have sD : Same HC (upd HC td (.tup (List.replicate ns.length (.int 0) ++ [.int 1]))) := same_new htd
        have eD : (upd HC td (.tup (List.replicate ns.length (.int 0) ++ [.int 1]))) td = some (.tup ((List.replicate ns.length (0 : Int) ++ [1]).map V.int)) := by rw [upd_same, List.map_append, List.map_replicate]; rfl
        generalize upd HC td (.tup (List.replicate ns.length (.int 0) ++ [.int 1])) = HD at sD eD ⊢
        walk_at "lk"
        refine snw (Nat.le_of_ble_eq_true rfl) fun t ht => ?_
        have pk : (1 : Int) < 2 ^ k := Lk.one_lt_pow k1
        have fb : ∀ x ∈ (List.replicate ns.length 0 ++ [1] : List Int), 0 ≤ x ∧ x < 2 ^ k := fun x hx => by
          rcases List.mem_append.mp hx with h | h
          · rw [List.eq_of_mem_replicate h]
            exact ⟨by decide, by omega⟩
          · rw [List.mem_singleton.mp h]
            exact ⟨by decide, pk⟩
        refine q _ (.say (List.replicate ns.length 0 ++ [1]) a) _ ((((wA.st sB).st sC).st sD).st (same_new ht)) ⟨t, td, rfl, upd_same, same_new ht _ _ eD⟩ ⟨by rw [List.length_append, List.length_replicate]; rfl, a0, a1⟩ ?_
        show LRow.say (List.map (· % 2 ^ k) _) a = _
        rw [red_map fb]
    · refine sEq rfl ?_
      walk_at "lk"
      refine iff_ (by decide +kernel) ?_
      walk_at "lk"
      refine sEq rfl ?_
      walk_at "lk"
      refine iff_ (by decide +kernel) ?_
      walk_at "lk"
      refine sEq rfl ?_
      walk_at "lk"
      refine iff_ (by decide +kernel) ?_
      walk_at "lk"
      refine sEq rfl ?_
      walk_at "lk"
      refine iff_ (by decide +kernel) ?_
      walk_at "lk"
      refine sEq rfl ?_
      walk_at "lk"
      refine itt_ (by decide +kernel) ?_
      walk_at "lk"
      refine ⟨p, 2, rfl, by decide, by decide, w5.2, fun r6 H6 _ _ w6' => ?_⟩
      have w6 := w5.trans w6'
      walk_at "lk"
      refine sEq rfl ?_
      walk_at "lk"
      refine ite2 (fun _ => ?_) (fun _ => ?_)
      · walk_at "lk"
        refine snw (Nat.le_of_ble_eq_true rfl) fun t ht => ?_
        exact q _ .stop _ (w6.st (same_new ht)) ⟨t, rfl, upd_same⟩ trivial rfl
      · walk_at "lk"
        refine ⟨p, 3, rfl, by decide, by decide, w6.2, fun r8 H8 _ _ w8' => ?_⟩
        have w8 := w6.trans w8'
        walk_at "lk"
        refine sEq rfl ?_
        walk_at "lk"
        refine ite2 (fun _ => ?_) (fun _ => ?_)
        · walk_at "lk"
          refine snw (Nat.le_of_ble_eq_true rfl) fun t ht => ?_
          exact q _ (.look a) _ (w8.st (same_new ht)) ⟨t, rfl, upd_same⟩ ⟨a0, a1⟩ rfl
        · walk_at "lk"
          refine snw (Nat.le_of_ble_eq_true rfl) fun t0 ht0 => ?_
          have sA : Same H8 (upd H8 t0 (.tup [.int 0])) := same_new ht0
          have eA : (upd H8 t0 (.tup [.int 0])) t0 = some (.tup [.int 0]) := upd_same
          generalize upd H8 t0 (.tup [.int 0]) = HA at sA eA ⊢
          have wA := w8.st sA
          walk_at "lk"
          refine ⟨l, _, rfl, .inl (SqL.of (wA.at nl hl)), ?_⟩
          rw [List.length_map]
          refine s_repN (SqT.of eA) n1 (by omega) fun tb HB sB eB => ?_
          walk_at "lk"
          refine snw (Nat.le_of_ble_eq_true rfl) fun t1 ht1 => ?_
          have sC : Same HB (upd HB t1 (.tup [.int 1])) := same_new ht1
          have eC : (upd HB t1 (.tup [.int 1])) t1 = some (.tup [.int 1]) := upd_same
          generalize upd HB t1 (.tup [.int 1]) = HC at sC eC ⊢
          refine s_catA (same_sqT sC eB) (SqT.of eC) (by cases hz : ns.length with
            | zero => omega
            | succ z => simp [List.replicate_succ]) (by simp) (by rw [List.length_replicate]; simp; omega) fun td htd => ?_
          have sD : Same HC (upd HC td (.tup (List.replicate ns.length (.int 0) ++ [.int 1]))) := same_new htd
          have eD : (upd HC td (.tup (List.replicate ns.length (.int 0) ++ [.int 1]))) td = some (.tup ((List.replicate ns.length (0 : Int) ++ [1]).map V.int)) := by rw [upd_same, List.map_append, List.map_replicate]; rfl
          generalize upd HC td (.tup (List.replicate ns.length (.int 0) ++ [.int 1])) = HD at sD eD ⊢
          walk_at "lk"
          refine snw (Nat.le_of_ble_eq_true rfl) fun t ht => ?_
          have pk : (1 : Int) < 2 ^ k := Lk.one_lt_pow k1
          have fb : ∀ x ∈ (List.replicate ns.length 0 ++ [1] : List Int), 0 ≤ x ∧ x < 2 ^ k := fun x hx => by
            rcases List.mem_append.mp hx with h | h
            · rw [List.eq_of_mem_replicate h]
              exact ⟨by decide, by omega⟩
            · rw [List.mem_singleton.mp h]
              exact ⟨by decide, pk⟩
          refine q _ (.say (List.replicate ns.length 0 ++ [1]) a) _ ((((wA.st sB).st sC).st sD).st (same_new ht)) ⟨t, td, rfl, upd_same, same_new ht _ _ eD⟩ ⟨by rw [List.length_append, List.length_replicate]; rfl, a0, a1⟩ ?_
          show LRow.say (List.map (· % 2 ^ k) _) a = _
          rw [red_map fb]
end
end K41

namespace K41
open PySem PySem.Spec PyProof.Rows L2 Lk
local macro_rules | `(tactic| walk_at "lk") => `(tactic| (repeat (first
  | with_reducible refine ssq ?_ | with_reducible refine sas ?_ | with_reducible refine sgn ?_ | ((with_reducible show tVar _ _ _ _); refine sv rfl ?_) | with_reducible refine sc ?_ | with_reducible refine sop ?_ | with_reducible refine sun ?_
  | with_reducible refine sI0 ?_ | with_reducible refine sU ?_ | with_reducible refine stt ?_ | with_reducible refine stB ?_ | with_reducible refine sbl ?_ | with_reducible refine snt ?_ | with_reducible refine sif ?_ | with_reducible refine scB ?_
  | with_reducible refine scn ?_ | with_reducible refine snl ?_ | with_reducible refine scl ?_ | with_reducible refine stu ?_ | with_reducible refine sli ?_ | with_reducible refine sdr ?_ | with_reducible refine srt ?_ | with_reducible refine snx ?_ | with_reducible refine sfor ?_ | with_reducible refine sils ?_ | with_reducible refine sien ?_ | with_reducible refine sor ?_ | with_reducible refine sfg ?_
  | with_reducible refine sav ?_ | with_reducible refine sov ?_ | with_reducible refine snv ?_ | with_reducible refine sch ?_ | with_reducible refine san ?_ | with_reducible refine ssll ?_ | with_reducible refine spt ?_ | with_reducible refine snp ?_ | with_reducible refine sin ?_ | with_reducible refine sfl ?_ | with_reducible refine sfd ?_ | with_reducible refine sbm ?_ | with_reducible refine sifx ?_
  | ((with_reducible show Or _ _); first | refine Or.inl ⟨_, rfl, ?_⟩ | refine Or.inr ⟨_, rfl, ?_⟩))))

def GoodR (ns : List Str) (m : Int) (k : Nat) (rs : List LRow) : Prop := ∀ r ∈ rs, RowOk ns m r ∧ r.low k = r
def spRows : Sp := fun vs H Q _ => ∃ (p l : Addr) (k m : Nat) (ns : List Str), vs = [.ref p, .int (k : Int), .ref l, .int (m : Int)] ∧ 1 ≤ k ∧ k ≤ 64 ∧ 1 ≤ m ∧ m ≤ 25 ∧ Wl H p ∧ l ≠ p ∧ H l = some (.lst (ns.map V.str)) ∧ 1 ≤ ns.length ∧ ns.length ≤ 6 ∧
  ∀ (D : Addr) (us : List V) (rs : List LRow) (H' : Hp), Wk p H H' → H D = none → H' D = some (.lst us) → RowsH H' us rs → rs.length = m → GoodR ns m k rs → Q (.ref D) H'
def spGrown : Sp := fun vs H Q _ => ∃ (p b : Addr) (k : Nat) (f : List Int), vs = [.ref p, .ref b, .int (2 ^ k)] ∧ k ≤ 64 ∧ Wl H p ∧ H b = some (.tup (f.map V.int)) ∧ f.length ≤ 100 ∧
  ∀ (t : Addr) (g : List Int) (H' : Hp), Wk p H H' → H' t = some (.tup (g.map V.int)) → g.length = f.length → g.map (· % 2 ^ k) = f.map (· % 2 ^ k) → Q (.ref t) H'
def spGrownRow : Sp := fun vs H Q _ => ∃ (p : Addr) (v : V) (k : Nat) (r : LRow) (ns : List Str) (m : Int), vs = [.ref p, v, .int (2 ^ k)] ∧ k ≤ 64 ∧ Wl H p ∧ RowH H v r ∧ RowOk ns m r ∧ ns.length ≤ 6 ∧
  ∀ (u : V) (r' : LRow) (H' : Hp), Wk p H H' → RowH H' u r' → r'.low k = r.low k → RowOk ns m r' → Q u H'

section
variable {P : Program} {w : World} {K : PySem.W.Frag} {mg : Str → Option Value} {base : Heap} {A : Ad}
abbrev s__law_rows : Stmt := top 31
theorem sc__law_rows : FnScope ["_law_well", "_law_width", "_law_names", "_law_total", "_law_k"] ["_law_well", "_law_width", "_law_names", "_law_total"] (defScope s__law_rows) := ⟨rfl, rfl, rfl, by decide +kernel, rfl, by decide +kernel, by decide +kernel⟩
theorem ok_rows {f : Addr} {fd : FuncData} (F : Fun K "_law_rows" "_law_rows" s__law_rows f fd) (T : Txt P w K mg base A) (c__law_row : Cal P w K mg base 4 "_law_row" ["_law_well", "_law_width", "_law_names", "_law_total", "_law_k"] spRow) : FnOk P w K mg base CX0 5 f fd ["_law_well", "_law_width", "_law_names", "_law_total"] spRows := by
  refine F.ok sc__law_rows (fun vs H Q E h => ?_) (fun cdv Ar outer s H vs Q E hr h => ?_)
  · obtain ⟨p, l, k, m, ns, rfl, _⟩ := h
    rfl
  · obtain ⟨p, l, k, m, ns, rfl, k1, k2, m1, m2, hw, nl, hl, n1, n2, q⟩ := h
    refine ⟨_, (pss_one (ps_ret (pe_lc (own := [("_law_k", 4)]) (g := gName 4) (tt := tYes) rfl sc__law_rows.nd (pi_range1 (by rfl) T.z_range (pa_cons (pv 3) pa_nil)) (blkOk_by (own := [("_law_k", 4)]) (N := ["_law_well", "_law_width", "_law_names", "_law_total", "_law_k"]) (sc := defScope s__law_rows) (by decide +kernel)) (fun _ _ _ _ _ => pg_name (i := 4) sc__law_rows.nd rfl (Or.inl rfl)) (fun _ _ _ _ _ => pts_nil) (fun _ _ _ _ _ => (pcal c__law_row hr (by decide) (pa_cons (pv 0) (pa_cons (pv 1) (pa_cons (pv 2) (pa_cons (pv 3) (pa_cons (pv 4) pa_nil)))))))))), ?_⟩
    walk_at "lk"
    unfold tLc iRng1
    walk_at "lk"
    refine ⟨(m : Int), rfl, by omega, by omega, fun D hD => ?_⟩
    have nD : D ≠ p := ne_new hw hD
    rw [Int.toNat_natCast]
    refine lc_range (lo := 0) (n := m) (fun i H' => Wk p H H' ∧ ∃ us rs, H' D = some (.lst us) ∧ RowsH H' us rs ∧ rs.length = i ∧ GoodR ns m k rs) ⟨Wk.of hw (same_new hD), [], [], upd_same, .nil, rfl, fun r hr => by cases hr⟩ ?_ ?_
    · rintro i H1 hi ⟨w1, us, rs, h1, h2, h3, h4⟩
      refine ⟨rfl, ?_⟩
      unfold tYes
      simp only [if_true]
      walk_at "lk"
      refine ⟨p, l, k, m, 0 + (i : Int), ns, rfl, k1, k2, by omega, by omega, by omega, w1.2, nl, w1.at nl hl, n1, n2, fun v r H2 w2 hv hok hlow => ?_⟩
      have e2 := w2.at nD h1
      have t2 : Ts H2 (upd H2 D (.lst (us ++ [v]))) := Ts.lst e2
      refine ⟨us, e2, by rw [h2.len, h3]; exact small1000 (by omega), (w1.trans w2).updD hD nD, us ++ [v], rs ++ [r], upd_same, ((h2.ts (w2.ts w1.2)).ts t2).append (.cons (hv.ts t2) .nil), by rw [List.length_append, h3]; rfl, fun x hx => ?_⟩
      rcases List.mem_append.mp hx with h | h
      · exact h4 x h
      · rw [List.mem_singleton.mp h]
        exact ⟨hok, hlow⟩
    · rintro H1 ⟨w1, us, rs, h1, h2, h3, h4⟩
      exact q D us rs H1 w1 hD h1 h2 h3 h4
end
end K41

namespace K41
open PySem PySem.Spec PyProof.Rows L2 RZ Lk
local macro_rules | `(tactic| walk_at "lk") => `(tactic| (repeat (first
  | with_reducible refine ssq ?_ | with_reducible refine sas ?_ | with_reducible refine sgn ?_ | ((with_reducible show tVar _ _ _ _); refine sv rfl ?_) | with_reducible refine sc ?_ | with_reducible refine sop ?_ | with_reducible refine sun ?_
  | with_reducible refine sI0 ?_ | with_reducible refine sU ?_ | with_reducible refine stt ?_ | with_reducible refine stB ?_ | with_reducible refine sbl ?_ | with_reducible refine snt ?_ | with_reducible refine sif ?_ | with_reducible refine scB ?_
  | with_reducible refine scn ?_ | with_reducible refine snl ?_ | with_reducible refine scl ?_ | with_reducible refine stu ?_ | with_reducible refine sli ?_ | with_reducible refine sdr ?_ | with_reducible refine srt ?_ | with_reducible refine snx ?_ | with_reducible refine sfor ?_ | with_reducible refine sils ?_ | with_reducible refine sien ?_ | with_reducible refine sor ?_ | with_reducible refine sfg ?_
  | with_reducible refine sav ?_ | with_reducible refine sov ?_ | with_reducible refine snv ?_ | with_reducible refine sch ?_ | with_reducible refine san ?_ | with_reducible refine ssll ?_ | with_reducible refine spt ?_ | with_reducible refine snp ?_ | with_reducible refine sin ?_ | with_reducible refine sfl ?_ | with_reducible refine sfd ?_ | with_reducible refine sbm ?_ | with_reducible refine sifx ?_ | with_reducible refine smk ?_ | with_reducible refine ssli ?_ | with_reducible refine sbz ?_
  | ((with_reducible show Or _ _); first | refine Or.inl ⟨_, rfl, ?_⟩ | refine Or.inr ⟨_, rfl, ?_⟩))))

theorem seq_mid {t u : TS} {D : Ends} {σ : L2.St} {H : Hp} (R : L2.St → Hp → Prop) (h : ∀ σ' H', R σ' H' → u D σ' H') (q : ∀ N : L2.St → Hp → Prop, (∀ σ' H', R σ' H' → N σ' H') → t { D with nx := N } σ H) : tSeq t u D σ H := q _ h
/-! ### what is drawn for a row -/
def rkOf : LRow → Str
  | .set _ _ _ => "set"
  | .say _ _ => "say"
  | .ask _ _ => "ask"
  | .choose _ => "choose"
  | .look _ => "look"
  | .stop => "stop"
def ckOf : LRow → Str
  | .ask _ _ => "ask"
  | .choose _ => "choose"
  | .stop => "stop"
  | _ => "go"
def cnOf : LRow → List Int
  | .set _ _ k => [k]
  | .say _ k => [k]
  | .ask _ k => [k]
  | .choose ks => ks
  | .look k => [k]
  | .stop => []
def cmOf (n : Nat) : LRow → Nat
  | .say _ _ => 1
  | .look _ => n
  | _ => 0
theorem nx_of {ns : List Str} {m : Int} {r : LRow} (h : RowOk ns m r) : nxOk (ckOf r) (cnOf r).length ∧ ∀ j ∈ cnOf r, 0 ≤ j ∧ j < m := by
  cases r with
  | set n f k => exact ⟨.inl ⟨rfl, rfl⟩, fun j hj => by rw [List.mem_singleton.mp hj]; exact h.2.2⟩
  | say f k => exact ⟨.inl ⟨rfl, rfl⟩, fun j hj => by rw [List.mem_singleton.mp hj]; exact h.2⟩
  | ask n k => exact ⟨.inr (.inl ⟨rfl, rfl⟩), fun j hj => by rw [List.mem_singleton.mp hj]; exact h.2⟩
  | choose ks => exact ⟨.inr (.inr (.inl ⟨rfl, h.1, h.2.1⟩)), h.2.2⟩
  | look k => exact ⟨.inl ⟨rfl, rfl⟩, fun j hj => by rw [List.mem_singleton.mp hj]; exact h⟩
  | stop => exact ⟨.inr (.inr (.inr ⟨rfl, rfl⟩)), fun j hj => by cases hj⟩
def isIn : LRow → Bool
  | .ask _ _ => true
  | .choose _ => true
  | .stop => true
  | _ => false
theorem in_kd (r : LRow) : inV (.str (rkOf r)) ((["ask", "choose", "stop"] : List Str).map V.str) = isIn r := by
  cases r with
  | set n f k => exact (by decide +kernel : inV (.str "set") ((["ask", "choose", "stop"] : List Str).map V.str) = false)
  | say f k => exact (by decide +kernel : inV (.str "say") ((["ask", "choose", "stop"] : List Str).map V.str) = false)
  | ask n k => exact (by decide +kernel : inV (.str "ask") ((["ask", "choose", "stop"] : List Str).map V.str) = true)
  | choose ks => exact (by decide +kernel : inV (.str "choose") ((["ask", "choose", "stop"] : List Str).map V.str) = true)
  | look k => exact (by decide +kernel : inV (.str "look") ((["ask", "choose", "stop"] : List Str).map V.str) = false)
  | stop => exact (by decide +kernel : inV (.str "stop") ((["ask", "choose", "stop"] : List Str).map V.str) = true)
theorem isIn_ck {r : LRow} : ckOf r = if isIn r = true then rkOf r else "go" := by
  cases r <;> rfl
theorem get_cm (n : Nat) (r : LRow) : (valV (mergeK [] [(.inr "say", V.int 1), (.inr "look", V.int (n : Int))]) (.inr (rkOf r))).getD (V.int 0) = V.int ((cmOf n r : Nat) : Int) := by
  cases r <;> kernel_rfl
theorem cm_le {n : Nat} (h : n ≤ 6) (r : LRow) : cmOf n r ≤ 6 := by
  cases r <;> simp [cmOf] <;> omega
theorem ask_if {kd : Str} : (if decide (V.str kd = V.str "ask") = true then (1 : Int) else 0) = askN kd := by
  unfold askN
  by_cases h : kd = ("ask" : Str)
  · rw [if_pos h, if_pos (decide_eq_true (by rw [h]))]
    rfl
  · rw [if_neg h, if_neg (by rw [decide_eq_true_eq]; exact fun z => h (V.str.inj z))]
    rfl
theorem ask_01 (kd : Str) : askN kd = 0 ∨ askN kd = 1 := by
  unfold askN
  by_cases h : kd = ("ask" : Str)
  · rw [if_pos h]; exact .inr rfl
  · rw [if_neg h]; exact .inl rfl
theorem low_fs {k : Nat} {c : List (List Int)} (h : ∀ f ∈ c, ∀ x ∈ f, 0 ≤ x ∧ x < (2 : Int) ^ k) : c.map (lowF k) = c := by
  have : c.map (lowF k) = c.map id := List.map_congr_left fun f hf => red_map (h f hf)
  rw [this, List.map_id]
theorem crow_low {k : Nat} {r : CRow} (h1 : ∀ f ∈ r.sy, ∀ x ∈ f, 0 ≤ x ∧ x < (2 : Int) ^ k) (h2 : ∀ c ∈ r.ch, ∀ f ∈ c, ∀ x ∈ f, 0 ≤ x ∧ x < (2 : Int) ^ k) : r.low k = r := by
  have e1 := low_fs h1
  have e2 : r.ch.map (·.map (lowF k)) = r.ch := by
    have : r.ch.map (·.map (lowF k)) = r.ch.map id := List.map_congr_left fun c hc => low_fs (h2 c hc)
    rw [this, List.map_id]
  unfold CRow.low
  rw [e1, e2]
theorem row_tup {H : Hp} {v : V} {r : LRow} (h : RowH H v r) : ∃ a xs, v = .ref a ∧ H a = some (.tup xs) ∧ atI xs 0 = some (.str (rkOf r)) := by
  cases r with
  | set n f k => obtain ⟨a, b, rfl, h1, h2⟩ := h; exact ⟨a, _, rfl, h1, rfl⟩
  | say f k => obtain ⟨a, b, rfl, h1, h2⟩ := h; exact ⟨a, _, rfl, h1, rfl⟩
  | ask n k => obtain ⟨a, rfl, h1⟩ := h; exact ⟨a, _, rfl, h1, rfl⟩
  | choose ks => obtain ⟨a, b, rfl, h1, h2⟩ := h; exact ⟨a, _, rfl, h1, rfl⟩
  | look k => obtain ⟨a, rfl, h1⟩ := h; exact ⟨a, _, rfl, h1, rfl⟩
  | stop => obtain ⟨a, rfl, h1⟩ := h; exact ⟨a, _, rfl, h1, rfl⟩
def FoR (k n : Nat) (H : Hp) (v : V) (f : List Int) : Prop := CfH H v f ∧ f.length = n ∧ ∀ x ∈ f, 0 ≤ x ∧ x < 2 ^ k
theorem FoR.ts {k n : Nat} {H H' : Hp} (s : Ts H H') {v : V} {f : List Int} (h : FoR k n H v f) : FoR k n H' v f := ⟨h.1.ts s, h.2⟩
def FosR (k n m : Nat) (H : Hp) (v : V) (c : List (List Int)) : Prop := CfsH H v c ∧ c.length = m ∧ ∀ f ∈ c, f.length = n ∧ ∀ x ∈ f, 0 ≤ x ∧ x < 2 ^ k
/-- [draw(..) for i in range(n)] -/
theorem tlc_rangeW {α : Type} {lo : Int} {n k : Nat} {te : TE} {vs : List Nat} {Qd : Hp → Prop} {D p : Addr} {H : Hp} {σ : L2.St} (R : Hp → V → α → Prop) (rS : ∀ {H H' v x}, Ts H H' → R H v x → R H' v x) (hp : Wl H p) (hD : H D = none) (hn : n ≤ 1000)
    (hw : ∀ x, wipe ((wipe σ vs).set k (some x)) vs = wipe σ vs)
    (he : ∀ (i : Nat) (H' : Hp), i < n → Wk p H H' → ∀ Q : VK, (∀ u x H'', Wk p H' H'' → R H'' u x → Q u H'') → te ((wipe σ vs).set k (some (.int (lo + (i : Int))))) H' Q)
    (q : ∀ ys as H', Wk p H H' → H' D = some (.lst ys) → F2 (R H') ys as → as.length = n → Qd H') :
    ∃ W : Nat → Nat → Hp → Prop, (∃ m, W 0 m (upd H D (.lst []))) ∧ ∀ i m H, W i m H → ((Itr lo n).stop i H ∧ Qd H) ∨ ((Itr lo n).go i H ∧ ∃ Nx : Hp → Prop, (∀ H', Nx H' → ∃ m', m' < m ∧ W (i + 1) m' H') ∧ ∀ x H', (Itr lo n).yld i H x H' → gName k x (wipe σ vs) H' fun σ2 H2 => wipe σ2 vs = wipe σ vs ∧ tYes σ2 H2 fun b H3 =>
        if b = true then te σ2 H3 fun y H4 => ∃ ac, H4 D = some (.lst ac) ∧ ac.length < sizeLine ∧ Nx (upd H4 D (.lst (ac ++ [y]))) else Nx H3) := by
  have nD : D ≠ p := ne_new hp hD
  refine lc_range (lo := lo) (n := n) (fun i H' => Wk p H H' ∧ ∃ us as, H' D = some (.lst us) ∧ F2 (R H') us as ∧ as.length = i) ⟨Wk.of hp (same_new hD), [], [], upd_same, .nil, rfl⟩ ?_ ?_
  · rintro i H1 hi ⟨w1, us, as, h1, h2, h3⟩
    refine ⟨hw _, ?_⟩
    unfold tYes
    simp only [if_true]
    refine he i H1 hi w1 _ fun v x H2 w2 hv => ?_
    have e2 := w2.at nD h1
    have t2 : Ts H2 (upd H2 D (.lst (us ++ [v]))) := Ts.lst e2
    exact ⟨us, e2, by rw [h2.len, h3]; exact small1000 (by omega), (w1.trans w2).updD hD nD, us ++ [v], as ++ [x], upd_same, (h2.mono fun _ _ z => rS t2 (rS (w2.ts w1.2) z)).append (.cons (rS t2 hv) .nil), by rw [List.length_append, h3]; rfl⟩
  · rintro H1 ⟨w1, us, as, h1, h2, h3⟩
    exact q us as H1 w1 h1 h2 h3
/-- the counts, the rows and the first registers that are drawn -/
structure Drawn (k : Nat) (cts : List Int) (crs : List CRow) (sts : List Int) : Prop where
  ok : CodeOk cts crs sts
  low : ∀ r ∈ crs, r.low k = r
  sy6 : ∀ r ∈ crs, r.sy.length ≤ 6
  st : ∀ x ∈ sts, 0 ≤ x ∧ x < 2 ^ k
def spDrawn : Sp := fun vs H Q _ => ∃ (p l rl cl : Addr) (k : Nat) (ns : List Str) (us : List V) (rs : List LRow) (cts : List Int), vs = [.ref p, .int (k : Int), .ref l, .ref rl, .ref cl] ∧ 1 ≤ k ∧ k ≤ 64 ∧ Wl H p ∧ l ≠ p ∧ rl ≠ p ∧ cl ≠ p ∧ H l = some (.lst (ns.map V.str)) ∧ 1 ≤ ns.length ∧ ns.length ≤ 6 ∧ H rl = some (.lst us) ∧ RowsH H us rs ∧ GoodR ns rs.length k rs ∧ 1 ≤ rs.length ∧ rs.length ≤ 25 ∧ H cl = some (.lst (cts.map V.int)) ∧ cts.length = rs.length ∧ (∀ c ∈ cts, 0 ≤ c ∧ c ≤ 4) ∧
  ∀ (u D st : Addr) (vs : List V) (crs : List CRow) (sts : List Int) (H' : Hp), Wk p H H' → H' u = some (.tup [.ref cl, .ref D, .ref st]) → H D = none → H' D = some (.lst vs) → F2 (CRowH H') vs crs → H' st = some (.tup (sts.map V.int)) → Drawn k cts crs sts → Q (.ref u) H'

section
variable {P : Program} {w : World} {K : PySem.W.Frag} {mg : Str → Option Value} {base : Heap} {A : Ad}
abbrev s__law_drawn : Stmt := top 32
theorem sc__law_drawn : FnScope ["_law_well", "_law_width", "_law_names", "_law_rows_here", "_law_counts", "_law_found", "_law_spot", "_law_row_here", "_law_kind", "_law_ahead", "_law_many", "_law_says", "_law_size", "_law_changes", "_law_one_here", "_law_k"] ["_law_well", "_law_width", "_law_names", "_law_rows_here", "_law_counts"] (defScope s__law_drawn) := ⟨rfl, rfl, rfl, by decide +kernel, rfl, by decide +kernel, by decide +kernel⟩
theorem ok_drawn {f : Addr} {fd : FuncData} (F : Fun K "_law_drawn" "_law_drawn" s__law_drawn f fd) (T : Txt P w K mg base A) (c__law_form : Cal P w K mg base 3 "_law_form" ["_law_well", "_law_width", "_law_many"] spForm0) (c__law_number : Cal P w K mg base 2 "_law_number" ["_law_well", "_law_width"] spNumber) : FnOk P w K mg base CX0 4 f fd ["_law_well", "_law_width", "_law_names", "_law_rows_here", "_law_counts"] spDrawn := by
  refine F.ok sc__law_drawn (fun vs H Q E h => ?_) (fun cdv Ar outer s H vs Q E hr h => ?_)
  · obtain ⟨p, l, rl, cl, k, ns, us, rs, cts, rfl, _⟩ := h
    rfl
  · obtain ⟨p, l, rl, cl, k, ns, us, rs, cts, rfl, k1, k2, hw, nl, nrl, ncl, hl, n1, n2, hrl, hrs, hg, r1, r2, hcl, hcs, hc, q⟩ := h
    refine ⟨_, (pss_cons (ps_set (i := 5) sc__law_drawn.nd rfl (Or.inl rfl) (pe_lst pa_nil))
        (pss_cons (ps_for PassesOwn.never rfl (pi_enum (by rfl) T.z_enumerate (pa_cons (pv 3) pa_nil)) (pg_tup rfl (pgs_cons (pg_name (i := 6) sc__law_drawn.nd rfl (Or.inr rfl)) (pgs_cons (pg_name (i := 7) sc__law_drawn.nd rfl (Or.inl rfl)) pgs_nil))) (pss_cons (ps_set (i := 8) sc__law_drawn.nd rfl (Or.inl rfl) (pe_ifExp (pt_cmpR op_in_seq (pe_ix ix_tup (pv 7) pe_int (fun _ _ => rfl)) (pe_tup (pa_cons pe_str (pa_cons pe_str (pa_cons pe_str pa_nil)))) (by rfl)) (pe_ix ix_tup (pv 7) pe_int (fun _ _ => rfl)) pe_str))
        (pss_cons (ps_set (i := 9) sc__law_drawn.nd rfl (Or.inl rfl) (pe_ifExp (pt_cmpR op_eq (pv 8) pe_str (nomark _)) (pe_ix ix_tup (pv 7) pe_int (fun _ _ => rfl)) (pe_ifExp (pt_cmpR op_eq (pv 8) pe_str (nomark _)) (pe_tup pa_nil) (pe_tup (pa_cons (pe_ix ix_tup (pv 7) (pe_un un_neg pe_int) (fun _ _ => rfl)) pa_nil)))))
        (pss_cons (ps_set (i := 10) sc__law_drawn.nd rfl (Or.inl rfl) (pe_dget2 (Nat.lt_of_le_of_lt (Nat.add_le_add_left (by decide) _) hr.units) (pe_disp (pps_cons pe_str pe_int (pps_cons pe_str (pe_callB call_len_seq (by rfl) T.z_len PySem.boot_len (pa_cons (pv 2) pa_nil)) pps_nil)) (by rfl) (by rfl) (fun z => by cases z) (by decide)) (pe_ix ix_tup (pv 7) pe_int (fun _ _ => rfl)) pe_int ⟨rfl, rfl, rfl, rfl⟩))
        (pss_cons (ps_set (i := 11) sc__law_drawn.nd rfl (Or.inl rfl) (pe_callTy call_tupOf (by rfl) T.z_tuple (by decide +kernel) (pa_cons (pe_lc (own := [("_law_k", 15)]) (g := gName 15) (tt := tYes) rfl sc__law_drawn.nd (pi_range1 (by rfl) T.z_range (pa_cons (pv 10) pa_nil)) (blkOk_by (own := [("_law_k", 15)]) (N := ["_law_well", "_law_width", "_law_names", "_law_rows_here", "_law_counts", "_law_found", "_law_spot", "_law_row_here", "_law_kind", "_law_ahead", "_law_many", "_law_says", "_law_size", "_law_changes", "_law_one_here", "_law_k"]) (sc := defScope s__law_drawn) (by decide +kernel)) (fun _ _ _ _ _ => pg_name (i := 15) sc__law_drawn.nd rfl (Or.inl rfl)) (fun _ _ _ _ _ => pts_nil) (fun _ _ _ _ _ => (pcal c__law_form hr (by decide) (pa_cons (pv 0) (pa_cons (pv 1) (pa_cons (pe_ix (show IxR _ (rIxL K) from ix_list) (pv 4) (pv 6) (fun _ _ => rfl)) pa_nil)))))) pa_nil)))
        (pss_cons (ps_set (i := 12) sc__law_drawn.nd rfl (Or.inr rfl) (pe_op op_add (pe_ix (show IxR _ (rIxL K) from ix_list) (pv 4) (pv 6) (fun _ _ => rfl)) (pe_callTy call_int1 (by rfl) T.z_int (by decide +kernel) (pa_cons (pe_cmpR op_eq (pv 8) pe_str (nomark _)) pa_nil))))
        (pss_cons (ps_set (i := 13) sc__law_drawn.nd rfl (Or.inl rfl) (pe_lst pa_nil))
        (pss_cons (ps_for PassesOwn.never rfl (pi_tup (pv 9)) (pg_name (i := 14) sc__law_drawn.nd rfl (Or.inl rfl)) (pss_one (ps_expr (pe_bm PySem.F.plainAttrs_list PySem.F.slot_list_append PySem.F.type_list_append mt_append (pv 13) (pa_cons (pe_callTy call_tupOf (by rfl) T.z_tuple (by decide +kernel) (pa_cons (pe_lc (own := [("_law_k", 15)]) (g := gName 15) (tt := tYes) rfl sc__law_drawn.nd (pi_range1 (by rfl) T.z_range (pa_cons (pe_ix ix_list (pv 4) (pv 14) (fun _ _ => rfl)) pa_nil)) (blkOk_by (own := [("_law_k", 15)]) (N := ["_law_well", "_law_width", "_law_names", "_law_rows_here", "_law_counts", "_law_found", "_law_spot", "_law_row_here", "_law_kind", "_law_ahead", "_law_many", "_law_says", "_law_size", "_law_changes", "_law_one_here", "_law_k"]) (sc := defScope s__law_drawn) (by decide +kernel)) (fun _ _ _ _ _ => pg_name (i := 15) sc__law_drawn.nd rfl (Or.inl rfl)) (fun _ _ _ _ _ => pts_nil) (fun _ _ _ _ _ => (pcal c__law_form hr (by decide) (pa_cons (pv 0) (pa_cons (pv 1) (pa_cons (pv 12) pa_nil)))))) pa_nil)) pa_nil)))))
        (pss_one (ps_expr (pe_bm PySem.F.plainAttrs_list PySem.F.slot_list_append PySem.F.type_list_append mt_append (pv 5) (pa_cons (pe_tup (pa_cons (pv 8) (pa_cons (pv 9) (pa_cons (pv 11) (pa_cons (pe_callTy call_tupOf (by rfl) T.z_tuple (by decide +kernel) (pa_cons (pv 13) pa_nil)) pa_nil))))) pa_nil))))))))))))
        (pss_one (ps_ret (pe_tup (pa_cons (pv 4) (pa_cons (pv 5) (pa_cons (pe_callTy call_tupOf (by rfl) T.z_tuple (by decide +kernel) (pa_cons (pe_lc (own := [("_law_k", 15)]) (g := gName 15) (tt := tYes) rfl sc__law_drawn.nd (pi_range1 (by rfl) T.z_range (pa_cons (pe_ix ix_list (pv 4) pe_int (fun _ _ => rfl)) pa_nil)) (blkOk_by (own := [("_law_k", 15)]) (N := ["_law_well", "_law_width", "_law_names", "_law_rows_here", "_law_counts", "_law_found", "_law_spot", "_law_row_here", "_law_kind", "_law_ahead", "_law_many", "_law_says", "_law_size", "_law_changes", "_law_one_here", "_law_k"]) (sc := defScope s__law_drawn) (by decide +kernel)) (fun _ _ _ _ _ => pg_name (i := 15) sc__law_drawn.nd rfl (Or.inl rfl)) (fun _ _ _ _ _ => pts_nil) (fun _ _ _ _ _ => (pcal c__law_number hr (by decide) (pa_cons (pv 0) (pa_cons (pv 1) pa_nil))))) pa_nil)) pa_nil)))))))), ?_⟩
    walk_at "lk"
    refine snw (Nat.le_of_ble_eq_true rfl) fun FD hFD => ?_
    have nFD : FD ≠ p := ne_new hw hFD
    walk_at "lk"
    refine ⟨rl, us, rfl, SqL.of ((same_new hFD) _ _ hrl), ?_⟩
    have w0 : Wk p H (upd H FD (.lst [])) := Wk.of hw (same_new hFD)
    refine en_by (fun i σ' H' => (∃ e6 e7 e8 e9 e10 e11 e12 e13 e14 e15, σ' = [some (.ref p), some (.int (k : Int)), some (.ref l), some (.ref rl), some (.ref cl), some (.ref FD), e6, e7, e8, e9, e10, e11, e12, e13, e14, e15]) ∧ Wk p H H' ∧
        ∃ vs crs, H' FD = some (.lst vs) ∧ F2 (CRowH H') vs crs ∧ crs.length = i ∧ (∀ j r, crs[j]? = some r → CRowOk cts j r) ∧ ∀ r ∈ crs, r.low k = r ∧ r.sy.length ≤ 6) ⟨⟨_, _, _, _, _, _, _, _, _, _, rfl⟩, w0, [], [], upd_same, .nil, rfl, fun j r h => by simp at h, fun r h => by cases h⟩ (fun i σ' H' _ h => SqL.of (h.2.1.at nrl hrl)) ?_ ?_
    · rintro i v pp σ' H1 hi ⟨⟨e6, e7, e8, e9, e10, e11, e12, e13, e14, e15, rfl⟩, w1, vs, crs, h1, h2, h3, h4, h5⟩ hp
      have s3 := same_new (o := .tup [.int (i : Nat), v]) hp
      refine g_pair (SqT.of upd_same) ?_
      generalize upd H1 pp (.tup [.int (i : Nat), v]) = H3 at s3 ⊢
      obtain ⟨r, hri, hrv⟩ := hrs.at hi
      have w3 : Wk p H H3 := w1.st s3
      obtain ⟨hrok, hrlow⟩ := hg r (List.mem_of_getElem? hri)
      obtain ⟨nxk, nxr⟩ := nx_of hrok
      have hrv3 := hrv.ts (w3.ts hw)
      have f3 := s3 _ _ h1
      have g3 : F2 (CRowH H3) vs crs := h2.mono fun _ _ z => z.ts (Ts.of s3)
      dsimp only
      refine seq_mid (fun σ' H' => (σ' = [some (.ref p), some (.int (k : Int)), some (.ref l), some (.ref rl), some (.ref cl), some (.ref FD), some (.int (i : Nat)), some v, some (.str (ckOf r)), e9, e10, e11, e12, e13, e14, e15]) ∧ Same H3 H') ?_ ?_
      rotate_left
      · intro N hN
        obtain ⟨ra, xs, rfl, hra, h0⟩ := row_tup hrv3
        walk_at "lk"
        refine sft (SqT.of hra) h0 ?_
        walk_at "lk"
        refine snw (Nat.le_of_ble_eq_true rfl) fun tp htp => ?_
        have s4 : Same H3 (upd H3 tp (.tup [.str "ask", .str "choose", .str "stop"])) := same_new htp
        refine ⟨tp, _, rfl, .inr (SqT.of upd_same), rfl, Lk.flat_strs ["ask", "choose", "stop"], ?_⟩
        generalize upd H3 tp (.tup [.str "ask", .str "choose", .str "stop"]) = H4 at s4 ⊢
        show (∃ k, V.bl (inV (.str (rkOf r)) ((["ask", "choose", "stop"] : List Str).map V.str)) = .bl k ∧ _)
        refine ⟨_, rfl, ?_⟩
        rw [in_kd]
        cases hin : isIn r with
        | true =>
          refine itt_ rfl ?_
          walk_at "lk"
          refine sft (SqT.of (s4 _ _ hra)) h0 ?_
          refine hN _ _ ⟨?_, s4⟩
          rw [isIn_ck, hin]
          rfl
        | false =>
          refine iff_ rfl ?_
          walk_at "lk"
          refine hN _ _ ⟨?_, s4⟩
          rw [isIn_ck, hin]
          rfl
      rintro σ' H4 ⟨rfl, s4⟩
      refine seq_mid (fun σ' H' => ∃ na, (σ' = [some (.ref p), some (.int (k : Int)), some (.ref l), some (.ref rl), some (.ref cl), some (.ref FD), some (.int (i : Nat)), some v, some (.str (ckOf r)), some (.ref na), e10, e11, e12, e13, e14, e15]) ∧ Same H3 H' ∧ H' na = some (.tup ((cnOf r).map V.int))) ?_ ?_
      rotate_left
      · intro N hN
        walk_at "lk"
        refine sEq rfl ?_
        walk_at "lk"
        cases r with
        | choose ks =>
          obtain ⟨ra, rb, rfl, hra, hrb⟩ := hrv3
          refine itt_ (show decide (V.str ("choose" : Str) = V.str "choose") = true from by decide +kernel) ?_
          walk_at "lk"
          refine sft (SqT.of (s4 _ _ hra)) rfl ?_
          exact hN _ _ ⟨rb, rfl, s4, s4 _ _ hrb⟩
        | stop =>
          refine iff_ (show decide (V.str ("stop" : Str) = V.str "choose") = false from by decide +kernel) ?_
          walk_at "lk"
          refine sEq rfl ?_
          walk_at "lk"
          refine itt_ (show decide (V.str ("stop" : Str) = V.str "stop") = true from by decide +kernel) ?_
          walk_at "lk"
          refine snw (Nat.le_of_ble_eq_true rfl) fun tp htp => ?_
          exact hN _ _ ⟨tp, rfl, s4.trans (same_new htp), upd_same⟩
        | set n f j =>
          obtain ⟨ra, rb, rfl, hra, hrb⟩ := hrv3
          refine iff_ (show decide (V.str ("go" : Str) = V.str "choose") = false from by decide +kernel) ?_
          walk_at "lk"
          refine sEq rfl ?_
          walk_at "lk"
          refine iff_ (show decide (V.str ("go" : Str) = V.str "stop") = false from by decide +kernel) ?_
          walk_at "lk"
          refine sft (SqT.of (s4 _ _ hra)) rfl ?_
          refine snw (Nat.le_of_ble_eq_true rfl) fun tp htp => ?_
          exact hN _ _ ⟨tp, rfl, s4.trans (same_new htp), upd_same⟩
        | say f j =>
          obtain ⟨ra, rb, rfl, hra, hrb⟩ := hrv3
          refine iff_ (show decide (V.str ("go" : Str) = V.str "choose") = false from by decide +kernel) ?_
          walk_at "lk"
          refine sEq rfl ?_
          walk_at "lk"
          refine iff_ (show decide (V.str ("go" : Str) = V.str "stop") = false from by decide +kernel) ?_
          walk_at "lk"
          refine sft (SqT.of (s4 _ _ hra)) rfl ?_
          refine snw (Nat.le_of_ble_eq_true rfl) fun tp htp => ?_
          exact hN _ _ ⟨tp, rfl, s4.trans (same_new htp), upd_same⟩
        | ask n j =>
          obtain ⟨ra, rfl, hra⟩ := hrv3
          refine iff_ (show decide (V.str ("ask" : Str) = V.str "choose") = false from by decide +kernel) ?_
          walk_at "lk"
          refine sEq rfl ?_
          walk_at "lk"
          refine iff_ (show decide (V.str ("ask" : Str) = V.str "stop") = false from by decide +kernel) ?_
          walk_at "lk"
          refine sft (SqT.of (s4 _ _ hra)) rfl ?_
          refine snw (Nat.le_of_ble_eq_true rfl) fun tp htp => ?_
          exact hN _ _ ⟨tp, rfl, s4.trans (same_new htp), upd_same⟩
        | look j =>
          obtain ⟨ra, rfl, hra⟩ := hrv3
          refine iff_ (show decide (V.str ("go" : Str) = V.str "choose") = false from by decide +kernel) ?_
          walk_at "lk"
          refine sEq rfl ?_
          walk_at "lk"
          refine iff_ (show decide (V.str ("go" : Str) = V.str "stop") = false from by decide +kernel) ?_
          walk_at "lk"
          refine sft (SqT.of (s4 _ _ hra)) rfl ?_
          refine snw (Nat.le_of_ble_eq_true rfl) fun tp htp => ?_
          exact hN _ _ ⟨tp, rfl, s4.trans (same_new htp), upd_same⟩
      rintro σ' H5 ⟨na, rfl, s5, hna⟩
      refine seq_mid (fun σ' H' => (σ' = [some (.ref p), some (.int (k : Int)), some (.ref l), some (.ref rl), some (.ref cl), some (.ref FD), some (.int (i : Nat)), some v, some (.str (ckOf r)), some (.ref na), some (.int ((cmOf ns.length r : Nat) : Int)), e11, e12, e13, e14, e15]) ∧ Same H5 H') ?_ ?_
      rotate_left
      · intro N hN
        walk_at "lk"
        unfold tDGet2 tDisp
        walk_at "lk"
        intro dp hdp
        obtain ⟨ra, xs, rfl, hra, h0⟩ := row_tup hrv3
        have sd : Same H5 (upd H5 dp (.dK [])) := same_new hdp
        have hl5 : H5 l = some (.lst (ns.map V.str)) := s5 _ _ (w3.at nl hl)
        simp only [tPairs]
        walk_at "lk"
        refine ⟨l, ns.map V.str, rfl, .inl (SqL.of (sd _ _ hl5)), ?_⟩
        rw [List.length_map]
        refine ⟨upd_same, [(.inr "say", .int 1), (.inr "look", .int (ns.length : Int))], rfl, by simp, ?_⟩
        rw [upd_upd]
        have sd2 : Same H5 (upd H5 dp (.dK (mergeK [] [(.inr "say", .int 1), (.inr "look", .int (ns.length : Int))]))) := same_new hdp
        have ed : (upd H5 dp (.dK (mergeK [] [(.inr "say", .int 1), (.inr "look", .int (ns.length : Int))]))) dp = some (.dK (mergeK [] [(.inr "say", .int 1), (.inr "look", .int (ns.length : Int))])) := upd_same
        generalize upd H5 dp (.dK (mergeK [] [(.inr "say", .int 1), (.inr "look", .int (ns.length : Int))])) = H6 at sd2 ed ⊢
        refine ⟨dp, rfl, .inl ⟨_, .inl ed⟩, ?_⟩
        walk_at "lk"
        refine sft (SqT.of (sd2 _ _ (s5 _ _ hra))) h0 ?_
        walk_at "lk"
        refine ⟨_, .inl ⟨_, .inr (rkOf r), .inl ed, rfl, rfl⟩, ?_⟩
        rw [get_cm]
        exact hN _ _ ⟨rfl, sd2⟩
      rintro σ' H6 ⟨rfl, s6⟩
      have s36 : Same H3 H6 := s5.trans s6
      have w6 : Wk p H H6 := w3.st s36
      have hir : i < rs.length := (List.getElem?_eq_some_iff.mp hri).1
      have hci : cts[((i : Nat) : Int).toNat]? = some (cts.getD i 0) := by simpa using getD_at (by omega)
      have cb := hc _ (List.mem_of_getElem? hci)
      obtain ⟨n0, hn0⟩ : ∃ n0 : Nat, (n0 : Int) = cts.getD i 0 := ⟨(cts.getD i 0).toNat, by omega⟩
      have cm := cm_le n2 r
      walk_at "lk"
      unfold tLc iRng1
      walk_at "lk"
      refine ⟨((cmOf ns.length r : Nat) : Int), rfl, by omega, by omega, fun L1 hL1 => ?_⟩
      rw [Int.toNat_natCast]
      refine tlc_rangeW (FoR k (n0 + 1)) (fun s h => h.ts s) w6.2 hL1 (by omega) (fun _ => rfl) (fun j H' hj wj R qr => ?_) (fun ys sy H7 w7 hys fys ly => ?_)
      · walk_at "lk"
        refine sfr (SqL.of ((w6.trans wj).at ncl hcl)) (atI_ints hci (by omega)) ?_
        walk_at "lk"
        exact ⟨p, k, n0, by rw [hn0]; rfl, k2, by omega, wj.2, fun b f H'' wf hb hfl hfb => qr _ f _ wf ⟨⟨b, rfl, hb⟩, hfl, hfb⟩⟩
      walk_at "lk"
      refine s_tupL hys fun sp H8 s8 hsp0 hsp => ?_
      have w68 : Wk p H6 H8 := w7.st s8
      have w8 : Wk p H H8 := w6.trans w68
      have gsy : CfsH H8 (.ref sp) sy := ⟨sp, ys, rfl, hsp, fys.mono fun _ _ z => z.1.ts (Ts.of s8)⟩
      have bsy : ∀ f ∈ sy, f.length = n0 + 1 ∧ ∀ x ∈ f, 0 ≤ x ∧ x < (2 : Int) ^ k := fun f hf => by
        obtain ⟨m, hm⟩ := List.getElem?_of_mem hf
        obtain ⟨u, _, hu⟩ := fys.get hm
        exact hu.2
      walk_at "lk"
      refine sfr (SqL.of (w8.at ncl hcl)) (atI_ints hci (by omega)) ?_
      walk_at "lk"
      refine sEq rfl ?_
      walk_at "lk"
      rw [ask_if]
      have a01 := ask_01 (ckOf r)
      obtain ⟨z1, hz1⟩ : ∃ z1 : Nat, (z1 : Int) = cts.getD i 0 + askN (ckOf r) := ⟨(cts.getD i 0 + askN (ckOf r)).toNat, by omega⟩
      rw [← hz1]
      refine snw (Nat.le_of_ble_eq_true rfl) fun CL hCL => ?_
      have nCL : CL ≠ p := ne_new w8.2 hCL
      have w9 : Wk p H8 (upd H8 CL (.lst [])) := Wk.of w8.2 (same_new hCL)
      have e9 : (upd H8 CL (.lst [])) CL = some (.lst []) := upd_same
      have nna : na ≠ p := ne_well (w3.st s5).2 hna (fun _ _ _ e => by cases e)
      have na8 : H8 na = some (.tup ((cnOf r).map V.int)) := w68.at nna (s6 _ _ hna)
      generalize upd H8 CL (.lst []) = H9 at w9 e9 ⊢
      walk_at "lk"
      refine ⟨_, rfl, na, rfl, ⟨_, SqT.of (w9.at nna na8)⟩, ?_⟩
      refine for_tup (xs := (cnOf r).map V.int) (fun j σ' H' => (∃ e14 e15, σ' = [some (.ref p), some (.int (k : Int)), some (.ref l), some (.ref rl), some (.ref cl), some (.ref FD), some (.int (i : Nat)), some v, some (.str (ckOf r)), some (.ref na), some (.int ((cmOf ns.length r : Nat) : Int)), some (.ref sp), some (.int (z1 : Int)), some (.ref CL), e14, e15]) ∧ Wk p H8 H' ∧
        ∃ us2 cs, H' CL = some (.lst us2) ∧ F2 (fun v c => CfsH H' v c) us2 cs ∧ cs.length = j ∧ (∀ (m : Nat) (c : List (List Int)) (j0 : Int), cs[m]? = some c → (cnOf r)[m]? = some j0 → (c.length : Int) = cts.getD j0.toNat 0) ∧ ∀ c ∈ cs, ∀ f ∈ c, f.length = z1 + 1 ∧ ∀ x ∈ f, 0 ≤ x ∧ x < (2 : Int) ^ k)
        ⟨⟨_, _, rfl⟩, w9, [], [], e9, .nil, rfl, fun m c j0 h => by simp at h, fun c h => by cases h⟩ (fun j σ' H' _ h => SqT.of (h.2.1.at nna na8)) ?_ ?_
      · rintro j x σ' H10 hjx ⟨⟨e14, e15, rfl⟩, w10, us2, cs, c1, c2, c3, c4, c5⟩
        have hlt : j < (cnOf r).length := by
          have := (List.getElem?_eq_some_iff.mp hjx).1
          rwa [List.length_map] at this
        rw [List.getElem?_map, List.getElem?_eq_getElem hlt] at hjx
        cases hjx
        have hj0 : (cnOf r)[j]? = some (cnOf r)[j] := List.getElem?_eq_getElem hlt
        generalize (cnOf r)[j] = j0 at hj0 ⊢
        obtain ⟨g0, g1⟩ := nxr _ (List.mem_of_getElem? hj0)
        have hcj : cts[j0.toNat]? = some (cts.getD j0.toNat 0) := getD_at (by omega)
        have cbj := hc _ (List.mem_of_getElem? hcj)
        obtain ⟨n1', hn1⟩ : ∃ n1 : Nat, (n1 : Int) = cts.getD j0.toNat 0 := ⟨(cts.getD j0.toNat 0).toNat, by omega⟩
        have wA : Wk p H H10 := w8.trans w10
        walk_at "lk"
        refine ⟨.inl ⟨rfl, _, SqL.of c1⟩, ?_⟩
        walk_at "lk"
        try unfold tLc iRng1
        walk_at "lk"
        refine sfr (SqL.of (wA.at ncl hcl)) (atI_ints hcj g0) ?_
        walk_at "lk"
        rw [← hn1]
        refine ⟨(n1' : Int), rfl, by omega, by omega, fun L2 hL2 => ?_⟩
        rw [Int.toNat_natCast]
        refine tlc_rangeW (FoR k (z1 + 1)) (fun s h => h.ts s) wA.2 hL2 (by omega) (fun _ => rfl) (fun m H' hm wj R qr => ?_) (fun ys2 c H11 w11 hys2 fys2 ly2 => ?_)
        · walk_at "lk"
          exact ⟨p, k, z1, rfl, k2, by omega, wj.2, fun b f H'' wf hb hfl hfb => qr _ f _ wf ⟨⟨b, rfl, hb⟩, hfl, hfb⟩⟩
        walk_at "lk"
        refine s_tupL hys2 fun tp H12 s12 htp0 htp => ?_
        have w12 : Wk p H10 H12 := w11.st s12
        have wB : Wk p H8 H12 := w10.trans w12
        have c1' := w12.at nCL c1
        refine ⟨CL, us2, .ref tp, rfl, rfl, c1', by rw [c2.len, c3]; have := nxk.le; exact small1000 (by omega), ?_⟩
        have t2 : Ts H12 (upd H12 CL (.lst (us2 ++ [.ref tp]))) := Ts.lst c1'
        refine ⟨⟨_, _, rfl⟩, wB.updD hCL nCL, us2 ++ [.ref tp], cs ++ [c], upd_same, (c2.mono fun _ _ z => (z.ts (w12.ts wA.2)).ts t2).append (.cons (CfsH.ts t2 ⟨tp, ys2, rfl, htp, fys2.mono fun _ _ z => z.1.ts (Ts.of s12)⟩) .nil), by rw [List.length_append, c3]; rfl, ?_, ?_⟩
        · intro m c' j' hm hj'
          by_cases hlt2 : m < cs.length
          · rw [List.getElem?_append_left hlt2] at hm
            exact c4 m c' j' hm hj'
          · rw [List.getElem?_append_right (by omega)] at hm
            have : m - cs.length = 0 := by
              have := (List.getElem?_eq_some_iff.mp hm).1
              simp at this
              exact this
            have em : m = j := by omega
            rw [this] at hm
            cases hm
            rw [em, hj0] at hj'
            cases hj'
            omega
        · intro c' hc' f hf
          rcases List.mem_append.mp hc' with h | h
          · exact c5 c' h f hf
          · rw [List.mem_singleton.mp h] at hf
            obtain ⟨m, hm⟩ := List.getElem?_of_mem hf
            obtain ⟨u, _, hu⟩ := fys2.get hm
            exact hu.2
      rintro σ' H10 ⟨⟨e14, e15, rfl⟩, w10, us2, cs, c1, c2, c3, c4, c5⟩
      rw [List.length_map] at c3
      have f8 : H8 FD = some (.lst vs) := w68.at nFD (s36 _ _ f3)
      walk_at "lk"
      refine ⟨.inl ⟨rfl, _, SqL.of (w10.at nFD f8)⟩, ?_⟩
      walk_at "lk"
      refine s_tupL c1 fun tp H11 s11 htp0 htp => ?_
      walk_at "lk"
      refine snw (Nat.le_of_ble_eq_true rfl) fun qp hqp => ?_
      have s12 : Same H11 (upd H11 qp (.tup [.str (ckOf r), .ref na, .ref sp, .ref tp])) := same_new hqp
      have eq12 : (upd H11 qp (.tup [.str (ckOf r), .ref na, .ref sp, .ref tp])) qp = some (.tup [.str (ckOf r), .ref na, .ref sp, .ref tp]) := upd_same
      generalize upd H11 qp (.tup [.str (ckOf r), .ref na, .ref sp, .ref tp]) = H12 at s12 eq12 ⊢
      have w12 : Wk p H8 H12 := w10.st (s11.trans s12)
      have w312 : Wk p H3 H12 := (Wk.of w3.2 s36).trans (w68.trans w12)
      have f12 := w12.at nFD f8
      have hfi := h2.len
      refine ⟨FD, vs, .ref qp, rfl, rfl, f12, by rw [hfi, h3]; exact small1000 (by omega), ?_⟩
      have t12 : Ts H12 (upd H12 FD (.lst (vs ++ [.ref qp]))) := Ts.lst f12
      have ok12 : CRowH H12 (.ref qp) ⟨ckOf r, cnOf r, sy, cs⟩ := ⟨qp, .ref na, .ref sp, .ref tp, rfl, eq12, ⟨na, rfl, w12.at nna na8⟩, gsy.ts (w12.ts w8.2), ⟨tp, us2, rfl, s12 _ _ htp, c2.mono fun _ _ z => z.ts (Ts.of (s11.trans s12))⟩⟩
      refine ⟨⟨_, _, _, _, _, _, _, _, _, _, rfl⟩, (w3.trans w312).updD hFD nFD, vs ++ [.ref qp], crs ++ [⟨ckOf r, cnOf r, sy, cs⟩], upd_same, (g3.mono fun _ _ z => (z.ts (w312.ts w3.2)).ts t12).append (.cons (ok12.ts t12) .nil), by rw [List.length_append, h3]; rfl, ?_, ?_⟩
      · intro j r' hj
        by_cases hlt2 : j < crs.length
        · rw [List.getElem?_append_left hlt2] at hj
          exact h4 j r' hj
        · rw [List.getElem?_append_right (by omega)] at hj
          have : j - crs.length = 0 := by
            have := (List.getElem?_eq_some_iff.mp hj).1
            simp at this
            exact this
          have em : j = i := by omega
          rw [this] at hj
          cases hj
          subst em
          refine ⟨nxk, fun j hj => ?_, ?_, fun f hf => ?_, c3, fun m j0 c hm hc2 => c4 m c j0 hc2 hm, fun c hc2 f hf => ?_⟩
          · have := nxr j hj
            omega
          · show sy.length ≤ 900
            omega
          · have := (bsy f hf).1
            omega
          · have := (c5 c hc2 f hf).1
            show (f.length : Int) = cts.getD j 0 + 1 + askN (ckOf r)
            omega
      · intro r' hr'
        rcases List.mem_append.mp hr' with h | h
        · exact h5 r' h
        · rw [List.mem_singleton.mp h]
          exact ⟨crow_low (fun f hf => (bsy f hf).2) fun c hc2 f hf => (c5 c hc2 f hf).2, by show sy.length ≤ 6; omega⟩
    rintro σ' H1 ⟨⟨e6, e7, e8, e9, e10, e11, e12, e13, e14, e15, rfl⟩, w1, vs, crs, h1, h2, h3, h4, h5⟩
    have hus : us.length = rs.length := hrs.len
    walk_at "lk"
    try unfold tLc iRng1
    walk_at "lk"
    have hc0 : cts[(0 : Int).toNat]? = some (cts.getD 0 0) := getD_at (by omega)
    have cb := hc _ (List.mem_of_getElem? hc0)
    obtain ⟨n0, hn0⟩ : ∃ n0 : Nat, (n0 : Int) = cts.getD 0 0 := ⟨(cts.getD 0 0).toNat, by omega⟩
    refine sfr (SqL.of (w1.at ncl hcl)) (atI_ints hc0 (by omega)) ?_
    walk_at "lk"
    rw [← hn0]
    refine ⟨(n0 : Int), rfl, by omega, by omega, fun L1 hL1 => ?_⟩
    rw [Int.toNat_natCast]
    refine tlc_rangeW (fun H v (x : Int) => v = .int x ∧ 0 ≤ x ∧ x < (2 : Int) ^ k) (fun s h => h) w1.2 hL1 (by omega) (fun _ => rfl) (fun j H' hj wj R qr => ?_) (fun ys st H2 w2 hys fys ly => ?_)
    · walk_at "lk"
      exact ⟨p, k, rfl, k2, wj.2, fun x H'' a0 a1 wf => qr _ x _ wf ⟨rfl, a0, a1⟩⟩
    walk_at "lk"
    refine s_tupL hys fun sp H3 s3 hsp0 hsp => ?_
    walk_at "lk"
    refine snw (Nat.le_of_ble_eq_true rfl) fun up hup => ?_
    have s4 : Same H3 (upd H3 up (.tup [.ref cl, .ref FD, .ref sp])) := same_new hup
    have w4 : Wk p H1 (upd H3 up (.tup [.ref cl, .ref FD, .ref sp])) := w2.st (s3.trans s4)
    have fys' : F2 (fun v (x : Int) => v = .int x) ys st := fys.mono fun _ _ z => z.1
    have bst : ∀ x ∈ st, 0 ≤ x ∧ x < (2 : Int) ^ k := fun x hx => by
      obtain ⟨m, hm⟩ := List.getElem?_of_mem hx
      obtain ⟨u, _, hu⟩ := fys.get hm
      exact hu.2
    refine q up FD sp vs crs st _ (w1.trans w4) upd_same hFD (w4.at nFD h1) (h2.mono fun _ _ z => z.ts (w4.ts w1.2)) (by rw [← f2_ints_of fys']; exact s4 _ _ hsp) ⟨⟨by omega, by omega, by omega, fun c hc2 => ?_, by omega, h4⟩, fun r hr => (h5 r hr).1, fun r hr => (h5 r hr).2, bst⟩
    have := hc c hc2
    omega
end
end K41

namespace K41
open PySem PySem.Spec PyProof.Rows L2 RZ Lk
local macro_rules | `(tactic| walk_at "lk") => `(tactic| (repeat (first
  | with_reducible refine ssq ?_ | with_reducible refine sas ?_ | with_reducible refine sgn ?_ | ((with_reducible show tVar _ _ _ _); refine sv rfl ?_) | with_reducible refine sc ?_ | with_reducible refine sop ?_ | with_reducible refine sun ?_
  | with_reducible refine sI0 ?_ | with_reducible refine sU ?_ | with_reducible refine stt ?_ | with_reducible refine stB ?_ | with_reducible refine sbl ?_ | with_reducible refine snt ?_ | with_reducible refine sif ?_ | with_reducible refine scB ?_
  | with_reducible refine scn ?_ | with_reducible refine snl ?_ | with_reducible refine scl ?_ | with_reducible refine stu ?_ | with_reducible refine sli ?_ | with_reducible refine sdr ?_ | with_reducible refine srt ?_ | with_reducible refine snx ?_ | with_reducible refine sfor ?_ | with_reducible refine sils ?_ | with_reducible refine sien ?_ | with_reducible refine sor ?_ | with_reducible refine sfg ?_
  | with_reducible refine sav ?_ | with_reducible refine sov ?_ | with_reducible refine snv ?_ | with_reducible refine sch ?_ | with_reducible refine san ?_ | with_reducible refine ssll ?_ | with_reducible refine spt ?_ | with_reducible refine snp ?_ | with_reducible refine sin ?_ | with_reducible refine sfl ?_ | with_reducible refine sfd ?_ | with_reducible refine sbm ?_ | with_reducible refine sifx ?_ | with_reducible refine smk ?_ | with_reducible refine ssli ?_ | with_reducible refine srz3 ?_ | with_reducible refine scx ?_ | with_reducible refine sbz ?_
  | ((with_reducible show Or _ _); first | refine Or.inl ⟨_, rfl, ?_⟩ | refine Or.inr ⟨_, rfl, ?_⟩))))

theorem all_blsA {α : Type} {ds : List α} {p : α → Bool} {K : PySem.W.Frag} {H : Hp} {D : Addr} {Q : VK} (h : H D = some (.lst (ds.map fun d => V.bl (p d)))) (q : Q (.bl (ds.all p)) H) : rAll K [V.ref D] H Q := by
  refine ⟨D, ds.map p, rfl, .inl (.inl (by rw [h, List.map_map]; rfl)), ?_⟩
  rw [List.all_map]
  exact q
def spFormI (K : PySem.W.Frag) : Sp := fun vs H Q _ => ∃ (v : V) (o : Option (List PyData)) (n : Int), vs = [v, .int n] ∧ It K H v o ∧ n ≤ 900 ∧ ∀ H', Same H H' → Q (.bl (formO n o)) H'
def spFormsX (K : PySem.W.Frag) : Sp := fun vs H Q _ => ∃ (v : V) (o : Option (List (Option (List PyData)))) (m n : Int), vs = [v, .int m, .int n] ∧ Fv K H v o ∧ m ≤ 900 ∧ n ≤ 900 ∧ ∀ H', Same H H' → Q (.bl (formsO m n o)) H'
def spSaysX (K : PySem.W.Frag) (A : Ad) : Sp := fun vs H Q E => ∃ (i : Int) (v : V) (n : Int) (o : Option (List (Option (List PyData)))), vs = [.int i, v, .int n] ∧ Fv K H v o ∧ n ≤ 900 ∧ (saysO n o = none → ∀ H', Same H H' → Q .non H') ∧ ∀ j, saysO n o = some j → ErR A.NoCode i "says" j E H

section
variable {P : Program} {w : World} {K : PySem.W.Frag} {mg : Str → Option Value} {base : Heap} {A : Ad}
theorem ok_is_formI {f : Addr} {fd : FuncData} (F : Fun K "is_form" "is_form" s_is_form f fd) (T : Txt P w K mg base A) (c_are_integers : Cal P w K mg base 2 "are_integers" ["items"] (spAreInts K)) : FnOk P w K mg base CX0 3 f fd ["value", "size"] (spFormI K) := by
  refine F.ok sc_is_form (fun vs H Q E h => ?_) (fun cdv Ar outer s H vs Q E hr h => ?_)
  · obtain ⟨v, o, n, rfl, _⟩ := h
    rfl
  · obtain ⟨v, o, n, rfl, hv, hn, k⟩ := h
    refine ⟨_, (pss_one (ps_ret (pe_and (pe_callB call_isi (by rfl) T.z_isinstance (by decide +kernel) (pa_cons (pv 0) (pa_cons (pe_bltn (v := .ty "tuple") (by rfl) T.z_tuple (by first | exact PySem.boot_tuple | decide +kernel) rfl) pa_nil))) (pe_and (pe_cmpR op_eq (pe_callB call_len_seq (by rfl) T.z_len PySem.boot_len (pa_cons (pv 0) pa_nil)) (pe_op op_add (pv 1) pe_int) (nomark _)) (pe_one (pcal c_are_integers hr (by decide) (pa_cons (pv 0) pa_nil))))))), ?_⟩
    cases hv with
    | no h h2 =>
      walk_at "lk"
      refine s_isiTo h h2 ?_
      walk_at "lk"
      exact k _ (Same.refl H)
    | @tup p xs ds hx hds =>
      walk_at "lk"
      refine s_isiTq hx ?_
      walk_at "lk"
      refine itt_ rfl ?_
      walk_at "lk"
      refine ⟨p, xs, rfl, .inr hx, ?_⟩
      rw [dpa_len hds]
      walk_at "lk"
      refine sEq rfl ?_
      walk_at "lk"
      by_cases e : (ds.length : Int) = n + 1
      · rw [if_pos (by rw [e]; exact decide_eq_true rfl)]
        walk_at "lk"
        refine ⟨_, ds, rfl, .tup hx hds, by omega, fun H' s' => ?_⟩
        have e2 : formO n (some ds) = ds.all isIntD := by simp [formO, e]
        rw [← e2]
        exact k _ s'
      · rw [if_neg (fun z => e (V.int.inj (of_decide_eq_true z)))]
        have e2 : formO n (some ds) = false := by simp [formO, e]
        have k1 := k H (Same.refl H)
        rw [e2] at k1
        exact k1
theorem ok_are_formsX {f : Addr} {fd : FuncData} (F : Fun K "are_forms" "are_forms" s_are_forms f fd) (T : Txt P w K mg base A) (c_is_form : Cal P w K mg base 3 "is_form" ["value", "size"] (spFormI K)) : FnOk P w K mg base CX0 4 f fd ["forms", "many", "size"] (spFormsX K) := by
  refine F.ok sc_are_forms (fun vs H Q E h => ?_) (fun cdv Ar outer s H vs Q E hr h => ?_)
  · obtain ⟨v, o, m, n, rfl, _⟩ := h
    rfl
  · obtain ⟨v, o, m, n, rfl, hv, hm, hn, q⟩ := h
    refine ⟨_, (pss_one (ps_ret (pe_and (pe_callB call_isi (by rfl) T.z_isinstance (by decide +kernel) (pa_cons (pv 0) (pa_cons (pe_bltn (v := .ty "tuple") (by rfl) T.z_tuple (by first | exact PySem.boot_tuple | decide +kernel) rfl) pa_nil))) (pe_and (pe_cmpR op_eq (pe_callB call_len_seq (by rfl) T.z_len PySem.boot_len (pa_cons (pv 0) pa_nil)) (pv 1) (nomark _)) (pe_one (pe_callB (cr_all rfl) (by rfl) T.z_all (by decide +kernel) (pa_cons (pe_lc (own := [("form", 3)]) (g := gName 3) (tt := tYes) rfl sc_are_forms.nd (pi_tup (pv 0)) (blkOk_by (own := [("form", 3)]) (N := ["forms", "many", "size", "form"]) (sc := defScope s_are_forms) (by decide +kernel)) (fun _ _ _ _ _ => pg_name (i := 3) sc_are_forms.nd rfl (Or.inl rfl)) (fun _ _ _ _ _ => pts_nil) (fun _ _ _ _ _ => (pcal c_is_form hr (by decide) (pa_cons (pv 3) (pa_cons (pv 2) pa_nil))))) pa_nil))))))), ?_⟩
    cases hv with
    | no h h2 =>
      walk_at "lk"
      refine s_isiTo h h2 ?_
      walk_at "lk"
      exact q _ (Same.refl H)
    | @tup p us os hx hds =>
      have hlen := hds.len
      walk_at "lk"
      refine s_isiTq hx ?_
      walk_at "lk"
      refine itt_ rfl ?_
      walk_at "lk"
      refine ⟨p, us, rfl, .inr hx, ?_⟩
      rw [hlen]
      walk_at "lk"
      refine sEq rfl ?_
      walk_at "lk"
      by_cases e : (os.length : Int) = m
      · rw [if_pos (by rw [e]; exact decide_eq_true rfl)]
        walk_at "lk"
        refine tlc_mapT (ys := os.map fun o => V.bl (formO n o)) rfl hx (by rw [List.length_map, hlen]) (by omega) (fun _ => rfl) (fun i x y H' hi hy s' R q2 => ?_) (fun D H' s' hD hDl => ?_)
        · obtain ⟨o, hoi, hov⟩ := hds.at hi
          rw [List.getElem?_map, hoi] at hy
          cases hy
          walk_at "lk"
          exact ⟨x, o, n, rfl, hov.same s', hn, fun H4 s4 => q2 _ s4⟩
        · walk_at "lk"
          have e2 : formsO m n (some os) = os.all (formO n) := by simp [formsO, e]
          have q1 := q _ s'
          rw [e2] at q1
          exact all_blsA hDl q1
      · rw [if_neg (fun z => e (V.int.inj (of_decide_eq_true z)))]
        have e2 : formsO m n (some os) = false := by simp [formsO, e]
        have q1 := q H (Same.refl H)
        rw [e2] at q1
        exact q1
theorem ok_check_saysX {f : Addr} {fd : FuncData} (F : Fun K "_check_says" "_check_says" s__check_says f fd) (T : Txt P w K mg base A) (c_is_form : Cal P w K mg base 3 "is_form" ["value", "size"] (spFormI K)) : FnOk P w K mg base (L2.CX P w) 4 f fd ["row", "says", "size"] (spSaysX K A) := by
  refine F.okX sc__check_says (fun vs H Q E h => ?_) (fun cdv Ar outer s H vs Q E hr h => ?_)
  · obtain ⟨i, v, n, o, rfl, _⟩ := h
    rfl
  · obtain ⟨i, v, n, o, rfl, hv, hn, q, er⟩ := h
    refine ⟨_, (pss_cons (ps_if (pt_not (pt_val (pe_callB call_isi (by rfl) T.z_isinstance (by decide +kernel) (pa_cons (pv 1) (pa_cons (pe_bltn (v := .ty "tuple") (by rfl) T.z_tuple (by first | exact PySem.boot_tuple | decide +kernel) rfl) pa_nil))))) (pss_one (ps_rz3 T.e_NoCode hr (by decide) (takes_of rfl rfl rfl rfl) (pa_cons (pv 0) (pa_cons pe_str (pa_cons (pe_un un_neg pe_int) pa_nil))))) pss_nil)
        (pss_one (ps_for (passes_of rfl) rfl (pi_enumE (by rfl) T.z_enumerate (pa_cons (pv 1) pa_nil)) (pg_tup rfl (pgs_cons (pg_name (i := 3) sc__check_says.nd rfl (Or.inl rfl)) (pgs_cons (pg_name (i := 4) sc__check_says.nd rfl (Or.inl rfl)) pgs_nil))) (pss_one (ps_if (pt_not (pt_val (pcal c_is_form hr (by decide) (pa_cons (pv 4) (pa_cons (pv 2) pa_nil))))) (pss_one (ps_rz3 T.e_NoCode hr (by decide) (takes_of rfl rfl rfl rfl) (pa_cons (pv 0) (pa_cons pe_str (pa_cons (pv 3) pa_nil))))) pss_nil))))), ?_⟩
    cases hv with
    | no h h2 =>
      walk_at "lk"
      refine s_isiTo h h2 ?_
      walk_at "lk"
      refine itt_ rfl ?_
      walk_at "lk"
      exact s_rz3 fun d H' s h => er (-1) rfl d H' s h
    | @tup p us os hx hds =>
      walk_at "lk"
      refine s_isiTq hx ?_
      walk_at "lk"
      refine iff_ rfl ?_
      walk_at "lk"
      refine for_enE (xs := us) (fun j σ' H' => (∃ e1 e2, σ' = [some (.int i), some (.ref p), some (.int n), e1, e2]) ∧ Same H H' ∧ ∀ (k : Nat) (b : Option (List PyData)), k < j → os[k]? = some b → formO n b = true) rfl (.inr hx) ⟨⟨_, _, rfl⟩, Same.refl _, fun k b hk => absurd hk (Nat.not_lt_zero _)⟩ (fun j σ' H' h => h.2.1) ?_ ?_
      · rintro j v p2 σ' H' hi ⟨⟨e1, e2, rfl⟩, s2, g⟩ hp
        have s3 : Same H (upd H' p2 (.tup [.int (j : Nat), v])) := s2.trans (same_new hp)
        refine g_pair (SqT.of upd_same) ?_
        generalize upd H' p2 (.tup [.int (j : Nat), v]) = H3 at s3 ⊢
        obtain ⟨o, hoi, hov⟩ := hds.at hi
        walk_at "lk"
        refine ⟨v, o, n, rfl, hov.same s3, hn, fun H4 s4 => ?_⟩
        walk_at "lk"
        cases hf : formO n o with
        | true =>
          refine iff_ rfl ?_
          refine ⟨⟨_, _, rfl⟩, s3.trans s4, fun k b hk hb => ?_⟩
          by_cases c : k = j
          · rw [c, hoi] at hb
            cases hb
            exact hf
          · exact g k b (by omega) hb
        | false =>
          refine itt_ rfl ?_
          walk_at "lk"
          have e9 : saysO n (some os) = some (j : Int) := by
            show (firstB (formO n) os 0).map (fun (j : Nat) => (j : Int)) = _
            rw [firstB_at g hoi hf, Nat.zero_add]
            rfl
          exact s_rz3 fun d H' s h => er j e9 d H' ((s3.trans s4).trans s) h
      · rintro σ' H' ⟨⟨e1, e2, rfl⟩, s2, g⟩
        refine q ?_ _ s2
        show (firstB (formO n) os 0).map (fun (j : Nat) => (j : Int)) = none
        rw [firstB_none fun k b hb => g k b (by have := (List.getElem?_eq_some_iff.mp hb).1; have := hds.len; omega) hb]
        rfl
end
end K41

namespace K41
open PySem PySem.Spec PyProof.Rows L2 RZ Lk
local macro_rules | `(tactic| walk_at "lk") => `(tactic| (repeat (first
  | with_reducible refine ssq ?_ | with_reducible refine sas ?_ | with_reducible refine sgn ?_ | ((with_reducible show tVar _ _ _ _); refine sv rfl ?_) | with_reducible refine sc ?_ | with_reducible refine sop ?_ | with_reducible refine sun ?_
  | with_reducible refine sI0 ?_ | with_reducible refine sU ?_ | with_reducible refine stt ?_ | with_reducible refine stB ?_ | with_reducible refine sbl ?_ | with_reducible refine snt ?_ | with_reducible refine sif ?_ | with_reducible refine scB ?_
  | with_reducible refine scn ?_ | with_reducible refine snl ?_ | with_reducible refine scl ?_ | with_reducible refine stu ?_ | with_reducible refine sli ?_ | with_reducible refine sdr ?_ | with_reducible refine srt ?_ | with_reducible refine snx ?_ | with_reducible refine sfor ?_ | with_reducible refine sils ?_ | with_reducible refine sien ?_ | with_reducible refine sor ?_ | with_reducible refine sfg ?_
  | with_reducible refine sav ?_ | with_reducible refine sov ?_ | with_reducible refine snv ?_ | with_reducible refine sch ?_ | with_reducible refine san ?_ | with_reducible refine ssll ?_ | with_reducible refine spt ?_ | with_reducible refine snp ?_ | with_reducible refine sin ?_ | with_reducible refine sfl ?_ | with_reducible refine sfd ?_ | with_reducible refine sbm ?_ | with_reducible refine sifx ?_ | with_reducible refine smk ?_ | with_reducible refine ssli ?_ | with_reducible refine srz3 ?_ | with_reducible refine scx ?_ | with_reducible refine sbz ?_
  | ((with_reducible show Or _ _); first | refine Or.inl ⟨_, rfl, ?_⟩ | refine Or.inr ⟨_, rfl, ?_⟩))))

def spNxsX (K : PySem.W.Frag) (A : Ad) : Sp := fun vs H Q E => ∃ (i : Int) (kd : Str) (v : V) (m : Int) (o : Option (List PyData)) (lo hi : Int), vs = [.int i, .str kd, v, .int m] ∧ ndLim kd = some (lo, hi) ∧ It K H v o ∧ (nextsO lo hi m o = none → ∀ H', Same H H' → Q .non H') ∧ ∀ j, nextsO lo hi m o = some j → ErR A.NoCode i "next" j E H
def spChangesX (K : PySem.W.Frag) (A : Ad) : Sp := fun vs H Q E => ∃ (i : Int) (v : V) (l : Addr) (n : Int) (cs : List Int) (o : Option (List (Option (List (Option (List PyData)))))), vs = [.int i, v, .ref l, .int n] ∧ Cv K H v o ∧ H l = some (.lst (cs.map V.int)) ∧ (∀ c ∈ cs, c ≤ 900) ∧ n ≤ 900 ∧ (changesO cs n o = none → ∀ H', Same H H' → Q .non H') ∧ ∀ j, changesO cs n o = some j → ErR A.NoCode i "changes" j E H
theorem zip_at {α β : Type} {as : List α} {bs : List β} {j : Nat} {a : α} {b : β} (h1 : as[j]? = some a) (h2 : bs[j]? = some b) : (as.zip bs)[j]? = some (a, b) := by
  rw [List.getElem?_zip_eq_some]
  exact ⟨h1, h2⟩
section
variable {P : Program} {w : World} {K : PySem.W.Frag} {mg : Str → Option Value} {base : Heap} {A : Ad}
theorem ok_check_nextsX {f : Addr} {fd : FuncData} (F : Fun K "_check_nexts" "_check_nexts" s__check_nexts f fd) (T : Txt P w K mg base A) (c_is_within : Cal P w K mg base 2 "is_within" ["value", "least", "most"] (spWithin K)) : FnOk P w K mg base (L2.CX P w) 4 f fd ["row", "kind", "nexts", "many"] (spNxsX K A) := by
  refine F.okX sc__check_nexts (fun vs H Q E h => ?_) (fun cdv Ar outer s H vs Q E hr h => ?_)
  · obtain ⟨i, kd, v, m, o, lo, hi, rfl, _⟩ := h
    rfl
  · obtain ⟨i, kd, v, m, o, lo, hi, rfl, e, hv, q, er⟩ := h
    refine ⟨_, (pss_cons (ps_asg (pe_ix ix_kdict (pe_glob (v := .ref A.NEXTS) (by rfl) T.g_NEXTS rfl) (pv 1) (fun _ _ => rfl)) (pg_tup rfl (pgs_cons (pg_name (i := 4) sc__check_nexts.nd rfl (Or.inl rfl)) (pgs_cons (pg_name (i := 5) sc__check_nexts.nd rfl (Or.inl rfl)) pgs_nil))))
        (pss_cons (ps_if (PW.pt (pw_or (pt_not (pt_val (pe_callB call_isi (by rfl) T.z_isinstance (by decide +kernel) (pa_cons (pv 2) (pa_cons (pe_bltn (v := .ty "tuple") (by rfl) T.z_tuple (by first | exact PySem.boot_tuple | decide +kernel) rfl) pa_nil))))) (pw_or1 (pt_not (pt_chain op_le op_le (pv 4) (pe_callB call_len_seq (by rfl) T.z_len PySem.boot_len (pa_cons (pv 2) pa_nil)) (pv 5)))))) (pss_one (ps_rz3 T.e_NoCode hr (by decide) (takes_of rfl rfl rfl rfl) (pa_cons (pv 0) (pa_cons pe_str (pa_cons (pe_un un_neg pe_int) pa_nil))))) pss_nil)
        (pss_one (ps_for (passes_of rfl) rfl (pi_enumE (by rfl) T.z_enumerate (pa_cons (pv 2) pa_nil)) (pg_tup rfl (pgs_cons (pg_name (i := 6) sc__check_nexts.nd rfl (Or.inl rfl)) (pgs_cons (pg_name (i := 7) sc__check_nexts.nd rfl (Or.inl rfl)) pgs_nil))) (pss_one (ps_if (pt_not (pt_val (pcal c_is_within hr (by decide) (pa_cons (pv 7) (pa_cons pe_int (pa_cons (pe_op op_sub (pv 3) pe_int) pa_nil)))))) (pss_one (ps_rz3 T.e_NoCode hr (by decide) (takes_of rfl rfl rfl rfl) (pa_cons (pv 0) (pa_cons pe_str (pa_cons (pv 6) pa_nil))))) pss_nil)))))), ?_⟩
    obtain ⟨es, nn, KD⟩ := T.x_NEXTS
    obtain ⟨pn, hpn, hpt⟩ := T.v_NEXTS _ _ _ e
    walk_at "lk"
    refine ⟨A.NEXTS, kd, .ref pn, rfl, rfl, ⟨es, nn, _, KD.at_, KD.lit, hpn, rfl⟩, ?_⟩
    refine g_pair (hpt H) ?_
    cases hv with
    | no h h2 =>
      walk_at "lk"
      refine s_isiTo h h2 ?_
      walk_at "lk"
      refine itt_ rfl ?_
      refine itt_ rfl ?_
      walk_at "lk"
      exact s_rz3 fun d H' s h => er (-1) rfl d H' s h
    | @tup p xs ds hx hds =>
      have hlen := dpa_len hds
      walk_at "lk"
      refine s_isiTq hx ?_
      walk_at "lk"
      refine iff_ rfl ?_
      walk_at "lk"
      refine ⟨p, xs, rfl, .inr hx, ?_⟩
      rw [hlen]
      walk_at "lk"
      by_cases c1 : lo ≤ (ds.length : Int)
      · refine itt_ (decide_eq_true c1) ?_
        walk_at "lk"
        by_cases c2 : (ds.length : Int) ≤ hi
        · refine iff_ (by rw [decide_eq_true c2]; rfl) ?_
          have ew : nextsO lo hi m (some ds) = (firstB (fun d => withinD d 0 (m - 1)) ds 0).map fun (j : Nat) => (j : Int) := if_pos ⟨c1, c2⟩
          walk_at "lk"
          refine for_enE (xs := xs) (fun j σ' H' => (∃ e1 e2, σ' = [some (.int i), some (.str kd), some (.ref p), some (.int m), some (.int lo), some (.int hi), e1, e2]) ∧ Same H H' ∧ ∀ (k : Nat) (b : PyData), k < j → ds[k]? = some b → withinD b 0 (m - 1) = true) rfl (.inr hx) ⟨⟨_, _, rfl⟩, Same.refl _, fun k b hk => absurd hk (Nat.not_lt_zero _)⟩ (fun j σ' H' h => h.2.1) ?_ ?_
          · rintro j v p2 σ' H' hij ⟨⟨e1, e2, rfl⟩, s2, g⟩ hp
            have s3 : Same H (upd H' p2 (.tup [.int (j : Nat), v])) := s2.trans (same_new hp)
            refine g_pair (SqT.of upd_same) ?_
            generalize upd H' p2 (.tup [.int (j : Nat), v]) = H3 at s3 ⊢
            obtain ⟨d, hdi, hdv⟩ := dpa_at hds hij
            walk_at "lk"
            refine ⟨v, d, 0, m - 1, rfl, dp_same s3 hdv, ?_⟩
            walk_at "lk"
            cases hf : withinD d 0 (m - 1) with
            | true =>
              refine iff_ rfl ?_
              refine ⟨⟨_, _, rfl⟩, s3, fun k b hk hb => ?_⟩
              by_cases c : k = j
              · rw [c, hdi] at hb
                cases hb
                exact hf
              · exact g k b (by omega) hb
            | false =>
              refine itt_ rfl ?_
              walk_at "lk"
              have e9 : nextsO lo hi m (some ds) = some (j : Int) := by
                rw [ew, firstB_at g hdi hf, Nat.zero_add]
                rfl
              exact s_rz3 fun d H' s h => er j e9 d H' (s3.trans s) h
          · rintro σ' H' ⟨⟨e1, e2, rfl⟩, s2, g⟩
            refine q ?_ _ s2
            rw [ew, firstB_none fun k b hb => g k b (by have := (List.getElem?_eq_some_iff.mp hb).1; omega) hb]
            rfl
        · refine itt_ (by rw [decide_eq_false c2]; rfl) ?_
          walk_at "lk"
          exact s_rz3 fun d H' s h => er (-1) (if_neg fun z => c2 z.2) d H' s h
      · refine iff_ (decide_eq_false c1) ?_
        walk_at "lk"
        refine itt_ rfl ?_
        walk_at "lk"
        exact s_rz3 fun d H' s h => er (-1) (if_neg fun z => c1 z.1) d H' s h
theorem ok_check_changesX {f : Addr} {fd : FuncData} (F : Fun K "_check_changes" "_check_changes" s__check_changes f fd) (T : Txt P w K mg base A) (c_are_forms : Cal P w K mg base 4 "are_forms" ["forms", "many", "size"] (spFormsX K)) : FnOk P w K mg base (L2.CX P w) 5 f fd ["row", "changes", "counts", "size"] (spChangesX K A) := by
  refine F.okX sc__check_changes (fun vs H Q E h => ?_) (fun cdv Ar outer s H vs Q E hr h => ?_)
  · obtain ⟨i, v, l, n, cs, o, rfl, _⟩ := h
    rfl
  · obtain ⟨i, v, l, n, cs, o, rfl, hv, hl, hc, hn, q, er⟩ := h
    refine ⟨_, (pss_cons (ps_if (PW.pt (pw_or (pt_not (pt_val (pe_callB call_isi (by rfl) T.z_isinstance (by decide +kernel) (pa_cons (pv 1) (pa_cons (pe_bltn (v := .ty "tuple") (by rfl) T.z_tuple (by first | exact PySem.boot_tuple | decide +kernel) rfl) pa_nil))))) (pw_or1 (pt_cmpR op_ne (pe_callB call_len_seq (by rfl) T.z_len PySem.boot_len (pa_cons (pv 1) pa_nil)) (pe_callB call_len_seq (by rfl) T.z_len PySem.boot_len (pa_cons (pv 2) pa_nil)) (nomark _))))) (pss_one (ps_rz3 T.e_NoCode hr (by decide) (takes_of rfl rfl rfl rfl) (pa_cons (pv 0) (pa_cons pe_str (pa_cons (pe_un un_neg pe_int) pa_nil))))) pss_nil)
        (pss_one (ps_for (passes_of rfl) rfl (pi_enumE (by rfl) T.z_enumerate (pa_cons (pv 1) pa_nil)) (pg_tup rfl (pgs_cons (pg_name (i := 4) sc__check_changes.nd rfl (Or.inl rfl)) (pgs_cons (pg_name (i := 5) sc__check_changes.nd rfl (Or.inl rfl)) pgs_nil))) (pss_one (ps_if (pt_not (pt_val (pcal c_are_forms hr (by decide) (pa_cons (pv 5) (pa_cons (pe_ix ix_list (pv 2) (pv 4) (fun _ _ => rfl)) (pa_cons (pv 3) pa_nil)))))) (pss_one (ps_rz3 T.e_NoCode hr (by decide) (takes_of rfl rfl rfl rfl) (pa_cons (pv 0) (pa_cons pe_str (pa_cons (pv 4) pa_nil))))) pss_nil))))), ?_⟩
    cases hv with
    | no h h2 =>
      walk_at "lk"
      refine s_isiTo h h2 ?_
      walk_at "lk"
      refine itt_ rfl ?_
      refine itt_ rfl ?_
      walk_at "lk"
      exact s_rz3 fun d H' s h => er (-1) rfl d H' s h
    | @tup p us os hx hds =>
      have hlen := hds.len
      walk_at "lk"
      refine s_isiTq hx ?_
      walk_at "lk"
      refine iff_ rfl ?_
      walk_at "lk"
      refine ⟨p, us, rfl, .inr hx, ?_⟩
      rw [hlen]
      walk_at "lk"
      refine ⟨l, cs.map V.int, rfl, .inl (SqL.of hl), ?_⟩
      rw [List.length_map]
      refine sNe rfl ?_
      walk_at "lk"
      by_cases c1 : os.length = cs.length
      · refine iff_ (by rw [c1]; simp) ?_
        have ew : changesO cs n (some os) = (firstB (fun x : Int × Option (List (Option (List PyData))) => formsO x.1 n x.2) (cs.zip os) 0).map fun (j : Nat) => (j : Int) := if_pos c1
        walk_at "lk"
        refine for_enE (xs := us) (fun j σ' H' => (∃ e1 e2, σ' = [some (.int i), some (.ref p), some (.ref l), some (.int n), e1, e2]) ∧ Same H H' ∧ ∀ (k : Nat) (b : Int × Option (List (Option (List PyData)))), k < j → (cs.zip os)[k]? = some b → formsO b.1 n b.2 = true) rfl (.inr hx) ⟨⟨_, _, rfl⟩, Same.refl _, fun k b hk => absurd hk (Nat.not_lt_zero _)⟩ (fun j σ' H' h => h.2.1) ?_ ?_
        · rintro j v p2 σ' H' hij ⟨⟨e1, e2, rfl⟩, s2, g⟩ hp
          have s3 : Same H (upd H' p2 (.tup [.int (j : Nat), v])) := s2.trans (same_new hp)
          refine g_pair (SqT.of upd_same) ?_
          generalize upd H' p2 (.tup [.int (j : Nat), v]) = H3 at s3 ⊢
          obtain ⟨o, hoi, hov⟩ := hds.at hij
          have hlt : j < cs.length := by
            have := (List.getElem?_eq_some_iff.mp hoi).1
            omega
          have hcj : cs[j]? = some cs[j] := List.getElem?_eq_getElem hlt
          have hzj := zip_at hcj hoi
          walk_at "lk"
          refine sfr (SqL.of (s3 _ _ hl)) (atI_ints (z := (j : Int)) (x := cs[j]) (by simpa using hcj) (by omega)) ?_
          walk_at "lk"
          refine ⟨v, o, cs[j], n, rfl, hov.same s3, hc _ (List.getElem_mem hlt), hn, fun H4 s4 => ?_⟩
          walk_at "lk"
          cases hf : formsO cs[j] n o with
          | true =>
            refine iff_ rfl ?_
            refine ⟨⟨_, _, rfl⟩, s3.trans s4, fun k b hk hb => ?_⟩
            by_cases c : k = j
            · rw [c, hzj] at hb
              cases hb
              exact hf
            · exact g k b (by omega) hb
          | false =>
            refine itt_ rfl ?_
            walk_at "lk"
            have e9 : changesO cs n (some os) = some (j : Int) := by
              rw [ew, firstB_at g hzj hf, Nat.zero_add]
              rfl
            exact s_rz3 fun d H' s h => er j e9 d H' ((s3.trans s4).trans s) h
        · rintro σ' H' ⟨⟨e1, e2, rfl⟩, s2, g⟩
          refine q ?_ _ s2
          rw [ew, firstB_none fun k b hb => g k b (by have := (List.getElem?_eq_some_iff.mp hb).1; rw [List.length_zip] at this; omega) hb]
          rfl
      · refine itt_ (by rw [decide_eq_false (fun z => c1 (by have := V.int.inj z; omega))]; rfl) ?_
        walk_at "lk"
        exact s_rz3 fun d H' s h => er (-1) (if_neg c1) d H' s h
end
end K41

namespace K41
open PySem PySem.Spec PyProof.Rows L2 RZ Lk
local macro_rules | `(tactic| walk_at "lk") => `(tactic| (repeat (first
  | with_reducible refine ssq ?_ | with_reducible refine sas ?_ | with_reducible refine sgn ?_ | ((with_reducible show tVar _ _ _ _); refine sv rfl ?_) | with_reducible refine sc ?_ | with_reducible refine sop ?_ | with_reducible refine sun ?_
  | with_reducible refine sI0 ?_ | with_reducible refine sU ?_ | with_reducible refine stt ?_ | with_reducible refine stB ?_ | with_reducible refine sbl ?_ | with_reducible refine snt ?_ | with_reducible refine sif ?_ | with_reducible refine scB ?_
  | with_reducible refine scn ?_ | with_reducible refine snl ?_ | with_reducible refine scl ?_ | with_reducible refine stu ?_ | with_reducible refine sli ?_ | with_reducible refine sdr ?_ | with_reducible refine srt ?_ | with_reducible refine snx ?_ | with_reducible refine sfor ?_ | with_reducible refine sils ?_ | with_reducible refine sien ?_ | with_reducible refine sor ?_ | with_reducible refine sfg ?_
  | with_reducible refine sav ?_ | with_reducible refine sov ?_ | with_reducible refine snv ?_ | with_reducible refine sch ?_ | with_reducible refine san ?_ | with_reducible refine ssll ?_ | with_reducible refine spt ?_ | with_reducible refine snp ?_ | with_reducible refine sin ?_ | with_reducible refine sfl ?_ | with_reducible refine sfd ?_ | with_reducible refine sbm ?_ | with_reducible refine sifx ?_ | with_reducible refine smk ?_ | with_reducible refine ssli ?_ | with_reducible refine srz3 ?_ | with_reducible refine scx ?_ | with_reducible refine sbz ?_
  | ((with_reducible show Or _ _); first | refine Or.inl ⟨_, rfl, ?_⟩ | refine Or.inr ⟨_, rfl, ?_⟩))))

def spSeqG (K : PySem.W.Frag) : Sp := fun vs H Q _ => ∃ (v : V) (o : Option (List V)) (a b : Int), vs = [v, .int a, .int b] ∧ Sh K H v o ∧ ∀ H', Same H H' → Q (.bl (shB o a b)) H'
def startO (n : Int) (ds : List PyData) : Bool := decide ((ds.length : Int) = n) && ds.all isIntD
def spWrongX (K : PySem.W.Frag) : Sp := fun vs H Q _ => ∃ (p : Addr) (xs : List V) (ds : List PyData) (n : Int), vs = [.ref p, .int n] ∧ SqT K H p xs ∧ DpAll K H xs ds ∧ (startO n ds = true → ∀ H', Same H H' → Q .non H') ∧ (startO n ds = false → ∀ (j : Int) H', Same H H' → Q (.int j) H')
/-- what the head of a code is told -/
def spHeadX (K : PySem.W.Frag) (A : Ad) : Sp := fun vs H Q E => ∃ (wv cv rv sv : V) (wd : PyData), vs = [wv, cv, rv, sv] ∧ Dp K H wv wd ∧
  ((withinD wd 1 64 = false ∧ ErR A.NoCode (-1) "width" (-1) E H) ∨
   (withinD wd 1 64 = true ∧ ∃ ro, Sh K H rv ro ∧
    ((shB ro 1 200 = false ∧ ErR A.NoCode (-1) "rows" (-1) E H) ∨
     (∃ (t : Addr) (us : List V), rv = .ref t ∧ SqE K H t us ∧ 1 ≤ us.length ∧ us.length ≤ 200 ∧ ∃ co, Sh K H cv co ∧
      ((shB co us.length us.length = false ∧ ErR A.NoCode (-1) "counts" (-1) E H) ∨
       (∃ (l : Addr) (xs : List V) (ds : List PyData), cv = .ref l ∧ SqE K H l xs ∧ DpAll K H xs ds ∧ xs.length = us.length ∧
        ((∃ j : Nat, firstB (fun d => withinD d 0 64) ds 0 = some j ∧ ErR A.NoCode (-1) "counts" j E H) ∨
         (firstB (fun d => withinD d 0 64) ds 0 = none ∧ ∃ (c0 : Int) (so : Option (List PyData)), ds[0]? = some (.int c0) ∧ It K H sv so ∧
          (((so = none ∨ ∃ d2, so = some d2 ∧ startO c0 d2 = false) ∧ ErR A.NoCode (-1) "start" (-1) E H) ∨
           ((∃ d2, so = some d2 ∧ startO c0 d2 = true) ∧ ∀ H', Same H H' → Q .non H'))))))))))
theorem sh_int_ok {us : List V} (h1 : 1 ≤ us.length) (h2 : us.length ≤ 200) : shB (some us) 1 200 = true := by
  show (decide _ && decide _) = true
  rw [decide_eq_true (by omega), decide_eq_true (by omega)]
  rfl
theorem sh_len_ok {xs : List V} {n : Nat} (h : xs.length = n) : shB (some xs) n n = true := by
  show (decide _ && decide _) = true
  rw [decide_eq_true (by omega), decide_eq_true (by omega)]
  rfl
section
variable {P : Program} {w : World} {K : PySem.W.Frag} {mg : Str → Option Value} {base : Heap} {A : Ad}
theorem ok_seqG {f : Addr} {fd : FuncData} (F : Fun K "is_sequence" "is_sequence" s_is_sequence f fd) (T : Txt P w K mg base A) : FnOk P w K mg base CX0 1 f fd ["value", "least", "most"] (spSeqG K) := by
  refine F.ok sc_is_sequence (fun vs H Q E h => ?_) (fun cdv Ar outer s H vs Q E hr h => ?_)
  · obtain ⟨v, o, a, b, rfl, _⟩ := h
    rfl
  · obtain ⟨v, o, a, b, rfl, hd, k⟩ := h
    refine ⟨_, (pss_one (ps_ret (pe_and (pe_callB call_isiT (by rfl) T.z_isinstance (by decide +kernel) (pa_cons (pv 0) (pa_cons (pe_tup (pa_cons (pe_bltn (v := .ty "list") (by rfl) T.z_list (by first | exact PySem.boot_list | decide +kernel) rfl) (pa_cons (pe_bltn (v := .ty "tuple") (by rfl) T.z_tuple (by first | exact PySem.boot_tuple | decide +kernel) rfl) pa_nil))) pa_nil))) (pe_one (pe_chain op_le op_le (pv 1) (pe_callB call_len_seq (by rfl) T.z_len PySem.boot_len (pa_cons (pv 0) pa_nil)) (pv 2)))))), ?_⟩
    walk_at "lk"
    refine snw (Nat.le_of_ble_eq_true rfl) fun t ht => ?_
    have s1 : Same H (upd H t (.tup [.ty "list", .ty "tuple"])) := same_new ht
    have h1 := hd.same s1
    have k1 := k _ s1
    walk_at "lk"
    refine s_isiSh h1 upd_same ?_
    walk_at "lk"
    generalize upd H t (.tup [.ty "list", .ty "tuple"]) = H1 at h1 k1 ⊢
    cases h1 with
    | seq hq =>
      refine ite2 (fun _ => ?_) (fun z => absurd rfl z)
      walk_at "lk"
      refine ⟨_, _, rfl, hq, ?_⟩
      walk_at "lk"
      have k2 := two_le k1
      refine ite2 (fun e => ?_) (fun e => ?_)
      · rw [if_pos e] at k2
        walk_at "lk"
        exact k2
      · rw [if_neg e] at k2
        exact k2
    | no _ _ _ => exact k1
theorem ok_wrong_integerX {f : Addr} {fd : FuncData} (F : Fun K "wrong_integer" "wrong_integer" s_wrong_integer f fd) (T : Txt P w K mg base A) (c_is_sequence : Cal P w K mg base 1 "is_sequence" ["value", "least", "most"] (spSeqG K)) (c_is_integer : Cal P w K mg base 1 "is_integer" ["value"] (spIsInt K)) : FnOk P w K mg base CX0 2 f fd ["value", "size"] (spWrongX K) := by
  refine F.ok sc_wrong_integer (fun vs H Q E h => ?_) (fun cdv Ar outer s H vs Q E hr h => ?_)
  · obtain ⟨p, xs, ds, n, rfl, _⟩ := h
    rfl
  · obtain ⟨p, xs, ds, n, rfl, hx, hds, q, q2⟩ := h
    refine ⟨_, (pss_cons (ps_if (pt_not (pt_val (pcal c_is_sequence hr (by decide) (pa_cons (pv 0) (pa_cons (pv 1) (pa_cons (pv 1) pa_nil)))))) (pss_one (ps_ret (pe_un un_neg pe_int))) pss_nil)
        (pss_cons (ps_for PassesOwn.never rfl (pi_enumE (by rfl) T.z_enumerate (pa_cons (pv 0) pa_nil)) (pg_tup rfl (pgs_cons (pg_name (i := 2) sc_wrong_integer.nd rfl (Or.inl rfl)) (pgs_cons (pg_name (i := 3) sc_wrong_integer.nd rfl (Or.inl rfl)) pgs_nil))) (pss_one (ps_if (pt_not (pt_val (pcal c_is_integer hr (by decide) (pa_cons (pv 3) pa_nil)))) (pss_one (ps_ret (pv 2))) pss_nil)))
        (pss_one (ps_ret pe_non)))), ?_⟩
    have hlen := dpa_len hds
    walk_at "lk"
    refine ⟨.ref p, some xs, n, n, rfl, .seq (.inr hx), fun H1 s1 => ?_⟩
    walk_at "lk"
    by_cases e : (ds.length : Int) = n
    · rw [show shB (some xs) n n = true from by
        show (decide _ && decide _) = true
        rw [decide_eq_true (by omega), decide_eq_true (by omega)]
        rfl]
      refine iff_ rfl ?_
      have hx1 := same_sqT s1 hx
      walk_at "lk"
      refine for_enE (xs := xs) (fun j σ' H' => (∃ e1 e2, σ' = [some (.ref p), some (.int n), e1, e2]) ∧ Same H1 H' ∧ ∀ (k : Nat) (b : PyData), k < j → ds[k]? = some b → isIntD b = true) rfl (.inr hx1) ⟨⟨_, _, rfl⟩, Same.refl _, fun k b hk => absurd hk (Nat.not_lt_zero _)⟩ (fun j σ' H' h => h.2.1) ?_ ?_
      · rintro j v p2 σ' H' hij ⟨⟨e1, e2, rfl⟩, s2, g⟩ hp
        have s3 : Same H1 (upd H' p2 (.tup [.int (j : Nat), v])) := s2.trans (same_new hp)
        refine g_pair (SqT.of upd_same) ?_
        generalize upd H' p2 (.tup [.int (j : Nat), v]) = H3 at s3 ⊢
        obtain ⟨d, hdi, hdv⟩ := dpa_at hds hij
        walk_at "lk"
        refine ⟨v, d, rfl, dp_same (s1.trans s3) hdv, ?_⟩
        walk_at "lk"
        cases hf : isIntD d with
        | true =>
          refine iff_ rfl ?_
          refine ⟨⟨_, _, rfl⟩, s3, fun k b hk hb => ?_⟩
          by_cases c : k = j
          · rw [c, hdi] at hb
            cases hb
            exact hf
          · exact g k b (by omega) hb
        | false =>
          refine itt_ rfl ?_
          walk_at "lk"
          refine q2 ?_ _ _ (s1.trans s3)
          have : ds.all isIntD = false := by
            rw [List.all_eq_false]
            exact ⟨d, List.mem_of_getElem? hdi, by rw [hf]; decide⟩
          unfold startO
          rw [this, Bool.and_false]
      · rintro σ' H' ⟨⟨e1, e2, rfl⟩, s2, g⟩
        walk_at "lk"
        refine q ?_ _ (s1.trans s2)
        unfold startO
        rw [decide_eq_true e, Bool.true_and, List.all_eq_true]
        intro d hd
        obtain ⟨k, hk⟩ := List.getElem?_of_mem hd
        exact g k d (by have := (List.getElem?_eq_some_iff.mp hk).1; omega) hk
    · rw [show shB (some xs) n n = false from by
        show (decide _ && decide _) = false
        by_cases c : n ≤ (xs.length : Int)
        · rw [decide_eq_true c, decide_eq_false (by omega)]
          rfl
        · rw [decide_eq_false c]
          rfl]
      refine itt_ rfl ?_
      walk_at "lk"
      refine q2 ?_ _ _ s1
      unfold startO
      rw [decide_eq_false e, Bool.false_and]
theorem ok_check_headX {f : Addr} {fd : FuncData} (F : Fun K "_check_head" "_check_head" s__check_head f fd) (T : Txt P w K mg base A) (c_is_width : Cal P w K mg base 3 "is_width" ["value"] (spWidth K)) (c_is_sequence : Cal P w K mg base 1 "is_sequence" ["value", "least", "most"] (spSeqG K)) (c_is_within : Cal P w K mg base 2 "is_within" ["value", "least", "most"] (spWithin K)) (c_wrong_integer : Cal P w K mg base 2 "wrong_integer" ["value", "size"] (spWrongX K)) : FnOk P w K mg base (L2.CX P w) 4 f fd ["width", "counts", "rows", "start"] (spHeadX K A) := by
  refine F.okX sc__check_head (fun vs H Q E h => ?_) (fun cdv Ar outer s H vs Q E hr h => ?_)
  · obtain ⟨wv, cv, rv, sv, wd, rfl, _⟩ := h
    rfl
  · obtain ⟨wv, cv, rv, sv, wd, rfl, hwd, hh⟩ := h
    refine ⟨_, (pss_cons (ps_if (pt_not (pt_val (pcal c_is_width hr (by decide) (pa_cons (pv 0) pa_nil)))) (pss_one (ps_rz3 T.e_NoCode hr (by decide) (takes_of rfl rfl rfl rfl) (pa_cons (pe_un un_neg pe_int) (pa_cons pe_str (pa_cons (pe_un un_neg pe_int) pa_nil))))) pss_nil)
        (pss_cons (ps_if (pt_not (pt_val (pcal c_is_sequence hr (by decide) (pa_cons (pv 2) (pa_cons pe_int (pa_cons (pe_gint (by rfl) T.g_MOST_ROWS) pa_nil)))))) (pss_one (ps_rz3 T.e_NoCode hr (by decide) (takes_of rfl rfl rfl rfl) (pa_cons (pe_un un_neg pe_int) (pa_cons pe_str (pa_cons (pe_un un_neg pe_int) pa_nil))))) pss_nil)
        (pss_cons (ps_if (pt_not (pt_val (pcal c_is_sequence hr (by decide) (pa_cons (pv 1) (pa_cons (pe_callB call_len_seq (by rfl) T.z_len PySem.boot_len (pa_cons (pv 2) pa_nil)) (pa_cons (pe_callB call_len_seq (by rfl) T.z_len PySem.boot_len (pa_cons (pv 2) pa_nil)) pa_nil)))))) (pss_one (ps_rz3 T.e_NoCode hr (by decide) (takes_of rfl rfl rfl rfl) (pa_cons (pe_un un_neg pe_int) (pa_cons pe_str (pa_cons (pe_un un_neg pe_int) pa_nil))))) pss_nil)
        (pss_cons (ps_for (passes_of rfl) rfl (pi_enumE (by rfl) T.z_enumerate (pa_cons (pv 1) pa_nil)) (pg_tup rfl (pgs_cons (pg_name (i := 4) sc__check_head.nd rfl (Or.inl rfl)) (pgs_cons (pg_name (i := 5) sc__check_head.nd rfl (Or.inl rfl)) pgs_nil))) (pss_one (ps_if (pt_not (pt_val (pcal c_is_within hr (by decide) (pa_cons (pv 5) (pa_cons pe_int (pa_cons (pe_gint (by rfl) T.g_MOST_REGISTERS) pa_nil)))))) (pss_one (ps_rz3 T.e_NoCode hr (by decide) (takes_of rfl rfl rfl rfl) (pa_cons (pe_un un_neg pe_int) (pa_cons pe_str (pa_cons (pv 4) pa_nil))))) pss_nil)))
        (pss_one (ps_if (PW.pt (pw_or (pt_not (pt_val (pe_callB call_isi (by rfl) T.z_isinstance (by decide +kernel) (pa_cons (pv 3) (pa_cons (pe_bltn (v := .ty "tuple") (by rfl) T.z_tuple (by first | exact PySem.boot_tuple | decide +kernel) rfl) pa_nil))))) (pw_or1 (pt_cmpR op_notN (pcal c_wrong_integer hr (by decide) (pa_cons (pv 3) (pa_cons (pe_ix (ix_list.or ix_tup) (pv 1) pe_int (fun _ _ => rfl)) pa_nil))) pe_non (nomark _))))) (pss_one (ps_rz3 T.e_NoCode hr (by decide) (takes_of rfl rfl rfl rfl) (pa_cons (pe_un un_neg pe_int) (pa_cons pe_str (pa_cons (pe_un un_neg pe_int) pa_nil))))) pss_nil)))))), ?_⟩
    walk_at "lk"
    refine ⟨wv, wd, rfl, hwd, ?_⟩
    walk_at "lk"
    rcases hh with ⟨e, er⟩ | ⟨e, ro, hro, hh⟩
    · rw [e]
      refine itt_ rfl ?_
      walk_at "lk"
      exact s_rz3 fun d H' s h => er d H' s h
    rw [e]
    refine iff_ rfl ?_
    walk_at "lk"
    rcases hh with ⟨e, er⟩ | ⟨t, us, rfl, ht, l1, l2, co, hco, hh⟩
    · refine ⟨rv, ro, 1, 200, rfl, hro, fun H1 s1 => ?_⟩
      rw [e]
      walk_at "lk"
      refine itt_ rfl ?_
      walk_at "lk"
      exact s_rz3 fun d H' s h => er d H' (s1.trans s) h
    refine ⟨.ref t, some us, 1, 200, rfl, .seq ht, fun H1 s1 => ?_⟩
    rw [sh_int_ok l1 l2]
    walk_at "lk"
    refine iff_ rfl ?_
    walk_at "lk"
    refine ⟨t, us, rfl, ht.same s1, ?_⟩
    walk_at "lk"
    refine ⟨t, us, rfl, ht.same s1, ?_⟩
    walk_at "lk"
    rcases hh with ⟨e, er⟩ | ⟨l, xs, ds, rfl, hl, hds, hlen, hh⟩
    · refine ⟨cv, co, us.length, us.length, rfl, hco.same s1, fun H2 s2 => ?_⟩
      rw [e]
      walk_at "lk"
      refine itt_ rfl ?_
      walk_at "lk"
      exact s_rz3 fun d H' s h => er d H' ((s1.trans s2).trans s) h
    refine ⟨.ref l, some xs, us.length, us.length, rfl, .seq (hl.same s1), fun H2 s2 => ?_⟩
    rw [sh_len_ok hlen]
    walk_at "lk"
    refine iff_ rfl ?_
    walk_at "lk"
    have s12 := s1.trans s2
    have hdl := dpa_len hds
    refine for_enE (xs := xs) (fun j σ' H' => (∃ e1 e2, σ' = [some wv, some (.ref l), some (.ref t), some sv, e1, e2]) ∧ Same H2 H' ∧ ∀ (k : Nat) (b : PyData), k < j → ds[k]? = some b → withinD b 0 64 = true) rfl (hl.same s12) ⟨⟨_, _, rfl⟩, Same.refl _, fun k b hk => absurd hk (Nat.not_lt_zero _)⟩ (fun j σ' H' h => h.2.1) ?_ ?_
    · rintro j v p2 σ' H' hij ⟨⟨e1, e2, rfl⟩, s2', g⟩ hp
      have s3 : Same H2 (upd H' p2 (.tup [.int (j : Nat), v])) := s2'.trans (same_new hp)
      refine g_pair (SqT.of upd_same) ?_
      generalize upd H' p2 (.tup [.int (j : Nat), v]) = H3 at s3 ⊢
      obtain ⟨d, hdi, hdv⟩ := dpa_at hds hij
      walk_at "lk"
      refine ⟨v, d, 0, 64, rfl, dp_same (s12.trans s3) hdv, ?_⟩
      walk_at "lk"
      cases hf : withinD d 0 64 with
      | true =>
        refine iff_ rfl ?_
        refine ⟨⟨_, _, rfl⟩, s3, fun k b hk hb => ?_⟩
        by_cases c : k = j
        · rw [c, hdi] at hb
          cases hb
          exact hf
        · exact g k b (by omega) hb
      | false =>
        refine itt_ rfl ?_
        walk_at "lk"
        have e9 : firstB (fun d => withinD d 0 64) ds 0 = some j := by
          rw [firstB_at g hdi hf, Nat.zero_add]
        rcases hh with ⟨j', ej, er⟩ | ⟨ej, _⟩
        · rw [e9] at ej
          cases ej
          exact s_rz3 fun d H' s h => er d H' ((s12.trans s3).trans s) h
        · rw [e9] at ej
          cases ej
    rintro σ' H3 ⟨⟨e1, e2, rfl⟩, s3', g⟩
    have s3 := s12.trans s3'
    have e9 : firstB (fun d => withinD d 0 64) ds 0 = none := firstB_none fun k b hb => g k b (by have := (List.getElem?_eq_some_iff.mp hb).1; omega) hb
    rcases hh with ⟨j', ej, er⟩ | ⟨_, c0, so, hc0, hso, hh⟩
    · rw [e9] at ej
      cases ej
    have hso3 := hso.same s3
    cases hso3 with
    | no h h2 =>
      walk_at "lk"
      refine s_isiTo h h2 ?_
      walk_at "lk"
      refine itt_ rfl ?_
      refine itt_ rfl ?_
      walk_at "lk"
      rcases hh with ⟨_, er⟩ | ⟨⟨d2, e2, _⟩, _⟩
      · exact s_rz3 fun d H' s h => er d H' (s3.trans s) h
      · cases e2
    | @tup sp sxs d2 hsx hsd =>
      walk_at "lk"
      refine s_isiTq hsx ?_
      walk_at "lk"
      refine iff_ rfl ?_
      walk_at "lk"
      obtain ⟨u0, hu0, hv0⟩ : ∃ u0, xs[0]? = some u0 ∧ Dp K H u0 (.int c0) := by
        have hlt : 0 < xs.length := by omega
        obtain ⟨d, e1, e2⟩ := dpa_at hds (List.getElem?_eq_getElem hlt)
        rw [hc0] at e1
        cases e1
        exact ⟨_, List.getElem?_eq_getElem hlt, e2⟩
      cases hv0
      refine sre (hl.same s3) (Lk.atI_nat (i := 0) hu0) ?_
      walk_at "lk"
      rcases hh with ⟨hbad, er⟩ | ⟨⟨d3, e3, hst⟩, q⟩
      · have hst : startO c0 d2 = false := by
          rcases hbad with z | ⟨d3, e3, hst⟩
          · cases z
          · cases e3
            exact hst
        refine ⟨sp, sxs, d2, c0, rfl, hsx, hsd, fun z => (by rw [hst] at z; cases z), fun _ j H4 s4 => ?_⟩
        walk_at "lk"
        refine ⟨rfl, ?_⟩
        walk_at "lk"
        refine itt_ rfl ?_
        walk_at "lk"
        exact s_rz3 fun d H' s h => er d H' ((s3.trans s4).trans s) h
      · cases e3
        refine ⟨sp, sxs, d2, c0, rfl, hsx, hsd, fun _ H4 s4 => ?_, fun z => (by rw [hst] at z; cases z)⟩
        walk_at "lk"
        refine ⟨rfl, ?_⟩
        walk_at "lk"
        refine iff_ rfl ?_
        exact q _ (s3.trans s4)
end
end K41

namespace K41
open PySem PySem.Spec PyProof.Rows L2 RZ Lk
local macro_rules | `(tactic| walk_at "lk") => `(tactic| (repeat (first
  | with_reducible refine ssq ?_ | with_reducible refine sas ?_ | with_reducible refine sgn ?_ | ((with_reducible show tVar _ _ _ _); refine sv rfl ?_) | with_reducible refine sc ?_ | with_reducible refine sop ?_ | with_reducible refine sun ?_
  | with_reducible refine sI0 ?_ | with_reducible refine sU ?_ | with_reducible refine stt ?_ | with_reducible refine stB ?_ | with_reducible refine sbl ?_ | with_reducible refine snt ?_ | with_reducible refine sif ?_ | with_reducible refine scB ?_
  | with_reducible refine scn ?_ | with_reducible refine snl ?_ | with_reducible refine scl ?_ | with_reducible refine stu ?_ | with_reducible refine sli ?_ | with_reducible refine sdr ?_ | with_reducible refine srt ?_ | with_reducible refine snx ?_ | with_reducible refine sfor ?_ | with_reducible refine sils ?_ | with_reducible refine sien ?_ | with_reducible refine sor ?_ | with_reducible refine sfg ?_
  | with_reducible refine sav ?_ | with_reducible refine sov ?_ | with_reducible refine snv ?_ | with_reducible refine sch ?_ | with_reducible refine san ?_ | with_reducible refine ssll ?_ | with_reducible refine spt ?_ | with_reducible refine snp ?_ | with_reducible refine sin ?_ | with_reducible refine sfl ?_ | with_reducible refine sfd ?_ | with_reducible refine sbm ?_ | with_reducible refine sifx ?_ | with_reducible refine smk ?_ | with_reducible refine ssli ?_ | with_reducible refine srz3 ?_ | with_reducible refine scx ?_ | with_reducible refine sbz ?_
  | ((with_reducible show Or _ _); first | refine Or.inl ⟨_, rfl, ?_⟩ | refine Or.inr ⟨_, rfl, ?_⟩))))

/-- what is told of a row, whatever it is -/
def RowT (K : PySem.W.Frag) (A : Ad) (H : Hp) (cts : List Int) (i : Int) (c0 : Int) (v : V) (Q : VK) (E : XK) : Prop :=
  (((∃ t, Tyo K H v t ∧ kitB t "tuple" = some false) ∨ ∃ p xs, v = .ref p ∧ SqT K H p xs ∧ xs.length ≠ 4) ∧ ErR A.NoCode i "row" (-1) E H) ∨
  ∃ (p : Addr) (kv b c d : V), v = .ref p ∧ SqT K H p [kv, b, c, d] ∧
   ((((∃ t, Tyo K H kv t ∧ kitB t "str" = some false) ∨ ∃ z, kv = .str z ∧ PySem.W.nsIn K A.NEXTS z = some none) ∧ ErR A.NoCode i "kind" (-1) E H) ∨
    ∃ (kd : Str) (lo hi : Int) (ob : Option (List PyData)), kv = .str kd ∧ ndLim kd = some (lo, hi) ∧ It K H b ob ∧
     ((∃ j, nextsO lo hi cts.length ob = some j ∧ ErR A.NoCode i "next" j E H) ∨
      ∃ (bp : Addr) (nx : List Int) (oc : Option (List (Option (List PyData)))), b = .ref bp ∧ SqT K H bp (nx.map V.int) ∧ nextsO lo hi cts.length ob = none ∧ nx.length ≤ 6 ∧ (∀ j ∈ nx, 0 ≤ j ∧ j < cts.length) ∧ Fv K H c oc ∧
       ((∃ j, saysO c0 oc = some j ∧ ErR A.NoCode i "says" j E H) ∨
        (saysO c0 oc = none ∧ ∃ od, Cv K H d od ∧
         ((∃ j, changesO (nx.map fun j => cts.getD j.toNat 0) (c0 + (askN kd : Int)) od = some j ∧ ErR A.NoCode i "changes" j E H) ∨
          (changesO (nx.map fun j => cts.getD j.toNat 0) (c0 + (askN kd : Int)) od = none ∧ ∀ H', Same H H' → Q .non H'))))))
def spCRowX (K : PySem.W.Frag) (A : Ad) : Sp := fun vs H Q E => ∃ (l : Addr) (i : Nat) (v : V) (cts : List Int), vs = [.ref l, .int (i : Int), v] ∧ SqE K H l (cts.map V.int) ∧ i < cts.length ∧ (∀ j, 0 ≤ cts.getD j 0 ∧ cts.getD j 0 ≤ 64) ∧ RowT K A H cts i (cts.getD i 0) v Q E
theorem s_isiSto {K : PySem.W.Frag} {H : Hp} {v : V} {Q : VK} {t : String} {b : Bool} (h : Tyo K H v t) (e : kitB t "str" = some b) (q : Q (.bl b) H) : rIsi K [v, .ty "str"] H Q := ⟨v, _, _, _, b, rfl, .ty "str", h.ty, kit_ty e, q⟩
section
variable {P : Program} {w : World} {K : PySem.W.Frag} {mg : Str → Option Value} {base : Heap} {A : Ad}
theorem ok_check_rowX {f : Addr} {fd : FuncData} (F : Fun K "_check_row" "_check_row" s__check_row f fd) (T : Txt P w K mg base A) (c__check_nexts : Cax P w K mg base 4 "_check_nexts" ["row", "kind", "nexts", "many"] (spNxsX K A)) (c__check_says : Cax P w K mg base 4 "_check_says" ["row", "says", "size"] (spSaysX K A)) (c__check_changes : Cax P w K mg base 5 "_check_changes" ["row", "changes", "counts", "size"] (spChangesX K A)) : FnOk P w K mg base (L2.CX P w) 6 f fd ["counts", "row", "item"] (spCRowX K A) := by
  refine F.okX sc__check_row (fun vs H Q E h => ?_) (fun cdv Ar outer s H vs Q E hr h => ?_)
  · obtain ⟨l, i, v, cts, rfl, _⟩ := h
    rfl
  · obtain ⟨l, i, v, cts, rfl, hl, hi, hc, hh⟩ := h
    have h := T.x_NEXTS
    obtain ⟨es, nn, KD⟩ := h
    refine ⟨_, (pss_cons (ps_if (PW.pt (pw_or (pt_not (pt_val (pe_callB call_isi (by rfl) T.z_isinstance (by decide +kernel) (pa_cons (pv 2) (pa_cons (pe_bltn (v := .ty "tuple") (by rfl) T.z_tuple (by first | exact PySem.boot_tuple | decide +kernel) rfl) pa_nil))))) (pw_or1 (pt_cmpR op_ne (pe_callB call_len_seq (by rfl) T.z_len PySem.boot_len (pa_cons (pv 2) pa_nil)) pe_int (nomark _))))) (pss_one (ps_rz3 T.e_NoCode hr (by decide) (takes_of rfl rfl rfl rfl) (pa_cons (pv 1) (pa_cons pe_str (pa_cons (pe_un un_neg pe_int) pa_nil))))) pss_nil)
        (pss_cons (ps_asg (pv 2) (pg_tup rfl (pgs_cons (pg_name (i := 3) sc__check_row.nd rfl (Or.inl rfl)) (pgs_cons (pg_name (i := 4) sc__check_row.nd rfl (Or.inl rfl)) (pgs_cons (pg_name (i := 5) sc__check_row.nd rfl (Or.inl rfl)) (pgs_cons (pg_name (i := 6) sc__check_row.nd rfl (Or.inl rfl)) pgs_nil))))))
        (pss_cons (ps_if (PW.pt (pw_or (pt_not (pt_val (pe_callB call_isi (by rfl) T.z_isinstance (by decide +kernel) (pa_cons (pv 3) (pa_cons (pe_bltn (v := .ty "str") (by rfl) T.z_str (by first | exact PySem.boot_str | decide +kernel) rfl) pa_nil))))) (pw_or1 (pt_cmpR (op_notIn_kd KD) (pv 3) (pe_glob (v := .ref A.NEXTS) (by rfl) T.g_NEXTS rfl) (by rfl))))) (pss_one (ps_rz3 T.e_NoCode hr (by decide) (takes_of rfl rfl rfl rfl) (pa_cons (pv 1) (pa_cons pe_str (pa_cons (pe_un un_neg pe_int) pa_nil))))) pss_nil)
        (pss_cons (ps_expr (pcax c__check_nexts hr (by decide) (takes_of rfl rfl rfl rfl) (pa_cons (pv 1) (pa_cons (pv 3) (pa_cons (pv 4) (pa_cons (pe_callB call_len_seq (by rfl) T.z_len PySem.boot_len (pa_cons (pv 0) pa_nil)) pa_nil))))))
        (pss_cons (ps_expr (pcax c__check_says hr (by decide) (takes_of rfl rfl rfl rfl) (pa_cons (pv 1) (pa_cons (pv 5) (pa_cons (pe_ix (ix_list.or ix_tup) (pv 0) (pv 1) (fun _ _ => rfl)) pa_nil)))))
        (pss_cons (ps_set (i := 7) sc__check_row.nd rfl (Or.inl rfl) (pe_ifExp (pt_cmpR op_eq (pv 3) pe_str (nomark _)) (pe_op op_add (pe_ix (ix_list.or ix_tup) (pv 0) (pv 1) (fun _ _ => rfl)) pe_int) (pe_ix (ix_list.or ix_tup) (pv 0) (pv 1) (fun _ _ => rfl))))
        (pss_one (ps_expr (pcax c__check_changes hr (by decide) (takes_of rfl rfl rfl rfl) (pa_cons (pv 1) (pa_cons (pv 6) (pa_cons (pe_lc (own := [("following", 8)]) (g := gName 8) (tt := tYes) rfl sc__check_row.nd (pi_tup (pv 4)) (blkOk_by (own := [("following", 8)]) (N := ["counts", "row", "item", "kind", "nexts", "says", "changes", "size", "following"]) (sc := defScope s__check_row) (by decide +kernel)) (fun _ _ _ _ _ => pg_name (i := 8) sc__check_row.nd rfl (Or.inl rfl)) (fun _ _ _ _ _ => pts_nil) (fun _ _ _ _ _ => (pe_ix (ix_eitB (K := K) (by rfl)) (pv 0) (pv 8) (fun _ _ => rfl)))) (pa_cons (pv 7) pa_nil))))))))))))), ?_⟩
    have hci : cts[((i : Nat) : Int).toNat]? = some (cts.getD i 0) := by simpa using getD_at hi
    obtain ⟨c0, c1⟩ := hc i
    rcases hh with ⟨hb, er⟩ | ⟨p, kv, b, c, d, rfl, hp, hh⟩
    · rcases hb with ⟨t, h1, h2⟩ | ⟨p, xs, rfl, hx, hn⟩
      · walk_at "lk"
        refine s_isiTo h1 h2 ?_
        walk_at "lk"
        refine itt_ rfl ?_
        refine itt_ rfl ?_
        walk_at "lk"
        exact s_rz3 fun d H' s h => er d H' s h
      · walk_at "lk"
        refine s_isiTq hx ?_
        walk_at "lk"
        refine iff_ rfl ?_
        walk_at "lk"
        refine ⟨p, xs, rfl, .inr hx, ?_⟩
        walk_at "lk"
        refine sNe rfl ?_
        walk_at "lk"
        refine itt_ (by rw [decide_eq_false (fun z => hn (by have := V.int.inj z; omega))]; rfl) ?_
        walk_at "lk"
        exact s_rz3 fun d H' s h => er d H' s h
    walk_at "lk"
    refine s_isiTq hp ?_
    walk_at "lk"
    refine iff_ rfl ?_
    walk_at "lk"
    refine ⟨p, [kv, b, c, d], rfl, .inr hp, ?_⟩
    walk_at "lk"
    refine sNe rfl ?_
    walk_at "lk"
    refine iff_ rfl ?_
    walk_at "lk"
    refine g_quad hp ?_
    rcases hh with ⟨hb, er⟩ | ⟨kd, lo, hi2, ob, rfl, e, hob, hh⟩
    · rcases hb with ⟨t, h1, h2⟩ | ⟨z, rfl, hz⟩
      · walk_at "lk"
        refine s_isiSto h1 h2 ?_
        walk_at "lk"
        refine itt_ rfl ?_
        refine itt_ rfl ?_
        walk_at "lk"
        exact s_rz3 fun d H' s h => er d H' s h
      · walk_at "lk"
        refine s_isi (d := .str z) (.str _) (ki_str _) ?_
        walk_at "lk"
        refine iff_ rfl ?_
        walk_at "lk"
        refine ⟨z, _, rfl, rfl, hz, ?_⟩
        walk_at "lk"
        refine itt_ rfl ?_
        walk_at "lk"
        exact s_rz3 fun d H' s h => er d H' s h
    obtain ⟨pn, hpn, hpt⟩ := T.v_NEXTS _ _ _ e
    walk_at "lk"
    refine s_isi (d := .str kd) (.str _) (ki_str _) ?_
    walk_at "lk"
    refine iff_ rfl ?_
    walk_at "lk"
    refine ⟨kd, _, rfl, rfl, hpn, ?_⟩
    walk_at "lk"
    refine iff_ rfl ?_
    walk_at "lk"
    refine ⟨l, cts.map V.int, rfl, hl, ?_⟩
    rw [List.length_map]
    walk_at "lk"
    refine ⟨(i : Int), kd, b, (cts.length : Int), ob, lo, hi2, rfl, e, hob, fun z H1 s1 => ?_, fun j z => ?_⟩
    rotate_left 1
    · rcases hh with ⟨j', e', er⟩ | ⟨bp, nx, oc, _, _, e', _⟩
      · rw [e'] at z
        cases z
        exact er
      · rw [e'] at z
        cases z
    rcases hh with ⟨j', e', er⟩ | ⟨bp, nx, oc, rfl, hb, _, hn6, hnx, hoc, hh⟩
    · rw [e'] at z
      cases z
    walk_at "lk"
    refine sre (hl.same s1) (atI_ints hci (by omega)) ?_
    walk_at "lk"
    refine ⟨(i : Int), c, cts.getD i 0, oc, rfl, hoc.same s1, by omega, fun z2 H2 s2 => ?_, fun j z2 => ?_⟩
    rotate_left 1
    · rcases hh with ⟨j', e', er⟩ | ⟨e', _⟩
      · rw [e'] at z2
        cases z2
        exact er.same s1
      · rw [e'] at z2
        cases z2
    rcases hh with ⟨j', e', er⟩ | ⟨_, od, hod, hh⟩
    · rw [e'] at z2
      cases z2
    have s12 := s1.trans s2
    walk_at "lk"
    refine sEq rfl ?_
    walk_at "lk"
    by_cases e9 : kd = ("ask" : Str)
    · have ea : askN kd = 1 := if_pos e9
      refine itt_ (decide_eq_true (by rw [e9])) ?_
      walk_at "lk"
      refine sre (hl.same s12) (atI_ints hci (by omega)) ?_
      walk_at "lk"
      refine tlc_mapT (ys := (nx.map fun j => cts.getD j.toNat 0).map V.int) rfl (same_sqT s12 hb) (by simp) (by rw [List.length_map]; omega) (fun _ => rfl) (fun n x y H' hi3 hy s' R q3 => ?_) (fun D H' s' hD hDl => ?_)
      · have hlt : n < nx.length := by
          have := (List.getElem?_eq_some_iff.mp hi3).1
          rwa [List.length_map] at this
        rw [List.getElem?_map, List.getElem?_eq_getElem hlt] at hi3
        cases hi3
        rw [List.getElem?_map, List.getElem?_map, List.getElem?_eq_getElem hlt] at hy
        cases hy
        obtain ⟨j0, j1⟩ := hnx _ (List.getElem_mem hlt)
        walk_at "lk"
        exact sre ((hl.same s12).same s') (atI_ints (getD_at (by omega)) j0) (q3 _ (Same.refl _))
      · walk_at "lk"
        have s3 := s12.trans s'
        refine ⟨(i : Int), d, D, cts.getD i 0 + 1, nx.map fun j => cts.getD j.toNat 0, od, rfl, hod.same s3, hDl, fun c hc2 => ?_, by omega, fun z H4 s4 => ?_, fun j z => ?_⟩
        · obtain ⟨j, _, rfl⟩ := List.mem_map.mp hc2
          have := (hc j.toNat).2
          show cts.getD j.toNat 0 ≤ 900
          omega
        · rcases hh with ⟨j, e, er⟩ | ⟨e, q⟩
          · rw [ea] at e
            have e : changesO (nx.map fun j => cts.getD j.toNat 0) (cts.getD i 0 + 1) od = _ := e
            rw [e] at z
            cases z
          · exact q _ (s3.trans s4)
        · rcases hh with ⟨j', e, er⟩ | ⟨e, q⟩
          · rw [ea] at e
            have e : changesO (nx.map fun j => cts.getD j.toNat 0) (cts.getD i 0 + 1) od = _ := e
            rw [e] at z
            cases z
            exact er.same s3
          · rw [ea] at e
            have e : changesO (nx.map fun j => cts.getD j.toNat 0) (cts.getD i 0 + 1) od = _ := e
            rw [e] at z
            cases z
    
    · have ea : askN kd = 0 := if_neg e9
      refine iff_ (decide_eq_false fun z => e9 (V.str.inj z)) ?_
      walk_at "lk"
      refine sre (hl.same s12) (atI_ints hci (by omega)) ?_
      walk_at "lk"
      refine tlc_mapT (ys := (nx.map fun j => cts.getD j.toNat 0).map V.int) rfl (same_sqT s12 hb) (by simp) (by rw [List.length_map]; omega) (fun _ => rfl) (fun n x y H' hi3 hy s' R q3 => ?_) (fun D H' s' hD hDl => ?_)
      · have hlt : n < nx.length := by
          have := (List.getElem?_eq_some_iff.mp hi3).1
          rwa [List.length_map] at this
        rw [List.getElem?_map, List.getElem?_eq_getElem hlt] at hi3
        cases hi3
        rw [List.getElem?_map, List.getElem?_map, List.getElem?_eq_getElem hlt] at hy
        cases hy
        obtain ⟨j0, j1⟩ := hnx _ (List.getElem_mem hlt)
        walk_at "lk"
        exact sre ((hl.same s12).same s') (atI_ints (getD_at (by omega)) j0) (q3 _ (Same.refl _))
      · walk_at "lk"
        have s3 := s12.trans s'
        refine ⟨(i : Int), d, D, cts.getD i 0, nx.map fun j => cts.getD j.toNat 0, od, rfl, hod.same s3, hDl, fun c hc2 => ?_, by omega, fun z H4 s4 => ?_, fun j z => ?_⟩
        · obtain ⟨j, _, rfl⟩ := List.mem_map.mp hc2
          have := (hc j.toNat).2
          show cts.getD j.toNat 0 ≤ 900
          omega
        · rcases hh with ⟨j, e, er⟩ | ⟨e, q⟩
          · rw [ea] at e
            rw [show cts.getD i 0 + ((0 : Nat) : Int) = cts.getD i 0 from Int.add_zero _] at e
            rw [e] at z
            cases z
          · exact q _ (s3.trans s4)
        · rcases hh with ⟨j', e, er⟩ | ⟨e, q⟩
          · rw [ea] at e
            rw [show cts.getD i 0 + ((0 : Nat) : Int) = cts.getD i 0 from Int.add_zero _] at e
            rw [e] at z
            cases z
            exact er.same s3
          · rw [ea] at e
            rw [show cts.getD i 0 + ((0 : Nat) : Int) = cts.getD i 0 from Int.add_zero _] at e
            rw [e] at z
            cases z
end
end K41

namespace K41
open PySem PySem.Spec PyProof.Rows L2 RZ Lk
local macro_rules | `(tactic| walk_at "lk") => `(tactic| (repeat (first
  | with_reducible refine ssq ?_ | with_reducible refine sas ?_ | with_reducible refine sgn ?_ | ((with_reducible show tVar _ _ _ _); refine sv rfl ?_) | with_reducible refine sc ?_ | with_reducible refine sop ?_ | with_reducible refine sun ?_
  | with_reducible refine sI0 ?_ | with_reducible refine sU ?_ | with_reducible refine stt ?_ | with_reducible refine stB ?_ | with_reducible refine sbl ?_ | with_reducible refine snt ?_ | with_reducible refine sif ?_ | with_reducible refine scB ?_
  | with_reducible refine scn ?_ | with_reducible refine snl ?_ | with_reducible refine scl ?_ | with_reducible refine stu ?_ | with_reducible refine sli ?_ | with_reducible refine sdr ?_ | with_reducible refine srt ?_ | with_reducible refine snx ?_ | with_reducible refine sfor ?_ | with_reducible refine sils ?_ | with_reducible refine sien ?_ | with_reducible refine sor ?_ | with_reducible refine sfg ?_
  | with_reducible refine sav ?_ | with_reducible refine sov ?_ | with_reducible refine snv ?_ | with_reducible refine sch ?_ | with_reducible refine san ?_ | with_reducible refine ssll ?_ | with_reducible refine spt ?_ | with_reducible refine snp ?_ | with_reducible refine sin ?_ | with_reducible refine sfl ?_ | with_reducible refine sfd ?_ | with_reducible refine sbm ?_ | with_reducible refine sifx ?_ | with_reducible refine smk ?_ | with_reducible refine ssli ?_ | with_reducible refine srz3 ?_ | with_reducible refine scx ?_ | with_reducible refine sbz ?_
  | ((with_reducible show Or _ _); first | refine Or.inl ⟨_, rfl, ?_⟩ | refine Or.inr ⟨_, rfl, ?_⟩))))

theorem f2_map {α β : Type} {R : V → α → Prop} {S : V → β → Prop} {g : α → β} (h : ∀ v a, R v a → S v (g a)) : ∀ {us : List V} {as : List α}, F2 R us as → F2 S us (as.map g)
  | _, _, .nil => .nil
  | _, _, .cons x t => .cons (h _ _ x) (f2_map h t)
def itD (f : List Int) : Option (List PyData) := some (f.map PyData.int)
def fvD (fs : List (List Int)) : Option (List (Option (List PyData))) := some (fs.map itD)
def cvD (cs : List (List (List Int))) : Option (List (Option (List (Option (List PyData))))) := some (cs.map fvD)
section
variable {K : PySem.W.Frag} {H : Hp} {v : V}
theorem it_f {f : List Int} (h : CfH H v f) : It K H v (itD f) := by
  obtain ⟨a, rfl, e⟩ := h
  exact .tup (SqT.of e) (dt_ints f).dp
theorem fv_fs {fs : List (List Int)} (h : CfsH H v fs) : Fv K H v (fvD fs) := by
  obtain ⟨a, us, rfl, e, f⟩ := h
  exact .tup (SqT.of e) (f2_map (fun _ _ z => it_f z) f)
theorem cv_cs {cs : List (List (List Int))} (h : CcsH H v cs) : Cv K H v (cvD cs) := by
  obtain ⟨a, us, rfl, e, f⟩ := h
  exact .tup (SqT.of e) (f2_map (fun _ _ z => fv_fs z) f)
end
theorem form_ok {f : List Int} {n : Int} (h : (f.length : Int) = n + 1) : formO n (itD f) = true := by
  show (decide (((f.map PyData.int).length : Int) = n + 1) && (f.map PyData.int).all isIntD) = true
  rw [List.length_map, decide_eq_true h, Bool.true_and, List.all_eq_true]
  intro d hd
  obtain ⟨x, _, rfl⟩ := List.mem_map.mp hd
  rfl
theorem forms_ok {fs : List (List Int)} {m n : Int} (h : (fs.length : Int) = m) (hf : ∀ f ∈ fs, (f.length : Int) = n + 1) : formsO m n (fvD fs) = true := by
  show (decide (((fs.map itD).length : Int) = m) && (fs.map itD).all (formO n)) = true
  rw [List.length_map, decide_eq_true h, Bool.true_and, List.all_eq_true]
  intro d hd
  obtain ⟨f, hf2, rfl⟩ := List.mem_map.mp hd
  exact form_ok (hf f hf2)
theorem says_ok {fs : List (List Int)} {n : Int} (hf : ∀ f ∈ fs, (f.length : Int) = n + 1) : saysO n (fvD fs) = none := by
  show (firstB (formO n) (fs.map itD) 0).map (fun (j : Nat) => (j : Int)) = none
  rw [firstB_none fun k b hb => by
    rw [List.getElem?_map] at hb
    cases e : fs[k]? with
    | none => rw [e] at hb; cases hb
    | some f =>
      rw [e] at hb
      cases hb
      exact form_ok (hf f (List.mem_of_getElem? e))]
  rfl
theorem nexts_ok {nx : List Int} {lo hi m : Int} (h1 : lo ≤ nx.length) (h2 : (nx.length : Int) ≤ hi) (h : ∀ j ∈ nx, 0 ≤ j ∧ j < m) : nextsO lo hi m (itD nx) = none := by
  have hl : ((nx.map PyData.int).length : Int) = nx.length := by rw [List.length_map]
  have e : nextsO lo hi m (itD nx) = (firstB (fun d => withinD d 0 (m - 1)) (nx.map PyData.int) 0).map fun (j : Nat) => (j : Int) := if_pos ⟨by omega, by omega⟩
  rw [e, firstB_none fun k b hb => by
    rw [List.getElem?_map] at hb
    cases e : nx[k]? with
    | none => rw [e] at hb; cases hb
    | some x =>
      rw [e] at hb
      cases hb
      have := h x (List.mem_of_getElem? e)
      show (decide (0 ≤ x) && decide (x ≤ m - 1)) = true
      rw [decide_eq_true this.1, decide_eq_true (by omega)]
      rfl]
  rfl
theorem changes_ok {cs : List Int} {ch : List (List (List Int))} {n : Int} (hl : ch.length = cs.length) (h : ∀ (k : Nat) (j : Int) (c : List (List Int)), cs[k]? = some j → ch[k]? = some c → (c.length : Int) = j) (hf : ∀ c ∈ ch, ∀ f ∈ c, (f.length : Int) = n + 1) : changesO cs n (cvD ch) = none := by
  have e : changesO cs n (cvD ch) = (firstB (fun x : Int × Option (List (Option (List PyData))) => formsO x.1 n x.2) (cs.zip (ch.map fvD)) 0).map fun (j : Nat) => (j : Int) := if_pos (by rw [List.length_map]; exact hl)
  rw [e, firstB_none fun k b hb => by
    rw [List.getElem?_zip_eq_some] at hb
    obtain ⟨h1, h2⟩ := hb
    rw [List.getElem?_map] at h2
    cases e : ch[k]? with
    | none => rw [e] at h2; cases h2
    | some c =>
      rw [e] at h2
      have e2 := Option.some.inj h2
      show formsO b.1 n b.2 = true
      rw [← e2]
      exact forms_ok (h k _ c h1 e) (hf c (List.mem_of_getElem? e))]
  rfl
/-- a row that is right -/
theorem RowT.good {K : PySem.W.Frag} {A : Ad} {H : Hp} {cts : List Int} {i : Nat} {v : V} {r : CRow} {Q : VK} {E : XK} (hv : CRowH H v r) (ok : CRowOk cts i r) (q : ∀ H', Same H H' → Q .non H') : RowT K A H cts i (cts.getD i 0) v Q E := by
  obtain ⟨a, b, c, d, rfl, h1, h2, h3, h4⟩ := hv
  obtain ⟨lo, hi, e, l1, l2⟩ := ok.nxl.lim
  have hit := it_f (K := K) h2
  obtain ⟨bp, rfl, hb⟩ := h2
  refine .inr ⟨a, .str r.kd, .ref bp, c, d, rfl, SqT.of h1, .inr ⟨r.kd, lo, hi, itD r.nx, rfl, e, hit, .inr ⟨bp, r.nx, fvD r.sy, rfl, SqT.of hb, nexts_ok l1 l2 ok.nxi, ok.nxl.le, ok.nxi, fv_fs h3, .inr ⟨says_ok ok.syf, cvD r.ch, cv_cs h4, .inr ⟨changes_ok (by rw [List.length_map]; exact ok.chl) (fun k j c hk hc => ?_) (fun c hc f hf => ?_), q⟩⟩⟩⟩⟩
  · rw [List.getElem?_map] at hk
    cases e5 : r.nx[k]? with
    | none => rw [e5] at hk; cases hk
    | some z =>
      rw [e5] at hk
      cases hk
      exact ok.chn k z c e5 hc
  · have := ok.chf c hc f hf
    omega

section
variable {P : Program} {w : World} {K : PySem.W.Frag} {mg : Str → Option Value} {base : Heap} {A : Ad}
end
end K41

namespace K41
open PySem PySem.Spec PyProof.Rows L2 RZ Lk
local macro_rules | `(tactic| walk_at "lk") => `(tactic| (repeat (first
  | with_reducible refine ssq ?_ | with_reducible refine sas ?_ | with_reducible refine sgn ?_ | ((with_reducible show tVar _ _ _ _); refine sv rfl ?_) | with_reducible refine sc ?_ | with_reducible refine sop ?_ | with_reducible refine sun ?_
  | with_reducible refine sI0 ?_ | with_reducible refine sU ?_ | with_reducible refine stt ?_ | with_reducible refine stB ?_ | with_reducible refine sbl ?_ | with_reducible refine snt ?_ | with_reducible refine sif ?_ | with_reducible refine scB ?_
  | with_reducible refine scn ?_ | with_reducible refine snl ?_ | with_reducible refine scl ?_ | with_reducible refine stu ?_ | with_reducible refine sli ?_ | with_reducible refine sdr ?_ | with_reducible refine srt ?_ | with_reducible refine snx ?_ | with_reducible refine sfor ?_ | with_reducible refine sils ?_ | with_reducible refine sien ?_ | with_reducible refine sor ?_ | with_reducible refine sfg ?_
  | with_reducible refine sav ?_ | with_reducible refine sov ?_ | with_reducible refine snv ?_ | with_reducible refine sch ?_ | with_reducible refine san ?_ | with_reducible refine ssll ?_ | with_reducible refine spt ?_ | with_reducible refine snp ?_ | with_reducible refine sin ?_ | with_reducible refine sfl ?_ | with_reducible refine sfd ?_ | with_reducible refine sbm ?_ | with_reducible refine sifx ?_ | with_reducible refine smk ?_ | with_reducible refine ssli ?_ | with_reducible refine srz3 ?_ | with_reducible refine scx ?_ | with_reducible refine sbz ?_
  | ((with_reducible show Or _ _); first | refine Or.inl ⟨_, rfl, ?_⟩ | refine Or.inr ⟨_, rfl, ?_⟩))))

/-- a row that is refused, with the part and the index that the error tells -/
def RowB (K : PySem.W.Frag) (A : Ad) (H : Hp) (cts : List Int) (c0 : Int) (v : V) (part : Str) (ix : Int) : Prop :=
  (((∃ t, Tyo K H v t ∧ kitB t "tuple" = some false) ∨ ∃ p xs, v = .ref p ∧ SqT K H p xs ∧ xs.length ≠ 4) ∧ part = "row" ∧ ix = -1) ∨
  ∃ (p : Addr) (kv b c d : V), v = .ref p ∧ SqT K H p [kv, b, c, d] ∧
   ((((∃ t, Tyo K H kv t ∧ kitB t "str" = some false) ∨ ∃ z, kv = .str z ∧ PySem.W.nsIn K A.NEXTS z = some none) ∧ part = "kind" ∧ ix = -1) ∨
    ∃ (kd : Str) (lo hi : Int) (ob : Option (List PyData)), kv = .str kd ∧ ndLim kd = some (lo, hi) ∧ It K H b ob ∧
     ((nextsO lo hi cts.length ob = some ix ∧ part = "next") ∨
      ∃ (bp : Addr) (nx : List Int) (oc : Option (List (Option (List PyData)))), b = .ref bp ∧ SqT K H bp (nx.map V.int) ∧ nextsO lo hi cts.length ob = none ∧ nx.length ≤ 6 ∧ (∀ j ∈ nx, 0 ≤ j ∧ j < cts.length) ∧ Fv K H c oc ∧
       ((saysO c0 oc = some ix ∧ part = "says") ∨
        (saysO c0 oc = none ∧ ∃ od, Cv K H d od ∧ changesO (nx.map fun j => cts.getD j.toNat 0) (c0 + (askN kd : Int)) od = some ix ∧ part = "changes"))))
theorem RowB.t {K : PySem.W.Frag} {A : Ad} {H : Hp} {cts : List Int} {i c0 : Int} {v : V} {part : Str} {ix : Int} {Q : VK} {E : XK} (h : RowB K A H cts c0 v part ix) (er : ErR A.NoCode i part ix E H) : RowT K A H cts i c0 v Q E := by
  rcases h with ⟨h, rfl, rfl⟩ | ⟨p, kv, b, c, d, rfl, hp, h⟩
  · exact .inl ⟨h, er⟩
  rcases h with ⟨h, rfl, rfl⟩ | ⟨kd, lo, hi, ob, rfl, e, hob, h⟩
  · exact .inr ⟨p, kv, b, c, d, rfl, hp, .inl ⟨h, er⟩⟩
  rcases h with ⟨h, rfl⟩ | ⟨bp, nx, oc, rfl, hb, e1, h6, hn, hoc, h⟩
  · exact .inr ⟨p, _, b, c, d, rfl, hp, .inr ⟨kd, lo, hi, ob, rfl, e, hob, .inl ⟨ix, h, er⟩⟩⟩
  rcases h with ⟨h, rfl⟩ | ⟨h1, od, hod, h, rfl⟩
  · exact .inr ⟨p, _, _, c, d, rfl, hp, .inr ⟨kd, lo, hi, ob, rfl, e, hob, .inr ⟨bp, nx, oc, rfl, hb, e1, h6, hn, hoc, .inl ⟨ix, h, er⟩⟩⟩⟩
  · exact .inr ⟨p, _, _, c, d, rfl, hp, .inr ⟨kd, lo, hi, ob, rfl, e, hob, .inr ⟨bp, nx, oc, rfl, hb, e1, h6, hn, hoc, .inr ⟨h1, od, hod, .inl ⟨ix, h, er⟩⟩⟩⟩⟩
theorem RowB.same {K : PySem.W.Frag} {A : Ad} {H H' : Hp} {cts : List Int} {c0 : Int} {v : V} {part : Str} {ix : Int} (s : Same H H') (h : RowB K A H cts c0 v part ix) : RowB K A H' cts c0 v part ix := by
  rcases h with ⟨h, e⟩ | ⟨p, kv, b, c, d, rfl, hp, h⟩
  · refine .inl ⟨?_, e⟩
    rcases h with ⟨t, h1, h2⟩ | ⟨p, xs, rfl, h1, h2⟩
    · exact .inl ⟨t, h1.same s, h2⟩
    · exact .inr ⟨p, xs, rfl, same_sqT s h1, h2⟩
  refine .inr ⟨p, kv, b, c, d, rfl, same_sqT s hp, ?_⟩
  rcases h with ⟨h, e⟩ | ⟨kd, lo, hi, ob, rfl, e, hob, h⟩
  · refine .inl ⟨?_, e⟩
    rcases h with ⟨t, h1, h2⟩ | ⟨z, h1, h2⟩
    · exact .inl ⟨t, h1.same s, h2⟩
    · exact .inr ⟨z, h1, h2⟩
  refine .inr ⟨kd, lo, hi, ob, rfl, e, hob.same s, ?_⟩
  rcases h with h | ⟨bp, nx, oc, rfl, hb, e1, h6, hn, hoc, h⟩
  · exact .inl h
  refine .inr ⟨bp, nx, oc, rfl, same_sqT s hb, e1, h6, hn, hoc.same s, ?_⟩
  rcases h with h | ⟨h1, od, hod, h⟩
  · exact .inl h
  · exact .inr ⟨h1, od, hod.same s, h⟩
/-- a head that is refused -/
def HeadB (K : PySem.W.Frag) (H : Hp) (wv cv rv sv : V) (part : Str) (ix : Int) : Prop := ∃ wd, Dp K H wv wd ∧
  ((withinD wd 1 64 = false ∧ part = "width" ∧ ix = -1) ∨
   (withinD wd 1 64 = true ∧ ∃ ro, Sh K H rv ro ∧
    ((shB ro 1 200 = false ∧ part = "rows" ∧ ix = -1) ∨
     (∃ (t : Addr) (us : List V), rv = .ref t ∧ SqE K H t us ∧ 1 ≤ us.length ∧ us.length ≤ 200 ∧ ∃ co, Sh K H cv co ∧
      ((shB co us.length us.length = false ∧ part = "counts" ∧ ix = -1) ∨
       (∃ (l : Addr) (xs : List V) (ds : List PyData), cv = .ref l ∧ SqE K H l xs ∧ DpAll K H xs ds ∧ xs.length = us.length ∧
        ((∃ j : Nat, firstB (fun d => withinD d 0 64) ds 0 = some j ∧ part = "counts" ∧ ix = j) ∨
         (firstB (fun d => withinD d 0 64) ds 0 = none ∧ ∃ (c0 : Int) (so : Option (List PyData)), ds[0]? = some (.int c0) ∧ It K H sv so ∧
          ((so = none ∨ ∃ d2, so = some d2 ∧ startO c0 d2 = false) ∧ part = "start" ∧ ix = -1)))))))))
/-- Code(..), whatever it is given -/
def InitX (K : PySem.W.Frag) (A : Ad) (H : Hp) (wv cv rv sv : V) (q : Prop) (er : Int → Str → Int → Prop) : Prop :=
  (∃ part ix, HeadB K H wv cv rv sv part ix ∧ er (-1) part ix) ∨
  ∃ (k : Nat) (l t a : Addr) (cts : List Int) (us : List V) (st : List Int), wv = .int (k : Int) ∧ cv = .ref l ∧ rv = .ref t ∧ sv = .ref a ∧ 1 ≤ k ∧ k ≤ 64 ∧ SqE K H l (cts.map V.int) ∧ SqE K H t us ∧ cts.length = us.length ∧ 1 ≤ us.length ∧ us.length ≤ 200 ∧ (∀ c ∈ cts, 0 ≤ c ∧ c ≤ 64) ∧ SqT K H a (st.map V.int) ∧ (st.length : Int) = cts.getD 0 0 ∧
   ((∃ (n : Nat) (rs : List CRow) (bv : V) (part : Str) (ix : Int), n < us.length ∧ F2 (CRowH H) (us.take n) rs ∧ us[n]? = some bv ∧ (∀ i r, rs[i]? = some r → CRowOk cts i r) ∧ RowB K A H cts (cts.getD n 0) bv part ix ∧ er n part ix) ∨
    ∃ rs, F2 (CRowH H) us rs ∧ CodeOk cts rs st ∧ q)
def spInitX (K : PySem.W.Frag) (A : Ad) : Sp := fun vs H Q E => ∃ (x dx : Addr) (wv cv rv sv : V), vs = [.ref x, wv, cv, rv, sv] ∧ H x = some (.ins A.Code dx []) ∧
  InitX K A H wv cv rv sv (∀ H', Bar x H H' → Q .non H') (fun i part ix => ErR A.NoCode i part ix E H)
theorem getD_bd {cts : List Int} (h : ∀ c ∈ cts, 0 ≤ c ∧ c ≤ 64) (i : Nat) : 0 ≤ cts.getD i 0 ∧ cts.getD i 0 ≤ 64 := by
  rw [List.getD_eq_getElem?_getD]
  cases e : cts[i]? with
  | none => exact ⟨Int.le_refl 0, by decide⟩
  | some c => exact h c (List.mem_of_getElem? e)
theorem first_ok {cts : List Int} (h : ∀ c ∈ cts, 0 ≤ c ∧ c ≤ 64) : firstB (fun d => withinD d 0 64) (cts.map PyData.int) 0 = none := firstB_none fun k b hb => by
  rw [List.getElem?_map] at hb
  cases e : cts[k]? with
  | none => rw [e] at hb; cases hb
  | some x =>
    rw [e] at hb
    cases hb
    have := h x (List.mem_of_getElem? e)
    show (decide (0 ≤ x) && decide (x ≤ 64)) = true
    rw [decide_eq_true this.1, decide_eq_true this.2]
    rfl
theorem start_ok {st : List Int} {n : Int} (h : (st.length : Int) = n) : startO n (st.map PyData.int) = true := by
  unfold startO
  rw [List.length_map, decide_eq_true h, Bool.true_and, List.all_eq_true]
  intro d hd
  obtain ⟨x, _, rfl⟩ := List.mem_map.mp hd
  rfl
section
variable {P : Program} {w : World} {K : PySem.W.Frag} {mg : Str → Option Value} {base : Heap} {A : Ad}
theorem ok_initX {f : Addr} {fd : FuncData} (F : Fun K "__init__" "Code.__init__" s_Code___init__ f fd) (T : Txt P w K mg base A) (c__check_head : Cax P w K mg base 4 "_check_head" ["width", "counts", "rows", "start"] (spHeadX K A)) (c__check_row : Cax P w K mg base 6 "_check_row" ["counts", "row", "item"] (spCRowX K A)) (c__lowered_row : Cal P w K mg base 2 "_lowered_row" ["item", "width"] (spLowRow K)) (c_lowered : Cal P w K mg base 1 "lowered" ["numbers", "width"] (spLow K)) : FnOk P w K mg base (L2.CX P w) 7 f fd ["self", "width", "counts", "rows", "start"] (spInitX K A) := by
  refine F.okX sc_Code___init__ (fun vs H Q E h => ?_) (fun cdv Ar outer s H vs Q E hr h => ?_)
  · obtain ⟨x, dx, wv, cv, rv, sv, rfl, _⟩ := h
    rfl
  · obtain ⟨x, dx, wv, cv, rv, sv, rfl, hx, hh⟩ := h
    refine ⟨_, (pss_cons (ps_expr (pcax c__check_head hr (by decide) (takes_of rfl rfl rfl rfl) (pa_cons (pv 1) (pa_cons (pv 2) (pa_cons (pv 3) (pa_cons (pv 4) pa_nil))))))
        (pss_cons (ps_for (passes_of rfl) rfl (pi_enumE (by rfl) T.z_enumerate (pa_cons (pv 3) pa_nil)) (pg_tup rfl (pgs_cons (pg_name (i := 5) sc_Code___init__.nd rfl (Or.inl rfl)) (pgs_cons (pg_name (i := 6) sc_Code___init__.nd rfl (Or.inl rfl)) pgs_nil))) (pss_one (ps_expr (pcax c__check_row hr (by decide) (takes_of rfl rfl rfl rfl) (pa_cons (pv 2) (pa_cons (pv 5) (pa_cons (pv 6) pa_nil)))))))
        (pss_cons (ps_fld (pv 0) (pv 1) (by rfl))
        (pss_cons (ps_fld (pv 0) (pe_callTy call_tupOf (by rfl) T.z_tuple (by decide +kernel) (pa_cons (pv 2) pa_nil)) (by rfl))
        (pss_cons (ps_fld (pv 0) (pe_callTy call_tupOf (by rfl) T.z_tuple (by decide +kernel) (pa_cons (pe_lc (own := [("item", 6)]) (g := gName 6) (tt := tYes) rfl sc_Code___init__.nd (pi_either (pv 3)) (blkOk_by (own := [("item", 6)]) (N := ["self", "width", "counts", "rows", "start", "row", "item"]) (sc := defScope s_Code___init__) (by decide +kernel)) (fun _ _ _ _ _ => pg_name (i := 6) sc_Code___init__.nd rfl (Or.inl rfl)) (fun _ _ _ _ _ => pts_nil) (fun _ _ _ _ _ => (pcal c__lowered_row hr (by decide) (pa_cons (pv 6) (pa_cons (pv 1) pa_nil))))) pa_nil)) (by rfl))
        (pss_one (ps_fld (pv 0) (pcal c_lowered hr (by decide) (pa_cons (pv 4) (pa_cons (pv 1) pa_nil))) (by rfl)))))))), ?_⟩
    rcases hh with ⟨part, ix, ⟨wd, hwd, hb⟩, er⟩ | ⟨k, l, t, a, cts, us, st, rfl, rfl, rfl, rfl, k1, k2, hl, ht, cl, l1, l2, hc0, ha, hsl, hh⟩
    · walk_at "lk"
      refine ⟨wv, cv, rv, sv, wd, rfl, hwd, ?_⟩
      rcases hb with ⟨e, rfl, rfl⟩ | ⟨e, ro, hro, hb⟩
      · exact .inl ⟨e, er⟩
      refine .inr ⟨e, ro, hro, ?_⟩
      rcases hb with ⟨e, rfl, rfl⟩ | ⟨t, us, rfl, ht, l1, l2, co, hco, hb⟩
      · exact .inl ⟨e, er⟩
      refine .inr ⟨t, us, rfl, ht, l1, l2, co, hco, ?_⟩
      rcases hb with ⟨e, rfl, rfl⟩ | ⟨l, xs, ds, rfl, hl, hds, hlen, hb⟩
      · exact .inl ⟨e, er⟩
      refine .inr ⟨l, xs, ds, rfl, hl, hds, hlen, ?_⟩
      rcases hb with ⟨j, e, rfl, rfl⟩ | ⟨e, c0, so, hc0, hso, hb, rfl, rfl⟩
      · exact .inl ⟨j, e, er⟩
      · exact .inr ⟨e, c0, so, hc0, hso, .inl ⟨hb, er⟩⟩
    have hcb := getD_bd hc0
    walk_at "lk"
    refine ⟨.int (k : Int), .ref l, .ref t, .ref a, .int (k : Int), rfl, .int _, .inr ⟨by
      show (decide ((1 : Int) ≤ k) && decide ((k : Int) ≤ 64)) = true
      rw [decide_eq_true (by omega), decide_eq_true (by omega)]
      rfl, some us, .seq ht, .inr ⟨t, us, rfl, ht, l1, l2, some (cts.map V.int), .seq hl, .inr ⟨l, cts.map V.int, cts.map PyData.int, rfl, hl, (dt_ints cts).dp, by rw [List.length_map]; exact cl, .inr ⟨first_ok hc0, cts.getD 0 0, some (st.map PyData.int), by rw [List.getElem?_map, getD_at (by omega)]; rfl, .tup ha (dt_ints st).dp, .inr ⟨⟨_, rfl, start_ok hsl⟩, fun H1 s1 => ?_⟩⟩⟩⟩⟩⟩
    walk_at "lk"
    rcases hh with ⟨n, rs, bv, part, ix, hn, hr0, hbv, hrs, hbad, er⟩ | ⟨rs, hr0, hok, q⟩
    · have hrl := hr0.len
      rw [List.length_take] at hrl
      refine for_enE (xs := us) (fun j σ' H' => (∃ e1 e2, σ' = [some (.ref x), some (.int (k : Int)), some (.ref l), some (.ref t), some (.ref a), e1, e2]) ∧ Same H1 H' ∧ j ≤ n) rfl (ht.same s1) ⟨⟨_, _, rfl⟩, Same.refl _, Nat.zero_le _⟩ (fun j σ' H' h => h.2.1) ?_ ?_
      · rintro j v p σ' H' hi ⟨⟨e1, e2, rfl⟩, s2, hjn⟩ hp
        have s3 : Same H1 (upd H' p (.tup [.int (j : Nat), v])) := s2.trans (same_new hp)
        refine g_pair (SqT.of upd_same) ?_
        generalize upd H' p (.tup [.int (j : Nat), v]) = H3 at s3 ⊢
        have s13 := s1.trans s3
        walk_at "lk"
        have hj := (List.getElem?_eq_some_iff.mp hi).1
        by_cases c : j = n
        · subst c
          rw [hi] at hbv
          cases hbv
          exact ⟨l, j, _, cts, rfl, hl.same s13, by omega, hcb, (hbad.same s13).t (er.same s13)⟩
        · have hi2 : (us.take n)[j]? = some v := by rw [List.getElem?_take, if_pos (by omega)]; exact hi
          obtain ⟨r, hri, hrv⟩ := hr0.at hi2
          exact ⟨l, j, v, cts, rfl, hl.same s13, by omega, hcb, RowT.good (hrv.ts (Ts.of s13)) (hrs j r hri) fun H4 s4 => ⟨⟨_, _, rfl⟩, s3.trans s4, by omega⟩⟩
      · rintro σ' H' ⟨_, _, h⟩
        omega
    have hlen := hr0.len
    refine for_enE (xs := us) (fun j σ' H' => (∃ e1 e2, σ' = [some (.ref x), some (.int (k : Int)), some (.ref l), some (.ref t), some (.ref a), e1, e2]) ∧ Same H1 H') rfl (ht.same s1) ⟨⟨_, _, rfl⟩, Same.refl _⟩ (fun j σ' H' h => h.2) ?_ ?_
    · rintro j v p σ' H' hi ⟨⟨e1, e2, rfl⟩, s2⟩ hp
      have s3 : Same H1 (upd H' p (.tup [.int (j : Nat), v])) := s2.trans (same_new hp)
      refine g_pair (SqT.of upd_same) ?_
      generalize upd H' p (.tup [.int (j : Nat), v]) = H3 at s3 ⊢
      obtain ⟨r, hri, hrv⟩ := hr0.at hi
      have hj : j < rs.length := (List.getElem?_eq_some_iff.mp hri).1
      have s13 := s1.trans s3
      walk_at "lk"
      exact ⟨l, j, v, cts, rfl, hl.same s13, by omega, hcb, RowT.good (hrv.ts (Ts.of s13)) (hok.ok j r hri) fun H4 s4 => ⟨⟨_, _, rfl⟩, s3.trans s4⟩⟩
    rintro σ' H2 ⟨⟨e1, e2, rfl⟩, s2⟩
    have s12 := s1.trans s2
    walk_at "lk"
    refine ⟨x, A.Code, dx, [], rfl, s12 _ _ hx, T.c_Code, T.n_width, by decide, ?_⟩
    have b3 : Bar x H (upd H2 x (.ins A.Code dx (putF "width" (.int (k : Int)) []))) := (Bar.of s12).trans Bar.upd
    have x3 : (upd H2 x (.ins A.Code dx (putF "width" (.int (k : Int)) []))) x = some (.ins A.Code dx [("width", .int (k : Int))]) := upd_same
    generalize upd H2 x (.ins A.Code dx (putF "width" (.int (k : Int)) [])) = H3 at b3 x3 ⊢
    walk_at "lk"
    refine s_tupE (b3.sqE hx hl) fun tc H4 s4 h4 => ?_
    walk_at "lk"
    refine ⟨x, A.Code, dx, _, rfl, s4 _ _ x3, T.c_Code, T.n_counts, Nat.le_of_ble_eq_true rfl, ?_⟩
    have b5' : Bar x H4 (upd H4 x (.ins A.Code dx (putF "counts" (.ref tc) [("width", .int (k : Int))]))) := Bar.upd
    have x5 : (upd H4 x (.ins A.Code dx (putF "counts" (.ref tc) [("width", .int (k : Int))]))) x = some (.ins A.Code dx [("width", .int (k : Int)), ("counts", .ref tc)]) := upd_same
    generalize upd H4 x (.ins A.Code dx (putF "counts" (.ref tc) [("width", .int (k : Int))])) = H5 at b5' x5 ⊢
    have b5 : Bar x H H5 := (b3.trans (Bar.of s4)).trans b5'
    have h5 := b5'.sqT (s4 _ _ x3) h4
    walk_at "lk"
    refine tlc_F2E (fun H v r => CRowH H v r) (fun H v r => CRowH H v r) (CRow.low k) (fun s h => h.ts (Ts.of s)) (fun s h => h.ts s) rfl (b5.sqE hx ht) (hr0.mono fun _ _ z => z.ts (b5.ts hx)) (by omega) (fun _ => rfl) (fun i v r H' hri hv s' R qr => ?_) (fun D ys H6 s6 hD hDl hys => ?_)
    · walk_at "lk"
      exact ⟨v, k, r, rfl, k2, hv, (hok.ok i r hri).sz hok.cD, qr⟩
    walk_at "lk"
    refine s_tupE (.inl (SqL.of hDl)) fun tr H7 s7 h7 => ?_
    walk_at "lk"
    refine ⟨x, A.Code, dx, _, rfl, s7 _ _ (s6 _ _ x5), T.c_Code, T.n_rows, Nat.le_of_ble_eq_true rfl, ?_⟩
    have x7 := s7 _ _ (s6 _ _ x5)
    have b8' : Bar x H7 (upd H7 x (.ins A.Code dx (putF "rows" (.ref tr) [("width", .int (k : Int)), ("counts", .ref tc)]))) := Bar.upd
    have x8 : (upd H7 x (.ins A.Code dx (putF "rows" (.ref tr) [("width", .int (k : Int)), ("counts", .ref tc)]))) x = some (.ins A.Code dx [("width", .int (k : Int)), ("counts", .ref tc), ("rows", .ref tr)]) := upd_same
    generalize upd H7 x (.ins A.Code dx (putF "rows" (.ref tr) [("width", .int (k : Int)), ("counts", .ref tc)])) = H8 at b8' x8 ⊢
    have b8 : Bar x H H8 := (b5.trans (Bar.of (s6.trans s7))).trans b8'
    have h8 := b8'.sqT x7 (same_sqT s7 (same_sqT s6 h5))
    have r8 := b8'.sqT x7 h7
    have y8 : F2 (CRowH H8) ys (rs.map (CRow.low k)) := hys.mono fun _ _ z => (z.ts (Ts.of s7)).ts (b8'.ts x7)
    walk_at "lk"
    have s0 := hok.sl
    have s1' := (hok.cD 0).2
    refine ⟨a, st, k, rfl, b8.sqT hx ha, by omega, k2, fun ts H9 s9 _ h9 => ?_⟩
    walk_at "lk"
    refine ⟨x, A.Code, dx, _, rfl, s9 _ _ x8, T.c_Code, T.n_start, Nat.le_of_ble_eq_true rfl, ?_⟩
    have x9 := s9 _ _ x8
    have b10 : Bar x H9 (upd H9 x (.ins A.Code dx (putF "start" (.ref ts) [("width", .int (k : Int)), ("counts", .ref tc), ("rows", .ref tr)]))) := Bar.upd
    have x10 : (upd H9 x (.ins A.Code dx (putF "start" (.ref ts) [("width", .int (k : Int)), ("counts", .ref tc), ("rows", .ref tr)]))) x = some (.ins A.Code dx (cdF k tc tr ts)) := upd_same
    exact q _ ((b8.trans (Bar.of s9)).trans b10)
end
end K41

namespace K41
open PySem PySem.Spec PyProof.Rows L2 RZ Lk
local macro_rules | `(tactic| walk_at "lk") => `(tactic| (repeat (first
  | with_reducible refine ssq ?_ | with_reducible refine sas ?_ | with_reducible refine sgn ?_ | ((with_reducible show tVar _ _ _ _); refine sv rfl ?_) | with_reducible refine sc ?_ | with_reducible refine sop ?_ | with_reducible refine sun ?_
  | with_reducible refine sI0 ?_ | with_reducible refine sU ?_ | with_reducible refine stt ?_ | with_reducible refine stB ?_ | with_reducible refine sbl ?_ | with_reducible refine snt ?_ | with_reducible refine sif ?_ | with_reducible refine scB ?_
  | with_reducible refine scn ?_ | with_reducible refine snl ?_ | with_reducible refine scl ?_ | with_reducible refine stu ?_ | with_reducible refine sli ?_ | with_reducible refine sdr ?_ | with_reducible refine srt ?_ | with_reducible refine snx ?_ | with_reducible refine sfor ?_ | with_reducible refine sils ?_ | with_reducible refine sien ?_ | with_reducible refine sor ?_ | with_reducible refine sfg ?_
  | with_reducible refine sav ?_ | with_reducible refine sov ?_ | with_reducible refine snv ?_ | with_reducible refine sch ?_ | with_reducible refine san ?_ | with_reducible refine ssll ?_ | with_reducible refine spt ?_ | with_reducible refine snp ?_ | with_reducible refine sin ?_ | with_reducible refine sfl ?_ | with_reducible refine sfd ?_ | with_reducible refine sbm ?_ | with_reducible refine sifx ?_ | with_reducible refine smk ?_ | with_reducible refine ssli ?_ | with_reducible refine srz3 ?_ | with_reducible refine scx ?_ | with_reducible refine smx ?_ | with_reducible refine sbz ?_
  | ((with_reducible show Or _ _); first | refine Or.inl ⟨_, rfl, ?_⟩ | refine Or.inr ⟨_, rfl, ?_⟩))))

abbrev psI : List Str := ["self", "width", "counts", "rows", "start"]
structure CdeI (P : Program) (w : World) (K : PySem.W.Frag) (mg : Str → Option Value) (base : Heap) (A : Ad) : Prop where
  init : ∃ f fd, Mk K A.Code f ∧ FnOk P w K mg base (L2.CX P w) 7 f fd psI (spInitX K A) ∧ Binds K fd psI []
theorem same_ownX {H H' : Hp} {x dx C : Addr} (h1 : H x = none) (h2 : H dx = none) (s : Bar x (upd (upd H dx (.own x)) x (.ins C dx [])) H') : Same H H' := fun b o e => by
  have n1 := ne_of_none e h1
  have n2 := ne_of_none e h2
  refine s b o n1 ?_
  rw [upd_ne n1, upd_ne n2]
  exact e
theorem HeadB.same {K : PySem.W.Frag} {H H' : Hp} {wv cv rv sv : V} {part : Str} {ix : Int} (s : Same H H') (h : HeadB K H wv cv rv sv part ix) : HeadB K H' wv cv rv sv part ix := by
  obtain ⟨wd, hwd, h⟩ := h
  refine ⟨wd, dp_same s hwd, ?_⟩
  rcases h with h | ⟨e, ro, hro, h⟩
  · exact .inl h
  refine .inr ⟨e, ro, hro.same s, ?_⟩
  rcases h with h | ⟨t, us, e1, ht, l1, l2, co, hco, h⟩
  · exact .inl h
  refine .inr ⟨t, us, e1, ht.same s, l1, l2, co, hco.same s, ?_⟩
  rcases h with h | ⟨l, xs, ds, e2, hl, hds, hlen, h⟩
  · exact .inl h
  refine .inr ⟨l, xs, ds, e2, hl.same s, dpa_same s hds, hlen, ?_⟩
  rcases h with h | ⟨e3, c0, so, hc0, hso, h⟩
  · exact .inl h
  · exact .inr ⟨e3, c0, so, hc0, hso.same s, h⟩
theorem InitX.same {K : PySem.W.Frag} {A : Ad} {H H' : Hp} {wv cv rv sv : V} {q q' : Prop} {er er' : Int → Str → Int → Prop} (s : Same H H') (h : InitX K A H wv cv rv sv q er) (hq : q → q') (he : ∀ i p x, er i p x → er' i p x) : InitX K A H' wv cv rv sv q' er' := by
  rcases h with ⟨part, ix, h, e⟩ | ⟨k, l, t, a, cts, us, st, e1, e2, e3, e4, k1, k2, hl, ht, cl, l1, l2, hc0, ha, hsl, h⟩
  · exact .inl ⟨part, ix, h.same s, he _ _ _ e⟩
  refine .inr ⟨k, l, t, a, cts, us, st, e1, e2, e3, e4, k1, k2, hl.same s, ht.same s, cl, l1, l2, hc0, same_sqT s ha, hsl, ?_⟩
  rcases h with ⟨n, rs, bv, part, ix, hn, hr0, hbv, hrs, hbad, e⟩ | ⟨rs, hr0, hok, e⟩
  · exact .inl ⟨n, rs, bv, part, ix, hn, hr0.mono fun _ _ z => z.ts (Ts.of s), hbv, hrs, hbad.same s, he _ _ _ e⟩
  · exact .inr ⟨rs, hr0.mono fun _ _ z => z.ts (Ts.of s), hok, hq e⟩
def spRaised (K : PySem.W.Frag) (A : Ad) : Sp := fun vs H Q _ => ∃ wv cv rv sv : V, vs = [wv, cv, rv, sv] ∧
  InitX K A H wv cv rv sv (∀ H', Same H H' → Q .non H') (fun i part ix => ∀ a H', Same H H' → H' a = some (.tup [.int i, .str part, .int ix]) → Q (.ref a) H')
theorem lkP {a b c : V} : List.lookup ("part" : Str) [(("index" : Str), a), (("part" : Str), b), (("row" : Str), c)] = some b := lkB (by decide +kernel) lkA
theorem lkR {a b c : V} : List.lookup ("row" : Str) [(("index" : Str), a), (("part" : Str), b), (("row" : Str), c)] = some c := lkB (by decide +kernel) (lkB (by decide +kernel) lkA)

section
variable {P : Program} {w : World} {K : PySem.W.Frag} {mg : Str → Option Value} {base : Heap} {A : Ad}
abbrev s__law_raised : Stmt := top 33
theorem sc__law_raised : FnScope ["_law_width", "_law_counts", "_law_rows_here", "_law_start", "_law_found", "e"] ["_law_width", "_law_counts", "_law_rows_here", "_law_start"] (defScope s__law_raised) := ⟨rfl, rfl, rfl, by decide +kernel, rfl, by decide +kernel, by decide +kernel⟩
theorem ok_raised {f : Addr} {fd : FuncData} (F : Fun K "_law_raised" "_law_raised" s__law_raised f fd) (T : Txt P w K mg base A) (G : CdeI P w K mg base A) : FnOk P w K mg base CX0 9 f fd ["_law_width", "_law_counts", "_law_rows_here", "_law_start"] (spRaised K A) := by
  refine F.ok sc__law_raised (fun vs H Q E h => ?_) (fun cdv Ar outer s H vs Q E hr h => ?_)
  · obtain ⟨wv, cv, rv, sv, rfl, _⟩ := h
    rfl
  · obtain ⟨wv, cv, rv, sv, rfl, hh⟩ := h
    have h := G.init
    obtain ⟨fI, fdI, M, FI, bI⟩ := h
    have hr1 : Room 8 _ := hr.mono (by decide)
    refine ⟨_, (pss_cons (ps_set (i := 4) sc__law_raised.nd rfl (Or.inl rfl) pe_non)
        (pss_cons (ps_try_as (i := 5) (tb := fun W => tDrop (tMakeX A.Code (spInitX K A) W (tCons (tVar 0) (tCons (tVar 1) (tCons (tVar 2) (tCons (tVar 3) tNil))))))
            (ts := fun a cls d => tAsg (tTup (tCons (tXf a cls d A.NoCode "row" (tVar 5)) (tCons (tXf a cls d A.NoCode "part" (tVar 5)) (tCons (tXf a cls d A.NoCode "index" (tVar 5)) tNil)))) (gName 4)) (Wout := fun _ _ _ _ => False) rfl rfl sc__law_raised.nd rfl rfl ⟨rfl, by decide, Or.inl T.e_NoCode.k.g⟩ takes0
            (fun W pn xe tk _ => pss_one (ps_expr (by exact (pe_makeX M FI hr1 T.g_Code bI tk (pa_cons (pv 0) (pa_cons (pv 1) (pa_cons (pv 2) (pa_cons (pv 3) pa_nil))))))))
            (fun a oe cls d pn hz hf => pss_one (ps_set (i := 4) sc__law_raised.nd rfl (Or.inl rfl) (by exact (pe_tup (pa_cons (pe_xf T.e_NoCode.xf T.e_NoCode.nf hz hf (pv 5)) (pa_cons (pe_xf T.e_NoCode.xf T.e_NoCode.ng hz hf (pv 5)) (pa_cons (pe_xf T.e_NoCode.xf T.e_NoCode.nl hz hf (pv 5)) pa_nil))))))))
        (pss_one (ps_ret (pv 4))))), ?_⟩
    walk_at "lk"
    intro x dx h1 h2 hne
    have s0 : Same H (upd (upd H dx (.own x)) x (.ins A.Code dx [])) := same_ownX h1 h2 Bar.refl
    refine ⟨x, dx, _, _, _, _, rfl, upd_same, hh.same s0 (fun q H' b => ⟨rfl, ?_⟩) fun i part ix q d H' s' h => ?_⟩
    · walk_at "lk"
      exact q _ (same_ownX h1 h2 b)
    · refine ⟨true, exm_er T.e_NoCode.k, fun _ a ha => ?_, fun z => by cases z⟩
      walk_at "lk"
      refine s_xf rfl h lkR ?_
      walk_at "lk"
      refine s_xf rfl h lkP ?_
      walk_at "lk"
      refine s_xf rfl h lkA ?_
      walk_at "lk"
      refine snw (Nat.le_of_ble_eq_true rfl) fun b hb => ?_
      walk_at "lk"
      exact q b _ ((s0.trans s').trans (same_new hb)) upd_same
end
end K41

namespace K41
open PySem PySem.Spec PyProof.Rows L2 RZ Lk
local macro_rules | `(tactic| walk_at "lk") => `(tactic| (repeat (first
  | with_reducible refine ssq ?_ | with_reducible refine sas ?_ | with_reducible refine sgn ?_ | ((with_reducible show tVar _ _ _ _); refine sv rfl ?_) | with_reducible refine sc ?_ | with_reducible refine sop ?_ | with_reducible refine sun ?_
  | with_reducible refine sI0 ?_ | with_reducible refine sU ?_ | with_reducible refine stt ?_ | with_reducible refine stB ?_ | with_reducible refine sbl ?_ | with_reducible refine snt ?_ | with_reducible refine sif ?_ | with_reducible refine scB ?_
  | with_reducible refine scn ?_ | with_reducible refine snl ?_ | with_reducible refine scl ?_ | with_reducible refine stu ?_ | with_reducible refine sli ?_ | with_reducible refine sdr ?_ | with_reducible refine srt ?_ | with_reducible refine snx ?_ | with_reducible refine sfor ?_ | with_reducible refine sils ?_ | with_reducible refine sien ?_ | with_reducible refine sor ?_ | with_reducible refine sfg ?_
  | with_reducible refine sav ?_ | with_reducible refine sov ?_ | with_reducible refine snv ?_ | with_reducible refine sch ?_ | with_reducible refine san ?_ | with_reducible refine ssll ?_ | with_reducible refine spt ?_ | with_reducible refine snp ?_ | with_reducible refine sin ?_ | with_reducible refine sfl ?_ | with_reducible refine sfd ?_ | with_reducible refine sbm ?_ | with_reducible refine sifx ?_ | with_reducible refine smk ?_ | with_reducible refine ssli ?_ | with_reducible refine sbz ?_
  | ((with_reducible show Or _ _); first | refine Or.inl ⟨_, rfl, ?_⟩ | refine Or.inr ⟨_, rfl, ?_⟩))))

theorem s_catG {K : PySem.W.Frag} {H : Hp} {a b : Addr} {xs ys : List V} {Q : VK} (h : H a = some (.tup xs)) (h' : H b = some (.tup ys)) (hl : xs.length + ys.length ≤ 1000) (q : ∀ p H', Same H H' → H' p = some (.tup (xs ++ ys)) → Q (.ref p) H') : rCatA K (.ref a) (.ref b) H Q :=
  ⟨a, b, xs, ys, rfl, rfl, SqT.of h, SqT.of h', Nat.le_of_lt (small1000 hl), fun e => q b H (Same.refl _) (by rw [e]; exact h'), fun _ e => q a H (Same.refl _) (by rw [e, List.append_nil]; exact h), fun _ _ p hp => q p _ (same_new hp) upd_same⟩
theorem s_repX {K : PySem.W.Frag} {H : Hp} {l : Addr} {x : V} {n : Nat} {Q : VK} (h : H l = some (.tup [x])) (h1 : 1 ≤ n) (h2 : n ≤ 1000) (q : ∀ p H', Same H H' → H' p = some (.tup (List.replicate n x)) → Q (.ref p) H') : rRepN K (.ref l) (.int (n : Int)) H Q :=
  ⟨l, n, [x], rfl, rfl, SqT.of h, by simp, by omega, by omega, by simp, fun e => q l H (Same.refl _) (by
    have : n = 1 := by omega
    subst this
    exact h), fun e p hp => q p _ (same_new hp) (by rw [upd_same, Int.toNat_natCast, flat_rep])⟩
def spBadForms (K : PySem.W.Frag) : Sp := fun vs H Q _ => ∃ (p fp : Addr) (n1 : Nat) (us : List V) (fs : List (List Int)), vs = [.ref p, .ref fp, .int (n1 : Int)] ∧ 1 ≤ n1 ∧ n1 ≤ 10 ∧ Wl H p ∧ H fp = some (.tup us) ∧ F2 (CfH H) us fs ∧ 1 ≤ fs.length ∧ fs.length ≤ 100 ∧ (∀ f ∈ fs, f.length = n1) ∧
  ∀ (u a : Addr) (j : Nat) (os : List (Option (List PyData))) (H' : Hp), Wk p H H' → H' u = some (.tup [.ref a, .int (j : Int)]) → (∀ H'', Wk p H' H'' → Fv K H'' (.ref a) (some os)) → j < fs.length → os.length = fs.length → firstB (formO ((n1 : Int) - 1)) os 0 = some j → Q (.ref u) H'
theorem dpa_rep {K : PySem.W.Frag} {H : Hp} {v : V} {d : PyData} (h : Dp K H v d) : ∀ n, DpAll K H (List.replicate n v) (List.replicate n d)
  | 0 => .nil
  | n + 1 => .cons h (dpa_rep h n)
theorem form_rep {d : PyData} {n : Nat} {m : Int} (h : isIntD d = false) (h1 : 1 ≤ n) : formO m (some (List.replicate n d)) = false := by
  obtain ⟨k, rfl⟩ : ∃ k, n = k + 1 := ⟨n - 1, by omega⟩
  show (decide _ && (List.replicate (k + 1) d).all isIntD) = false
  rw [List.replicate_succ, List.all_cons, h, Bool.false_and, Bool.and_false]
theorem form_len {ds : List PyData} {m : Int} (h : (ds.length : Int) ≠ m + 1) : formO m (some ds) = false := by
  show (decide _ && _) = false
  rw [decide_eq_false h, Bool.false_and]
theorem odd_form {K : PySem.W.Frag} {G : Hp → Prop} {n1 : Nat} {a1 a2 a3 a4 a5 a6 a7 : Addr} {t : Str} {v : V} (h1 : 1 ≤ n1) (e1 : ∀ H, G H → H a1 = some (.lst (List.replicate n1 (.int 1)))) (e2 : ∀ H, G H → H a2 = some (.tup (List.replicate n1 (.int 1) ++ [.int 0]))) (e3 : ∀ H, G H → H a3 = some (.tup ((List.replicate n1 (V.int 1)).drop 1)))
    (e4 : ∀ H, G H → H a4 = some (.tup (List.replicate n1 (.str "1")))) (e5 : ∀ H, G H → H a5 = some (.tup (List.replicate n1 (.bl true)))) (e6 : ∀ H, G H → H a6 = some (.tup (List.replicate n1 .non))) (e7 : ∀ H, G H → H a7 = some (.dK []))
    (hv : v ∈ [V.non, .ref a1, .ref a2, .ref a3, .ref a4, .ref a5, .str t, .ref a6, .ref a7, .int 5]) : ∃ o, (∀ H, G H → It K H v o) ∧ formO ((n1 : Int) - 1) o = false := by
  have r1 : ∀ n, List.replicate n (V.int 1) = (List.replicate n (1 : Int)).map V.int := fun n => by rw [List.map_replicate]
  simp only [List.mem_cons, List.not_mem_nil, or_false] at hv
  rcases hv with rfl | rfl | rfl | rfl | rfl | rfl | rfl | rfl | rfl | rfl
  · exact ⟨none, fun H g => .no (.dp .non) (ki_tup _), rfl⟩
  · exact ⟨none, fun H g => .no (.lst (SqL.of (e1 _ g))) (by decide +kernel), rfl⟩
  · refine ⟨itD (List.replicate n1 1 ++ [0]), fun H g => .tup (SqT.of (e2 _ g)) ?_, form_len (by rw [List.length_map, List.length_append, List.length_replicate]; simp; omega)⟩
    have := (dt_ints (H := H) (List.replicate n1 1 ++ [0])).dp (K := K)
    rw [List.map_append, List.map_replicate] at this
    exact this
  · refine ⟨itD ((List.replicate n1 1).drop 1), fun H g => .tup (SqT.of (e3 _ g)) ?_, form_len (by rw [List.length_map, List.length_drop, List.length_replicate]; omega)⟩
    rw [r1, ← List.map_drop]
    exact (dt_ints _).dp
  · exact ⟨_, fun H g => .tup (SqT.of (e4 _ g)) (dpa_rep (.str "1") n1), form_rep rfl h1⟩
  · exact ⟨_, fun H g => .tup (SqT.of (e5 _ g)) (dpa_rep (.bl true) n1), form_rep rfl h1⟩
  · exact ⟨none, fun H g => .no (.dp (.str t)) (ki_tup _), rfl⟩
  · exact ⟨_, fun H g => .tup (SqT.of (e6 _ g)) (dpa_rep .non n1), form_rep rfl h1⟩
  · exact ⟨none, fun H g => it_dct (e7 _ g), rfl⟩
  · exact ⟨none, fun H g => .no (.dp (.int 5)) (ki_tup _), rfl⟩
theorem f2_takeA {α : Type} {R : V → α → Prop} : ∀ {vs : List V} {as : List α}, F2 R vs as → ∀ n, F2 R (vs.take n) (as.take n)
  | _, _, .nil, n => by simp only [List.take_nil]; exact .nil
  | _, _, .cons h t, 0 => .nil
  | _, _, .cons h t, n + 1 => .cons h (f2_takeA t n)
theorem f2_dropA {α : Type} {R : V → α → Prop} : ∀ {vs : List V} {as : List α}, F2 R vs as → ∀ n, F2 R (vs.drop n) (as.drop n)
  | _, _, .nil, n => by simp only [List.drop_nil]; exact .nil
  | _, _, .cons h t, 0 => .cons h t
  | _, _, .cons h t, n + 1 => f2_dropA t n
section
variable {P : Program} {w : World} {K : PySem.W.Frag} {mg : Str → Option Value} {base : Heap} {A : Ad}
abbrev s__law_bad_forms : Stmt := top 34
theorem sc__law_bad_forms : FnScope ["_law_well", "_law_forms", "_law_size", "_law_at", "_law_good", "_law_odd"] ["_law_well", "_law_forms", "_law_size"] (defScope s__law_bad_forms) := ⟨rfl, rfl, rfl, by decide +kernel, rfl, by decide +kernel, by decide +kernel⟩
theorem ok_bad_forms {f : Addr} {fd : FuncData} (F : Fun K "_law_bad_forms" "_law_bad_forms" s__law_bad_forms f fd) (T : Txt P w K mg base A) (c__law_draw : Cal P w K mg base 1 "_law_draw" ["_law_well", "_law_many"] spDraw) (c__law_one : Cal P w K mg base 2 "_law_one" ["_law_well", "_law_some"] spOne) : FnOk P w K mg base CX0 3 f fd ["_law_well", "_law_forms", "_law_size"] (spBadForms K) := by
  refine F.ok sc__law_bad_forms (fun vs H Q E h => ?_) (fun cdv Ar outer s H vs Q E hr h => ?_)
  · obtain ⟨p, fp, n1, us, fs, rfl, _⟩ := h
    rfl
  · obtain ⟨p, fp, n1, us, fs, rfl, h1, h10, hw, hf, hus, l1, l2, hfl, q⟩ := h
    refine ⟨_, (pss_cons (ps_set (i := 3) sc__law_bad_forms.nd rfl (Or.inl rfl) (pcal c__law_draw hr (by decide) (pa_cons (pv 0) (pa_cons (pe_callB call_len_seq (by rfl) T.z_len PySem.boot_len (pa_cons (pv 1) pa_nil)) pa_nil))))
        (pss_cons (ps_set (i := 4) sc__law_bad_forms.nd rfl (Or.inl rfl) (pe_op op_repN (pe_tup (pa_cons pe_int pa_nil)) (pv 2)))
        (pss_cons (ps_set (i := 5) sc__law_bad_forms.nd rfl (Or.inl rfl) (pe_lst (pa_cons pe_non (pa_cons (pe_callTy call_list_of (by rfl) T.z_list (by decide +kernel) (pa_cons (pv 4) pa_nil)) (pa_cons (pe_op op_catA (pv 4) (pe_tup (pa_cons pe_int pa_nil))) (pa_cons (pe_slice sl_tupA (pv 4) (po_some pe_int) po_none) (pa_cons (pe_op op_repN (pe_tup (pa_cons pe_str pa_nil)) (pv 2)) (pa_cons (pe_op op_repN (pe_tup (pa_cons pe_bl pa_nil)) (pv 2)) (pa_cons (pe_op op_repS pe_str (pv 2)) (pa_cons (pe_op op_repN (pe_tup (pa_cons pe_non pa_nil)) (pv 2)) (pa_cons pe_dnewK (pa_cons pe_int pa_nil))))))))))))
        (pss_one (ps_ret (pe_tup (pa_cons (pe_op op_catA (pe_op op_catA (pe_slice sl_tupA (pv 1) po_none (po_some (pv 3))) (pe_tup (pa_cons (pcal c__law_one hr (by decide) (pa_cons (pv 0) (pa_cons (pv 5) pa_nil))) pa_nil))) (pe_slice sl_tupA (pv 1) (po_some (pe_op op_add (pv 3) pe_int)) po_none)) (pa_cons (pv 3) pa_nil)))))))), ?_⟩
    have hul := hus.len
    have nfp : fp ≠ p := ne_well hw hf (fun _ _ _ z => by cases z)
    walk_at "lk"
    refine ⟨fp, us, rfl, .inr (SqT.of hf), ?_⟩
    walk_at "lk"
    refine ⟨p, (us.length : Int), rfl, by omega, Nat.lt_of_le_of_lt (show ((us.length : Nat) : Int).natAbs ≤ 100 by omega) (by decide), hw, fun r H1 c0 c1 w1 => ?_⟩
    obtain ⟨j, rfl⟩ : ∃ i : Nat, r = (i : Int) := ⟨r.toNat, by omega⟩
    have hj : j < us.length := by omega
    walk_at "lk"
    refine snw (Nat.le_of_ble_eq_true rfl) fun tg htg => ?_
    have sg : Same H1 (upd H1 tg (.tup [.int 1])) := same_new htg
    have eg : (upd H1 tg (.tup [.int 1])) tg = some (.tup [.int 1]) := upd_same
    generalize upd H1 tg (.tup [.int 1]) = Gg at sg eg ⊢
    walk_at "lk"
    refine s_repX eg h1 (by omega) fun ag Hg rg fg => ?_
    have sg := sg.trans rg
    walk_at "lk"
    refine ⟨ag, _, rfl, .inr (SqT.of fg), fun a1 ha1 => ?_⟩
    have s1 : Same Hg (upd Hg a1 (.lst (List.replicate n1 (.int 1)))) := same_new ha1
    have na1 : a1 ≠ p := ne_new (w1.st sg).2 ha1
    have e1 : (upd Hg a1 (.lst (List.replicate n1 (V.int 1)))) a1 = some (.lst (List.replicate n1 (.int 1))) := upd_same
    generalize upd Hg a1 (.lst (List.replicate n1 (V.int 1))) = H2 at s1 e1 ⊢
    walk_at "lk"
    refine snw (Nat.le_of_ble_eq_true rfl) fun z2 hz2 => ?_
    have s2 : Same H2 (upd H2 z2 (.tup [.int 0])) := same_new hz2
    have e2 : (upd H2 z2 (.tup [.int 0])) z2 = some (.tup [.int 0]) := upd_same
    generalize upd H2 z2 (.tup [.int 0]) = H3 at s2 e2 ⊢
    refine s_catG (s2 _ _ (s1 _ _ fg)) e2 (by rw [List.length_replicate]; simp; omega) fun a2 H4 s3 f2 => ?_
    walk_at "lk"
    have s14 := (s1.trans s2).trans s3
    refine s_dropT (i := 1) (SqT.of (s14 _ _ fg)) (Nat.le_refl 1) (by rw [List.length_replicate]; exact h1) (by cases n1 with | zero => omega | succ k => simp [List.replicate_succ]) fun a3 ha3 => ?_
    have s4 : Same H4 (upd H4 a3 (.tup ((List.replicate n1 (V.int 1)).drop 1))) := same_new ha3
    have e3 : (upd H4 a3 (.tup ((List.replicate n1 (V.int 1)).drop 1))) a3 = some (.tup ((List.replicate n1 (V.int 1)).drop 1)) := upd_same
    generalize upd H4 a3 (.tup ((List.replicate n1 (V.int 1)).drop 1)) = H5 at s4 e3 ⊢
    walk_at "lk"
    refine snw (Nat.le_of_ble_eq_true rfl) fun th hth => ?_
    have sh : Same H5 (upd H5 th (.tup [.str "1"])) := same_new hth
    have eh : (upd H5 th (.tup [.str "1"])) th = some (.tup [.str "1"]) := upd_same
    generalize upd H5 th (.tup [.str "1"]) = Gh at sh eh ⊢
    walk_at "lk"
    refine s_repX eh h1 (by omega) fun ah Hh rh fh => ?_
    have sh := sh.trans rh
    walk_at "lk"
    refine snw (Nat.le_of_ble_eq_true rfl) fun ti hti => ?_
    have si : Same Hh (upd Hh ti (.tup [.bl true])) := same_new hti
    have ei : (upd Hh ti (.tup [.bl true])) ti = some (.tup [.bl true]) := upd_same
    generalize upd Hh ti (.tup [.bl true]) = Gi at si ei ⊢
    walk_at "lk"
    refine s_repX ei h1 (by omega) fun ai Hi ri fi => ?_
    have si := si.trans ri
    walk_at "lk"
    refine ⟨"a", (n1 : Int), rfl, rfl, by omega, by omega, by decide, fun tt => ?_⟩
    walk_at "lk"
    refine snw (Nat.le_of_ble_eq_true rfl) fun tk htk => ?_
    have sk : Same Hi (upd Hi tk (.tup [.non])) := same_new htk
    have ek : (upd Hi tk (.tup [.non])) tk = some (.tup [.non]) := upd_same
    generalize upd Hi tk (.tup [.non]) = Gk at sk ek ⊢
    walk_at "lk"
    refine s_repX ek h1 (by omega) fun ak Hk rk fk => ?_
    have sk := sk.trans rk
    walk_at "lk"
    unfold tDNewK
    intro a7 ha7
    have s7 : Same Hk (upd Hk a7 (.dK [])) := same_new ha7
    have e7 : (upd Hk a7 (.dK [])) a7 = some (.dK []) := upd_same
    generalize upd Hk a7 (.dK []) = H6 at s7 e7 ⊢
    walk_at "lk"
    refine snw (Nat.le_of_ble_eq_true rfl) fun lo hlo => ?_
    have s8 : Same H6 (upd H6 lo (.lst [.non, .ref a1, .ref a2, .ref a3, .ref ah, .ref ai, .str tt, .ref ak, .ref a7, .int 5])) := same_new hlo
    have e8 : (upd H6 lo (.lst [.non, .ref a1, .ref a2, .ref a3, .ref ah, .ref ai, .str tt, .ref ak, .ref a7, .int 5])) lo = some (.lst [.non, .ref a1, .ref a2, .ref a3, .ref ah, .ref ai, .str tt, .ref ak, .ref a7, .int 5]) := upd_same
    generalize upd H6 lo (.lst [.non, .ref a1, .ref a2, .ref a3, .ref ah, .ref ai, .str tt, .ref ak, .ref a7, .int 5]) = H7 at s8 e8 ⊢
    have s78 := s7.trans s8
    have sk7 := sk.trans s78
    have si7 := si.trans sk7
    have sh7 := sh.trans si7
    have s47 := s4.trans sh7
    have s37 := s3.trans s47
    have s27 := s2.trans s37
    have s17 := s1.trans s27
    have w7 : Wk p H H7 := w1.st (sg.trans s17)
    have hf7 := w7.at nfp hf
    have us7 : F2 (CfH H7) us fs := hus.mono fun _ _ z => z.ts (w7.ts hw)
    have g1 := s27 _ _ e1
    have g2 := s47 _ _ f2
    have g3 := sh7 _ _ e3
    have g4 := si7 _ _ fh
    have g5 := sk7 _ _ fi
    have g6 := s78 _ _ fk
    have g7 := s8 _ _ e7
    clear s1 e1 s2 e2 s3 f2 s14 s4 e3 sh eh fh si ei fi sk ek fk s7 e7 s8 s78 sk7 si7 sh7 s47 s37 s27 s17 sg eg fg ha1 hz2 ha3 hlo ha7 rg rh ri rk htg hth hti htk hus w1
    walk_at "lk"
    refine s_takeT (SqT.of hf7) hj fun b1 hb1 => ?_
    have t1 : Same H7 (upd H7 b1 (.tup (us.take j))) := same_new hb1
    have y1 : (upd H7 b1 (.tup (us.take j))) b1 = some (.tup (us.take j)) := upd_same
    generalize upd H7 b1 (.tup (us.take j)) = H8 at t1 y1 ⊢
    have w8 := w7.st t1
    have nlo : lo ≠ p := ne_well w7.2 e8 (fun _ _ _ z => by simp at z)
    have nb1 : b1 ≠ p := ne_well w8.2 y1 (fun _ _ _ z => by cases z)
    walk_at "lk"
    refine ⟨p, lo, _, rfl, w8.2, nlo, t1 _ _ e8, Nat.succ_pos _, Nat.le_of_ble_eq_true rfl, fun v H9 hv w9' => ?_⟩
    have w9 := w8.trans w9'
    have w79 : Wk p H7 H9 := (Wk.of w7.2 t1).trans w9'
    obtain ⟨o, hit, hno⟩ := odd_form (K := K) (G := Wk p H9) h1 (fun _ w => w.at na1 (w79.at na1 g1)) (fun _ w => w.at (ne_well w7.2 g2 (fun _ _ _ z => by cases z)) (w79.at (ne_well w7.2 g2 (fun _ _ _ z => by cases z)) g2)) (fun _ w => w.at (ne_well w7.2 g3 (fun _ _ _ z => by cases z)) (w79.at (ne_well w7.2 g3 (fun _ _ _ z => by cases z)) g3)) (fun _ w => w.at (ne_well w7.2 g4 (fun _ _ _ z => by cases z)) (w79.at (ne_well w7.2 g4 (fun _ _ _ z => by cases z)) g4)) (fun _ w => w.at (ne_well w7.2 g5 (fun _ _ _ z => by cases z)) (w79.at (ne_well w7.2 g5 (fun _ _ _ z => by cases z)) g5)) (fun _ w => w.at (ne_well w7.2 g6 (fun _ _ _ z => by cases z)) (w79.at (ne_well w7.2 g6 (fun _ _ _ z => by cases z)) g6)) (fun _ w => w.at (ne_well w7.2 g7 (fun _ _ _ z => by cases z)) (w79.at (ne_well w7.2 g7 (fun _ _ _ z => by cases z)) g7)) hv
    walk_at "lk"
    refine snw (Nat.le_of_ble_eq_true rfl) fun b2 hb2 => ?_
    have t2 : Same H9 (upd H9 b2 (.tup [v])) := same_new hb2
    have y2 : (upd H9 b2 (.tup [v])) b2 = some (.tup [v]) := upd_same
    generalize upd H9 b2 (.tup [v]) = H10 at t2 y2 ⊢
    refine s_catG (t2 _ _ (w9'.at nb1 y1)) y2 (by rw [List.length_take]; simp; omega) fun b3 H11 t3 y3 => ?_
    walk_at "lk"
    have t23 := t2.trans t3
    rw [show ((j : Int) + 1) = ((j + 1 : Nat) : Int) from rfl]
    refine s_dropT (i := j + 1) (SqT.of (t23 _ _ (w9.at nfp hf))) (by omega) (by omega) (by intro z; rw [z] at hj; simp at hj) fun b4 hb4 => ?_
    have t4 : Same H11 (upd H11 b4 (.tup (us.drop (j + 1)))) := same_new hb4
    have y4 : (upd H11 b4 (.tup (us.drop (j + 1)))) b4 = some (.tup (us.drop (j + 1))) := upd_same
    generalize upd H11 b4 (.tup (us.drop (j + 1))) = H12 at t4 y4 ⊢
    refine s_catG (t4 _ _ y3) y4 (by rw [List.length_append, List.length_take, List.length_drop]; simp; omega) fun b5 H13 t5 y5 => ?_
    walk_at "lk"
    refine snw (Nat.le_of_ble_eq_true rfl) fun b6 hb6 => ?_
    have t6 : Same H13 (upd H13 b6 (.tup [.ref b5, .int (j : Int)])) := same_new hb6
    have y6 : (upd H13 b6 (.tup [.ref b5, .int (j : Int)])) b6 = some (.tup [.ref b5, .int (j : Int)]) := upd_same
    generalize upd H13 b6 (.tup [.ref b5, .int (j : Int)]) = H14 at t6 y6 ⊢
    have t914 := ((t23.trans t4).trans t5).trans t6
    have w714 := w79.st t914
    have f14 : ∀ H'', Wk p H14 H'' → F2 (It K H'') us (fs.map itD) := fun H'' w'' => f2_map (fun _ _ z => it_f z) (us7.mono fun _ _ z => z.ts ((w714.trans w'').ts w7.2))
    have nb5 : b5 ≠ p := ne_well w714.2 (t6 _ _ y5) (fun _ _ _ z => by cases z)
    have hlm : (fs.map itD).length = fs.length := List.length_map ..
    refine q b6 b5 j ((fs.map itD).take j ++ [o] ++ (fs.map itD).drop (j + 1)) H14 (w7.trans w714) y6 (fun H'' w'' => .tup (SqT.of (w''.at nb5 (t6 _ _ y5))) (((f2_takeA (f14 _ w'') j).append (.cons (hit _ ((Wk.of w9.2 t914).trans w'')) .nil)).append (f2_dropA (f14 _ w'') (j + 1)))) (by omega) ?_ ?_
    · rw [List.length_append, List.length_append, List.length_take, List.length_drop, hlm]
      simp
      omega
    · have hlt : ((fs.map itD).take j).length = j := by rw [List.length_take, hlm]; omega
      have := firstB_at (p := formO ((n1 : Int) - 1)) (as := (fs.map itD).take j ++ [o] ++ (fs.map itD).drop (j + 1)) (i := j) (n := 0) (a := o) (fun k b hk hb => ?_) ?_ hno
      · rw [this, Nat.zero_add]
      · rw [List.append_assoc, List.getElem?_append_left (by omega), List.getElem?_take, if_pos hk, List.getElem?_map] at hb
        cases e : fs[k]? with
        | none => rw [e] at hb; cases hb
        | some f =>
          rw [e] at hb
          cases hb
          have := hfl f (List.mem_of_getElem? e)
          exact form_ok (by omega)
      · rw [List.append_assoc, List.getElem?_append_right (by omega), hlt, Nat.sub_self]
        rfl
end
end K41

namespace K41
open PySem PySem.Spec PyProof.Rows L2 Lk
/-! ### what each way of spoiling a row makes of it -/
section
variable {K : PySem.W.Frag} {A : Ad} {H : Hp} {cts : List Int} {c0 : Int}
theorem way_row {a1 a2 a3 a4 : Addr} {x1 x2 x3 : List V} {v : V} (e1 : H a1 = some (.lst x1)) (e2 : H a2 = some (.tup x2)) (l2 : x2.length = 3) (e3 : H a3 = some (.tup x3)) (l3 : x3.length = 5) (e4 : H a4 = some (.tup []))
    (hv : v ∈ [V.non, .ref a1, .ref a2, .ref a3, .ref a4, .str "stop", .int 7]) : RowB K A H cts c0 v "row" (-1) := by
  simp only [List.mem_cons, List.not_mem_nil, or_false] at hv
  rcases hv with rfl | rfl | rfl | rfl | rfl | rfl | rfl
  · exact .inl ⟨.inl ⟨_, .dp .non, ki_tup _⟩, rfl, rfl⟩
  · exact .inl ⟨.inl ⟨_, .lst (SqL.of e1), by decide +kernel⟩, rfl, rfl⟩
  · exact .inl ⟨.inr ⟨_, _, rfl, SqT.of e2, by omega⟩, rfl, rfl⟩
  · exact .inl ⟨.inr ⟨_, _, rfl, SqT.of e3, by omega⟩, rfl, rfl⟩
  · exact .inl ⟨.inr ⟨_, _, rfl, SqT.of e4, by simp⟩, rfl, rfl⟩
  · exact .inl ⟨.inl ⟨_, .dp (.str "stop"), ki_tup _⟩, rfl, rfl⟩
  · exact .inl ⟨.inl ⟨_, .dp (.int 7), ki_tup _⟩, rfl, rfl⟩
theorem way_kind {a a1 a2 : Addr} {x1 : List V} {kvs : List (Key × V)} {v : V} (n1 : PySem.W.nsIn K A.NEXTS "Go" = some none) (n2 : PySem.W.nsIn K A.NEXTS "set" = some none) (n3 : PySem.W.nsIn K A.NEXTS "say" = some none) (n4 : PySem.W.nsIn K A.NEXTS "" = some none)
    (e : H a = some (.tup [v, .non, .non, .non])) (e1 : H a1 = some (.lst x1)) (e2 : H a2 = some (.dK kvs)) (hv : v ∈ [V.non, .str "Go", .str "set", .str "say", .str "", .ref a1, .int 0, .ref a2]) : RowB K A H cts c0 (.ref a) "kind" (-1) := by
  refine .inr ⟨a, v, .non, .non, .non, rfl, SqT.of e, .inl ⟨?_, rfl, rfl⟩⟩
  simp only [List.mem_cons, List.not_mem_nil, or_false] at hv
  rcases hv with rfl | rfl | rfl | rfl | rfl | rfl | rfl | rfl
  · exact .inl ⟨_, .dp .non, ki_str _⟩
  · exact .inr ⟨_, rfl, n1⟩
  · exact .inr ⟨_, rfl, n2⟩
  · exact .inr ⟨_, rfl, n3⟩
  · exact .inr ⟨_, rfl, n4⟩
  · exact .inl ⟨_, .lst (SqL.of e1), by decide +kernel⟩
  · exact .inl ⟨_, .dp (.int 0), ki_str _⟩
  · exact .inl ⟨_, .dct e2, by decide +kernel⟩
variable {i : Nat} {r : CRow} {a : Addr} {b c d : V}
theorem way_next {o : Option (List PyData)} {ix lo hi : Int} (e : H a = some (.tup [.str r.kd, b, c, d])) (hl : ndLim r.kd = some (lo, hi)) (hb : It K H b o) (hn : nextsO lo hi cts.length o = some ix) : RowB K A H cts c0 (.ref a) "next" ix :=
  .inr ⟨a, _, b, c, d, rfl, SqT.of e, .inr ⟨r.kd, lo, hi, o, rfl, hl, hb, .inl ⟨hn, rfl⟩⟩⟩
theorem way_says {o : Option (List (Option (List PyData)))} {ix : Int} (ok : CRowOk cts i r) (e : H a = some (.tup [.str r.kd, b, c, d])) (hb : CfH H b r.nx) (hc : Fv K H c o) (hs : saysO c0 o = some ix) : RowB K A H cts c0 (.ref a) "says" ix := by
  obtain ⟨lo, hi, el, l1, l2⟩ := ok.nxl.lim
  have hit := it_f (K := K) hb
  obtain ⟨bp, rfl, hbp⟩ := hb
  exact .inr ⟨a, _, _, c, d, rfl, SqT.of e, .inr ⟨r.kd, lo, hi, itD r.nx, rfl, el, hit, .inr ⟨bp, r.nx, o, rfl, SqT.of hbp, nexts_ok l1 l2 ok.nxi, ok.nxl.le, ok.nxi, hc, .inl ⟨hs, rfl⟩⟩⟩⟩
theorem way_changes {o : Option (List (Option (List (Option (List PyData)))))} {ix : Int} (ok : CRowOk cts i r) (e : H a = some (.tup [.str r.kd, b, c, d])) (hb : CfH H b r.nx) (hc : CfsH H c r.sy) (hd : Cv K H d o)
    (hs : changesO (r.nx.map fun j => cts.getD j.toNat 0) (cts.getD i 0 + (askN r.kd : Int)) o = some ix) : RowB K A H cts (cts.getD i 0) (.ref a) "changes" ix := by
  obtain ⟨lo, hi, el, l1, l2⟩ := ok.nxl.lim
  have hit := it_f (K := K) hb
  obtain ⟨bp, rfl, hbp⟩ := hb
  exact .inr ⟨a, _, _, c, d, rfl, SqT.of e, .inr ⟨r.kd, lo, hi, itD r.nx, rfl, el, hit, .inr ⟨bp, r.nx, fvD r.sy, rfl, SqT.of hbp, nexts_ok l1 l2 ok.nxi, ok.nxl.le, ok.nxi, fv_fs hc, .inr ⟨says_ok ok.syf, o, hd, hs, rfl⟩⟩⟩⟩
/-- the forms None -/
theorem says_non : saysO c0 none = some (-1) := rfl
/-- one change too many -/
theorem changes_more {cs : List Int} {n : Int} {os : List (Option (List (Option (List PyData))))} (h : os.length ≠ cs.length) : changesO cs n (some os) = some (-1) := if_neg h
/-- one change that is none -/
theorem changes_at {cs : List Int} {n : Int} {ch : List (List (List Int))} {j : Nat} {o : Option (List (Option (List PyData)))} (hl : ch.length = cs.length) (hj : j < ch.length) (h : ∀ (k : Nat) (x : Int) (c : List (List Int)), cs[k]? = some x → ch[k]? = some c → (c.length : Int) = x) (hf : ∀ c ∈ ch, ∀ f ∈ c, (f.length : Int) = n + 1) (hno : ∀ x, cs[j]? = some x → formsO x n o = false) :
    changesO cs n (some ((ch.map fvD).take j ++ [o] ++ (ch.map fvD).drop (j + 1))) = some (j : Int) := by
  have hlm : (ch.map fvD).length = ch.length := List.length_map ..
  have hlt : ((ch.map fvD).take j).length = j := by rw [List.length_take, hlm]; omega
  have ll : ((ch.map fvD).take j ++ [o] ++ (ch.map fvD).drop (j + 1)).length = cs.length := by
    rw [List.length_append, List.length_append, List.length_take, List.length_drop, hlm]
    simp
    omega
  have e : changesO cs n (some ((ch.map fvD).take j ++ [o] ++ (ch.map fvD).drop (j + 1))) = (firstB (fun x : Int × Option (List (Option (List PyData))) => formsO x.1 n x.2) (cs.zip ((ch.map fvD).take j ++ [o] ++ (ch.map fvD).drop (j + 1))) 0).map fun (j : Nat) => (j : Int) := if_pos ll
  have hcj : cs[j]? = some (cs[j]'(by omega)) := List.getElem?_eq_getElem (by omega)
  have ho : ((ch.map fvD).take j ++ [o] ++ (ch.map fvD).drop (j + 1))[j]? = some o := by
    rw [List.append_assoc, List.getElem?_append_right (by omega), hlt, Nat.sub_self]
    rfl
  rw [e, firstB_at (i := j) (a := ((cs[j]'(by omega)), o)) (fun k b hk hb => ?_) (zip_at hcj ho) (hno _ hcj), Nat.zero_add]
  · rfl
  · rw [List.getElem?_zip_eq_some] at hb
    obtain ⟨h1, h2⟩ := hb
    rw [List.append_assoc, List.getElem?_append_left (by omega), List.getElem?_take, if_pos hk, List.getElem?_map] at h2
    cases ec : ch[k]? with
    | none => rw [ec] at h2; cases h2
    | some c =>
      rw [ec] at h2
      have e2 := Option.some.inj h2
      show formsO b.1 n b.2 = true
      rw [← e2]
      exact forms_ok (h k _ c h1 ec) (hf c (List.mem_of_getElem? ec))
end
end K41

namespace K41
open PySem PySem.Spec PyProof.Rows L2 RZ Lk
local macro_rules | `(tactic| walk_at "lk") => `(tactic| (repeat (first
  | with_reducible refine ssq ?_ | with_reducible refine sas ?_ | with_reducible refine sgn ?_ | ((with_reducible show tVar _ _ _ _); refine sv rfl ?_) | with_reducible refine sc ?_ | with_reducible refine sop ?_ | with_reducible refine sun ?_
  | with_reducible refine sI0 ?_ | with_reducible refine sU ?_ | with_reducible refine stt ?_ | with_reducible refine stB ?_ | with_reducible refine sbl ?_ | with_reducible refine snt ?_ | with_reducible refine sif ?_ | with_reducible refine scB ?_
  | with_reducible refine scn ?_ | with_reducible refine snl ?_ | with_reducible refine scl ?_ | with_reducible refine stu ?_ | with_reducible refine sli ?_ | with_reducible refine sdr ?_ | with_reducible refine srt ?_ | with_reducible refine snx ?_ | with_reducible refine sfor ?_ | with_reducible refine sils ?_ | with_reducible refine sien ?_ | with_reducible refine sor ?_ | with_reducible refine sfg ?_
  | with_reducible refine sav ?_ | with_reducible refine sov ?_ | with_reducible refine snv ?_ | with_reducible refine sch ?_ | with_reducible refine san ?_ | with_reducible refine ssll ?_ | with_reducible refine spt ?_ | with_reducible refine snp ?_ | with_reducible refine sin ?_ | with_reducible refine sfl ?_ | with_reducible refine sfd ?_ | with_reducible refine sbm ?_ | with_reducible refine sifx ?_ | with_reducible refine smk ?_ | with_reducible refine ssli ?_ | with_reducible refine sbz ?_
  | ((with_reducible show Or _ _); first | refine Or.inl ⟨_, rfl, ?_⟩ | refine Or.inr ⟨_, rfl, ?_⟩))))

theorem s_litL {u : TS} {D : Ends} {σ : L2.St} {H : Hp} (τ : L2.St) (e : σ = τ) (q : u D τ H) : u D σ H := by
  rw [e]
  exact q
theorem s_rep01 {H : Hp} {l : Addr} {x : V} {Q : VK} (c : Bool) (h : H l = some (.lst [x])) (q : ∀ p H', Same H H' → H' p = some (.lst (if c = true then [x] else [])) → Q (.ref p) H') : rRep (.ref l) (.int (if c = true then 1 else 0)) H Q := by
  cases c with
  | true => exact ⟨l, 1, [x], rfl, rfl, h, by decide, by decide, Nat.le_of_lt (small1000 (Nat.le_of_ble_eq_true rfl)), fun p hp => q p _ (same_new hp) upd_same⟩
  | false => exact ⟨l, 0, [x], rfl, rfl, h, by decide, by decide, Nat.le_of_lt (small1000 (Nat.le_of_ble_eq_true rfl)), fun p hp => q p _ (same_new hp) upd_same⟩
theorem lim_hi {kd : Str} {lo hi : Int} (h : ndLim kd = some (lo, hi)) : hi ≤ 6 ∧ (kd ≠ "stop" → 1 ≤ lo) ∧ (kd ≠ "choose" → hi ≤ 1) := by
  unfold ndLim at h
  split at h
  · cases h
    exact ⟨by decide, fun _ => by decide, fun _ => by decide⟩
  · split at h
    · cases h
      exact ⟨by decide, fun _ => by decide, fun _ => by decide⟩
    · split at h
      · rename_i e
        cases h
        exact ⟨by decide, fun _ => by decide, fun z => absurd e z⟩
      · split at h
        · rename_i e
          cases h
          exact ⟨by decide, fun z => absurd e z, fun _ => by decide⟩
        · cases h
theorem ne_bool {a b : Str} {c : Bool} (h : (!decide (V.str a = V.str b)) = c) (hc : c = true) : a ≠ b := fun e => by
  rw [hc, e] at h
  simp at h
theorem dpa_mid {K : PySem.W.Frag} {H : Hp} {v : V} {d : PyData} : ∀ {vs : List V} {ds : List PyData}, DpAll K H vs ds → Dp K H v d → ∀ j : Nat, DpAll K H (vs.take j ++ [v] ++ vs.drop (j + 1)) (ds.take j ++ d :: ds.drop (j + 1))
  | _, _, .nil, h, j => by simp only [List.take_nil, List.drop_nil, List.nil_append, List.append_nil]; exact .cons h .nil
  | _, _, .cons a t, h, 0 => .cons h t
  | _, _, .cons a t, h, j + 1 => .cons a (dpa_mid t h j)
theorem first_all {α : Type} {p : α → Bool} : ∀ {as : List α} {n j : Nat}, firstB p as n = some j → as.all p = false
  | [], _, _, h => by cases h
  | b :: r, n, j, h => by
    unfold firstB at h
    rw [List.all_cons]
    by_cases c : p b = true
    · rw [if_pos c] at h
      rw [first_all h, Bool.and_false]
    · rw [Bool.not_eq_true] at c
      rw [c, Bool.false_and]
theorem forms_first {m n : Int} {os : List (Option (List PyData))} {j : Nat} (h : firstB (formO n) os 0 = some j) : formsO m n (some os) = false := by
  show (decide _ && os.all (formO n)) = false
  rw [first_all h, Bool.and_false]
theorem forms_len {m n : Int} {os : List (Option (List PyData))} (h : (os.length : Int) ≠ m) : formsO m n (some os) = false := by
  show (decide _ && _) = false
  rw [decide_eq_false h, Bool.false_and]
/-- what is no tuple of m forms over n registers, also behind further draws -/
def BadF (K : PySem.W.Frag) (p : Addr) (m n : Int) (H : Hp) (v : V) : Prop := ∃ o, (∀ H', Wk p H H' → Fv K H' v o) ∧ formsO m n o = false
theorem BadF.wk {K : PySem.W.Frag} {p : Addr} {m n : Int} {H H1 : Hp} {v : V} (h : BadF K p m n H v) (w : Wk p H H1) : BadF K p m n H1 v := by
  obtain ⟨o, a, b⟩ := h
  exact ⟨o, fun H' w' => a H' (w.trans w'), b⟩
theorem bad_non {K : PySem.W.Frag} {p : Addr} {m n : Int} {H : Hp} : BadF K p m n H .non := ⟨none, fun _ _ => .no (.dp .non) (ki_tup _), rfl⟩
theorem bad_int {K : PySem.W.Frag} {p : Addr} {m n : Int} {H : Hp} (z : Int) : BadF K p m n H (.int z) := ⟨none, fun _ _ => .no (.dp (.int z)) (ki_tup _), rfl⟩
theorem bad_lst {K : PySem.W.Frag} {p a : Addr} {m n : Int} {H : Hp} {xs : List V} (e : H a = some (.lst xs)) (na : a ≠ p) : BadF K p m n H (.ref a) := ⟨none, fun _ w => .no (.lst (SqL.of (w.at na e))) (by decide +kernel), rfl⟩
theorem bad_len {K : PySem.W.Frag} {p a : Addr} {m n : Int} {H : Hp} {us : List V} {fs : List (List Int)} (w0 : Wl H p) (e : H a = some (.tup us)) (hf : F2 (CfH H) us fs) (h : (fs.length : Int) ≠ m) : BadF K p m n H (.ref a) :=
  ⟨fvD fs, fun _ w => fv_fs ⟨a, us, rfl, w.at (ne_well w0 e (fun _ _ _ z => by cases z)) e, hf.mono fun _ _ z => z.ts (w.ts w0)⟩, forms_len (by rw [List.length_map]; exact h)⟩
theorem ss_contS {t u : TS} {D : Ends} {σ : L2.St} {H : Hp} (I : L2.St → Hp → Prop) (h1 : ∀ σ' H', I σ' H' → u D σ' H') (h2 : (∀ σ' H', I σ' H' → u D σ' H') → t { D with nx := u D } σ H) : tSeq t u D σ H := h2 h1
def spSpoilt (K : PySem.W.Frag) (A : Ad) : Sp := fun vs H Q _ => ∃ (p l : Addr) (i : Nat) (v : V) (cts : List Int) (r : CRow), vs = [.ref p, .int (i : Int), v, .ref l] ∧ Wl H p ∧ l ≠ p ∧ H l = some (.lst (cts.map V.int)) ∧ i < cts.length ∧ cts.length ≤ 10 ∧ (∀ c ∈ cts, 0 ≤ c ∧ c ≤ 4) ∧ CRowH H v r ∧ CRowOk cts i r ∧ r.sy.length ≤ 6 ∧
  ∀ (u : Addr) (w0 : V) (part : Str) (ix : Int) (H' : Hp), Wk p H H' → H' u = some (.tup [w0, .str part, .int ix]) → RowB K A H' cts (cts.getD i 0) w0 part ix → Q (.ref u) H'
section
variable {P : Program} {w : World} {K : PySem.W.Frag} {mg : Str → Option Value} {base : Heap} {A : Ad}
abbrev s__law_spoilt_row : Stmt := top 35
theorem sc__law_spoilt_row : FnScope ["_law_well", "_law_spot", "_law_row_here", "_law_counts", "_law_kind", "_law_ahead", "_law_says", "_law_changes", "_law_total", "_law_way", "_law_odd", "_law_at", "_law_some", "_law_size"] ["_law_well", "_law_spot", "_law_row_here", "_law_counts"] (defScope s__law_spoilt_row) := ⟨rfl, rfl, rfl, by decide +kernel, rfl, by decide +kernel, by decide +kernel⟩
theorem ok_spoilt_row {f : Addr} {fd : FuncData} (F : Fun K "_law_spoilt_row" "_law_spoilt_row" s__law_spoilt_row f fd) (T : Txt P w K mg base A) (c__law_draw : Cal P w K mg base 1 "_law_draw" ["_law_well", "_law_many"] spDraw) (c__law_one : Cal P w K mg base 2 "_law_one" ["_law_well", "_law_some"] spOne) (c__law_bad_forms : Cal P w K mg base 3 "_law_bad_forms" ["_law_well", "_law_forms", "_law_size"] (spBadForms K)) : FnOk P w K mg base CX0 4 f fd ["_law_well", "_law_spot", "_law_row_here", "_law_counts"] (spSpoilt K A) := by
  refine F.ok sc__law_spoilt_row (fun vs H Q E h => ?_) (fun cdv Ar outer s H vs Q E hr h => ?_)
  · obtain ⟨p, l, i, v, cts, r, rfl, _⟩ := h
    rfl
  · obtain ⟨p, l, i, v, cts, r, rfl, hw, hlp, hl, hi, hcl, hc, hv, ok, hsy, q⟩ := h
    refine ⟨_, (pss_cons (ps_asg (pv 2) (pg_tup rfl (pgs_cons (pg_name (i := 4) sc__law_spoilt_row.nd rfl (Or.inl rfl)) (pgs_cons (pg_name (i := 5) sc__law_spoilt_row.nd rfl (Or.inl rfl)) (pgs_cons (pg_name (i := 6) sc__law_spoilt_row.nd rfl (Or.inl rfl)) (pgs_cons (pg_name (i := 7) sc__law_spoilt_row.nd rfl (Or.inl rfl)) pgs_nil))))))
        (pss_cons (ps_par (i := 8) (j := 9) (by rfl) sc__law_spoilt_row.nd rfl rfl (by decide) rfl rfl (pa_cons (pe_callB call_len_seq (by rfl) T.z_len PySem.boot_len (pa_cons (pv 3) pa_nil)) (pa_cons (pcal c__law_draw hr (by decide) (pa_cons (pv 0) (pa_cons pe_int pa_nil))) pa_nil)) (by rfl))
        (pss_cons (ps_if (pt_cmpR op_eq (pv 9) pe_int (nomark _)) (pss_one (ps_ret (pe_tup (pa_cons (pcal c__law_one hr (by decide) (pa_cons (pv 0) (pa_cons (pe_lst (pa_cons pe_non (pa_cons (pe_callTy call_list_of (by rfl) T.z_list (by decide +kernel) (pa_cons (pv 2) pa_nil)) (pa_cons (pe_slice sl_tupA (pv 2) po_none (po_some pe_int)) (pa_cons (pe_op op_catA (pv 2) (pe_tup (pa_cons pe_int pa_nil))) (pa_cons (pe_tup pa_nil) (pa_cons pe_str (pa_cons pe_int pa_nil)))))))) pa_nil))) (pa_cons pe_str (pa_cons (pe_un un_neg pe_int) pa_nil)))))) pss_nil)
        (pss_cons (ps_if (pt_cmpR op_eq (pv 9) pe_int (nomark _)) (pss_one (ps_ret (pe_tup (pa_cons (pe_tup (pa_cons (pcal c__law_one hr (by decide) (pa_cons (pv 0) (pa_cons (pe_lst (pa_cons pe_non (pa_cons pe_str (pa_cons pe_str (pa_cons pe_str (pa_cons pe_str (pa_cons (pe_lst (pa_cons pe_str pa_nil)) (pa_cons pe_int (pa_cons pe_dnewK pa_nil))))))))) pa_nil))) (pa_cons pe_non (pa_cons pe_non (pa_cons pe_non pa_nil))))) (pa_cons pe_str (pa_cons (pe_un un_neg pe_int) pa_nil)))))) pss_nil)
        (pss_cons (ps_if (pt_cmpR op_eq (pv 9) pe_int (nomark _)) (pss_cons (ps_set (i := 10) sc__law_spoilt_row.nd rfl (Or.inl rfl) (pe_op op_cat (pe_lst (pa_cons pe_non (pa_cons (pe_callTy call_list_of (by rfl) T.z_list (by decide +kernel) (pa_cons (pv 5) pa_nil)) (pa_cons (pe_op op_catA (pv 5) (pe_op op_repN (pe_tup (pa_cons pe_int pa_nil)) pe_int)) (pa_cons (pe_disp (pps_cons pe_str pe_int pps_nil) (by rfl) (by rfl) (fun z => by cases z) (by decide)) pa_nil))))) (pe_op op_rep (pe_lst (pa_cons (pe_tup pa_nil) pa_nil)) (pe_callTy call_int1 (by rfl) T.z_int (by decide +kernel) (pa_cons (pe_cmpR op_ne (pv 4) pe_str (nomark _)) pa_nil)))))
        (pss_cons (ps_set (i := 10) sc__law_spoilt_row.nd rfl (Or.inl rfl) (pe_op op_cat (pv 10) (pe_op op_rep (pe_lst (pa_cons (pe_tup (pa_cons pe_int (pa_cons pe_int pa_nil))) pa_nil)) (pe_callTy call_int1 (by rfl) T.z_int (by decide +kernel) (pa_cons (pe_cmpR op_ne (pv 4) pe_str (nomark _)) pa_nil)))))
        (pss_one (ps_ret (pe_tup (pa_cons (pe_tup (pa_cons (pv 4) (pa_cons (pcal c__law_one hr (by decide) (pa_cons (pv 0) (pa_cons (pv 10) pa_nil))) (pa_cons pe_non (pa_cons pe_non pa_nil))))) (pa_cons pe_str (pa_cons (pe_un un_neg pe_int) pa_nil)))))))) pss_nil)
        (pss_cons (ps_if (PW.pt (pw_and (pt_cmpR op_eq (pv 9) pe_int (nomark _)) (pw_and1 (pt_cmpR (op_neD hr.units) (pv 5) (pe_tup pa_nil) (nomark _))))) (pss_cons (ps_set (i := 11) sc__law_spoilt_row.nd rfl (Or.inl rfl) (pcal c__law_draw hr (by decide) (pa_cons (pv 0) (pa_cons (pe_callB call_len_seq (by rfl) T.z_len PySem.boot_len (pa_cons (pv 5) pa_nil)) pa_nil))))
        (pss_cons (ps_set (i := 10) sc__law_spoilt_row.nd rfl (Or.inl rfl) (pcal c__law_one hr (by decide) (pa_cons (pv 0) (pa_cons (pe_lst (pa_cons (pv 8) (pa_cons (pe_un un_neg pe_int) (pa_cons pe_non (pa_cons pe_bl (pa_cons pe_str (pa_cons (pe_lst (pa_cons pe_int pa_nil)) (pa_cons (pe_op op_pow pe_int pe_int) pa_nil)))))))) pa_nil))))
        (pss_one (ps_ret (pe_tup (pa_cons (pe_tup (pa_cons (pv 4) (pa_cons (pe_op op_catA (pe_op op_catA (pe_slice sl_tupA (pv 5) po_none (po_some (pv 11))) (pe_tup (pa_cons (pv 10) pa_nil))) (pe_slice sl_tupA (pv 5) (po_some (pe_op op_add (pv 11) pe_int)) po_none)) (pa_cons pe_non (pa_cons pe_non pa_nil))))) (pa_cons pe_str (pa_cons (pv 11) pa_nil)))))))) pss_nil)
        (pss_cons (ps_if (PW.pt (pw_and (pt_cmpR op_eq (pv 9) pe_int (nomark _)) (pw_and1 (pt_cmpR (op_neD hr.units) (pv 6) (pe_tup pa_nil) (nomark _))))) (pss_cons (ps_asg (pcal c__law_bad_forms hr (by decide) (pa_cons (pv 0) (pa_cons (pv 6) (pa_cons (pe_op op_add (pe_ix ix_list (pv 3) (pv 1) (fun _ _ => rfl)) pe_int) pa_nil)))) (pg_tup rfl (pgs_cons (pg_name (i := 12) sc__law_spoilt_row.nd rfl (Or.inl rfl)) (pgs_cons (pg_name (i := 11) sc__law_spoilt_row.nd rfl (Or.inl rfl)) pgs_nil))))
        (pss_one (ps_ret (pe_tup (pa_cons (pe_tup (pa_cons (pv 4) (pa_cons (pv 5) (pa_cons (pv 12) (pa_cons pe_non pa_nil))))) (pa_cons pe_str (pa_cons (pv 11) pa_nil))))))) pss_nil)
        (pss_cons (ps_if (PW.pt (pw_and (pt_cmpR op_eq (pv 9) pe_int (nomark _)) (pw_and1 (pt_cmpR (op_neD hr.units) (pv 5) (pe_tup pa_nil) (nomark _))))) (pss_cons (ps_set (i := 11) sc__law_spoilt_row.nd rfl (Or.inl rfl) (pcal c__law_draw hr (by decide) (pa_cons (pv 0) (pa_cons (pe_callB call_len_seq (by rfl) T.z_len PySem.boot_len (pa_cons (pv 5) pa_nil)) pa_nil))))
        (pss_cons (ps_set (i := 13) sc__law_spoilt_row.nd rfl (Or.inl rfl) (pe_op op_add (pe_op op_add (pe_ix ix_list (pv 3) (pv 1) (fun _ _ => rfl)) pe_int) (pe_callTy call_int1 (by rfl) T.z_int (by decide +kernel) (pa_cons (pe_cmpR op_eq (pv 4) pe_str (nomark _)) pa_nil))))
        (pss_cons (ps_set (i := 10) sc__law_spoilt_row.nd rfl (Or.inl rfl) (pe_lst (pa_cons pe_non (pa_cons (pe_callTy call_list_of (by rfl) T.z_list (by decide +kernel) (pa_cons (pe_ix ix_tup (pv 7) (pv 11) (fun _ _ => rfl)) pa_nil)) (pa_cons (pe_op op_catA (pe_ix ix_tup (pv 7) (pv 11) (fun _ _ => rfl)) (pe_tup (pa_cons (pe_op op_repN (pe_tup (pa_cons pe_int pa_nil)) (pv 13)) pa_nil))) (pa_cons pe_int pa_nil))))))
        (pss_cons (ps_if (pt_cmpR (op_neD hr.units) (pe_ix ix_tup (pv 7) (pv 11) (fun _ _ => rfl)) (pe_tup pa_nil) (nomark _)) (pss_one (ps_set (i := 10) sc__law_spoilt_row.nd rfl (Or.inl rfl) (pe_op op_cat (pv 10) (pe_lst (pa_cons (pe_slice sl_tupA (pe_ix ix_tup (pv 7) (pv 11) (fun _ _ => rfl)) (po_some pe_int) po_none) (pa_cons (pe_ix ix_tup (pcal c__law_bad_forms hr (by decide) (pa_cons (pv 0) (pa_cons (pe_ix ix_tup (pv 7) (pv 11) (fun _ _ => rfl)) (pa_cons (pv 13) pa_nil)))) pe_int (fun _ _ => rfl)) pa_nil)))))) pss_nil)
        (pss_one (ps_ret (pe_tup (pa_cons (pe_tup (pa_cons (pv 4) (pa_cons (pv 5) (pa_cons (pv 6) (pa_cons (pe_op op_catA (pe_op op_catA (pe_slice sl_tupA (pv 7) po_none (po_some (pv 11))) (pe_tup (pa_cons (pcal c__law_one hr (by decide) (pa_cons (pv 0) (pa_cons (pv 10) pa_nil))) pa_nil))) (pe_slice sl_tupA (pv 7) (po_some (pe_op op_add (pv 11) pe_int)) po_none)) pa_nil))))) (pa_cons pe_str (pa_cons (pv 11) pa_nil)))))))))) pss_nil)
        (pss_cons (ps_if (pt_cmpR op_eq (pv 9) pe_int (nomark _)) (pss_one (ps_ret (pe_tup (pa_cons (pe_tup (pa_cons (pv 4) (pa_cons (pv 5) (pa_cons pe_non (pa_cons pe_non pa_nil))))) (pa_cons pe_str (pa_cons (pe_un un_neg pe_int) pa_nil)))))) pss_nil)
        (pss_one (ps_ret (pe_tup (pa_cons (pe_tup (pa_cons (pv 4) (pa_cons (pv 5) (pa_cons (pv 6) (pa_cons (pe_op op_catA (pv 7) (pe_tup (pa_cons (pe_tup pa_nil) pa_nil))) pa_nil))))) (pa_cons pe_str (pa_cons (pe_un un_neg pe_int) pa_nil))))))))))))))), ?_⟩
    obtain ⟨ra, nb, pc, pd, rfl, hra, hnb, hpc, hpd⟩ := hv
    walk_at "lk"
    refine g_quad (SqT.of hra) ?_
    walk_at "lk"
    refine spr ?_
    walk_at "lk"
    refine ⟨l, cts.map V.int, rfl, .inl (SqL.of hl), ?_⟩
    rw [List.length_map]
    walk_at "lk"
    refine ⟨p, 7, rfl, by decide, by decide, hw, fun wy H1 c0 c1 w1 => ?_⟩
    walk_at "lk"
    refine ⟨_, _, rfl, ?_⟩
    dsimp only
    refine s_litL [some (.ref p), some (.int (i : Int)), some (.ref ra), some (.ref l), some (.str r.kd), some nb, some pc, some pd, some (.int (cts.length : Int)), some (.int wy), none, none, none, none] rfl ?_
    have hra1 := w1.at (ne_well hw hra (fun _ _ _ z => by cases z)) hra
    have hnb1 := hnb.ts (w1.ts hw)
    have hpc1 := hpc.ts (w1.ts hw)
    have hpd1 := hpd.ts (w1.ts hw)
    have hl1 := w1.at hlp hl
    obtain ⟨bp, rfl, hbp⟩ := hnb1
    obtain ⟨sp, us3, rfl, hsp, hss⟩ := hpc1
    obtain ⟨cp, us4, rfl, hcp, hcc⟩ := hpd1
    walk_at "lk"
    refine sEq rfl ?_
    walk_at "lk"
    by_cases c0 : wy = 0
    · refine itt_ (decide_eq_true (by rw [c0])) ?_
      walk_at "lk"
      refine ⟨ra, _, rfl, .inr (SqT.of hra1), fun a1 ha1 => ?_⟩
      have s1 : Same H1 (upd H1 a1 (.lst [.str r.kd, .ref bp, .ref sp, .ref cp])) := same_new ha1
      have e1 : (upd H1 a1 (.lst [.str r.kd, .ref bp, .ref sp, .ref cp])) a1 = some (.lst [.str r.kd, .ref bp, .ref sp, .ref cp]) := upd_same
      generalize upd H1 a1 (.lst [.str r.kd, .ref bp, .ref sp, .ref cp]) = H2 at s1 e1 ⊢
      walk_at "lk"
      refine s_takeT (i := 3) (SqT.of (s1 _ _ hra1)) (Nat.le_of_ble_eq_true rfl) fun a2 ha2 => ?_
      have s2 : Same H2 (upd H2 a2 (.tup [.str r.kd, .ref bp, .ref sp])) := same_new ha2
      have e2 : (upd H2 a2 (.tup [.str r.kd, .ref bp, .ref sp])) a2 = some (.tup [.str r.kd, .ref bp, .ref sp]) := upd_same
      show tCons _ _ _ (upd H2 a2 (.tup [.str r.kd, .ref bp, .ref sp])) _
      generalize upd H2 a2 (.tup [.str r.kd, .ref bp, .ref sp]) = H3 at s2 e2 ⊢
      walk_at "lk"
      refine snw (Nat.le_of_ble_eq_true rfl) fun z3 hz3 => ?_
      have sz3 : Same H3 (upd H3 z3 (.tup [.int 0])) := same_new hz3
      have ez3 : (upd H3 z3 (.tup [.int 0])) z3 = some (.tup [.int 0]) := upd_same
      generalize upd H3 z3 (.tup [.int 0]) = Hz3 at sz3 ez3 ⊢
      walk_at "lk"
      have s13 := s1.trans (s2.trans sz3)
      refine s_catG (s13 _ _ hra1) ez3 (Nat.le_of_ble_eq_true rfl) fun a3 H4 s3 e3 => ?_
      walk_at "lk"
      refine snw (Nat.le_of_ble_eq_true rfl) fun a4 ha4 => ?_
      have sa4 : Same H4 (upd H4 a4 (.tup [])) := same_new ha4
      have ea4 : (upd H4 a4 (.tup [])) a4 = some (.tup []) := upd_same
      generalize upd H4 a4 (.tup []) = Ha4 at sa4 ea4 ⊢
      walk_at "lk"
      refine snw (Nat.le_of_ble_eq_true rfl) fun lo hlo => ?_
      have slo : Same Ha4 (upd Ha4 lo (.lst [.non, .ref a1, .ref a2, .ref a3, .ref a4, .str "stop", .int 7])) := same_new hlo
      have elo : (upd Ha4 lo (.lst [.non, .ref a1, .ref a2, .ref a3, .ref a4, .str "stop", .int 7])) lo = some (.lst [.non, .ref a1, .ref a2, .ref a3, .ref a4, .str "stop", .int 7]) := upd_same
      generalize upd Ha4 lo (.lst [.non, .ref a1, .ref a2, .ref a3, .ref a4, .str "stop", .int 7]) = Hlo at slo elo ⊢
      walk_at "lk"
      have slo' := slo
      have t4 := sa4.trans slo
      have t3 := s3.trans t4
      have t2 := sz3.trans t3
      have t1 := s2.trans t2
      have wlo := w1.st (s1.trans t1)
      have nlo : lo ≠ p := ne_well wlo.2 elo (fun _ _ _ z => by simp at z)
      refine ⟨p, lo, _, rfl, wlo.2, nlo, elo, Nat.succ_pos _, Nat.le_of_ble_eq_true rfl, fun v H9 hv w9 => ?_⟩
      walk_at "lk"
      refine snw (Nat.le_of_ble_eq_true rfl) fun u hu => ?_
      have su : Same H9 (upd H9 u (.tup [v, .str "row", .int (-1)])) := same_new hu
      have K1 := fun {b : Addr} {o : HO} (hb : Hlo b = some o) (nb : b ≠ p) => su _ _ (w9.at nb hb)
      exact q u v "row" (-1) _ ((wlo.trans w9).st su) upd_same (way_row (K1 (t1 _ _ e1) (ne_new w1.2 ha1)) (K1 (t2 _ _ e2) (ne_well wlo.2 (t2 _ _ e2) (fun _ _ _ z => by cases z))) rfl (K1 (t4 _ _ e3) (ne_well wlo.2 (t4 _ _ e3) (fun _ _ _ z => by cases z))) rfl (K1 (slo' _ _ ea4) (ne_well wlo.2 (slo' _ _ ea4) (fun _ _ _ z => by cases z))) hv)
    
    refine iff_ (decide_eq_false fun z => c0 (V.int.inj z)) ?_
    walk_at "lk"
    refine sEq rfl ?_
    walk_at "lk"
    by_cases c1 : wy = 1
    · refine itt_ (decide_eq_true (by rw [c1])) ?_
      walk_at "lk"
      refine snw (Nat.le_of_ble_eq_true rfl) fun a1 ha1 => ?_
      have sa1 : Same H1 (upd H1 a1 (.lst [.str "go"])) := same_new ha1
      have ea1 : (upd H1 a1 (.lst [.str "go"])) a1 = some (.lst [.str "go"]) := upd_same
      generalize upd H1 a1 (.lst [.str "go"]) = Ha1 at sa1 ea1 ⊢
      walk_at "lk"
      unfold tDNewK
      intro a2 ha2
      have sa2 : Same Ha1 (upd Ha1 a2 (.dK [])) := same_new ha2
      have ea2 : (upd Ha1 a2 (.dK [])) a2 = some (.dK []) := upd_same
      generalize upd Ha1 a2 (.dK []) = Ha2 at sa2 ea2 ⊢
      walk_at "lk"
      refine snw (Nat.le_of_ble_eq_true rfl) fun lo hlo => ?_
      have slo : Same Ha2 (upd Ha2 lo (.lst [.non, .str "Go", .str "set", .str "say", .str "", .ref a1, .int 0, .ref a2])) := same_new hlo
      have elo : (upd Ha2 lo (.lst [.non, .str "Go", .str "set", .str "say", .str "", .ref a1, .int 0, .ref a2])) lo = some (.lst [.non, .str "Go", .str "set", .str "say", .str "", .ref a1, .int 0, .ref a2]) := upd_same
      generalize upd Ha2 lo (.lst [.non, .str "Go", .str "set", .str "say", .str "", .ref a1, .int 0, .ref a2]) = Hlo at slo elo ⊢
      walk_at "lk"
      have t1 := sa2.trans slo
      have wlo := w1.st (sa1.trans t1)
      have nlo : lo ≠ p := ne_well wlo.2 elo (fun _ _ _ z => by simp at z)
      refine ⟨p, lo, _, rfl, wlo.2, nlo, elo, Nat.succ_pos _, Nat.le_of_ble_eq_true rfl, fun v H9 hv w9 => ?_⟩
      walk_at "lk"
      refine snw (Nat.le_of_ble_eq_true rfl) fun rr hrr => ?_
      have srr : Same H9 (upd H9 rr (.tup [v, .non, .non, .non])) := same_new hrr
      have err : (upd H9 rr (.tup [v, .non, .non, .non])) rr = some (.tup [v, .non, .non, .non]) := upd_same
      generalize upd H9 rr (.tup [v, .non, .non, .non]) = Hrr at srr err ⊢
      walk_at "lk"
      refine snw (Nat.le_of_ble_eq_true rfl) fun u hu => ?_
      have su : Same Hrr (upd Hrr u (.tup [.ref rr, .str "kind", .int (-1)])) := same_new hu
      have K1 := fun {b : Addr} {o : HO} (hb : Hlo b = some o) (nb : b ≠ p) => su _ _ (srr _ _ (w9.at nb hb))
      exact q u (.ref rr) "kind" (-1) _ (((wlo.trans w9).st srr).st su) upd_same (way_kind (T.v_no _ (by simp)) (T.v_no _ (by simp)) (T.v_no _ (by simp)) (T.v_no _ (by simp)) (su _ _ err) (K1 (t1 _ _ ea1) (ne_well wlo.2 (t1 _ _ ea1) (fun _ _ _ z => by simp at z))) (K1 (slo _ _ ea2) (ne_well wlo.2 (slo _ _ ea2) (fun _ _ _ z => by cases z))) hv)
    
    refine iff_ (decide_eq_false fun z => c1 (V.int.inj z)) ?_
    walk_at "lk"
    refine sEq rfl ?_
    walk_at "lk"
    by_cases c2 : wy = 2
    · refine itt_ (decide_eq_true (by rw [c2])) ?_
      walk_at "lk"
      refine ⟨bp, _, rfl, .inr (SqT.of hbp), fun a1 ha1 => ?_⟩
      have s1 : Same H1 (upd H1 a1 (.lst (r.nx.map V.int))) := same_new ha1
      have e1 : (upd H1 a1 (.lst (r.nx.map V.int))) a1 = some (.lst (r.nx.map V.int)) := upd_same
      generalize upd H1 a1 (.lst (r.nx.map V.int)) = H2 at s1 e1 ⊢
      walk_at "lk"
      refine snw (Nat.le_of_ble_eq_true rfl) fun z2 hz2 => ?_
      have sz2 : Same H2 (upd H2 z2 (.tup [.int 0])) := same_new hz2
      have ez2 : (upd H2 z2 (.tup [.int 0])) z2 = some (.tup [.int 0]) := upd_same
      generalize upd H2 z2 (.tup [.int 0]) = Hz2 at sz2 ez2 ⊢
      walk_at "lk"
      refine s_repX (n := 7) ez2 (by decide) (by decide) fun z3 H3 s3 e3 => ?_
      have n6 := ok.nxl.le
      refine s_catG ((s1.trans (sz2.trans s3)) _ _ hbp) e3 (by rw [List.length_map, List.length_replicate]; omega) fun a2 H4 s4 e4 => ?_
      walk_at "lk"
      unfold tDisp
      intro dp hdp
      simp only [tPairs]
      walk_at "lk"
      refine ⟨upd_same, [(.inr "x", .int 0)], rfl, by simp, ?_⟩
      rw [upd_upd]
      have s5 : Same H4 (upd H4 dp (.dK (mergeK [] [(.inr "x", .int 0)]))) := same_new hdp
      have e5 : (upd H4 dp (.dK (mergeK [] [(.inr "x", .int 0)]))) dp = some (.dK (mergeK [] [(.inr "x", .int 0)])) := upd_same
      generalize upd H4 dp (.dK (mergeK [] [(.inr "x", .int 0)])) = H5 at s5 e5 ⊢
      walk_at "lk"
      refine snw (Nat.le_of_ble_eq_true rfl) fun l1 hl1 => ?_
      have sl1 : Same H5 (upd H5 l1 (.lst [.non, .ref a1, .ref a2, .ref dp])) := same_new hl1
      have el1 : (upd H5 l1 (.lst [.non, .ref a1, .ref a2, .ref dp])) l1 = some (.lst [.non, .ref a1, .ref a2, .ref dp]) := upd_same
      generalize upd H5 l1 (.lst [.non, .ref a1, .ref a2, .ref dp]) = Hl1 at sl1 el1 ⊢
      walk_at "lk"
      refine snw (Nat.le_of_ble_eq_true rfl) fun a5 ha5 => ?_
      have sa5 : Same Hl1 (upd Hl1 a5 (.tup [])) := same_new ha5
      have ea5 : (upd Hl1 a5 (.tup [])) a5 = some (.tup []) := upd_same
      generalize upd Hl1 a5 (.tup []) = Ha5 at sa5 ea5 ⊢
      walk_at "lk"
      refine snw (Nat.le_of_ble_eq_true rfl) fun l2 hl2 => ?_
      have sl2 : Same Ha5 (upd Ha5 l2 (.lst [.ref a5])) := same_new hl2
      have el2 : (upd Ha5 l2 (.lst [.ref a5])) l2 = some (.lst [.ref a5]) := upd_same
      generalize upd Ha5 l2 (.lst [.ref a5]) = Hl2 at sl2 el2 ⊢
      walk_at "lk"
      refine sNe rfl ?_
      walk_at "lk"
      generalize hc5 : (!decide (V.str r.kd = V.str "stop")) = c5
      refine s_rep01 c5 el2 fun l3 H6 s6 e6 => ?_
      refine ⟨l1, l3, _, _, rfl, rfl, (sa5.trans (sl2.trans s6)) _ _ el1, e6, Nat.le_of_lt (small1000 (by cases c5 <;> simp)), fun l4 hl4 => ?_⟩
      have s7 : Same H6 (upd H6 l4 (.lst ([.non, .ref a1, .ref a2, .ref dp] ++ if c5 = true then [.ref a5] else []))) := same_new hl4
      have e7 : (upd H6 l4 (.lst ([.non, .ref a1, .ref a2, .ref dp] ++ if c5 = true then [.ref a5] else []))) l4 = some (.lst ([.non, .ref a1, .ref a2, .ref dp] ++ if c5 = true then [.ref a5] else [])) := upd_same
      generalize upd H6 l4 (.lst ([.non, .ref a1, .ref a2, .ref dp] ++ if c5 = true then [.ref a5] else [])) = H7 at s7 e7 ⊢
      walk_at "lk"
      refine snw (Nat.le_of_ble_eq_true rfl) fun a6 ha6 => ?_
      have sa6 : Same H7 (upd H7 a6 (.tup [.int 0, .int 0])) := same_new ha6
      have ea6 : (upd H7 a6 (.tup [.int 0, .int 0])) a6 = some (.tup [.int 0, .int 0]) := upd_same
      generalize upd H7 a6 (.tup [.int 0, .int 0]) = Ha6 at sa6 ea6 ⊢
      walk_at "lk"
      refine snw (Nat.le_of_ble_eq_true rfl) fun l5 hl5 => ?_
      have sl5 : Same Ha6 (upd Ha6 l5 (.lst [.ref a6])) := same_new hl5
      have el5 : (upd Ha6 l5 (.lst [.ref a6])) l5 = some (.lst [.ref a6]) := upd_same
      generalize upd Ha6 l5 (.lst [.ref a6]) = Hl5 at sl5 el5 ⊢
      walk_at "lk"
      refine sNe rfl ?_
      walk_at "lk"
      generalize hc6 : (!decide (V.str r.kd = V.str "choose")) = c6
      refine s_rep01 c6 el5 fun l6 H8 s8 e8 => ?_
      refine ⟨l4, l6, _, _, rfl, rfl, (sa6.trans (sl5.trans s8)) _ _ e7, e8, Nat.le_of_lt (small1000 (by cases c5 <;> cases c6 <;> simp)), fun l7 hl7 => ?_⟩
      have s9 : Same H8 (upd H8 l7 (.lst ([.non, .ref a1, .ref a2, .ref dp] ++ (if c5 = true then [.ref a5] else []) ++ if c6 = true then [.ref a6] else []))) := same_new hl7
      have e9 : (upd H8 l7 (.lst ([.non, .ref a1, .ref a2, .ref dp] ++ (if c5 = true then [.ref a5] else []) ++ if c6 = true then [.ref a6] else []))) l7 = some (.lst ([.non, .ref a1, .ref a2, .ref dp] ++ (if c5 = true then [.ref a5] else []) ++ if c6 = true then [.ref a6] else [])) := upd_same
      generalize upd H8 l7 (.lst ([.non, .ref a1, .ref a2, .ref dp] ++ (if c5 = true then [.ref a5] else []) ++ if c6 = true then [.ref a6] else [])) = H9 at s9 e9 ⊢
      walk_at "lk"
      have t6 := sl5.trans (s8.trans s9)
      have t5 := sl2.trans (s6.trans (s7.trans (sa6.trans t6)))
      have td := sl1.trans (sa5.trans t5)
      have t2 := s5.trans td
      have t1 := sz2.trans (s3.trans (s4.trans t2))
      have w9 := w1.st (s1.trans t1)
      have n7 : l7 ≠ p := ne_new (w1.st (s1.trans (sz2.trans (s3.trans (s4.trans (s5.trans (sl1.trans (sa5.trans (sl2.trans (s6.trans (s7.trans (sa6.trans (sl5.trans s8))))))))))))).2 hl7
      refine ⟨p, l7, _, rfl, w9.2, n7, e9, by simp, by cases c5 <;> cases c6 <;> simp, fun v H10 hv w10 => ?_⟩
      walk_at "lk"
      refine snw (Nat.le_of_ble_eq_true rfl) fun rr hrr => ?_
      have srr : Same H10 (upd H10 rr (.tup [.str r.kd, v, .non, .non])) := same_new hrr
      have err : (upd H10 rr (.tup [.str r.kd, v, .non, .non])) rr = some (.tup [.str r.kd, v, .non, .non]) := upd_same
      generalize upd H10 rr (.tup [.str r.kd, v, .non, .non]) = Hrr at srr err ⊢
      walk_at "lk"
      refine snw (Nat.le_of_ble_eq_true rfl) fun u hu => ?_
      have su : Same Hrr (upd Hrr u (.tup [.ref rr, .str "next", .int (-1)])) := same_new hu
      have K1 := fun {b : Addr} {o : HO} (hb : H9 b = some o) (nb : b ≠ p) => su _ _ (srr _ _ (w10.at nb hb))
      obtain ⟨lo, hi, el, l1', l2'⟩ := ok.nxl.lim
      obtain ⟨hh6, hh1, hh2⟩ := lim_hi el
      have key : ∃ o, It K (upd Hrr u (.tup [.ref rr, .str "next", .int (-1)])) v o ∧ nextsO lo hi cts.length o = some (-1) := by
        have q1 := K1 (t1 _ _ e1) (ne_new w1.2 ha1)
        have q2 := K1 (t2 _ _ e4) (ne_well w9.2 (t2 _ _ e4) (fun _ _ _ z => by cases z))
        have q3 := K1 (td _ _ e5) (ne_well w9.2 (td _ _ e5) (fun _ _ _ z => by cases z))
        have q4 := K1 (t5 _ _ ea5) (ne_well w9.2 (t5 _ _ ea5) (fun _ _ _ z => by cases z))
        have q5 := K1 (t6 _ _ ea6) (ne_well w9.2 (t6 _ _ ea6) (fun _ _ _ z => by cases z))
        have hv2 : v = .non ∨ v = .ref a1 ∨ v = .ref a2 ∨ v = .ref dp ∨ (v = .ref a5 ∧ c5 = true) ∨ (v = .ref a6 ∧ c6 = true) := by
          rcases List.mem_append.mp hv with h | h
          · rcases List.mem_append.mp h with h | h
            · simp only [List.mem_cons, List.not_mem_nil, or_false] at h
              rcases h with h | h | h | h
              · exact .inl h
              · exact .inr (.inl h)
              · exact .inr (.inr (.inl h))
              · exact .inr (.inr (.inr (.inl h)))
            · cases hq : c5 with
              | true =>
                rw [hq, if_pos rfl] at h
                exact .inr (.inr (.inr (.inr (.inl ⟨List.mem_singleton.mp h, rfl⟩))))
              | false =>
                rw [hq] at h
                simp at h
          · cases hq : c6 with
            | true =>
              rw [hq, if_pos rfl] at h
              exact .inr (.inr (.inr (.inr (.inr ⟨List.mem_singleton.mp h, rfl⟩))))
            | false =>
              rw [hq] at h
              simp at h
        rcases hv2 with rfl | rfl | rfl | rfl | ⟨rfl, h5⟩ | ⟨rfl, h6⟩
        · exact ⟨none, .no (.dp .non) (ki_tup _), rfl⟩
        · exact ⟨none, it_lst (SqL.of q1), rfl⟩
        · refine ⟨itD (r.nx ++ List.replicate 7 0), .tup (SqT.of q2) ?_, if_neg fun z => ?_⟩
          · have := (dt_ints (H := upd Hrr u (.tup [.ref rr, .str "next", .int (-1)])) (r.nx ++ List.replicate 7 0)).dp (K := K)
            rw [List.map_append, List.map_replicate] at this
            exact this
          · have := z.2
            rw [List.length_map, List.length_append, List.length_replicate] at this
            omega
        · exact ⟨none, it_dct q3, rfl⟩
        · refine ⟨some [], .tup (SqT.of q4) .nil, if_neg fun z => ?_⟩
          have h1 := hh1 (ne_bool hc5 h5)
          have : lo ≤ 0 := z.1
          omega
        · refine ⟨some [.int 0, .int 0], .tup (SqT.of q5) (.cons (.int 0) (.cons (.int 0) .nil)), if_neg fun z => ?_⟩
          have h1 := hh2 (ne_bool hc6 h6)
          have : (2 : Int) ≤ hi := z.2
          omega
      obtain ⟨o, ho, hno⟩ := key
      exact q u (.ref rr) "next" (-1) _ (((w9.trans w10).st srr).st su) upd_same (way_next (su _ _ err) el ho hno)
    
    refine iff_ (decide_eq_false fun z => c2 (V.int.inj z)) ?_
    with_reducible refine snx ?_
    with_reducible refine snxd ?_
    with_reducible refine ss_cont (fun H' => Same H1 H' ∧ (wy = 3 → r.nx = [])) ?_ fun cont => ?_
    rotate_left 1
    · walk_at "lk"
      refine sEq rfl ?_
      walk_at "lk"
      by_cases c3 : wy = 3
      · refine itt_ (decide_eq_true (by rw [c3])) ?_
        walk_at "lk"
        refine snw (Nat.le_of_ble_eq_true rfl) fun em hem => ?_
        have sem : Same H1 (upd H1 em (.tup [])) := same_new hem
        have eem : (upd H1 em (.tup [])) em = some (.tup []) := upd_same
        generalize upd H1 em (.tup []) = Hem at sem eem ⊢
        have w2 := w1.st sem
        have hb2 := sem _ _ hbp
        refine ⟨intsD r.nx, .tuple [], .tup (SqT.of hb2) (dt_ints r.nx).dp, .tup (SqT.of eem) .nil, shaped_ints r.nx, shaped_ints [], ?_⟩
        walk_at "lk"
        by_cases hnil : r.nx = []
        · refine iff_ (by rw [hnil]; decide +kernel) ?_
          exact cont _ ⟨sem, fun _ => hnil⟩
        · refine itt_ (by
            cases ee : PyData.eqv (intsD r.nx) (.tuple []) with
            | false => rfl
            | true => exact absurd (intsD_inj (eqv_eq _ _ (nb_ints r.nx) (nb_ints []) ee)) hnil) ?_
          walk_at "lk"
          refine ⟨bp, _, rfl, .inr (SqT.of hb2), ?_⟩
          rw [List.length_map]
          walk_at "lk"
          have n6 := ok.nxl.le
          have npos : 0 < r.nx.length := List.length_pos_iff.mpr hnil
          refine ⟨p, (r.nx.length : Int), rfl, by omega, Nat.lt_of_le_of_lt (show ((r.nx.length : Nat) : Int).natAbs ≤ 6 by omega) (by decide), w2.2, fun rr0 H3 d0 d1 w3' => ?_⟩
          obtain ⟨j, rfl⟩ : ∃ j : Nat, rr0 = (j : Int) := ⟨rr0.toNat, by omega⟩
          have hj : j < r.nx.length := by omega
          have w3 := w2.trans w3'
          have nbp : bp ≠ p := ne_well w2.2 hb2 (fun _ _ _ z => by cases z)
          have hb3 := w3'.at nbp hb2
          walk_at "lk"
          refine snw (Nat.le_of_ble_eq_true rfl) fun y1 hy1 => ?_
          have sy1 : Same H3 (upd H3 y1 (.lst [.int 0])) := same_new hy1
          have ey1 : (upd H3 y1 (.lst [.int 0])) y1 = some (.lst [.int 0]) := upd_same
          generalize upd H3 y1 (.lst [.int 0]) = Hy1 at sy1 ey1 ⊢
          walk_at "lk"
          refine sI ⟨by decide, by decide, by decide⟩ ?_
          walk_at "lk"
          refine snw (Nat.le_of_ble_eq_true rfl) fun lo hlo => ?_
          have slo : Same Hy1 (upd Hy1 lo (.lst [.int (cts.length : Int), .int (-1), .non, .bl true, .str "0", .ref y1, .int (10 ^ Int.toNat 30)])) := same_new hlo
          have elo : (upd Hy1 lo (.lst [.int (cts.length : Int), .int (-1), .non, .bl true, .str "0", .ref y1, .int (10 ^ Int.toNat 30)])) lo = some (.lst [.int (cts.length : Int), .int (-1), .non, .bl true, .str "0", .ref y1, .int (10 ^ Int.toNat 30)]) := upd_same
          generalize upd Hy1 lo (.lst [.int (cts.length : Int), .int (-1), .non, .bl true, .str "0", .ref y1, .int (10 ^ Int.toNat 30)]) = Hlo at slo elo ⊢
          walk_at "lk"
          have wlo := w3.st (sy1.trans slo)
          have nlo : lo ≠ p := ne_well wlo.2 elo (fun _ _ _ z => by simp at z)
          refine ⟨p, lo, _, rfl, wlo.2, nlo, elo, Nat.succ_pos _, Nat.le_of_ble_eq_true rfl, fun v H9 hv w9 => ?_⟩
          have hb9 := w9.at nbp (slo _ _ (sy1 _ _ hb3))
          walk_at "lk"
          refine s_takeT (SqT.of hb9) (by rw [List.length_map]; exact hj) fun g1 hg1 => ?_
          have t1 : Same H9 (upd H9 g1 (.tup ((r.nx.map V.int).take j))) := same_new hg1
          have f1 : (upd H9 g1 (.tup ((r.nx.map V.int).take j))) g1 = some (.tup ((r.nx.map V.int).take j)) := upd_same
          generalize upd H9 g1 (.tup ((r.nx.map V.int).take j)) = G1 at t1 f1 ⊢
          walk_at "lk"
          refine snw (Nat.le_of_ble_eq_true rfl) fun g2 hg2 => ?_
          have sg2 : Same G1 (upd G1 g2 (.tup [v])) := same_new hg2
          have eg2 : (upd G1 g2 (.tup [v])) g2 = some (.tup [v]) := upd_same
          generalize upd G1 g2 (.tup [v]) = Hg2 at sg2 eg2 ⊢
          refine s_catG (sg2 _ _ f1) eg2 (by rw [List.length_take, List.length_map]; simp; omega) fun g3 G3 t3 f3 => ?_
          walk_at "lk"
          have t13 := t1.trans (sg2.trans t3)
          rw [show ((j : Int) + 1) = ((j + 1 : Nat) : Int) from rfl]
          refine s_dropT (i := j + 1) (SqT.of (t13 _ _ hb9)) (by omega) (by rw [List.length_map]; omega) (by intro z; rw [List.map_eq_nil_iff] at z; exact hnil z) fun g4 hg4 => ?_
          have t4 : Same G3 (upd G3 g4 (.tup ((r.nx.map V.int).drop (j + 1)))) := same_new hg4
          have f4 : (upd G3 g4 (.tup ((r.nx.map V.int).drop (j + 1)))) g4 = some (.tup ((r.nx.map V.int).drop (j + 1))) := upd_same
          generalize upd G3 g4 (.tup ((r.nx.map V.int).drop (j + 1))) = G4 at t4 f4 ⊢
          refine s_catG (t4 _ _ f3) f4 (by rw [List.length_append, List.length_take, List.length_drop, List.length_map]; simp; omega) fun g5 G5 t5 f5 => ?_
          walk_at "lk"
          refine snw (Nat.le_of_ble_eq_true rfl) fun rr hrr => ?_
          have srr : Same G5 (upd G5 rr (.tup [.str r.kd, .ref g5, .non, .non])) := same_new hrr
          have err : (upd G5 rr (.tup [.str r.kd, .ref g5, .non, .non])) rr = some (.tup [.str r.kd, .ref g5, .non, .non]) := upd_same
          generalize upd G5 rr (.tup [.str r.kd, .ref g5, .non, .non]) = Hrr at srr err ⊢
          walk_at "lk"
          refine snw (Nat.le_of_ble_eq_true rfl) fun u hu => ?_
          have su : Same Hrr (upd Hrr u (.tup [.ref rr, .str "next", .int (j : Int)])) := same_new hu
          have tA := ((((t13.trans t4).trans t5).trans srr).trans su)
          obtain ⟨lo1, hi1, el, l1', l2'⟩ := ok.nxl.lim
          have ny1 : y1 ≠ p := ne_new w3.2 hy1
          have key : ∃ d, Dp K (upd Hrr u (.tup [.ref rr, .str "next", .int (j : Int)])) v d ∧ withinD d 0 ((cts.length : Int) - 1) = false := by
            have q1 := tA _ _ (w9.at ny1 (slo _ _ ey1))
            simp only [List.mem_cons, List.not_mem_nil, or_false] at hv
            rcases hv with rfl | rfl | rfl | rfl | rfl | rfl | rfl
            · refine ⟨_, .int _, ?_⟩
              show (decide (0 ≤ (cts.length : Int)) && decide ((cts.length : Int) ≤ (cts.length : Int) - 1)) = false
              rw [decide_eq_false (show ¬ ((cts.length : Int) ≤ (cts.length : Int) - 1) by omega), Bool.and_false]
            · exact ⟨_, .int _, rfl⟩
            · exact ⟨_, .non, rfl⟩
            · exact ⟨_, .bl true, rfl⟩
            · exact ⟨_, .str "0", rfl⟩
            · exact ⟨_, .lst (SqL.of q1) (.cons (.int 0) .nil), rfl⟩
            · refine ⟨_, .int _, ?_⟩
              show (decide ((0 : Int) ≤ 10 ^ Int.toNat 30) && decide ((10 : Int) ^ Int.toNat 30 ≤ (cts.length : Int) - 1)) = false
              rw [decide_eq_false (show ¬ ((10 : Int) ^ Int.toNat 30 ≤ (cts.length : Int) - 1) by
                have : (10 : Int) ^ Int.toNat 30 = 1000000000000000000000000000000 := by decide +kernel
                omega), Bool.and_false]
          obtain ⟨d, hd, hno⟩ := key
          have dts : DpAll K (upd Hrr u (.tup [.ref rr, .str "next", .int (j : Int)])) (r.nx.map V.int) (r.nx.map PyData.int) := (dt_ints r.nx).dp
          have hlt : ((r.nx.map PyData.int).take j).length = j := by rw [List.length_take, List.length_map]; omega
          refine q u (.ref rr) "next" j _ ((((wlo.trans w9).st ((((t13.trans t4).trans t5).trans srr))).st su)) upd_same (way_next (su _ _ err) el (.tup (SqT.of (su _ _ (srr _ _ f5))) (dpa_mid dts hd j)) ?_)
          have e0 : nextsO lo1 hi1 cts.length (some ((r.nx.map PyData.int).take j ++ d :: (r.nx.map PyData.int).drop (j + 1))) = (firstB (fun d => withinD d 0 ((cts.length : Int) - 1)) ((r.nx.map PyData.int).take j ++ d :: (r.nx.map PyData.int).drop (j + 1)) 0).map fun (j : Nat) => (j : Int) := if_pos (by
            rw [List.length_append, List.length_cons, List.length_drop, List.length_map, hlt]
            omega)
          rw [e0, firstB_at (i := j) (a := d) (fun k b hk hb => ?_) (by rw [List.getElem?_append_right (by omega), hlt, Nat.sub_self]; rfl) hno, Nat.zero_add]
          · rfl
          · rw [List.getElem?_append_left (by omega), List.getElem?_take, if_pos hk, List.getElem?_map] at hb
            cases ec : r.nx[k]? with
            | none => rw [ec] at hb; cases hb
            | some x =>
              rw [ec] at hb
              cases hb
              have := ok.nxi x (List.mem_of_getElem? ec)
              show (decide (0 ≤ x) && decide (x ≤ (cts.length : Int) - 1)) = true
              rw [decide_eq_true this.1, decide_eq_true (by omega)]
              rfl
      · refine iff_ (decide_eq_false fun z => c3 (V.int.inj z)) ?_
        refine iff_ rfl ?_
        exact cont _ ⟨Same.refl _, fun z => absurd z c3⟩
    rintro H1b ⟨s1b, h3⟩
    have hra2 := s1b _ _ hra1
    have hbp2 := s1b _ _ hbp
    have hsp2 := s1b _ _ hsp
    have hcp2 := s1b _ _ hcp
    have hss2 : F2 (CfH H1b) us3 r.sy := hss.mono fun _ _ z => z.ts (Ts.of s1b)
    have hl2 := s1b _ _ hl1
    have wb := w1.st s1b
    have hci : cts[((i : Nat) : Int).toNat]? = some (cts.getD i 0) := by simpa using getD_at hi
    have cb := hc _ (List.mem_of_getElem? hci)
    obtain ⟨n0, hn0⟩ : ∃ n0 : Nat, (n0 : Int) = cts.getD i 0 := ⟨(cts.getD i 0).toNat, by omega⟩
    with_reducible refine ss_cont (fun H' => Same H1b H' ∧ (wy = 4 → r.sy = [])) ?_ fun cont => ?_
    rotate_left 1
    · walk_at "lk"
      refine sEq rfl ?_
      walk_at "lk"
      by_cases c4 : wy = 4
      · refine itt_ (decide_eq_true (by rw [c4])) ?_
        walk_at "lk"
        refine snw (Nat.le_of_ble_eq_true rfl) fun em hem => ?_
        have sem : Same H1b (upd H1b em (.tup [])) := same_new hem
        have eem : (upd H1b em (.tup [])) em = some (.tup []) := upd_same
        generalize upd H1b em (.tup []) = Hem at sem eem ⊢
        have w2 := wb.st sem
        have hfs : CfsH Hem (.ref sp) r.sy := ⟨sp, us3, rfl, sem _ _ hsp2, hss2.mono fun _ _ z => z.ts (Ts.of sem)⟩
        refine ⟨fsD r.sy, .tuple [], hfs.dt.dp, .tup (SqT.of eem) .nil, shaped_of (fs_cl r.sy) (by have := fs_dep r.sy; omega), shaped_ints [], ?_⟩
        walk_at "lk"
        by_cases hnil : r.sy = []
        · refine iff_ (by rw [hnil]; decide +kernel) ?_
          exact cont _ ⟨sem, fun _ => hnil⟩
        · refine itt_ (by
            cases ee : PyData.eqv (fsD r.sy) (.tuple []) with
            | false => rfl
            | true =>
              have e5 : fsD r.sy = .tuple [] := eqv_eq _ _ (by unfold fsD; rw [nbD]; exact nb_map (fun f => nb_ints f) r.sy) (nb_ints []) ee
              unfold fsD at e5
              injection e5 with e6
              exact absurd (List.map_eq_nil_iff.mp e6) hnil) ?_
          walk_at "lk"
          refine sfr (SqL.of (sem _ _ hl2)) (atI_ints hci (by omega)) ?_
          walk_at "lk"
          rw [show cts.getD i 0 + 1 = ((n0 + 1 : Nat) : Int) from by omega]
          refine ⟨p, sp, n0 + 1, us3, r.sy, rfl, by omega, by omega, w2.2, sem _ _ hsp2, hss2.mono fun _ _ z => z.ts (Ts.of sem), List.length_pos_iff.mpr hnil, by omega, fun f hf => by have := ok.syf f hf; omega, fun u2 a2 j os H5 w5 hu2 hfv hj hlen hfb => ?_⟩
          refine g_pair (SqT.of hu2) ?_
          walk_at "lk"
          refine snw (Nat.le_of_ble_eq_true rfl) fun rr hrr => ?_
          have srr : Same H5 (upd H5 rr (.tup [.str r.kd, .ref bp, .ref a2, .non])) := same_new hrr
          have err : (upd H5 rr (.tup [.str r.kd, .ref bp, .ref a2, .non])) rr = some (.tup [.str r.kd, .ref bp, .ref a2, .non]) := upd_same
          generalize upd H5 rr (.tup [.str r.kd, .ref bp, .ref a2, .non]) = Hrr at srr err ⊢
          walk_at "lk"
          refine snw (Nat.le_of_ble_eq_true rfl) fun u hu => ?_
          have su : Same Hrr (upd Hrr u (.tup [.ref rr, .str "says", .int (j : Int)])) := same_new hu
          have nbp : bp ≠ p := ne_well w2.2 (sem _ _ hbp2) (fun _ _ _ z => by cases z)
          have hcf : CfH (upd Hrr u (.tup [.ref rr, .str "says", .int (j : Int)])) (.ref bp) r.nx := ⟨bp, rfl, su _ _ (srr _ _ (w5.at nbp (sem _ _ hbp2)))⟩
          refine q u (.ref rr) "says" j _ (((w2.trans w5).st srr).st su) upd_same (way_says (c := .ref a2) (d := .non) ok (su _ _ err) hcf (hfv _ (Wk.of w5.2 (srr.trans su))) ?_)
          show (firstB (formO (cts.getD i 0)) os 0).map (fun (j : Nat) => (j : Int)) = some (j : Int)
          rw [show cts.getD i 0 = ((n0 + 1 : Nat) : Int) - 1 from by omega, hfb]
          rfl
      · refine iff_ (decide_eq_false fun z => c4 (V.int.inj z)) ?_
        refine iff_ rfl ?_
        exact cont _ ⟨Same.refl _, fun z => absurd z c4⟩
    rintro H1c ⟨s1c, h4⟩
    have hra3 := s1c _ _ hra2
    have hbp3 := s1c _ _ hbp2
    have hsp3 := s1c _ _ hsp2
    have hcp3 := s1c _ _ hcp2
    have hss3 : F2 (CfH H1c) us3 r.sy := hss2.mono fun _ _ z => z.ts (Ts.of s1c)
    have hcc3 : F2 (CfsH H1c) us4 r.ch := hcc.mono fun _ _ z => z.ts (Ts.of (s1b.trans s1c))
    have hl3 := s1c _ _ hl2
    have wc := wb.st s1c
    have n6 := ok.nxl.le
    have hchl := ok.chl
    have hcl4 := hcc3.len
    with_reducible refine ss_cont (fun H' => Same H1c H' ∧ (wy = 5 → r.nx = [])) ?_ fun cont => ?_
    rotate_left 1
    · walk_at "lk"
      refine sEq rfl ?_
      walk_at "lk"
      by_cases c5 : wy = 5
      · refine itt_ (decide_eq_true (by rw [c5])) ?_
        walk_at "lk"
        refine snw (Nat.le_of_ble_eq_true rfl) fun em hem => ?_
        have sem : Same H1c (upd H1c em (.tup [])) := same_new hem
        have eem : (upd H1c em (.tup [])) em = some (.tup []) := upd_same
        generalize upd H1c em (.tup []) = Hem at sem eem ⊢
        have w2 := wc.st sem
        have hb2 := sem _ _ hbp3
        refine ⟨intsD r.nx, .tuple [], .tup (SqT.of hb2) (dt_ints r.nx).dp, .tup (SqT.of eem) .nil, shaped_ints r.nx, shaped_ints [], ?_⟩
        walk_at "lk"
        by_cases hnil : r.nx = []
        · refine iff_ (by rw [hnil]; decide +kernel) ?_
          exact cont _ ⟨sem, fun _ => hnil⟩
        · refine itt_ (by
            cases ee : PyData.eqv (intsD r.nx) (.tuple []) with
            | false => rfl
            | true => exact absurd (intsD_inj (eqv_eq _ _ (nb_ints r.nx) (nb_ints []) ee)) hnil) ?_
          walk_at "lk"
          clear cont
          refine ⟨bp, _, rfl, .inr (SqT.of hb2), ?_⟩
          rw [List.length_map]
          walk_at "lk"
          have npos : 0 < r.nx.length := List.length_pos_iff.mpr hnil
          refine ⟨p, (r.nx.length : Int), rfl, by omega, Nat.lt_of_le_of_lt (show ((r.nx.length : Nat) : Int).natAbs ≤ 6 by omega) (by decide), w2.2, fun rr0 H3 d0 d1 w3' => ?_⟩
          obtain ⟨j, rfl⟩ : ∃ j : Nat, rr0 = (j : Int) := ⟨rr0.toNat, by omega⟩
          have hj : j < r.nx.length := by omega
          have w3 := w2.trans w3'
          have ncp : cp ≠ p := ne_well wc.2 hcp3 (fun _ _ _ z => by cases z)
          have nbp : bp ≠ p := ne_well wc.2 hbp3 (fun _ _ _ z => by cases z)
          have nsp : sp ≠ p := ne_well wc.2 hsp3 (fun _ _ _ z => by cases z)
          have wH3 : Wk p H1c H3 := (Wk.of wc.2 sem).trans w3'
          have hcp4 := wH3.at ncp hcp3
          have hbp4 := wH3.at nbp hbp3
          have hsp4 := wH3.at nsp hsp3
          have hl4 := wH3.at hlp hl3
          have hcc4 : F2 (CfsH H3) us4 r.ch := hcc3.mono fun _ _ z => z.ts (wH3.ts wc.2)
          have hss4 : F2 (CfH H3) us3 r.sy := hss3.mono fun _ _ z => z.ts (wH3.ts wc.2)
          obtain ⟨c, hc5⟩ : ∃ c, r.ch[j]? = some c := ⟨_, List.getElem?_eq_getElem (by omega)⟩
          obtain ⟨uv, huv, hcv⟩ := hcc4.get hc5
          obtain ⟨fp, us5, rfl, hfp, hfs⟩ := hcv
          obtain ⟨x, hx⟩ : ∃ x, r.nx[j]? = some x := ⟨_, List.getElem?_eq_getElem hj⟩
          have hcn := ok.chn j x c hx hc5
          have hcf := ok.chf c (List.mem_of_getElem? hc5)
          walk_at "lk"
          refine sfr (SqL.of hl4) (atI_ints hci (by omega)) ?_
          walk_at "lk"
          refine sEq rfl ?_
          walk_at "lk"
          have hx4 : cts.getD x.toNat 0 ≤ 4 := by
            have := ok.nxi x (List.mem_of_getElem? hx)
            exact (hc _ (List.mem_of_getElem? (getD_at (xs := cts) (i := x.toNat) (by omega)))).2
          generalize hc6 : decide (V.str r.kd = V.str "ask") = c6
          have ea : (askN r.kd : Int) = if c6 = true then 1 else 0 := by
            by_cases e9 : r.kd = ("ask" : Str)
            · rw [← hc6, if_pos (decide_eq_true (by rw [e9]))]
              show ((askN r.kd : Nat) : Int) = 1
              rw [show askN r.kd = 1 from if_pos e9]
              rfl
            · rw [← hc6, if_neg (by rw [decide_eq_false (fun z => e9 (V.str.inj z))]; decide)]
              show ((askN r.kd : Nat) : Int) = 0
              rw [show askN r.kd = 0 from if_neg e9]
              rfl
          have a01 := ask_01 r.kd
          obtain ⟨n1, hn1⟩ : ∃ n1 : Nat, cts.getD i 0 + 1 + (if c6 = true then (1 : Int) else 0) = (n1 : Int) := ⟨(cts.getD i 0 + 1 + (if c6 = true then (1 : Int) else 0)).toNat, by rw [← ea]; omega⟩
          rw [hn1]
          rw [← ea] at hn1
          have hh1 : 1 ≤ n1 := by omega
          refine sft (SqT.of hcp4) (Lk.atI_nat huv) ?_
          walk_at "lk"
          refine ⟨fp, us5, rfl, .inr (SqT.of hfp), fun a1 ha1 => ?_⟩
          have s1 : Same H3 (upd H3 a1 (.lst us5)) := same_new ha1
          have e1 : (upd H3 a1 (.lst us5)) a1 = some (.lst us5) := upd_same
          have na1 : a1 ≠ p := ne_new w3.2 ha1
          generalize upd H3 a1 (.lst us5) = H4 at s1 e1 ⊢
          walk_at "lk"
          refine sft (SqT.of (s1 _ _ hcp4)) (Lk.atI_nat huv) ?_
          walk_at "lk"
          refine snw (Nat.le_of_ble_eq_true rfl) fun z1 hz1 => ?_
          have sz1 : Same H4 (upd H4 z1 (.tup [.int 1])) := same_new hz1
          have ez1 : (upd H4 z1 (.tup [.int 1])) z1 = some (.tup [.int 1]) := upd_same
          generalize upd H4 z1 (.tup [.int 1]) = Hz1 at sz1 ez1 ⊢
          walk_at "lk"
          refine s_repX ez1 hh1 (by omega) fun z2 H5 s2 e2 => ?_
          walk_at "lk"
          refine snw (Nat.le_of_ble_eq_true rfl) fun z3 hz3 => ?_
          have sz3 : Same H5 (upd H5 z3 (.tup [.ref z2])) := same_new hz3
          have ez3 : (upd H5 z3 (.tup [.ref z2])) z3 = some (.tup [.ref z2]) := upd_same
          generalize upd H5 z3 (.tup [.ref z2]) = Hz3 at sz3 ez3 ⊢
          have s1z := s1.trans (sz1.trans (s2.trans sz3))
          refine s_catG (s1z _ _ hfp) ez3 (by rw [hfs.len]; simp; omega) fun a2 H6 s3 e3 => ?_
          walk_at "lk"
          refine snw (Nat.le_of_ble_eq_true rfl) fun lo hlo => ?_
          have slo : Same H6 (upd H6 lo (.lst [.non, .ref a1, .ref a2, .int 5])) := same_new hlo
          have elo : (upd H6 lo (.lst [.non, .ref a1, .ref a2, .int 5])) lo = some (.lst [.non, .ref a1, .ref a2, .int 5]) := upd_same
          generalize upd H6 lo (.lst [.non, .ref a1, .ref a2, .int 5]) = Hlo at slo elo ⊢
          have s36 := (s1z.trans s3).trans slo
          have wlo := w3.st s36
          have nlo : lo ≠ p := ne_new (w3.st (s1z.trans s3)).2 hlo
          have hone : CfH Hlo (.ref z2) (List.replicate n1 1) := ⟨z2, rfl, by rw [List.map_replicate]; exact slo _ _ (s3 _ _ (sz3 _ _ e2))⟩
          have hfs6 : F2 (CfH Hlo) us5 c := hfs.mono fun _ _ z => z.ts (Ts.of s36)
          have hb0 : ∀ v ∈ [V.non, .ref a1, .ref a2, .int 5], BadF K p (c.length : Int) (cts.getD i 0 + (askN r.kd : Int)) Hlo v := fun v hv => by
            simp only [List.mem_cons, List.not_mem_nil, or_false] at hv
            rcases hv with rfl | rfl | rfl | rfl
            · exact bad_non
            · exact bad_lst (slo _ _ (s3 _ _ (sz3 _ _ (s2 _ _ (sz1 _ _ e1))))) na1
            · exact bad_len wlo.2 (slo _ _ e3) (hfs6.append (.cons hone .nil)) (by rw [List.length_append]; simp; omega)
            · exact bad_int 5
          refine sgn ?_
          dsimp only
          refine s_litL [some (.ref p), some (.int (i : Int)), some (.ref ra), some (.ref l), some (.str r.kd), some (.ref bp), some (.ref sp), some (.ref cp), some (.int (cts.length : Int)), some (.int wy), some (.ref lo), some (.int (j : Int)), none, some (.int (n1 : Int))] rfl ?_
          with_reducible refine ss_contS (fun σ' H' => ∃ (lo' : Addr) (xs : List V), σ' = [some (.ref p), some (.int (i : Int)), some (.ref ra), some (.ref l), some (.str r.kd), some (.ref bp), some (.ref sp), some (.ref cp), some (.int (cts.length : Int)), some (.int wy), some (.ref lo'), some (.int (j : Int)), none, some (.int (n1 : Int))] ∧ Wk p Hlo H' ∧ H' lo' = some (.lst xs) ∧ lo' ≠ p ∧ 0 < xs.length ∧ xs.length ≤ 1000 ∧ ∀ v ∈ xs, BadF K p (c.length : Int) (cts.getD i 0 + (askN r.kd : Int)) H' v) ?_ fun cont => ?_
          rotate_left 1
          · have hcpl := s36 _ _ hcp4
            have hfpl := s36 _ _ hfp
            walk_at "lk"
            refine sft (SqT.of hcpl) (Lk.atI_nat huv) ?_
            walk_at "lk"
            refine snw (Nat.le_of_ble_eq_true rfl) fun e2 he2 => ?_
            have se2 : Same Hlo (upd Hlo e2 (.tup [])) := same_new he2
            have ee2 : (upd Hlo e2 (.tup [])) e2 = some (.tup []) := upd_same
            generalize upd Hlo e2 (.tup []) = He2 at se2 ee2 ⊢
            have hcE : CfsH He2 (.ref fp) c := ⟨fp, us5, rfl, se2 _ _ hfpl, hfs6.mono fun _ _ z => z.ts (Ts.of se2)⟩
            refine ⟨fsD c, .tuple [], hcE.dt.dp, .tup (SqT.of ee2) .nil, shaped_of (fs_cl c) (by have := fs_dep c; omega), shaped_ints [], ?_⟩
            walk_at "lk"
            by_cases hcn0 : c = []
            · refine iff_ (by rw [hcn0]; decide +kernel) ?_
              exact cont _ _ ⟨lo, _, rfl, Wk.of wlo.2 se2, se2 _ _ elo, nlo, Nat.succ_pos _, Nat.le_of_ble_eq_true rfl, fun v hv => (hb0 v hv).wk (Wk.of wlo.2 se2)⟩
            · refine itt_ (by
                cases ee : PyData.eqv (fsD c) (.tuple []) with
                | false => rfl
                | true =>
                  have e5 : fsD c = .tuple [] := eqv_eq _ _ (by unfold fsD; rw [nbD]; exact nb_map (fun f => nb_ints f) c) (nb_ints []) ee
                  unfold fsD at e5
                  injection e5 with e6
                  exact absurd (List.map_eq_nil_iff.mp e6) hcn0) ?_
              have hcpos : 0 < c.length := List.length_pos_iff.mpr hcn0
              have hul5 := hfs.len
              walk_at "lk"
              refine sft (SqT.of (se2 _ _ hcpl)) (Lk.atI_nat huv) ?_
              walk_at "lk"
              refine s_dropT (i := 1) (SqT.of (se2 _ _ hfpl)) (Nat.le_refl 1) (by omega) (by intro z; rw [z] at hul5; simp at hul5; omega) fun a3 ha3 => ?_
              have s5 : Same He2 (upd He2 a3 (.tup (us5.drop 1))) := same_new ha3
              have y5 : (upd He2 a3 (.tup (us5.drop 1))) a3 = some (.tup (us5.drop 1)) := upd_same
              generalize upd He2 a3 (.tup (us5.drop 1)) = H8 at s5 y5 ⊢
              have w8 : Wk p Hlo H8 := Wk.of wlo.2 (se2.trans s5)
              have hfs8 : F2 (CfH H8) us5 c := hfs6.mono fun _ _ z => z.ts (w8.ts wlo.2)
              walk_at "lk"
              refine sft (SqT.of (s5 _ _ (se2 _ _ hcpl))) (Lk.atI_nat huv) ?_
              walk_at "lk"
              refine ⟨p, fp, n1, us5, c, rfl, hh1, by omega, w8.2, s5 _ _ (se2 _ _ hfpl), hfs8, hcpos, by omega, fun f hf => by have := hcf f hf; omega, fun u2 a4 j2 os H9 w9 hu2 hfv hj2 hlen hfb => ?_⟩
              walk_at "lk"
              refine sft (SqT.of hu2) (Lk.atI_nat (i := 0) rfl) ?_
              walk_at "lk"
              refine snw (Nat.le_of_ble_eq_true rfl) fun l2 hl2 => ?_
              have sl2 : Same H9 (upd H9 l2 (.lst [.ref a3, .ref a4])) := same_new hl2
              have el2 : (upd H9 l2 (.lst [.ref a3, .ref a4])) l2 = some (.lst [.ref a3, .ref a4]) := upd_same
              generalize upd H9 l2 (.lst [.ref a3, .ref a4]) = Hl2 at sl2 el2 ⊢
              have w89 := w8.trans w9
              refine ⟨lo, l2, _, _, rfl, rfl, sl2 _ _ (w89.at nlo elo), el2, Nat.le_of_lt (small1000 (Nat.le_of_ble_eq_true rfl)), fun l3 hl3 => ?_⟩
              have s10 : Same Hl2 (upd Hl2 l3 (.lst ([.non, .ref a1, .ref a2, .int 5] ++ [.ref a3, .ref a4]))) := same_new hl3
              have y10 : (upd Hl2 l3 (.lst ([.non, .ref a1, .ref a2, .int 5] ++ [.ref a3, .ref a4]))) l3 = some (.lst ([.non, .ref a1, .ref a2, .int 5] ++ [.ref a3, .ref a4])) := upd_same
              have w10 := (w89.st sl2).st s10
              have nl3 : l3 ≠ p := ne_new (w89.st sl2).2 hl3
              refine sgn ?_
              dsimp only
              refine cont _ _ ⟨l3, _, rfl, w10, y10, nl3, Nat.succ_pos _, Nat.le_of_ble_eq_true rfl, fun v hv => ?_⟩
              rcases List.mem_append.mp hv with h | h
              · exact (hb0 v h).wk w10
              · simp only [List.mem_cons, List.not_mem_nil, or_false] at h
                have w910 : Wk p H9 _ := (Wk.of w9.2 sl2).st s10
                rcases h with rfl | rfl
                · have n5 : a3 ≠ p := ne_well w8.2 y5 (fun _ _ _ z => by cases z)
                  exact bad_len w10.2 (w910.at n5 (w9.at n5 y5)) (f2_dropA (hfs8.mono fun _ _ z => z.ts ((w9.trans w910).ts w8.2)) 1) (by rw [List.length_drop]; omega)
                · exact ⟨some os, fun H' w' => hfv H' (w910.trans w'), forms_first (by rw [show cts.getD i 0 + (askN r.kd : Int) = (n1 : Int) - 1 by omega]; exact hfb)⟩
          rintro σ' H7 ⟨l3, xs, rfl, w7, e7, n7, x0, x1, hbx⟩
          have wH7 : Wk p H3 H7 := (Wk.of w3.2 s36).trans w7
          have hcp7 := wH7.at ncp hcp4
          clear hb0 hone hfs6 s36 w7 wlo s1z s3 slo e1 e2 e3
          walk_at "lk"
          refine s_takeT (SqT.of hcp7) (by omega) fun g1 hg1 => ?_
          have t1 : Same H7 (upd H7 g1 (.tup (us4.take j))) := same_new hg1
          have f1 : (upd H7 g1 (.tup (us4.take j))) g1 = some (.tup (us4.take j)) := upd_same
          generalize upd H7 g1 (.tup (us4.take j)) = G1 at t1 f1 ⊢
          have wg1 := wH7.st t1
          have ng1 : g1 ≠ p := ne_well wg1.2 f1 (fun _ _ _ z => by cases z)
          walk_at "lk"
          refine ⟨p, l3, xs, rfl, wg1.2, n7, t1 _ _ e7, x0, x1, fun v H9 hv w9 => ?_⟩
          walk_at "lk"
          refine snw (Nat.le_of_ble_eq_true rfl) fun g2 hg2 => ?_
          have sg2 : Same H9 (upd H9 g2 (.tup [v])) := same_new hg2
          have eg2 : (upd H9 g2 (.tup [v])) g2 = some (.tup [v]) := upd_same
          generalize upd H9 g2 (.tup [v]) = Hg2 at sg2 eg2 ⊢
          refine s_catG (sg2 _ _ (w9.at ng1 f1)) eg2 (by rw [List.length_take]; simp; omega) fun g3 G3 t3 f3 => ?_
          walk_at "lk"
          have t23 := sg2.trans t3
          have w79 : Wk p H7 H9 := (Wk.of wH7.2 t1).trans w9
          have hcp9 := w79.at ncp hcp7
          rw [show ((j : Int) + 1) = ((j + 1 : Nat) : Int) from rfl]
          refine s_dropT (i := j + 1) (SqT.of (t23 _ _ hcp9)) (by omega) (by omega) (by intro z; rw [z] at hcl4; simp at hcl4; omega) fun g4 hg4 => ?_
          have t4 : Same G3 (upd G3 g4 (.tup (us4.drop (j + 1)))) := same_new hg4
          have f4 : (upd G3 g4 (.tup (us4.drop (j + 1)))) g4 = some (.tup (us4.drop (j + 1))) := upd_same
          generalize upd G3 g4 (.tup (us4.drop (j + 1))) = G4 at t4 f4 ⊢
          refine s_catG (t4 _ _ f3) f4 (by rw [List.length_append, List.length_take, List.length_drop]; simp; omega) fun g5 G5 t5 f5 => ?_
          walk_at "lk"
          refine snw (Nat.le_of_ble_eq_true rfl) fun rr hrr => ?_
          have srr : Same G5 (upd G5 rr (.tup [.str r.kd, .ref bp, .ref sp, .ref g5])) := same_new hrr
          have err : (upd G5 rr (.tup [.str r.kd, .ref bp, .ref sp, .ref g5])) rr = some (.tup [.str r.kd, .ref bp, .ref sp, .ref g5]) := upd_same
          generalize upd G5 rr (.tup [.str r.kd, .ref bp, .ref sp, .ref g5]) = Hrr at srr err ⊢
          walk_at "lk"
          refine snw (Nat.le_of_ble_eq_true rfl) fun u hu => ?_
          have su : Same Hrr (upd Hrr u (.tup [.ref rr, .str "changes", .int (j : Int)])) := same_new hu
          have tA := ((((t23.trans t4).trans t5).trans srr).trans su)
          obtain ⟨o, ho, hno⟩ := hbx v hv
          have w7F := w79.st tA
          have wF := wH7.trans w7F
          have fA := f2_map (S := Fv K (upd Hrr u (.tup [.ref rr, .str "changes", .int (j : Int)]))) (g := fvD) (fun _ _ z => fv_fs z) (hcc4.mono fun _ _ z => z.ts (wF.ts w3.2))
          refine q u (.ref rr) "changes" j _ (w3.trans wF) upd_same (way_changes ok (su _ _ err) ⟨bp, rfl, wF.at nbp hbp4⟩ ⟨sp, us3, rfl, wF.at nsp hsp4, hss4.mono fun _ _ z => z.ts (wF.ts w3.2)⟩ (.tup (SqT.of (su _ _ (srr _ _ f5))) (((f2_takeA fA j).append (.cons (ho _ w7F) .nil)).append (f2_dropA fA (j + 1)))) (changes_at ?_ (by omega) ?_ ?_ ?_))
          · rw [List.length_map]
            exact hchl
          · intro n' x' c' q1 q2
            rw [List.getElem?_map] at q1
            cases e9 : r.nx[n']? with
            | none => rw [e9] at q1; cases q1
            | some z =>
              rw [e9] at q1
              cases q1
              exact ok.chn n' z c' e9 q2
          · intro c' q1 f' q2
            have := ok.chf c' q1 f' q2
            omega
          · intro x' q1
            rw [List.getElem?_map, hx] at q1
            cases q1
            show formsO (cts.getD x.toNat 0) _ o = false
            rw [← hcn]
            exact hno
      · refine iff_ (decide_eq_false fun z => c5 (V.int.inj z)) ?_
        refine iff_ rfl ?_
        exact cont _ ⟨Same.refl _, fun z => absurd z c5⟩
    rintro H1d ⟨s1d, h5⟩
    have hbp5 := s1d _ _ hbp3
    have hsp5 := s1d _ _ hsp3
    have hcp5 := s1d _ _ hcp3
    have hss5 : F2 (CfH H1d) us3 r.sy := hss3.mono fun _ _ z => z.ts (Ts.of s1d)
    have hcc5 : F2 (CfsH H1d) us4 r.ch := hcc3.mono fun _ _ z => z.ts (Ts.of s1d)
    have wd := wc.st s1d
    walk_at "lk"
    refine sEq rfl ?_
    walk_at "lk"
    by_cases c6 : wy = 6
    · refine itt_ (decide_eq_true (by rw [c6])) ?_
      walk_at "lk"
      refine snw (Nat.le_of_ble_eq_true rfl) fun rr hrr => ?_
      have srr : Same H1d (upd H1d rr (.tup [.str r.kd, .ref bp, .non, .non])) := same_new hrr
      have err : (upd H1d rr (.tup [.str r.kd, .ref bp, .non, .non])) rr = some (.tup [.str r.kd, .ref bp, .non, .non]) := upd_same
      generalize upd H1d rr (.tup [.str r.kd, .ref bp, .non, .non]) = Hrr at srr err ⊢
      walk_at "lk"
      refine snw (Nat.le_of_ble_eq_true rfl) fun u hu => ?_
      have su : Same Hrr (upd Hrr u (.tup [.ref rr, .str "says", .int (-1)])) := same_new hu
      exact q u (.ref rr) "says" (-1) _ ((wd.st srr).st su) upd_same (way_says (o := none) (d := .non) ok (su _ _ err) ⟨bp, rfl, su _ _ (srr _ _ hbp5)⟩ (.no (.dp .non) (ki_tup _)) says_non)
    refine iff_ (decide_eq_false fun z => c6 (V.int.inj z)) ?_
    walk_at "lk"
    refine snw (Nat.le_of_ble_eq_true rfl) fun e2 he2 => ?_
    have se2 : Same H1d (upd H1d e2 (.tup [])) := same_new he2
    have ee2 : (upd H1d e2 (.tup [])) e2 = some (.tup []) := upd_same
    generalize upd H1d e2 (.tup []) = He2 at se2 ee2 ⊢
    walk_at "lk"
    refine snw (Nat.le_of_ble_eq_true rfl) fun e3 he3 => ?_
    have se3 : Same He2 (upd He2 e3 (.tup [.ref e2])) := same_new he3
    have ee3 : (upd He2 e3 (.tup [.ref e2])) e3 = some (.tup [.ref e2]) := upd_same
    generalize upd He2 e3 (.tup [.ref e2]) = He3 at se3 ee3 ⊢
    refine s_catG (se3 _ _ (se2 _ _ hcp5)) ee3 (by simp; omega) fun g1 G1 t1 f1 => ?_
    walk_at "lk"
    refine snw (Nat.le_of_ble_eq_true rfl) fun rr hrr => ?_
    have srr : Same G1 (upd G1 rr (.tup [.str r.kd, .ref bp, .ref sp, .ref g1])) := same_new hrr
    have err : (upd G1 rr (.tup [.str r.kd, .ref bp, .ref sp, .ref g1])) rr = some (.tup [.str r.kd, .ref bp, .ref sp, .ref g1]) := upd_same
    generalize upd G1 rr (.tup [.str r.kd, .ref bp, .ref sp, .ref g1]) = Hrr at srr err ⊢
    walk_at "lk"
    refine snw (Nat.le_of_ble_eq_true rfl) fun u hu => ?_
    have su : Same Hrr (upd Hrr u (.tup [.ref rr, .str "changes", .int (-1)])) := same_new hu
    have tA := ((((se2.trans se3).trans t1).trans srr).trans su)
    have fA := f2_map (S := Fv K (upd Hrr u (.tup [.ref rr, .str "changes", .int (-1)]))) (g := fvD) (fun _ _ z => fv_fs z) (hcc5.mono fun _ _ z => z.ts (Ts.of tA))
    exact q u (.ref rr) "changes" (-1) _ (wd.st tA) upd_same (way_changes ok (su _ _ err) ⟨bp, rfl, tA _ _ hbp5⟩ ⟨sp, us3, rfl, tA _ _ hsp5, hss5.mono fun _ _ z => z.ts (Ts.of tA)⟩ (.tup (SqT.of (su _ _ (srr _ _ f1))) (fA.append (.cons (.tup (SqT.of (((se3.trans t1).trans (srr.trans su)) _ _ ee2)) .nil) .nil))) (changes_more (by rw [List.length_append, List.length_map, List.length_map]; simp; omega)))
end
end K41

namespace K41
open PySem PySem.Spec PyProof.Rows L2 RZ Lk
local macro_rules | `(tactic| walk_at "lk") => `(tactic| (repeat (first
  | with_reducible refine ssq ?_ | with_reducible refine sas ?_ | with_reducible refine sgn ?_ | ((with_reducible show tVar _ _ _ _); refine sv rfl ?_) | with_reducible refine sc ?_ | with_reducible refine sop ?_ | with_reducible refine sun ?_
  | with_reducible refine sI0 ?_ | with_reducible refine sU ?_ | with_reducible refine stt ?_ | with_reducible refine stB ?_ | with_reducible refine sbl ?_ | with_reducible refine snt ?_ | with_reducible refine sif ?_ | with_reducible refine scB ?_
  | with_reducible refine scn ?_ | with_reducible refine snl ?_ | with_reducible refine scl ?_ | with_reducible refine stu ?_ | with_reducible refine sli ?_ | with_reducible refine sdr ?_ | with_reducible refine srt ?_ | with_reducible refine snx ?_ | with_reducible refine sfor ?_ | with_reducible refine sils ?_ | with_reducible refine sien ?_ | with_reducible refine sor ?_ | with_reducible refine sfg ?_
  | with_reducible refine sav ?_ | with_reducible refine sov ?_ | with_reducible refine snv ?_ | with_reducible refine sch ?_ | with_reducible refine san ?_ | with_reducible refine ssll ?_ | with_reducible refine spt ?_ | with_reducible refine snp ?_ | with_reducible refine sin ?_ | with_reducible refine sfl ?_ | with_reducible refine sfd ?_ | with_reducible refine sbm ?_ | with_reducible refine sifx ?_ | with_reducible refine smk ?_ | with_reducible refine ssli ?_ | with_reducible refine sbz ?_
  | ((with_reducible show Or _ _); first | refine Or.inl ⟨_, rfl, ?_⟩ | refine Or.inr ⟨_, rfl, ?_⟩))))

def LR {α β : Type} (G : α → β → Prop) (as : List α) (bs : List β) : Prop := bs.length = as.length ∧ ∀ (i : Nat) (a : α) (b : β), as[i]? = some a → bs[i]? = some b → G a b
theorem LR.nil {α β : Type} {G : α → β → Prop} : LR G [] [] := ⟨rfl, fun i a b h => by simp at h⟩
theorem LR.snoc {α β : Type} {G : α → β → Prop} {as : List α} {bs : List β} {a : α} {b : β} (h : LR G as bs) (g : G a b) : LR G (as ++ [a]) (bs ++ [b]) := by
  refine ⟨by rw [List.length_append, List.length_append, h.1]; rfl, fun i a' b' h1 h2 => ?_⟩
  have hl := h.1
  by_cases c : i < as.length
  · rw [List.getElem?_append_left c] at h1
    rw [List.getElem?_append_left (by omega)] at h2
    exact h.2 i a' b' h1 h2
  · rw [List.getElem?_append_right (by omega)] at h1 h2
    have e1 : i - as.length = 0 := by
      have := (List.getElem?_eq_some_iff.mp h1).1
      simp at this
      exact this
    have e2 : i - bs.length = 0 := by omega
    rw [e1] at h1
    rw [e2] at h2
    cases h1
    cases h2
    exact g
/-- [f(x) for x in t], t a list, f draws -/
theorem tlc_listW {K : PySem.W.Frag} {α β : Type} {a : Addr} {xs : List V} {as : List α} {k : Nat} {te : TE} {vs : List Nat} {Qd : Hp → Prop} {D p : Addr} {H : Hp} {σ : L2.St} (Rin : Hp → V → α → Prop) (R : Hp → V → β → Prop) (G : α → β → Prop)
    (iS : ∀ {H H' v x}, Ts H H' → Rin H v x → Rin H' v x) (rS : ∀ {H H' v x}, Ts H H' → R H v x → R H' v x) (hp : Wl H p) (na : a ≠ p) (hx : H a = some (.lst xs)) (hr : F2 (Rin H) xs as) (hn : xs.length ≤ 1000) (hD : H D = none)
    (hw : ∀ x, wipe ((wipe σ vs).set k (some x)) vs = wipe σ vs)
    (he : ∀ (i : Nat) (x : V) (r : α) (H' : Hp), as[i]? = some r → Rin H' x r → Wk p H H' → ∀ Q : VK, (∀ u y H'', Wk p H' H'' → R H'' u y → G r y → Q u H'') → te ((wipe σ vs).set k (some x)) H' Q)
    (q : ∀ ys bs H', Wk p H H' → H' D = some (.lst ys) → F2 (R H') ys bs → LR G as bs → Qd H') :
    ∃ W : Nat → Nat → Hp → Prop, (∃ m, W 0 m (upd H D (.lst []))) ∧ ∀ i m H, W i m H → ((Itl K a).stop i H ∧ Qd H) ∨ ((Itl K a).go i H ∧ ∃ Nx : Hp → Prop, (∀ H', Nx H' → ∃ m', m' < m ∧ W (i + 1) m' H') ∧ ∀ x H', (Itl K a).yld i H x H' → gName k x (wipe σ vs) H' fun σ2 H2 => wipe σ2 vs = wipe σ vs ∧ tYes σ2 H2 fun b H3 =>
        if b = true then te σ2 H3 fun y H4 => ∃ ac, H4 D = some (.lst ac) ∧ ac.length < sizeLine ∧ Nx (upd H4 D (.lst (ac ++ [y]))) else Nx H3) := by
  have nD : D ≠ p := ne_new hp hD
  refine lc_list (xs := xs) (fun i H' => Wk p H H' ∧ ∃ us bs, H' D = some (.lst us) ∧ F2 (R H') us bs ∧ LR G (as.take i) bs) ⟨Wk.of hp (same_new hD), [], [], upd_same, .nil, LR.nil⟩ (fun i H' _ h => SqL.of (h.1.at na hx)) ?_ ?_
  · rintro i x H1 hi ⟨w1, us, bs, h1, h2, h3⟩
    refine ⟨hw _, ?_⟩
    unfold tYes
    simp only [if_true]
    obtain ⟨r, hri, hrv⟩ := hr.at hi
    refine he i x r H1 hri (iS (w1.ts hp) hrv) w1 _ fun v y H2 w2 hv hg => ?_
    have e2 := w2.at nD h1
    have t2 : Ts H2 (upd H2 D (.lst (us ++ [v]))) := Ts.lst e2
    have hlt := (List.getElem?_eq_some_iff.mp hi).1
    have hb := h3.1
    rw [List.length_take] at hb
    refine ⟨us, e2, by rw [h2.len, hb]; exact small1000 (by omega), (w1.trans w2).updD hD nD, us ++ [v], bs ++ [y], upd_same, (h2.mono fun _ _ z => rS t2 (rS (w2.ts w1.2) z)).append (.cons (rS t2 hv) .nil), ?_⟩
    rw [take_snoc hri]
    exact h3.snoc hg
  · rintro H1 ⟨w1, us, bs, h1, h2, h3⟩
    rw [hr.len, List.take_length] at h3
    exact q us bs H1 w1 h1 h2 h3
theorem stop_ok (c : Int) (st : List Int) (h0 : 0 ≤ c) (h1 : c ≤ 64) (hs : (st.length : Int) = c) : CodeOk [c] [⟨"stop", [], [], []⟩] st := by
  refine ⟨by simp, by simp, rfl, fun d hd => by rw [List.mem_singleton.mp hd]; exact ⟨h0, h1⟩, hs, fun i r hi => ?_⟩
  have : r = ⟨"stop", [], [], []⟩ := List.mem_singleton.mp (List.mem_of_getElem? hi)
  subst this
  exact ⟨.inr (.inr (.inr ⟨rfl, rfl⟩)), fun j hj => (by cases hj), by simp, fun f hf => (by cases hf), rfl, fun n j cc hn hc => (by simp at hn), fun cc hc f hf => (by cases hc)⟩
theorem g_trip {K : PySem.W.Frag} {H : Hp} {σ : L2.St} {i j k : Nat} {x y z : V} {p : Addr} {R : L2.St → Hp → Prop} (h : SqT K H p [x, y, z]) (q : R (((σ.set i (some x)).set j (some y)).set k (some z)) H) : gTup K 3 (gCons (gName i) (gCons (gName j) (gCons (gName k) gNil))) (.ref p) σ H R :=
  ⟨p, [x, y, z], rfl, h, rfl, x, [y, z], rfl, y, [z], rfl, z, [], rfl, rfl, q⟩
def names3 : List Str := ["y", "x", "zed"]
/-- what stands while the law goes on -/
structure Sx (H0 H : Hp) (p cl D st : Addr) (cts : List Int) (vs : List V) (crs : List CRow) (sts : List Int) : Prop where
  w : Wk p H0 H
  ec : H cl = some (.lst (cts.map V.int))
  ed : H D = some (.lst vs)
  fr : F2 (CRowH H) vs crs
  es : H st = some (.tup (sts.map V.int))
section
variable {H0 H H' : Hp} {p cl D st : Addr} {cts : List Int} {vs : List V} {crs : List CRow} {sts : List Int}
theorem Sx.same (h : Sx H0 H p cl D st cts vs crs sts) (s : Same H H') : Sx H0 H' p cl D st cts vs crs sts :=
  ⟨h.w.st s, s _ _ h.ec, s _ _ h.ed, h.fr.mono fun _ _ z => z.ts (Ts.of s), s _ _ h.es⟩
theorem Sx.wk (h : Sx H0 H p cl D st cts vs crs sts) (w : Wk p H H') (n1 : cl ≠ p) (n2 : D ≠ p) : Sx H0 H' p cl D st cts vs crs sts :=
  ⟨h.w.trans w, w.at n1 h.ec, w.at n2 h.ed, h.fr.mono fun _ _ z => z.ts (w.ts h.w.2), w.at (ne_well h.w.2 h.es (fun _ _ _ z => by cases z)) h.es⟩
end
theorem shB_ne {xs : List V} {n : Nat} (h : xs.length ≠ n) : shB (some xs) n n = false := by
  show (decide _ && decide _) = false
  by_cases c : (n : Int) ≤ xs.length
  · rw [decide_eq_false (p := (xs.length : Int) ≤ n) (by omega), Bool.and_false]
  · rw [decide_eq_false c, Bool.false_and]
theorem init_bad {K : PySem.W.Frag} {A : Ad} {H0 H : Hp} {p cl D st l g : Addr} {cts sts : List Int} {vs : List V} {crs : List CRow} {k i n : Nat} {w0 : V} {part : Str} {ix : Int} {q : Prop} {er : Int → Str → Int → Prop} (S : Sx H0 H p cl D st cts vs crs sts) (hok : CodeOk cts crs sts) (k1 : 1 ≤ k) (k2 : k ≤ 64) (hl : SqE K H l (cts.map V.int)) (hg : SqE K H g (vs.take i ++ [w0] ++ List.replicate n .non)) (hi : i < vs.length) (hn : i + 1 + n = vs.length) (hm : vs.length ≤ 200) (hb : RowB K A H cts (cts.getD i 0) w0 part ix) (e : er i part ix) : InitX K A H (.int (k : Int)) (.ref l) (.ref g) (.ref st) q er := by
  have hvl := S.fr.len
  have hcl := hok.cl
  have ht : (vs.take i).length = i := by rw [List.length_take]; omega
  have hlen : (vs.take i ++ [w0] ++ List.replicate n V.non).length = vs.length := by
    rw [List.length_append, List.length_append, ht, List.length_replicate]
    exact hn
  refine .inr ⟨k, l, g, st, cts, _, sts, rfl, rfl, rfl, rfl, k1, k2, hl, hg, by omega, by omega, by omega, hok.c0, SqT.of S.es, hok.sl, .inl ⟨i, crs.take i, w0, part, ix, by omega, ?_, ?_, fun j r hj => ?_, hb, e⟩⟩
  · rw [List.append_assoc, List.take_append_of_le_length (by omega), List.take_of_length_le (by omega)]
    exact f2_takeA S.fr i
  · rw [List.append_assoc, List.getElem?_append_right (by omega), ht, Nat.sub_self]
    rfl
  · rw [List.getElem?_take] at hj
    split at hj
    · exact hok.ok j r hj
    · cases hj
theorem init_good {K : PySem.W.Frag} {A : Ad} {H0 H : Hp} {p cl D st : Addr} {cts sts : List Int} {vs : List V} {crs : List CRow} {k : Nat} {q : Prop} {er : Int → Str → Int → Prop} (S : Sx H0 H p cl D st cts vs crs sts) (hok : CodeOk cts crs sts) (k1 : 1 ≤ k) (k2 : k ≤ 64) (hq : q) : InitX K A H (.int (k : Int)) (.ref cl) (.ref D) (.ref st) q er := by
  have hvl := S.fr.len
  have hcl := hok.cl
  have h1 := hok.l1
  have h2 := hok.l2
  exact .inr ⟨k, cl, D, st, cts, vs, sts, rfl, rfl, rfl, rfl, k1, k2, .inl (SqL.of S.ec), .inl (SqL.of S.ed), by omega, by omega, by omega, hok.c0, SqT.of S.es, hok.sl, .inr ⟨crs, S.fr, hok, hq⟩⟩
theorem trip_sh {s : Str} {i j : Int} (hs : (PyData.str s).canLay0 = true) : SeqAt.shaped (.tuple [.int i, .str s, .int j]) = true := by
  unfold SeqAt.shaped
  rw [Bool.and_eq_true]
  constructor
  · simp [PyData.canLay0, PyData.canLayAll0] at hs ⊢
    exact hs
  · exact decide_eq_true (by simp [PyData.depth, PyData.depthAll])
theorem s_neT {K : PySem.W.Frag} {H : Hp} {a b : Addr} {s : Str} {i j : Int} {Q : VK} (hs : (PyData.str s).canLay0 = true) (ha : H a = some (.tup [.int i, .str s, .int j])) (hb : H b = some (.tup [.int i, .str s, .int j])) (q : Q (.bl false) H) : rNeD K (.ref a) (.ref b) H Q := by
  refine ⟨.tuple [.int i, .str s, .int j], .tuple [.int i, .str s, .int j], .tup (SqT.of ha) (.cons (.int _) (.cons (.str _) (.cons (.int _) .nil))), .tup (SqT.of hb) (.cons (.int _) (.cons (.str _) (.cons (.int _) .nil))), trip_sh hs, trip_sh hs, ?_⟩
  rw [SeqAt.eqv_refl _ (SeqAt.canLay_of_shaped (trip_sh hs))]
  exact q
theorem cl_w : (PyData.str "width").canLay0 = true := by decide +kernel
theorem cl_c : (PyData.str "counts").canLay0 = true := by decide +kernel
theorem cl_r : (PyData.str "rows").canLay0 = true := by decide +kernel
theorem cl_s : (PyData.str "start").canLay0 = true := by decide +kernel
theorem RowB.cl {K : PySem.W.Frag} {A : Ad} {H : Hp} {cts : List Int} {c0 : Int} {v : V} {part : Str} {ix : Int} (h : RowB K A H cts c0 v part ix) : (PyData.str part).canLay0 = true := by
  rcases h with ⟨_, rfl, _⟩ | ⟨p, kv, b, c, d, _, _, ⟨_, rfl, _⟩ | ⟨kd, lo, hi, ob, _, _, _, ⟨_, rfl⟩ | ⟨bp, nx, oc, _, _, _, _, _, _, ⟨_, rfl⟩ | ⟨_, od, _, _, rfl⟩⟩⟩⟩ <;> decide +kernel
theorem with_k {k : Nat} (k1 : 1 ≤ k) (k2 : k ≤ 64) : withinD (.int (k : Int)) 1 64 = true := by
  show (decide _ && decide _) = true
  rw [decide_eq_true (by omega), decide_eq_true (by omega)]
  rfl
theorem head_w {K : PySem.W.Frag} {H : Hp} {wv cv rv sv : V} (h : ∃ d, Dp K H wv d ∧ withinD d 1 64 = false) : HeadB K H wv cv rv sv "width" (-1) := ⟨_, h.choose_spec.1, .inl ⟨h.choose_spec.2, rfl, rfl⟩⟩
theorem head_r {K : PySem.W.Frag} {H : Hp} {cv rv sv : V} {k : Nat} (k1 : 1 ≤ k) (k2 : k ≤ 64) (h : ∃ o, Sh K H rv o ∧ shB o 1 200 = false) : HeadB K H (.int (k : Int)) cv rv sv "rows" (-1) := ⟨_, .int _, .inr ⟨with_k k1 k2, _, h.choose_spec.1, .inl ⟨h.choose_spec.2, rfl, rfl⟩⟩⟩
theorem head_c {K : PySem.W.Frag} {H : Hp} {cv sv : V} {D : Addr} {vs : List V} {k : Nat} (k1 : 1 ≤ k) (k2 : k ≤ 64) (eD : H D = some (.lst vs)) (l1 : 1 ≤ vs.length) (l2 : vs.length ≤ 200) (h : ∃ o, Sh K H cv o ∧ shB o vs.length vs.length = false) : HeadB K H (.int (k : Int)) cv (.ref D) sv "counts" (-1) :=
  ⟨_, .int _, .inr ⟨with_k k1 k2, _, .seq (.inl (SqL.of eD)), .inr ⟨D, vs, rfl, .inl (SqL.of eD), l1, l2, _, h.choose_spec.1, .inl ⟨h.choose_spec.2, rfl, rfl⟩⟩⟩⟩
theorem head_ci {K : PySem.W.Frag} {H : Hp} {v sv : V} {D g : Addr} {vs : List V} {cts : List Int} {k i : Nat} (k1 : 1 ≤ k) (k2 : k ≤ 64) (eD : H D = some (.lst vs)) (l1 : 1 ≤ vs.length) (l2 : vs.length ≤ 200) (hc : cts.length = vs.length) (hi : i < cts.length) (bc : ∀ c ∈ cts, 0 ≤ c ∧ c ≤ 4) (eg : H g = some (.lst ((cts.map V.int).take i ++ [v] ++ (cts.map V.int).drop (i + 1)))) (h : ∃ d, Dp K H v d ∧ withinD d 0 64 = false) : HeadB K H (.int (k : Int)) (.ref g) (.ref D) sv "counts" i := by
  obtain ⟨d, hd, hno⟩ := h
  have hl : ((cts.map V.int).take i ++ [v] ++ (cts.map V.int).drop (i + 1)).length = vs.length := by
    rw [List.length_append, List.length_append, List.length_take, List.length_drop, List.length_map]
    simp
    omega
  have hlt : ((cts.map PyData.int).take i).length = i := by rw [List.length_take, List.length_map]; omega
  refine ⟨_, .int _, .inr ⟨with_k k1 k2, _, .seq (.inl (SqL.of eD)), .inr ⟨D, vs, rfl, .inl (SqL.of eD), l1, l2, _, .seq (.inl (SqL.of eg)), .inr ⟨g, _, _, rfl, .inl (SqL.of eg), dpa_mid (dt_ints cts).dp hd i, hl, .inl ⟨i, ?_, rfl, rfl⟩⟩⟩⟩⟩
  rw [firstB_at (i := i) (a := d) (fun n b hn hb => ?_) (by rw [List.getElem?_append_right (by omega), hlt, Nat.sub_self]; rfl) hno, Nat.zero_add]
  rw [List.getElem?_append_left (by omega), List.getElem?_take, if_pos hn, List.getElem?_map] at hb
  cases ec : cts[n]? with
  | none => rw [ec] at hb; cases hb
  | some x =>
    rw [ec] at hb
    cases hb
    have := bc x (List.mem_of_getElem? ec)
    show (decide (0 ≤ x) && decide (x ≤ 64)) = true
    rw [decide_eq_true this.1, decide_eq_true (by omega)]
    rfl
def BadS (K : PySem.W.Frag) (c0 : Int) (H : Hp) (v : V) : Prop := ∃ so, It K H v so ∧ (so = none ∨ ∃ d2, so = some d2 ∧ startO c0 d2 = false)
theorem BadS.same {K : PySem.W.Frag} {c0 : Int} {H H' : Hp} {v : V} (s : Same H H') (h : BadS K c0 H v) : BadS K c0 H' v := ⟨_, h.choose_spec.1.same s, h.choose_spec.2⟩
theorem head_s {K : PySem.W.Frag} {H : Hp} {sv : V} {D g : Addr} {vs : List V} {cts : List Int} {k : Nat} (k1 : 1 ≤ k) (k2 : k ≤ 64) (eD : H D = some (.lst vs)) (l1 : 1 ≤ vs.length) (l2 : vs.length ≤ 200) (hc : cts.length = vs.length) (bc : ∀ c ∈ cts, 0 ≤ c ∧ c ≤ 4) (eg : H g = some (.lst (cts.map V.int))) (h : BadS K (cts.getD 0 0) H sv) : HeadB K H (.int (k : Int)) (.ref g) (.ref D) sv "start" (-1) := by
  obtain ⟨so, hso, hno⟩ := h
  refine ⟨_, .int _, .inr ⟨with_k k1 k2, _, .seq (.inl (SqL.of eD)), .inr ⟨D, vs, rfl, .inl (SqL.of eD), l1, l2, _, .seq (.inl (SqL.of eg)), .inr ⟨g, _, _, rfl, .inl (SqL.of eg), (dt_ints cts).dp, by rw [List.length_map]; exact hc, .inr ⟨first_ok fun c hm => ⟨(bc c hm).1, by have := (bc c hm).2; omega⟩, cts.getD 0 0, so, ?_, hso, hno, rfl, rfl⟩⟩⟩⟩⟩
  cases cts with
  | nil => simp at hc; omega
  | cons c r => rfl
theorem it_start {K : PySem.W.Frag} {H : Hp} {a : Addr} {xs : List Int} {c0 : Int} (e : H a = some (.tup (xs.map V.int))) (h : (xs.length : Int) ≠ c0) : BadS K c0 H (.ref a) := ⟨_, .tup (SqT.of e) (dt_ints xs).dp, .inr ⟨_, rfl, by
  unfold startO
  rw [decide_eq_false (by rw [List.length_map]; exact h), Bool.false_and]⟩⟩
theorem it_bools {K : PySem.W.Frag} {H : Hp} {a : Addr} {n : Nat} {c0 : Int} (h1 : 1 ≤ n) (e : H a = some (.tup (List.replicate n (V.bl true)))) : BadS K c0 H (.ref a) := ⟨_, .tup (SqT.of e) (dpa_rep (.bl true) n), .inr ⟨_, rfl, by
  obtain ⟨k, rfl⟩ : ∃ k, n = k + 1 := ⟨n - 1, by omega⟩
  unfold startO
  rw [List.replicate_succ, List.all_cons, show isIntD (.bool true) = false from rfl, Bool.false_and, Bool.and_false]⟩⟩
/-- [v] * k -/
theorem mv_repC {σ : L2.St} {H : Hp} {P : Hp → V → Prop} {v : V} {k : Nat} (hk : k ≤ 900) (h : ∀ H a, H a = some (.lst (List.replicate k v)) → P H (.ref a)) : MkV (tOp rRep (tLst (tCons (tC v) tNil)) (tC (.int (k : Int)))) σ H P := fun H1 _ Q q => by
  refine sop (sli (scn (sc (snl ?_))))
  refine ⟨Nat.le_of_lt (small1000 (Nat.le_of_ble_eq_true rfl)), fun a ha => sc ?_⟩
  refine ⟨a, (k : Int), [v], rfl, rfl, upd_same, by omega, by omega, Nat.le_of_lt (small1000 (by rw [Int.toNat_natCast]; simp; omega)), fun c hc => ?_⟩
  have s2 : Same H1 (upd H1 a (.lst [v])) := same_new ha
  refine q _ _ (s2.trans (same_new hc)) (h _ _ ?_)
  rw [upd_same, Int.toNat_natCast, List.flatten_replicate_singleton]
def spRight : Sp := fun vs H Q _ => ∃ p : Addr, vs = [.ref p] ∧ Wl H p ∧ ∀ H', Wk p H H' → Q (.bl true) H'
section
variable {P : Program} {w : World} {K : PySem.W.Frag} {mg : Str → Option Value} {base : Heap} {A : Ad}
abbrev s__law_right : Stmt := top 36
theorem sc__law_right : FnScope ["_law_well", "_law_width", "_law_total", "_law_names", "_law_rows_here", "_law_counts", "_law_lines", "_law_start", "_law_odd", "_law_at", "_law_turn", "_law_bad", "_law_part", "_law_index", "_law_spoilt", "_law_row_here"] ["_law_well"] (defScope s__law_right) := ⟨rfl, rfl, rfl, by decide +kernel, rfl, by decide +kernel, by decide +kernel⟩
theorem ok_right {f : Addr} {fd : FuncData} (F : Fun K "_law_right" "_law_right" s__law_right f fd) (T : Txt P w K mg base A) (c__law_draw : Cal P w K mg base 1 "_law_draw" ["_law_well", "_law_many"] spDraw) (c__law_one : Cal P w K mg base 2 "_law_one" ["_law_well", "_law_some"] spOne) (c__law_rows : Cal P w K mg base 5 "_law_rows" ["_law_well", "_law_width", "_law_names", "_law_total"] spRows) (c__law_drawn : Cal P w K mg base 4 "_law_drawn" ["_law_well", "_law_width", "_law_names", "_law_rows_here", "_law_counts"] spDrawn) (c__law_raised : Cal P w K mg base 9 "_law_raised" ["_law_width", "_law_counts", "_law_rows_here", "_law_start"] (spRaised K A)) (c__law_spoilt_row : Cal P w K mg base 4 "_law_spoilt_row" ["_law_well", "_law_spot", "_law_row_here", "_law_counts"] (spSpoilt K A)) : FnOk P w K mg base CX0 10 f fd ["_law_well"] spRight := by
  refine F.ok sc__law_right (fun vs H Q E h => ?_) (fun cdv Ar outer s H vs Q E hr h => ?_)
  · obtain ⟨p, rfl, _⟩ := h
    rfl
  · obtain ⟨p, rfl, hw, q⟩ := h
    refine ⟨_, (pss_cons (ps_par (i := 1) (j := 2) (by rfl) sc__law_right.nd rfl rfl (by decide) rfl rfl (pa_cons (pcal c__law_one hr (by decide) (pa_cons (pv 0) (pa_cons (pe_lst (pa_cons pe_int (pa_cons pe_int (pa_cons pe_int pa_nil)))) pa_nil))) (pa_cons (pe_op op_add pe_int (pcal c__law_draw hr (by decide) (pa_cons (pv 0) (pa_cons pe_int pa_nil)))) pa_nil)) (by rfl))
        (pss_cons (ps_set (i := 3) sc__law_right.nd rfl (Or.inl rfl) (pe_slice sl_list (pe_lst (pa_cons pe_str (pa_cons pe_str (pa_cons pe_str pa_nil)))) po_none (po_some (pe_op op_add pe_int (pcal c__law_draw hr (by decide) (pa_cons (pv 0) (pa_cons pe_int pa_nil)))))))
        (pss_cons (ps_set (i := 4) sc__law_right.nd rfl (Or.inl rfl) (pcal c__law_rows hr (by decide) (pa_cons (pv 0) (pa_cons (pv 1) (pa_cons (pv 3) (pa_cons (pv 2) pa_nil))))))
        (pss_cons (ps_asg (pcal c__law_drawn hr (by decide) (pa_cons (pv 0) (pa_cons (pv 1) (pa_cons (pv 3) (pa_cons (pv 4) (pa_cons (pe_lc (own := [("_law_row_here", 15)]) (g := gName 15) (tt := tYes) rfl sc__law_right.nd (pi_list (pv 4)) (blkOk_by (own := [("_law_row_here", 15)]) (N := ["_law_well", "_law_width", "_law_total", "_law_names", "_law_rows_here", "_law_counts", "_law_lines", "_law_start", "_law_odd", "_law_at", "_law_turn", "_law_bad", "_law_part", "_law_index", "_law_spoilt", "_law_row_here"]) (sc := defScope s__law_right) (by decide +kernel)) (fun _ _ _ _ _ => pg_name (i := 15) sc__law_right.nd rfl (Or.inl rfl)) (fun _ _ _ _ _ => pts_nil) (fun _ _ _ _ _ => (pcal c__law_draw hr (by decide) (pa_cons (pv 0) (pa_cons pe_int pa_nil))))) pa_nil)))))) (pg_tup rfl (pgs_cons (pg_name (i := 5) sc__law_right.nd rfl (Or.inl rfl)) (pgs_cons (pg_name (i := 6) sc__law_right.nd rfl (Or.inl rfl)) (pgs_cons (pg_name (i := 7) sc__law_right.nd rfl (Or.inl rfl)) pgs_nil)))))
        (pss_cons (ps_for PassesOwn.never rfl (pi_list (pe_lst (pa_cons pe_int (pa_cons pe_int (pa_cons pe_bl (pa_cons pe_non (pa_cons pe_str pa_nil))))))) (pg_name (i := 8) sc__law_right.nd rfl (Or.inl rfl)) (pss_one (ps_if (pt_cmpR (op_neD hr.units) (pcal c__law_raised hr (by decide) (pa_cons (pv 8) (pa_cons pe_non (pa_cons pe_non (pa_cons pe_non pa_nil))))) (pe_tup (pa_cons (pe_un un_neg pe_int) (pa_cons pe_str (pa_cons (pe_un un_neg pe_int) pa_nil)))) (nomark _)) (pss_one (ps_ret pe_bl)) pss_nil)))
        (pss_cons (ps_for PassesOwn.never rfl (pi_list (pe_lst (pa_cons pe_non (pa_cons (pe_lst pa_nil) (pa_cons (pe_tup pa_nil) (pa_cons pe_dnewK (pa_cons pe_int (pa_cons (pe_op op_rep (pe_lst (pa_cons pe_non pa_nil)) pe_int) pa_nil)))))))) (pg_name (i := 8) sc__law_right.nd rfl (Or.inl rfl)) (pss_one (ps_if (pt_cmpR (op_neD hr.units) (pcal c__law_raised hr (by decide) (pa_cons (pv 1) (pa_cons pe_non (pa_cons (pv 8) (pa_cons pe_non pa_nil))))) (pe_tup (pa_cons (pe_un un_neg pe_int) (pa_cons pe_str (pa_cons (pe_un un_neg pe_int) pa_nil)))) (nomark _)) (pss_one (ps_ret pe_bl)) pss_nil)))
        (pss_cons (ps_for PassesOwn.never rfl (pi_list (pe_lst (pa_cons pe_non (pa_cons (pe_op op_cat (pv 5) (pe_lst (pa_cons pe_int pa_nil))) (pa_cons (pe_slice sl_list (pv 5) (po_some pe_int) po_none) (pa_cons pe_dnewK (pa_cons pe_int pa_nil))))))) (pg_name (i := 8) sc__law_right.nd rfl (Or.inl rfl)) (pss_one (ps_if (pt_cmpR (op_neD hr.units) (pcal c__law_raised hr (by decide) (pa_cons (pv 1) (pa_cons (pv 8) (pa_cons (pv 6) (pa_cons pe_non pa_nil))))) (pe_tup (pa_cons (pe_un un_neg pe_int) (pa_cons pe_str (pa_cons (pe_un un_neg pe_int) pa_nil)))) (nomark _)) (pss_one (ps_ret pe_bl)) pss_nil)))
        (pss_cons (ps_set (i := 9) sc__law_right.nd rfl (Or.inl rfl) (pcal c__law_draw hr (by decide) (pa_cons (pv 0) (pa_cons (pv 2) pa_nil))))
        (pss_cons (ps_for PassesOwn.never rfl (pi_list (pe_lst (pa_cons (pe_un un_neg pe_int) (pa_cons pe_int (pa_cons pe_bl (pa_cons pe_non (pa_cons pe_str (pa_cons (pe_lst (pa_cons pe_int pa_nil)) pa_nil)))))))) (pg_name (i := 8) sc__law_right.nd rfl (Or.inl rfl)) (pss_one (ps_if (pt_cmpR (op_neD hr.units) (pcal c__law_raised hr (by decide) (pa_cons (pv 1) (pa_cons (pe_op op_cat (pe_op op_cat (pe_slice sl_list (pv 5) po_none (po_some (pv 9))) (pe_lst (pa_cons (pv 8) pa_nil))) (pe_slice sl_list (pv 5) (po_some (pe_op op_add (pv 9) pe_int)) po_none)) (pa_cons (pv 6) (pa_cons pe_non pa_nil))))) (pe_tup (pa_cons (pe_un un_neg pe_int) (pa_cons pe_str (pa_cons (pv 9) pa_nil)))) (nomark _)) (pss_one (ps_ret pe_bl)) pss_nil)))
        (pss_cons (ps_for PassesOwn.never rfl (pi_list (pe_lst (pa_cons pe_non (pa_cons (pe_callTy call_list_of (by rfl) T.z_list (by decide +kernel) (pa_cons (pv 7) pa_nil)) (pa_cons (pe_op op_catA (pv 7) (pe_tup (pa_cons pe_int pa_nil))) (pa_cons pe_int (pa_cons (pe_op op_catA (pe_op op_repZ (pe_tup (pa_cons pe_bl pa_nil)) (pe_ix ix_list (pv 5) pe_int (fun _ _ => rfl))) (pe_op op_repZ (pe_tup (pa_cons pe_int pa_nil)) (pe_callTy call_int1 (by rfl) T.z_int (by decide +kernel) (pa_cons (pe_cmpR op_eq (pe_ix ix_list (pv 5) pe_int (fun _ _ => rfl)) pe_int (nomark _)) pa_nil)))) pa_nil))))))) (pg_name (i := 8) sc__law_right.nd rfl (Or.inl rfl)) (pss_one (ps_if (pt_cmpR (op_neD hr.units) (pcal c__law_raised hr (by decide) (pa_cons (pv 1) (pa_cons (pv 5) (pa_cons (pe_op op_rep (pe_lst (pa_cons pe_non pa_nil)) (pv 2)) (pa_cons (pv 8) pa_nil))))) (pe_tup (pa_cons (pe_un un_neg pe_int) (pa_cons pe_str (pa_cons (pe_un un_neg pe_int) pa_nil)))) (nomark _)) (pss_one (ps_ret pe_bl)) pss_nil)))
        (pss_cons (ps_for PassesOwn.never rfl (pi_range1 (by rfl) T.z_range (pa_cons pe_int pa_nil)) (pg_name (i := 10) sc__law_right.nd rfl (Or.inl rfl)) (pss_cons (ps_set (i := 9) sc__law_right.nd rfl (Or.inl rfl) (pcal c__law_draw hr (by decide) (pa_cons (pv 0) (pa_cons (pv 2) pa_nil))))
        (pss_cons (ps_asg (pcal c__law_spoilt_row hr (by decide) (pa_cons (pv 0) (pa_cons (pv 9) (pa_cons (pe_ix ix_list (pv 6) (pv 9) (fun _ _ => rfl)) (pa_cons (pv 5) pa_nil))))) (pg_tup rfl (pgs_cons (pg_name (i := 11) sc__law_right.nd rfl (Or.inl rfl)) (pgs_cons (pg_name (i := 12) sc__law_right.nd rfl (Or.inl rfl)) (pgs_cons (pg_name (i := 13) sc__law_right.nd rfl (Or.inl rfl)) pgs_nil)))))
        (pss_cons (ps_set (i := 14) sc__law_right.nd rfl (Or.inl rfl) (pe_op op_cat (pe_op op_cat (pe_slice sl_list (pv 6) po_none (po_some (pv 9))) (pe_lst (pa_cons (pv 11) pa_nil))) (pe_op op_rep (pe_lst (pa_cons pe_non pa_nil)) (pe_op op_sub (pe_op op_sub (pv 2) (pv 9)) pe_int))))
        (pss_cons (ps_if (pt_cmpR (op_neD hr.units) (pcal c__law_raised hr (by decide) (pa_cons (pv 1) (pa_cons (pv 5) (pa_cons (pv 14) (pa_cons (pv 7) pa_nil))))) (pe_tup (pa_cons (pv 9) (pa_cons (pv 12) (pa_cons (pv 13) pa_nil)))) (nomark _)) (pss_one (ps_ret pe_bl)) pss_nil)
        (pss_one (ps_if (pt_cmpR (op_neD hr.units) (pcal c__law_raised hr (by decide) (pa_cons (pv 1) (pa_cons (pe_callTy call_tupOf (by rfl) T.z_tuple (by decide +kernel) (pa_cons (pv 5) pa_nil)) (pa_cons (pe_callTy call_tupOf (by rfl) T.z_tuple (by decide +kernel) (pa_cons (pv 14) pa_nil)) (pa_cons (pv 7) pa_nil))))) (pe_tup (pa_cons (pv 9) (pa_cons (pv 12) (pa_cons (pv 13) pa_nil)))) (nomark _)) (pss_one (ps_ret pe_bl)) pss_nil)))))))
        (pss_cons (ps_if (pt_cmpR op_notN (pcal c__law_raised hr (by decide) (pa_cons pe_int (pa_cons (pe_lst (pa_cons pe_int pa_nil)) (pa_cons (pe_lst (pa_cons (pe_tup (pa_cons pe_str (pa_cons (pe_tup pa_nil) (pa_cons (pe_tup pa_nil) (pa_cons (pe_tup pa_nil) pa_nil))))) pa_nil)) (pa_cons (pe_op op_repN (pe_tup (pa_cons pe_int pa_nil)) pe_int) pa_nil))))) pe_non (nomark _)) (pss_one (ps_ret pe_bl)) pss_nil)
        (pss_one (ps_ret (pe_cmpR op_isN (pcal c__law_raised hr (by decide) (pa_cons (pv 1) (pa_cons (pv 5) (pa_cons (pv 6) (pa_cons (pv 7) pa_nil))))) pe_non (nomark _)))))))))))))))), ?_⟩
    walk_at "lk"
    refine spr ?_
    walk_at "lk"
    refine snw (Nat.le_of_ble_eq_true rfl) fun l1 hl1 => ?_
    have w1 : Wk p H (upd H l1 (.lst ([1, 8, 64].map V.int))) := Wk.of hw (same_new hl1)
    have e1 : (upd H l1 (.lst ([1, 8, 64].map V.int))) l1 = some (.lst ([1, 8, 64].map V.int)) := upd_same
    have n1 : l1 ≠ p := ne_new hw hl1
    walk_at "lk"
    show spOne _ (upd H l1 (.lst ([1, 8, 64].map V.int))) _ _
    generalize upd H l1 (.lst ([1, 8, 64].map V.int)) = H1 at w1 e1 ⊢
    refine ⟨p, l1, _, rfl, w1.2, n1, e1, by decide, by decide, fun v H2 hv w2' => ?_⟩
    have w2 := w1.trans w2'
    obtain ⟨k, rfl, k1, k2⟩ : ∃ k : Nat, v = .int (k : Int) ∧ 1 ≤ k ∧ k ≤ 64 := by
      obtain ⟨z, hz, rfl⟩ := List.mem_map.mp hv
      have := (by decide : ∀ z ∈ ([1, 8, 64] : List Int), 1 ≤ z ∧ z ≤ 64) z hz
      exact ⟨z.toNat, by rw [Int.toNat_of_nonneg (by omega)], by omega, by omega⟩
    walk_at "lk"
    refine ⟨p, 9, rfl, by decide, by decide, w2.2, fun r H3 r0 r1 w3' => ?_⟩
    have w3 := w2.trans w3'
    walk_at "lk"
    obtain ⟨m, hm⟩ : ∃ m : Nat, 1 + r = (m : Int) := ⟨(1 + r).toNat, by omega⟩
    rw [hm]
    have m1 : 1 ≤ m := by omega
    have m2 : m ≤ 9 := by omega
    refine ⟨_, _, rfl, ?_⟩
    have w4 := w3
    clear w1 e1 w2 w2' w3 w3' hl1 n1 hv
    generalize H3 = H4 at w4 ⊢
    walk_at "lk"
    refine snw (Nat.le_of_ble_eq_true rfl) fun l5 hl5 => ?_
    have w5 := w4.st (same_new (o := .lst (names3.map V.str)) hl5)
    have e5 : (upd H4 l5 (.lst (names3.map V.str))) l5 = some (.lst (names3.map V.str)) := upd_same
    have n5 : l5 ≠ p := ne_new w4.2 hl5
    walk_at "lk"
    show spDraw _ (upd H4 l5 (.lst (names3.map V.str))) _ _
    generalize upd H4 l5 (.lst (names3.map V.str)) = H5 at w5 e5 ⊢
    refine ⟨p, 3, rfl, by decide, by decide, w5.2, fun r2 H6 g0 g1 w6' => ?_⟩
    have w6 := w5.trans w6'
    have e6 := w6'.at n5 e5
    walk_at "lk"
    obtain ⟨c, hc⟩ : ∃ c : Nat, 1 + r2 = (c : Int) := ⟨(1 + r2).toNat, by omega⟩
    rw [hc]
    have c3 : (names3.take c).length = c := by
      rw [List.length_take]
      show min c 3 = c
      omega
    refine ⟨l5, _, rfl, SqL.of e6, fun l hl => ?_⟩
    rw [cut_takeLe (by rw [List.length_map]; show c ≤ 3; omega), ← List.map_take]
    have w7 := w6.st (same_new (o := .lst ((names3.take c).map V.str)) hl)
    have e7 : (upd H6 l (.lst ((names3.take c).map V.str))) l = some (.lst ((names3.take c).map V.str)) := upd_same
    have nl : l ≠ p := ne_new w6.2 hl
    generalize upd H6 l (.lst ((names3.take c).map V.str)) = H7 at w7 e7 ⊢
    generalize names3.take c = ns at e7 c3 ⊢
    have nl1 : 1 ≤ ns.length := by omega
    have nl2 : ns.length ≤ 6 := by omega
    clear w6 w6' e6 w5 e5 w4 hl5 n5 hl hm hc r0 r1 g0 g1
    walk_at "lk"
    refine ⟨p, l, k, m, ns, rfl, k1, k2, m1, by omega, w7.2, nl, e7, nl1, nl2, fun RL us rs H8 w8' hRL eRL hus hlen hgood => ?_⟩
    have w8 := w7.trans w8'
    have el8 := w8'.at nl e7
    have nRL : RL ≠ p := ne_new w7.2 hRL
    walk_at "lk"
    refine ⟨_, rfl, RL, rfl, ⟨us, SqL.of eRL⟩, fun CL hCL => ?_⟩
    refine tlc_listW (fun H v r => RowH H v r) (fun H v (c : Int) => v = .int c ∧ 0 ≤ c ∧ c ≤ 4) (fun _ _ => True) (fun s h => h.ts s) (fun s h => h) w8.2 nRL eRL (f2_rows hus) (by have := hus.len; omega) hCL (fun _ => rfl) (fun i x r H' hri hx w' R qr => ?_) (fun ys cts H9 w9' hys fys hg => ?_)
    · walk_at "lk"
      exact ⟨p, 4, rfl, by decide, by decide, w'.2, fun c H'' c0 c1 w'' => qr _ c _ w'' ⟨rfl, c0, by omega⟩ trivial⟩
    have fys' : F2 (fun v (c : Int) => v = .int c) ys cts := fys.mono fun _ _ z => z.1
    have bct : ∀ c ∈ cts, 0 ≤ c ∧ c ≤ 4 := fun c hc => by
      obtain ⟨m, hm⟩ := List.getElem?_of_mem hc
      obtain ⟨u, _, hu⟩ := fys.get hm
      exact hu.2
    rw [f2_ints_of fys'] at hys
    have nCL : CL ≠ p := ne_new w8.2 hCL
    have hlc := hg.1
    have w9 := w8.trans w9'
    walk_at "lk"
    refine ⟨p, l, RL, CL, k, ns, us, rs, cts, rfl, k1, k2, w9.2, nl, nRL, nCL, w9'.at nl el8, nl1, nl2, w9'.at nRL eRL, hus.ts (w9'.ts w8.2), by rw [hlen]; exact hgood, by omega, by omega, hys, hlc, bct, fun tu D st vs crs sts H10 w10' htu hD hDl hvs hst hdr => ?_⟩
    have w10 := w9.trans w10'
    have ec := w10'.at nCL hys
    have nD : D ≠ p := ne_new w9.2 hD
    have nst : st ≠ p := ne_well w10.2 hst (fun _ _ _ z => by cases z)
    refine g_trip (SqT.of htu) ?_
    clear w7 w8 w8' w9 w9' w10' htu hys fys fys' hg hus e7 el8 eRL hRL hCL hD hgood
    obtain ⟨hok, hlow, hsy6, hst2⟩ := hdr
    have hcl : crs.length = m := by have := hok.cl; omega
    have hvl := hvs.len
    have hcm : cts.length = m := by omega
    have S0 : Sx H H10 p CL D st cts vs crs sts := ⟨w10, ec, hDl, hvs, hst⟩
    have hc0 : cts[0]? = some (cts.getD 0 0) := getD_at (by omega)
    have bc0 := bct _ (List.mem_of_getElem? hc0)
    have hsl := hok.sl
    clear w10 ec hDl hvs hst
    dsimp only
    refine s_lit [some (.ref p), some (.int (k : Int)), some (.int (m : Int)), some (.ref l), some (.ref RL), some (.ref CL), some (.ref D), some (.ref st), none, none, none, none, none, none, none, none] rfl ?_
    refine ssq ?_
    refine for_lit (P := fun H v => ∃ d, Dp K H v d ∧ withinD d 1 64 = false) (n := 5) (fun {_ _ _} s h => ⟨h.choose, dp_same s h.choose_spec.1, h.choose_spec.2⟩)
      (mv_cons (fun {_ _ _} s h => ⟨h.choose, dp_same s h.choose_spec.1, h.choose_spec.2⟩) (mv_c fun _ => ⟨.int 0, .int 0, rfl⟩)
        (mv_cons (fun {_ _ _} s h => ⟨h.choose, dp_same s h.choose_spec.1, h.choose_spec.2⟩) (mv_c fun _ => ⟨.int 65, .int 65, rfl⟩)
        (mv_cons (fun {_ _ _} s h => ⟨h.choose, dp_same s h.choose_spec.1, h.choose_spec.2⟩) (mv_c fun _ => ⟨.bool true, .bl true, rfl⟩)
        (mv_cons (fun {_ _ _} s h => ⟨h.choose, dp_same s h.choose_spec.1, h.choose_spec.2⟩) (mv_c fun _ => ⟨.none, .non, rfl⟩)
        (mv_cons (fun {_ _ _} s h => ⟨h.choose, dp_same s h.choose_spec.1, h.choose_spec.2⟩) (mv_c fun _ => ⟨.str "8", .str "8", rfl⟩)
        mv_nil))))) (Nat.le_of_ble_eq_true rfl) ⟨_, rfl⟩ (fun HB v H' hb hs hv => ?_) (fun e HL sL => ?_)
    · walk_at "lk"
      refine ⟨_, _, _, _, rfl, .inl ⟨_, _, head_w hv, fun a Hr sr er => ?_⟩⟩
      walk_at "lk"
      refine snw (Nat.le_of_ble_eq_true rfl) fun b0 hb0 => ?_
      walk_at "lk"
      refine s_neT cl_w (same_new hb0 _ _ er) upd_same ?_
      walk_at "lk"
      refine iff_ rfl ?_
      refine snx ?_
      exact ⟨⟨_, rfl⟩, hs.trans (sr.trans (same_new hb0))⟩
    
    have S1 := S0.same sL
    clear S0 sL
    dsimp only
    refine s_lit [some (.ref p), some (.int (k : Int)), some (.int (m : Int)), some (.ref l), some (.ref RL), some (.ref CL), some (.ref D), some (.ref st), e, none, none, none, none, none, none, none] rfl ?_
    refine ssq ?_
    refine for_lit (P := fun H v => ∃ o, Sh K H v o ∧ shB o 1 200 = false) (n := 6) (fun {_ _ _} s h => ⟨h.choose, h.choose_spec.1.same s, h.choose_spec.2⟩)
      (mv_cons (fun {_ _ _} s h => ⟨h.choose, h.choose_spec.1.same s, h.choose_spec.2⟩) (mv_c fun _ => ⟨_, sh_non, rfl⟩)
        (mv_cons (fun {_ _ _} s h => ⟨h.choose, h.choose_spec.1.same s, h.choose_spec.2⟩) (mv_lst (xs := []) (fun H1 Q q => snl q) (Nat.le_of_ble_eq_true rfl) fun H a e => ⟨_, .seq (.inl (SqL.of e)), rfl⟩)
        (mv_cons (fun {_ _ _} s h => ⟨h.choose, h.choose_spec.1.same s, h.choose_spec.2⟩) (mv_tup (xs := []) (fun H1 Q q => snl q) (Nat.le_of_ble_eq_true rfl) fun H a e => ⟨_, .seq (.inr (SqT.of e)), rfl⟩)
        (mv_cons (fun {_ _ _} s h => ⟨h.choose, h.choose_spec.1.same s, h.choose_spec.2⟩) (mv_dct fun H a e => ⟨_, sh_dct e, rfl⟩)
        (mv_cons (fun {_ _ _} s h => ⟨h.choose, h.choose_spec.1.same s, h.choose_spec.2⟩) (mv_c fun _ => ⟨_, sh_int _, rfl⟩)
        (mv_cons (fun {_ _ _} s h => ⟨h.choose, h.choose_spec.1.same s, h.choose_spec.2⟩) (mv_repC (k := 201) (by decide) fun H a e => ⟨_, .seq (.inl (SqL.of e)), rfl⟩)
        mv_nil)))))) (Nat.le_of_ble_eq_true rfl) ⟨_, rfl⟩ (fun HB v H' hb hs hv => ?_) (fun e HL sL => ?_)
    · walk_at "lk"
      refine ⟨_, _, _, _, rfl, .inl ⟨_, _, head_r k1 k2 hv, fun a Hr sr er => ?_⟩⟩
      walk_at "lk"
      refine snw (Nat.le_of_ble_eq_true rfl) fun b0 hb0 => ?_
      walk_at "lk"
      refine s_neT cl_r (same_new hb0 _ _ er) upd_same ?_
      walk_at "lk"
      refine iff_ rfl ?_
      refine snx ?_
      exact ⟨⟨_, rfl⟩, hs.trans (sr.trans (same_new hb0))⟩
    
    have S2 := S1.same sL
    clear S1 sL
    dsimp only
    refine s_lit [some (.ref p), some (.int (k : Int)), some (.int (m : Int)), some (.ref l), some (.ref RL), some (.ref CL), some (.ref D), some (.ref st), e, none, none, none, none, none, none, none] rfl ?_
    refine ssq ?_
    refine for_lit (P := fun H v => ∃ o, Sh K H v o ∧ shB o vs.length vs.length = false) (n := 5) (fun {_ _ _} s h => ⟨h.choose, h.choose_spec.1.same s, h.choose_spec.2⟩)
      (mv_cons (fun {_ _ _} s h => ⟨h.choose, h.choose_spec.1.same s, h.choose_spec.2⟩) (mv_c fun _ => ⟨_, sh_non, rfl⟩)
        (mv_cons (fun {_ _ _} s h => ⟨h.choose, h.choose_spec.1.same s, h.choose_spec.2⟩) (fun H1 s1 Q q => sop (sv rfl (sli (scn (sc (snl ⟨Nat.le_of_lt (small1000 (Nat.le_of_ble_eq_true rfl)), fun a ha => ⟨CL, a, _, _, rfl, rfl, (same_new ha) _ _ (s1 _ _ S2.ec), upd_same, Nat.le_of_lt (small1000 (by rw [List.length_map]; show cts.length + 1 ≤ 1000; omega)), fun b hb => q _ _ ((same_new ha).trans (same_new hb)) ⟨_, .seq (.inl (SqL.of upd_same)), shB_ne (by rw [List.length_append, List.length_map]; show cts.length + 1 ≠ vs.length; omega)⟩⟩⟩))))))
        (mv_cons (fun {_ _ _} s h => ⟨h.choose, h.choose_spec.1.same s, h.choose_spec.2⟩) (fun H1 s1 Q q => ⟨_, rfl, _, rfl, CL, _, rfl, SqL.of (s1 _ _ S2.ec), fun a ha => q _ _ (same_new ha) ⟨_, .seq (.inl (SqL.of upd_same)), shB_ne (by rw [show (1 : Int) = ((1 : Nat) : Int) from rfl, cut_drop (by rw [List.length_map]; omega), List.length_drop, List.length_map]; omega)⟩⟩)
        (mv_cons (fun {_ _ _} s h => ⟨h.choose, h.choose_spec.1.same s, h.choose_spec.2⟩) (mv_dct fun H a e => ⟨_, sh_dct e, rfl⟩)
        (mv_cons (fun {_ _ _} s h => ⟨h.choose, h.choose_spec.1.same s, h.choose_spec.2⟩) (mv_c fun _ => ⟨_, sh_int _, rfl⟩)
        mv_nil))))) (Nat.le_of_ble_eq_true rfl) ⟨_, rfl⟩ (fun HB v H' hb hs hv => ?_) (fun e HL sL => ?_)
    · walk_at "lk"
      refine ⟨_, _, _, _, rfl, .inl ⟨_, _, head_c k1 k2 ((hb.trans hs) _ _ S2.ed) (by omega) (by omega) hv, fun a Hr sr er => ?_⟩⟩
      walk_at "lk"
      refine snw (Nat.le_of_ble_eq_true rfl) fun b0 hb0 => ?_
      walk_at "lk"
      refine s_neT cl_c (same_new hb0 _ _ er) upd_same ?_
      walk_at "lk"
      refine iff_ rfl ?_
      refine snx ?_
      exact ⟨⟨_, rfl⟩, hs.trans (sr.trans (same_new hb0))⟩
    
    have S3 := S2.same sL
    clear S2 sL
    dsimp only
    walk_at "lk"
    refine ⟨p, (m : Int), rfl, by omega, Nat.lt_of_le_of_lt (show ((m : Nat) : Int).natAbs ≤ 9 by omega) (by decide), S3.w.2, fun r0 H4 r00 r01 w4 => ?_⟩
    obtain ⟨i, rfl⟩ : ∃ i : Nat, r0 = (i : Int) := ⟨r0.toNat, by omega⟩
    have hi : i < m := by omega
    have S4 := S3.wk w4 nCL nD
    clear S3 w4
    refine sgn ?_
    dsimp only
    refine s_lit [some (.ref p), some (.int (k : Int)), some (.int (m : Int)), some (.ref l), some (.ref RL), some (.ref CL), some (.ref D), some (.ref st), e, some (.int (i : Int)), none, none, none, none, none, none] rfl ?_
    refine ssq ?_
    refine for_lit (P := fun H v => ∃ d, Dp K H v d ∧ withinD d 0 64 = false) (n := 6) (fun {_ _ _} s h => ⟨h.choose, dp_same s h.choose_spec.1, h.choose_spec.2⟩)
      (mv_cons (fun {_ _ _} s h => ⟨h.choose, dp_same s h.choose_spec.1, h.choose_spec.2⟩) (fun H1 _ Q q => sun (sc (sU (q _ _ (Same.refl _) ⟨.int (-1), .int (-1), rfl⟩))))
        (mv_cons (fun {_ _ _} s h => ⟨h.choose, dp_same s h.choose_spec.1, h.choose_spec.2⟩) (mv_c fun _ => ⟨.int 65, .int 65, rfl⟩)
        (mv_cons (fun {_ _ _} s h => ⟨h.choose, dp_same s h.choose_spec.1, h.choose_spec.2⟩) (mv_c fun _ => ⟨.bool true, .bl true, rfl⟩)
        (mv_cons (fun {_ _ _} s h => ⟨h.choose, dp_same s h.choose_spec.1, h.choose_spec.2⟩) (mv_c fun _ => ⟨.none, .non, rfl⟩)
        (mv_cons (fun {_ _ _} s h => ⟨h.choose, dp_same s h.choose_spec.1, h.choose_spec.2⟩) (mv_c fun _ => ⟨.str "1", .str "1", rfl⟩)
        (mv_cons (fun {_ _ _} s h => ⟨h.choose, dp_same s h.choose_spec.1, h.choose_spec.2⟩) (mv_lst (xs := [.int 1]) (fun H1 Q q => scn (sc (snl q))) (Nat.le_of_ble_eq_true rfl) fun H a e => ⟨.list [.int 1], .lst (SqL.of e) (.cons (.int 1) .nil), rfl⟩)
        mv_nil)))))) (Nat.le_of_ble_eq_true rfl) ⟨_, rfl⟩ (fun HB v H' hb hs hv => ?_) (fun e HL sL => ?_)
    · have SA := (S4.same hb).same hs
      walk_at "lk"
      refine ⟨CL, _, rfl, SqL.of SA.ec, fun f1 hf1 => ?_⟩
      rw [cut_takeLe (by rw [List.length_map]; omega)]
      have s1 : Same H' (upd H' f1 (.lst ((cts.map V.int).take i))) := same_new hf1
      have e1 : (upd H' f1 (.lst ((cts.map V.int).take i))) f1 = some (.lst ((cts.map V.int).take i)) := upd_same
      generalize upd H' f1 (.lst ((cts.map V.int).take i)) = H2 at s1 e1 ⊢
      walk_at "lk"
      refine snw (Nat.le_of_ble_eq_true rfl) fun g1 hg1 => ?_
      have s4 : Same H2 (upd H2 g1 (.lst [v])) := same_new hg1
      have e4 : (upd H2 g1 (.lst [v])) g1 = some (.lst [v]) := upd_same
      generalize upd H2 g1 (.lst [v]) = H4' at s4 e4 ⊢
      refine ⟨f1, g1, _, _, rfl, rfl, s4 _ _ e1, e4, Nat.le_of_lt (small1000 (by rw [List.length_take, List.length_map]; show min i cts.length + 1 ≤ 1000; omega)), fun g2 hg2 => ?_⟩
      have s5 := (s1.trans s4).trans (same_new (o := .lst ((cts.map V.int).take i ++ [v])) hg2)
      have e5 : (upd H4' g2 (.lst ((cts.map V.int).take i ++ [v]))) g2 = some (.lst ((cts.map V.int).take i ++ [v])) := upd_same
      generalize upd H4' g2 (.lst ((cts.map V.int).take i ++ [v])) = H5 at s5 e5 ⊢
      walk_at "lk"
      refine ⟨CL, _, rfl, SqL.of (s5 _ _ SA.ec), fun g3 hg3 => ?_⟩
      rw [show ((i : Int) + 1) = ((i + 1 : Nat) : Int) from rfl, cut_drop (by rw [List.length_map]; omega)]
      have s6 : Same H5 (upd H5 g3 (.lst ((cts.map V.int).drop (i + 1)))) := same_new hg3
      have e6 : (upd H5 g3 (.lst ((cts.map V.int).drop (i + 1)))) g3 = some (.lst ((cts.map V.int).drop (i + 1))) := upd_same
      generalize upd H5 g3 (.lst ((cts.map V.int).drop (i + 1))) = H6 at s6 e6 ⊢
      refine ⟨g2, g3, _, _, rfl, rfl, s6 _ _ e5, e6, Nat.le_of_lt (small1000 (by rw [List.length_append, List.length_take, List.length_drop, List.length_map]; show min i cts.length + 1 + (cts.length - (i + 1)) ≤ 1000; omega)), fun g4 hg4 => ?_⟩
      have s7 := (s5.trans s6).trans (same_new (o := .lst ((cts.map V.int).take i ++ [v] ++ (cts.map V.int).drop (i + 1))) hg4)
      have e7 : (upd H6 g4 (.lst ((cts.map V.int).take i ++ [v] ++ (cts.map V.int).drop (i + 1)))) g4 = some (.lst ((cts.map V.int).take i ++ [v] ++ (cts.map V.int).drop (i + 1))) := upd_same
      generalize upd H6 g4 (.lst ((cts.map V.int).take i ++ [v] ++ (cts.map V.int).drop (i + 1))) = Hb at s7 e7 ⊢
      walk_at "lk"
      refine ⟨_, _, _, _, rfl, .inl ⟨_, _, head_ci k1 k2 (s7 _ _ SA.ed) (by omega) (by omega) (by omega) (by omega) bct e7 ⟨_, dp_same s7 hv.choose_spec.1, hv.choose_spec.2⟩, fun a Hr sr er => ?_⟩⟩
      walk_at "lk"
      refine snw (Nat.le_of_ble_eq_true rfl) fun b0 hb0 => ?_
      walk_at "lk"
      refine s_neT cl_c (same_new hb0 _ _ er) upd_same ?_
      walk_at "lk"
      refine iff_ rfl ?_
      refine snx ?_
      exact ⟨⟨_, rfl⟩, (hs.trans s7).trans (sr.trans (same_new hb0))⟩
    
    have S5 := S4.same sL
    clear S4 sL
    dsimp only
    obtain ⟨cc, hcc⟩ : ∃ cc : Nat, cts.getD 0 0 = (cc : Int) := ⟨(cts.getD 0 0).toNat, by omega⟩
    refine s_lit [some (.ref p), some (.int (k : Int)), some (.int (m : Int)), some (.ref l), some (.ref RL), some (.ref CL), some (.ref D), some (.ref st), e, some (.int (i : Int)), none, none, none, none, none, none] rfl ?_
    refine ssq ?_
    refine for_lit (P := fun H v => BadS K (cts.getD 0 0) H v) (n := 5) (fun {_ _ _} s h => BadS.same s h)
      (mv_cons (fun {_ _ _} s h => BadS.same s h) (mv_c fun _ => ⟨none, .no (.dp .non) (ki_tup _), .inl rfl⟩)
        (mv_cons (fun {_ _ _} s h => BadS.same s h) (fun H1 s1 Q q => by
        walk_at "lk"
        exact ⟨st, _, rfl, .inr (SqT.of (s1 _ _ S5.es)), fun a ha => q _ _ (same_new ha) ⟨_, it_lst (SqL.of upd_same), .inl rfl⟩⟩)
        (mv_cons (fun {_ _ _} s h => BadS.same s h) (fun H1 s1 Q q => by
        walk_at "lk"
        refine snw (Nat.le_of_ble_eq_true rfl) fun z hz => ?_
        have t1 : Same H1 (upd H1 z (.tup [.int 0])) := same_new hz
        refine s_catG (t1 _ _ (s1 _ _ S5.es)) upd_same (by rw [List.length_map]; show sts.length + 1 ≤ 1000; omega) fun a H2 t2 e2 => q _ _ (t1.trans t2) (it_start (xs := sts ++ [0]) (by rw [e2, List.map_append]; rfl) (by rw [List.length_append]; show ((sts.length + 1 : Nat) : Int) ≠ _; omega)))
        (mv_cons (fun {_ _ _} s h => BadS.same s h) (mv_c fun _ => ⟨none, .no (.dp (.int 5)) (ki_tup _), .inl rfl⟩)
        (mv_cons (fun {_ _ _} s h => BadS.same s h) (fun H1 s1 Q q => by
        walk_at "lk"
        refine snw (Nat.le_of_ble_eq_true rfl) fun z hz => ?_
        have t1 : Same H1 (upd H1 z (.tup [.bl true])) := same_new hz
        have y1 : (upd H1 z (.tup [.bl true])) z = some (.tup [.bl true]) := upd_same
        generalize upd H1 z (.tup [.bl true]) = H2 at t1 y1 ⊢
        walk_at "lk"
        refine sfr (SqL.of (t1 _ _ (s1 _ _ S5.ec))) (atI_ints (z := 0) hc0 (by omega)) ?_
        rw [hcc]
        refine s_repZ y1 (by omega) fun z2 H3 t2 y2 => ?_
        walk_at "lk"
        refine snw (Nat.le_of_ble_eq_true rfl) fun z3 hz3 => ?_
        have t3 : Same H3 (upd H3 z3 (.tup [.int 0])) := same_new hz3
        have y3 : (upd H3 z3 (.tup [.int 0])) z3 = some (.tup [.int 0]) := upd_same
        generalize upd H3 z3 (.tup [.int 0]) = H4 at t3 y3 ⊢
        walk_at "lk"
        refine sfr (SqL.of ((t1.trans (t2.trans t3)) _ _ (s1 _ _ S5.ec))) (atI_ints (z := 0) hc0 (by omega)) ?_
        walk_at "lk"
        refine sEq rfl ?_
        walk_at "lk"
        have s13 := t1.trans (t2.trans t3)
        by_cases c9 : cc = 0
        · rw [if_pos (decide_eq_true (by rw [hcc, c9]; rfl))]
          refine s_repZ (n := 1) y3 (by omega) fun z4 H5 t5 y5 => ?_
          refine s_catG (t5 _ _ (t3 _ _ y2)) y5 (by rw [List.length_replicate, List.length_replicate]; omega) fun a H6 t6 e6 => q _ _ (s13.trans (t5.trans t6)) (it_start (xs := [0]) (by rw [e6, c9]; rfl) (by rw [hcc, c9]; decide))
        · rw [if_neg (by rw [decide_eq_false (fun z => c9 (by have := V.int.inj z; omega))]; decide)]
          refine s_repZ (n := 0) y3 (by omega) fun z4 H5 t5 y5 => ?_
          refine s_catG (t5 _ _ (t3 _ _ y2)) y5 (by rw [List.length_replicate, List.length_replicate]; omega) fun a H6 t6 e6 => q _ _ (s13.trans (t5.trans t6)) (it_bools (n := cc) (by omega) (by rw [e6]; exact congrArg (fun z => some (HO.tup z)) (List.append_nil _))))
        mv_nil))))) (Nat.le_of_ble_eq_true rfl) ⟨_, rfl⟩ (fun HB v H' hb hs hv => ?_) (fun e HL sL => ?_)
    · have SA := (S5.same hb).same hs
      walk_at "lk"
      refine snw (Nat.le_of_ble_eq_true rfl) fun g6 hg6 => ?_
      have s10 : Same H' (upd H' g6 (.lst [.non])) := same_new hg6
      have e10 : (upd H' g6 (.lst [.non])) g6 = some (.lst [.non]) := upd_same
      generalize upd H' g6 (.lst [.non]) = H10 at s10 e10 ⊢
      walk_at "lk"
      refine ⟨g6, _, [.non], rfl, rfl, e10, by omega, by omega, Nat.le_of_lt (small1000 (by show 1 * _ ≤ 1000; omega)), fun g7 hg7 => ?_⟩
      rw [Int.toNat_natCast, List.flatten_replicate_singleton]
      have s11 := s10.trans (same_new (o := .lst (List.replicate m V.non)) hg7)
      have e11 : (upd H10 g7 (.lst (List.replicate m V.non))) g7 = some (.lst (List.replicate m V.non)) := upd_same
      generalize upd H10 g7 (.lst (List.replicate m V.non)) = H11 at s11 e11 ⊢
      walk_at "lk"
      refine ⟨_, _, _, _, rfl, .inl ⟨_, _, head_s k1 k2 e11 (by rw [List.length_replicate]; exact m1) (by rw [List.length_replicate]; omega) (by rw [List.length_replicate]; exact hcm) bct (s11 _ _ SA.ec) (hv.same s11), fun a Hr sr er => ?_⟩⟩
      walk_at "lk"
      refine snw (Nat.le_of_ble_eq_true rfl) fun b0 hb0 => ?_
      walk_at "lk"
      refine s_neT cl_s (same_new hb0 _ _ er) upd_same ?_
      walk_at "lk"
      refine iff_ rfl ?_
      refine snx ?_
      exact ⟨⟨_, rfl⟩, (hs.trans s11).trans (sr.trans (same_new hb0))⟩
    
    have S6 := S5.same sL
    clear S5 sL
    dsimp only
    refine s_lit [some (.ref p), some (.int (k : Int)), some (.int (m : Int)), some (.ref l), some (.ref RL), some (.ref CL), some (.ref D), some (.ref st), e, some (.int (i : Int)), none, none, none, none, none, none] rfl ?_
    refine ssq ?_
    refine sfor ?_
    refine ⟨4, rfl, by decide, by decide, ?_⟩
    refine for_range (n := 4) (fun i σ' H' => (∃ a9 a10 a11 a12 a13 a14, σ' = [some (.ref p), some (.int (k : Int)), some (.int (m : Int)), some (.ref l), some (.ref RL), some (.ref CL), some (.ref D), some (.ref st), e, a9, a10, a11, a12, a13, a14, none]) ∧ Wk p HL H') ⟨⟨_, _, _, _, _, _, rfl⟩, Wk.refl S6.w.2⟩ ?_ ?_
    · clear hi i r00 r01
      rintro j σ' H' hj ⟨⟨a9, a10, a11, a12, a13, a14, rfl⟩, wk⟩
      refine sgn ?_
      refine ssq ?_
      walk_at "lk"
      refine ⟨p, (m : Int), rfl, by omega, Nat.lt_of_le_of_lt (show ((m : Nat) : Int).natAbs ≤ 9 by omega) (by decide), wk.2, fun r0 H1 r00 r01 w1' => ?_⟩
      obtain ⟨i, rfl⟩ : ∃ i : Nat, r0 = (i : Int) := ⟨r0.toNat, by omega⟩
      have hi : i < m := by omega
      have wk1 := wk.trans w1'
      have SA := S6.wk wk1 nCL nD
      obtain ⟨v, hvi⟩ : ∃ v, vs[i]? = some v := ⟨vs[i]'(by omega), List.getElem?_eq_getElem (by omega)⟩
      obtain ⟨r, hri⟩ : ∃ r, crs[i]? = some r := ⟨crs[i]'(by omega), List.getElem?_eq_getElem (by omega)⟩
      obtain ⟨v', hv', hrv⟩ := SA.fr.get hri
      obtain rfl : v' = v := Option.some.inj (hv'.symm.trans hvi)
      walk_at "lk"
      refine sfr (SqL.of SA.ed) (Lk.atI_nat hvi) ?_
      walk_at "lk"
      refine ⟨p, CL, i, v', cts, r, rfl, SA.w.2, nCL, SA.ec, by omega, by omega, bct, hrv, hok.ok i r hri, hsy6 r (List.mem_of_getElem? hri), fun u w0 part ix H3 w3' hu hbad => ?_⟩
      have wk3 := wk1.trans w3'
      have SB := S6.wk wk3 nCL nD
      refine g_trip (SqT.of hu) ?_
      dsimp only
      clear SA hrv w1' w3' wk1 hu
      refine s_lit [some (.ref p), some (.int (k : Int)), some (.int (m : Int)), some (.ref l), some (.ref RL), some (.ref CL), some (.ref D), some (.ref st), e, some (.int (i : Int)), some (.int (0 + (j : Int))), some w0, some (.str part), some (.int ix), a14, none] rfl ?_
      refine ssq ?_
      walk_at "lk"
      refine ⟨D, vs, rfl, SqL.of SB.ed, fun f1 hf1 => ?_⟩
      rw [cut_takeLe (by omega)]
      have s1 : Same H3 (upd H3 f1 (.lst (vs.take i))) := same_new hf1
      have e1 : (upd H3 f1 (.lst (vs.take i))) f1 = some (.lst (vs.take i)) := upd_same
      generalize upd H3 f1 (.lst (vs.take i)) = H2 at s1 e1 ⊢
      walk_at "lk"
      refine snw (Nat.le_of_ble_eq_true rfl) fun g1 hg1 => ?_
      have s4 : Same H2 (upd H2 g1 (.lst [w0])) := same_new hg1
      have e4 : (upd H2 g1 (.lst [w0])) g1 = some (.lst [w0]) := upd_same
      generalize upd H2 g1 (.lst [w0]) = H4' at s4 e4 ⊢
      refine ⟨f1, g1, _, _, rfl, rfl, s4 _ _ e1, e4, Nat.le_of_lt (small1000 (by rw [List.length_take]; show min i vs.length + 1 ≤ 1000; omega)), fun g2 hg2 => ?_⟩
      have s5 := (s1.trans s4).trans (same_new (o := .lst (vs.take i ++ [w0])) hg2)
      have e5 : (upd H4' g2 (.lst (vs.take i ++ [w0]))) g2 = some (.lst (vs.take i ++ [w0])) := upd_same
      generalize upd H4' g2 (.lst (vs.take i ++ [w0])) = H5 at s5 e5 ⊢
      walk_at "lk"
      refine snw (Nat.le_of_ble_eq_true rfl) fun g6 hg6 => ?_
      have s6 : Same H5 (upd H5 g6 (.lst [.non])) := same_new hg6
      have e6 : (upd H5 g6 (.lst [.non])) g6 = some (.lst [.non]) := upd_same
      generalize upd H5 g6 (.lst [.non]) = H6 at s6 e6 ⊢
      walk_at "lk"
      refine ⟨g6, _, [.non], rfl, rfl, e6, by omega, by omega, Nat.le_of_lt (small1000 (by show 1 * _ ≤ 1000; omega)), fun g7 hg7 => ?_⟩
      rw [show ((m : Int) - (i : Int) - 1).toNat = m - i - 1 by omega, List.flatten_replicate_singleton]
      have s7 := s6.trans (same_new (o := .lst (List.replicate (m - i - 1) V.non)) hg7)
      have e7 : (upd H6 g7 (.lst (List.replicate (m - i - 1) V.non))) g7 = some (.lst (List.replicate (m - i - 1) V.non)) := upd_same
      generalize upd H6 g7 (.lst (List.replicate (m - i - 1) V.non)) = H7 at s7 e7 ⊢
      refine ⟨g2, g7, _, _, rfl, rfl, s7 _ _ e5, e7, Nat.le_of_lt (small1000 (by rw [List.length_append, List.length_take, List.length_replicate]; show min i vs.length + 1 + (m - i - 1) ≤ 1000; omega)), fun g8 hg8 => ?_⟩
      have s8 := (s5.trans s7).trans (same_new (o := .lst (vs.take i ++ [w0] ++ List.replicate (m - i - 1) V.non)) hg8)
      have e8 : (upd H7 g8 (.lst (vs.take i ++ [w0] ++ List.replicate (m - i - 1) V.non))) g8 = some (.lst (vs.take i ++ [w0] ++ List.replicate (m - i - 1) V.non)) := upd_same
      generalize upd H7 g8 (.lst (vs.take i ++ [w0] ++ List.replicate (m - i - 1) V.non)) = H8 at s8 e8 ⊢
      have SC := SB.same s8
      have hbad := hbad.same s8
      have hcl2 := hbad.cl
      clear SB s1 e1 s4 e4 s5 e5 s6 e6 s7 e7 hf1 hg1 hg2 hg6 hg7 hg8
      refine sgn ?_
      dsimp only
      refine s_lit [some (.ref p), some (.int (k : Int)), some (.int (m : Int)), some (.ref l), some (.ref RL), some (.ref CL), some (.ref D), some (.ref st), e, some (.int (i : Int)), some (.int (0 + (j : Int))), some w0, some (.str part), some (.int ix), some (.ref g8), none] rfl ?_
      refine ssq ?_
      walk_at "lk"
      refine ⟨_, _, _, _, rfl, init_bad SC hok k1 k2 (.inl (SqL.of SC.ec)) (.inl (SqL.of e8)) (by omega) (by omega) (by omega) hbad fun a Hr sr er => ?_⟩
      walk_at "lk"
      refine snw (Nat.le_of_ble_eq_true rfl) fun b0 hb0 => ?_
      walk_at "lk"
      refine s_neT hcl2 (same_new hb0 _ _ er) upd_same ?_
      walk_at "lk"
      refine iff_ rfl ?_
      refine snx ?_
      dsimp only
      have s9 : Same H8 (upd Hr b0 (.tup [.int (i : Int), .str part, .int ix])) := sr.trans (same_new hb0)
      generalize upd Hr b0 (.tup [.int (i : Int), .str part, .int ix]) = H9 at s9 ⊢
      clear sr er hb0 a b0
      have SD := SC.same s9
      walk_at "lk"
      refine s_tupE (.inl (SqL.of SD.ec)) fun t1 H10 s10 h10 => ?_
      walk_at "lk"
      refine s_tupE (.inl (SqL.of (s10 _ _ (s9 _ _ e8)))) fun t2 H11 s11 h11 => ?_
      walk_at "lk"
      have s12 := s10.trans s11
      refine ⟨_, _, _, _, rfl, init_bad (SD.same s12) hok k1 k2 (.inr (same_sqT s11 h10)) (.inr h11) (by omega) (by omega) (by omega) (hbad.same (s9.trans s12)) fun a Hr sr er => ?_⟩
      walk_at "lk"
      refine snw (Nat.le_of_ble_eq_true rfl) fun b0 hb0 => ?_
      walk_at "lk"
      refine s_neT hcl2 (same_new hb0 _ _ er) upd_same ?_
      walk_at "lk"
      refine iff_ rfl ?_
      refine snx ?_
      exact ⟨⟨_, _, _, _, _, _, rfl⟩, wk3.st (s8.trans (s9.trans (s12.trans (sr.trans (same_new hb0)))))⟩
    · rintro σ' H' ⟨⟨a9, a10, a11, a12, a13, a14, rfl⟩, wk⟩
      have S7 := S6.wk wk nCL nD
      dsimp only
      refine ssq ?_
      walk_at "lk"
      refine snw (Nat.le_of_ble_eq_true rfl) fun q1 hq1 => ?_
      have sq1 : Same H' (upd H' q1 (.lst [.int 64])) := same_new hq1
      have eq1 : (upd H' q1 (.lst [.int 64])) q1 = some (.lst [.int 64]) := upd_same
      generalize upd H' q1 (.lst [.int 64]) = Hq1 at sq1 eq1 ⊢
      walk_at "lk"
      refine snw (Nat.le_of_ble_eq_true rfl) fun b1 hb1 => ?_
      have sb1 : Same Hq1 (upd Hq1 b1 (.tup [])) := same_new hb1
      have eb1 : (upd Hq1 b1 (.tup [])) b1 = some (.tup []) := upd_same
      generalize upd Hq1 b1 (.tup []) = Hb1 at sb1 eb1 ⊢
      walk_at "lk"
      refine snw (Nat.le_of_ble_eq_true rfl) fun b2 hb2 => ?_
      have sb2 : Same Hb1 (upd Hb1 b2 (.tup [])) := same_new hb2
      have eb2 : (upd Hb1 b2 (.tup [])) b2 = some (.tup []) := upd_same
      generalize upd Hb1 b2 (.tup []) = Hb2 at sb2 eb2 ⊢
      walk_at "lk"
      refine snw (Nat.le_of_ble_eq_true rfl) fun b3 hb3 => ?_
      have sb3 : Same Hb2 (upd Hb2 b3 (.tup [])) := same_new hb3
      have eb3 : (upd Hb2 b3 (.tup [])) b3 = some (.tup []) := upd_same
      generalize upd Hb2 b3 (.tup []) = Hb3 at sb3 eb3 ⊢
      walk_at "lk"
      refine snw (Nat.le_of_ble_eq_true rfl) fun b4 hb4 => ?_
      have sb4 : Same Hb3 (upd Hb3 b4 (.tup [.str "stop", .ref b1, .ref b2, .ref b3])) := same_new hb4
      have eb4 : (upd Hb3 b4 (.tup [.str "stop", .ref b1, .ref b2, .ref b3])) b4 = some (.tup [.str "stop", .ref b1, .ref b2, .ref b3]) := upd_same
      generalize upd Hb3 b4 (.tup [.str "stop", .ref b1, .ref b2, .ref b3]) = Hb4 at sb4 eb4 ⊢
      walk_at "lk"
      refine snw (Nat.le_of_ble_eq_true rfl) fun b5 hb5 => ?_
      have sb5 : Same Hb4 (upd Hb4 b5 (.lst [.ref b4])) := same_new hb5
      have eb5 : (upd Hb4 b5 (.lst [.ref b4])) b5 = some (.lst [.ref b4]) := upd_same
      generalize upd Hb4 b5 (.lst [.ref b4]) = Hb5 at sb5 eb5 ⊢
      walk_at "lk"
      refine snw (Nat.le_of_ble_eq_true rfl) fun b6 hb6 => ?_
      have sb6 : Same Hb5 (upd Hb5 b6 (.tup [.int 1])) := same_new hb6
      have eb6 : (upd Hb5 b6 (.tup [.int 1])) b6 = some (.tup [.int 1]) := upd_same
      generalize upd Hb5 b6 (.tup [.int 1]) = Hb6 at sb6 eb6 ⊢
      walk_at "lk"
      refine s_repX (n := 64) eb6 (by decide) (by decide) fun b7 H9 s9 e9 => ?_
      walk_at "lk"
      have t5 := sb5.trans (sb6.trans s9)
      have t4 := sb4.trans t5
      have t3 := sb3.trans t4
      have t2 := sb2.trans t3
      have t1 := sb1.trans t2
      have row : CRowH H9 (.ref b4) ⟨"stop", [], [], []⟩ := ⟨b4, .ref b1, .ref b2, .ref b3, rfl, t5 _ _ eb4, ⟨b1, rfl, t2 _ _ eb1⟩, ⟨b2, [], rfl, t3 _ _ eb2, .nil⟩, ⟨b3, [], rfl, t4 _ _ eb3, .nil⟩⟩
      refine ⟨_, _, _, _, rfl, .inr ⟨1, q1, b5, b7, [64], [.ref b4], List.replicate 64 1, rfl, rfl, rfl, rfl, by decide, by decide, .inl (SqL.of (t1 _ _ eq1)), .inl (SqL.of ((sb6.trans s9) _ _ eb5)), rfl, Nat.le_of_ble_eq_true rfl, Nat.le_of_ble_eq_true rfl, fun c hc => by rw [List.mem_singleton.mp hc]; decide, SqT.of (by rw [e9, List.map_replicate]), rfl, .inr ⟨[⟨"stop", [], [], []⟩], .cons row .nil, stop_ok 64 _ (by decide) (by decide) rfl, fun H10 s10 => ?_⟩⟩⟩
      walk_at "lk"
      refine ⟨rfl, ?_⟩
      walk_at "lk"
      refine iff_ rfl ?_
      have S8 := S7.same ((sq1.trans t1).trans s10)
      walk_at "lk"
      refine ⟨_, _, _, _, rfl, init_good S8 hok k1 k2 fun H11 s11 => ?_⟩
      walk_at "lk"
      refine ⟨rfl, ?_⟩
      walk_at "lk"
      exact q _ (S8.w.st s11)
end
end K41

namespace K41
open PySem PySem.Spec PyProof.Rows L2 RZ Lk
local macro_rules | `(tactic| walk_at "lk") => `(tactic| (repeat (first
  | with_reducible refine ssq ?_ | with_reducible refine sas ?_ | with_reducible refine sgn ?_ | ((with_reducible show tVar _ _ _ _); refine sv rfl ?_) | with_reducible refine sc ?_ | with_reducible refine sop ?_ | with_reducible refine sun ?_
  | with_reducible refine sI0 ?_ | with_reducible refine sU ?_ | with_reducible refine stt ?_ | with_reducible refine stB ?_ | with_reducible refine sbl ?_ | with_reducible refine snt ?_ | with_reducible refine sif ?_ | with_reducible refine scB ?_
  | with_reducible refine scn ?_ | with_reducible refine snl ?_ | with_reducible refine scl ?_ | with_reducible refine stu ?_ | with_reducible refine sli ?_ | with_reducible refine sdr ?_ | with_reducible refine srt ?_ | with_reducible refine snx ?_ | with_reducible refine sfor ?_ | with_reducible refine sils ?_ | with_reducible refine sien ?_ | with_reducible refine sor ?_ | with_reducible refine sfg ?_
  | with_reducible refine sav ?_ | with_reducible refine sov ?_ | with_reducible refine snv ?_ | with_reducible refine sch ?_ | with_reducible refine san ?_ | with_reducible refine ssll ?_ | with_reducible refine spt ?_ | with_reducible refine snp ?_ | with_reducible refine sin ?_ | with_reducible refine sfl ?_ | with_reducible refine sfd ?_ | with_reducible refine sbm ?_ | with_reducible refine sifx ?_ | with_reducible refine smk ?_ | with_reducible refine ssli ?_ | with_reducible refine sbz ?_
  | ((with_reducible show Or _ _); first | refine Or.inl ⟨_, rfl, ?_⟩ | refine Or.inr ⟨_, rfl, ?_⟩))))

def spLaw (K : PySem.W.Frag) : Sp := fun vs H Q _ => ∃ (a : Addr) (ns : List Int), vs = [.ref a] ∧ SqL K H a (ns.map V.int) ∧ ns.length ≤ 63 ∧ ∀ H', Q (.bl true) H'

section
variable {P : Program} {w : World} {K : PySem.W.Frag} {mg : Str → Option Value} {base : Heap} {A : Ad}
abbrev s_law : Stmt := top 37
theorem sc_law : FnScope ["_law_script", "_law_k", "_law_cell", "_law_well"] ["_law_script"] (defScope s_law) := ⟨rfl, rfl, rfl, by decide +kernel, rfl, by decide +kernel, by decide +kernel⟩
theorem ok_law {f : Addr} {fd : FuncData} (F : Fun K "law" "law" s_law f fd) (T : Txt P w K mg base A) (c__law_right : Cal P w K mg base 10 "_law_right" ["_law_well"] spRight) : FnOk P w K mg base CX0 11 f fd ["_law_script"] (spLaw K) := by
  refine F.ok sc_law (fun vs H Q E h => ?_) (fun cdv Ar outer s H vs Q E hr h => ?_)
  · obtain ⟨a, ns, rfl, _⟩ := h
    rfl
  · obtain ⟨a, ns, rfl, hS, hlen, k⟩ := h
    refine ⟨_, (pss_cons (ps_for PassesOwn.never rfl (pi_enum (by rfl) T.z_enumerate (pa_cons (pe_slice sl_list (pe_op op_catL (pv 0) (pe_lst (pa_cons pe_int pa_nil))) po_none (po_some pe_int)) pa_nil)) (pg_tup rfl (pgs_cons (pg_name (i := 1) sc_law.nd rfl (Or.inl rfl)) (pgs_cons (pg_name (i := 2) sc_law.nd rfl (Or.inl rfl)) pgs_nil))) (pss_cons (ps_set (i := 3) sc_law.nd rfl (Or.inl rfl) (pe_lst (pa_cons (pe_op op_mul (pv 2) (pe_callTy call_int1 (by rfl) T.z_int (by decide +kernel) (pa_cons (pe_cmpR op_ge (pv 2) (pe_op op_pow pe_int pe_int) (nomark _)) pa_nil))) (pa_cons (pe_op op_add (pe_op op_mod (pe_callTy call_int1 (by rfl) T.z_int (by decide +kernel) (pa_cons (pv 2) pa_nil)) pe_int) (pe_op op_mul pe_int (pv 1))) (pa_cons pe_int pa_nil)))))
        (pss_one (ps_if (pt_not (pt_val (pcal c__law_right hr (by decide) (pa_cons (pv 3) pa_nil)))) (pss_one (ps_ret pe_bl)) pss_nil))))
        (pss_one (ps_ret pe_bl))), ?_⟩
    walk_at "lk"
    refine snw (Nat.le_of_ble_eq_true rfl) fun z hz => ?_
    refine ⟨a, z, _, _, rfl, rfl, (same_new hz).seq hS, upd_same, Nat.le_of_lt (small1000 (by rw [List.length_map]; show ns.length + 1 ≤ 1000; omega)), fun l1 hl1 => ?_⟩
    walk_at "lk"
    refine ⟨l1, _, rfl, SqL.of upd_same, fun l2 hl2 => ?_⟩
    have ois : ∀ y ∈ cutV (ns.map V.int ++ [V.int 0]) none (some 4), ∃ n, y = V.int n := fun y hy => by
      have h1 : y ∈ ns.map V.int ++ [V.int 0] := List.mem_of_mem_drop (List.mem_of_mem_take hy)
      rcases List.mem_append.mp h1 with h2 | h2
      · obtain ⟨n, _, rfl⟩ := List.mem_map.mp h2
        exact ⟨n, rfl⟩
      · exact ⟨0, List.mem_singleton.mp h2⟩
    generalize cutV (ns.map V.int ++ [V.int 0]) none (some 4) = xs at ois ⊢
    walk_at "lk"
    refine ⟨l2, xs, rfl, SqL.of upd_same, ?_⟩
    generalize hHL : upd (upd (upd H z (.lst [.int 0])) l1 (.lst (ns.map V.int ++ [V.int 0]))) l2 (.lst xs) = HL
    have e2 : HL l2 = some (.lst xs) := by rw [← hHL, upd_same]
    refine en_by (fun i σ H' => (∃ e1 e2 e3, σ = [some (.ref a), e1, e2, e3]) ∧ Same HL H') ⟨⟨_, _, _, rfl⟩, Same.refl _⟩ (fun i σ H' _ h => SqL.of (h.2 _ _ e2)) ?_ ?_
    · rintro i y p σ H1 hi ⟨⟨u1, u2, u3, rfl⟩, s1⟩ hp
      obtain ⟨n, rfl⟩ := ois y (List.mem_of_getElem? hi)
      refine g_pair (SqT.of upd_same) ?_
      have s2 : Same HL (upd H1 p (.tup [.int (i : Nat), .int n])) := s1.trans (same_new hp)
      generalize upd H1 p (.tup [.int (i : Nat), .int n]) = H2 at s2 ⊢
      walk_at "lk"
      refine sI ⟨by decide, by decide, by decide⟩ ?_
      walk_at "lk"
      refine sI (.inr ⟨by split <;> decide, by split <;> decide⟩) ?_
      walk_at "lk"
      refine sI (by decide) ?_
      walk_at "lk"
      refine sI (.inl ⟨by decide, by decide⟩) ?_
      walk_at "lk"
      refine snw (Nat.le_of_ble_eq_true rfl) fun q hq => ?_
      walk_at "lk"
      refine ⟨q, rfl, ⟨_, _, _, upd_same⟩, fun H3 fr => ?_⟩
      walk_at "lk"
      refine iteF ?_
      walk_at "lk"
      refine ⟨⟨_, _, _, rfl⟩, fun b o e => fr.1 b o ?_ ?_⟩
      · exact ne_of_none (s2 b o e) hq
      · exact same_new hq _ _ (s2 b o e)
    · rintro σ H1 ⟨⟨u1, u2, u3, rfl⟩, s1⟩
      walk_at "lk"
      exact k _
end
end K41

namespace K41
open PySem PySem.Spec PyProof.Rows L2 Lk
theorem all_mk {P : PySem.Program} {w : World} {K : PySem.W.Frag} {h : Heap} {mg : Str → Option Value} {fa : Addr} {A : Ad} (X : K.In h) (G0 : h.Ns mainGlobals mg) (hfa : mg "law" = some (.ref fa)) (TT : ∀ base, Txt P w K mg base A)
    {f0 : Addr} {od0 an0 : Option Addr} {sl0 : Array (Option Value)} {oc0 kV0 dc0 pm0 cd0 ct0 : Value} (a0 : PySem.W.nsIn K mainGlobals "is_integer" = some (some (.ref f0))) (l0 : K.lookup f0 = some ⟨oc0, od0, .func (PySem.W.fnOf "is_integer" "is_integer" (defArgs s_is_integer) (defBody s_is_integer) (defScope s_is_integer) .none kV0 dc0 pm0 an0 cd0 ct0), sl0⟩) (c0 : PySem.W.codeIn K cd0 "is_integer" = true) (k0 : PySem.W.keepIn K (.ref f0) = true)
    {f1 : Addr} {od1 an1 : Option Addr} {sl1 : Array (Option Value)} {oc1 kV1 dc1 pm1 cd1 ct1 : Value} (a1 : PySem.W.nsIn K mainGlobals "is_within" = some (some (.ref f1))) (l1 : K.lookup f1 = some ⟨oc1, od1, .func (PySem.W.fnOf "is_within" "is_within" (defArgs s_is_within) (defBody s_is_within) (defScope s_is_within) .none kV1 dc1 pm1 an1 cd1 ct1), sl1⟩) (c1 : PySem.W.codeIn K cd1 "is_within" = true) (k1 : PySem.W.keepIn K (.ref f1) = true)
    {f2 : Addr} {od2 an2 : Option Addr} {sl2 : Array (Option Value)} {oc2 kV2 dc2 pm2 cd2 ct2 : Value} (a2 : PySem.W.nsIn K mainGlobals "is_width" = some (some (.ref f2))) (l2 : K.lookup f2 = some ⟨oc2, od2, .func (PySem.W.fnOf "is_width" "is_width" (defArgs s_is_width) (defBody s_is_width) (defScope s_is_width) .none kV2 dc2 pm2 an2 cd2 ct2), sl2⟩) (c2 : PySem.W.codeIn K cd2 "is_width" = true) (k2 : PySem.W.keepIn K (.ref f2) = true)
    {f3 : Addr} {od3 an3 : Option Addr} {sl3 : Array (Option Value)} {oc3 kV3 dc3 pm3 cd3 ct3 : Value} (a3 : PySem.W.nsIn K mainGlobals "is_sequence" = some (some (.ref f3))) (l3 : K.lookup f3 = some ⟨oc3, od3, .func (PySem.W.fnOf "is_sequence" "is_sequence" (defArgs s_is_sequence) (defBody s_is_sequence) (defScope s_is_sequence) .none kV3 dc3 pm3 an3 cd3 ct3), sl3⟩) (c3 : PySem.W.codeIn K cd3 "is_sequence" = true) (k3 : PySem.W.keepIn K (.ref f3) = true)
    {f4 : Addr} {od4 an4 : Option Addr} {sl4 : Array (Option Value)} {oc4 kV4 dc4 pm4 cd4 ct4 : Value} (a4 : PySem.W.nsIn K mainGlobals "are_integers" = some (some (.ref f4))) (l4 : K.lookup f4 = some ⟨oc4, od4, .func (PySem.W.fnOf "are_integers" "are_integers" (defArgs s_are_integers) (defBody s_are_integers) (defScope s_are_integers) .none kV4 dc4 pm4 an4 cd4 ct4), sl4⟩) (c4 : PySem.W.codeIn K cd4 "are_integers" = true) (k4 : PySem.W.keepIn K (.ref f4) = true)
    {f5 : Addr} {od5 an5 : Option Addr} {sl5 : Array (Option Value)} {oc5 kV5 dc5 pm5 cd5 ct5 : Value} (a5 : PySem.W.nsIn K mainGlobals "wrong_integer" = some (some (.ref f5))) (l5 : K.lookup f5 = some ⟨oc5, od5, .func (PySem.W.fnOf "wrong_integer" "wrong_integer" (defArgs s_wrong_integer) (defBody s_wrong_integer) (defScope s_wrong_integer) .none kV5 dc5 pm5 an5 cd5 ct5), sl5⟩) (c5 : PySem.W.codeIn K cd5 "wrong_integer" = true) (k5 : PySem.W.keepIn K (.ref f5) = true)
    {f6 : Addr} {od6 an6 : Option Addr} {sl6 : Array (Option Value)} {oc6 kV6 dc6 pm6 cd6 ct6 : Value} (a6 : PySem.W.nsIn K mainGlobals "is_form" = some (some (.ref f6))) (l6 : K.lookup f6 = some ⟨oc6, od6, .func (PySem.W.fnOf "is_form" "is_form" (defArgs s_is_form) (defBody s_is_form) (defScope s_is_form) .none kV6 dc6 pm6 an6 cd6 ct6), sl6⟩) (c6 : PySem.W.codeIn K cd6 "is_form" = true) (k6 : PySem.W.keepIn K (.ref f6) = true)
    {f7 : Addr} {od7 an7 : Option Addr} {sl7 : Array (Option Value)} {oc7 kV7 dc7 pm7 cd7 ct7 : Value} (a7 : PySem.W.nsIn K mainGlobals "lowered" = some (some (.ref f7))) (l7 : K.lookup f7 = some ⟨oc7, od7, .func (PySem.W.fnOf "lowered" "lowered" (defArgs s_lowered) (defBody s_lowered) (defScope s_lowered) .none kV7 dc7 pm7 an7 cd7 ct7), sl7⟩) (c7 : PySem.W.codeIn K cd7 "lowered" = true) (k7 : PySem.W.keepIn K (.ref f7) = true)
    {f8 : Addr} {od8 an8 : Option Addr} {sl8 : Array (Option Value)} {oc8 kV8 dc8 pm8 cd8 ct8 : Value} (a8 : PySem.W.nsIn K mainGlobals "_check_head" = some (some (.ref f8))) (l8 : K.lookup f8 = some ⟨oc8, od8, .func (PySem.W.fnOf "_check_head" "_check_head" (defArgs s__check_head) (defBody s__check_head) (defScope s__check_head) .none kV8 dc8 pm8 an8 cd8 ct8), sl8⟩) (c8 : PySem.W.codeIn K cd8 "_check_head" = true) (k8 : PySem.W.keepIn K (.ref f8) = true)
    {f9 : Addr} {od9 an9 : Option Addr} {sl9 : Array (Option Value)} {oc9 kV9 dc9 pm9 cd9 ct9 : Value} (a9 : PySem.W.nsIn K mainGlobals "_check_nexts" = some (some (.ref f9))) (l9 : K.lookup f9 = some ⟨oc9, od9, .func (PySem.W.fnOf "_check_nexts" "_check_nexts" (defArgs s__check_nexts) (defBody s__check_nexts) (defScope s__check_nexts) .none kV9 dc9 pm9 an9 cd9 ct9), sl9⟩) (c9 : PySem.W.codeIn K cd9 "_check_nexts" = true) (k9 : PySem.W.keepIn K (.ref f9) = true)
    {f10 : Addr} {od10 an10 : Option Addr} {sl10 : Array (Option Value)} {oc10 kV10 dc10 pm10 cd10 ct10 : Value} (a10 : PySem.W.nsIn K mainGlobals "_check_says" = some (some (.ref f10))) (l10 : K.lookup f10 = some ⟨oc10, od10, .func (PySem.W.fnOf "_check_says" "_check_says" (defArgs s__check_says) (defBody s__check_says) (defScope s__check_says) .none kV10 dc10 pm10 an10 cd10 ct10), sl10⟩) (c10 : PySem.W.codeIn K cd10 "_check_says" = true) (k10 : PySem.W.keepIn K (.ref f10) = true)
    {f11 : Addr} {od11 an11 : Option Addr} {sl11 : Array (Option Value)} {oc11 kV11 dc11 pm11 cd11 ct11 : Value} (a11 : PySem.W.nsIn K mainGlobals "are_forms" = some (some (.ref f11))) (l11 : K.lookup f11 = some ⟨oc11, od11, .func (PySem.W.fnOf "are_forms" "are_forms" (defArgs s_are_forms) (defBody s_are_forms) (defScope s_are_forms) .none kV11 dc11 pm11 an11 cd11 ct11), sl11⟩) (c11 : PySem.W.codeIn K cd11 "are_forms" = true) (k11 : PySem.W.keepIn K (.ref f11) = true)
    {f12 : Addr} {od12 an12 : Option Addr} {sl12 : Array (Option Value)} {oc12 kV12 dc12 pm12 cd12 ct12 : Value} (a12 : PySem.W.nsIn K mainGlobals "_check_changes" = some (some (.ref f12))) (l12 : K.lookup f12 = some ⟨oc12, od12, .func (PySem.W.fnOf "_check_changes" "_check_changes" (defArgs s__check_changes) (defBody s__check_changes) (defScope s__check_changes) .none kV12 dc12 pm12 an12 cd12 ct12), sl12⟩) (c12 : PySem.W.codeIn K cd12 "_check_changes" = true) (k12 : PySem.W.keepIn K (.ref f12) = true)
    {f13 : Addr} {od13 an13 : Option Addr} {sl13 : Array (Option Value)} {oc13 kV13 dc13 pm13 cd13 ct13 : Value} (a13 : PySem.W.nsIn K mainGlobals "_check_row" = some (some (.ref f13))) (l13 : K.lookup f13 = some ⟨oc13, od13, .func (PySem.W.fnOf "_check_row" "_check_row" (defArgs s__check_row) (defBody s__check_row) (defScope s__check_row) .none kV13 dc13 pm13 an13 cd13 ct13), sl13⟩) (c13 : PySem.W.codeIn K cd13 "_check_row" = true) (k13 : PySem.W.keepIn K (.ref f13) = true)
    {f14 : Addr} {od14 an14 : Option Addr} {sl14 : Array (Option Value)} {oc14 kV14 dc14 pm14 cd14 ct14 : Value} (a14 : PySem.W.nsIn K mainGlobals "_lowered_row" = some (some (.ref f14))) (l14 : K.lookup f14 = some ⟨oc14, od14, .func (PySem.W.fnOf "_lowered_row" "_lowered_row" (defArgs s__lowered_row) (defBody s__lowered_row) (defScope s__lowered_row) .none kV14 dc14 pm14 an14 cd14 ct14), sl14⟩) (c14 : PySem.W.codeIn K cd14 "_lowered_row" = true) (k14 : PySem.W.keepIn K (.ref f14) = true)
    {f15 : Addr} {od15 an15 : Option Addr} {sl15 : Array (Option Value)} {oc15 kV15 dc15 pm15 cd15 ct15 : Value} (a15 : PySem.W.nsIn K mainGlobals "_law_draw" = some (some (.ref f15))) (l15 : K.lookup f15 = some ⟨oc15, od15, .func (PySem.W.fnOf "_law_draw" "_law_draw" (defArgs s__law_draw) (defBody s__law_draw) (defScope s__law_draw) .none kV15 dc15 pm15 an15 cd15 ct15), sl15⟩) (c15 : PySem.W.codeIn K cd15 "_law_draw" = true) (k15 : PySem.W.keepIn K (.ref f15) = true)
    {f16 : Addr} {od16 an16 : Option Addr} {sl16 : Array (Option Value)} {oc16 kV16 dc16 pm16 cd16 ct16 : Value} (a16 : PySem.W.nsIn K mainGlobals "_law_one" = some (some (.ref f16))) (l16 : K.lookup f16 = some ⟨oc16, od16, .func (PySem.W.fnOf "_law_one" "_law_one" (defArgs s__law_one) (defBody s__law_one) (defScope s__law_one) .none kV16 dc16 pm16 an16 cd16 ct16), sl16⟩) (c16 : PySem.W.codeIn K cd16 "_law_one" = true) (k16 : PySem.W.keepIn K (.ref f16) = true)
    {f17 : Addr} {od17 an17 : Option Addr} {sl17 : Array (Option Value)} {oc17 kV17 dc17 pm17 cd17 ct17 : Value} (a17 : PySem.W.nsIn K mainGlobals "_law_number" = some (some (.ref f17))) (l17 : K.lookup f17 = some ⟨oc17, od17, .func (PySem.W.fnOf "_law_number" "_law_number" (defArgs s__law_number) (defBody s__law_number) (defScope s__law_number) .none kV17 dc17 pm17 an17 cd17 ct17), sl17⟩) (c17 : PySem.W.codeIn K cd17 "_law_number" = true) (k17 : PySem.W.keepIn K (.ref f17) = true)
    {f18 : Addr} {od18 an18 : Option Addr} {sl18 : Array (Option Value)} {oc18 kV18 dc18 pm18 cd18 ct18 : Value} (a18 : PySem.W.nsIn K mainGlobals "_law_form" = some (some (.ref f18))) (l18 : K.lookup f18 = some ⟨oc18, od18, .func (PySem.W.fnOf "_law_form" "_law_form" (defArgs s__law_form) (defBody s__law_form) (defScope s__law_form) .none kV18 dc18 pm18 an18 cd18 ct18), sl18⟩) (c18 : PySem.W.codeIn K cd18 "_law_form" = true) (k18 : PySem.W.keepIn K (.ref f18) = true)
    {f19 : Addr} {od19 an19 : Option Addr} {sl19 : Array (Option Value)} {oc19 kV19 dc19 pm19 cd19 ct19 : Value} (a19 : PySem.W.nsIn K mainGlobals "_law_row" = some (some (.ref f19))) (l19 : K.lookup f19 = some ⟨oc19, od19, .func (PySem.W.fnOf "_law_row" "_law_row" (defArgs s__law_row) (defBody s__law_row) (defScope s__law_row) .none kV19 dc19 pm19 an19 cd19 ct19), sl19⟩) (c19 : PySem.W.codeIn K cd19 "_law_row" = true) (k19 : PySem.W.keepIn K (.ref f19) = true)
    {f20 : Addr} {od20 an20 : Option Addr} {sl20 : Array (Option Value)} {oc20 kV20 dc20 pm20 cd20 ct20 : Value} (a20 : PySem.W.nsIn K mainGlobals "_law_rows" = some (some (.ref f20))) (l20 : K.lookup f20 = some ⟨oc20, od20, .func (PySem.W.fnOf "_law_rows" "_law_rows" (defArgs s__law_rows) (defBody s__law_rows) (defScope s__law_rows) .none kV20 dc20 pm20 an20 cd20 ct20), sl20⟩) (c20 : PySem.W.codeIn K cd20 "_law_rows" = true) (k20 : PySem.W.keepIn K (.ref f20) = true)
    {f21 : Addr} {od21 an21 : Option Addr} {sl21 : Array (Option Value)} {oc21 kV21 dc21 pm21 cd21 ct21 : Value} (a21 : PySem.W.nsIn K mainGlobals "_law_drawn" = some (some (.ref f21))) (l21 : K.lookup f21 = some ⟨oc21, od21, .func (PySem.W.fnOf "_law_drawn" "_law_drawn" (defArgs s__law_drawn) (defBody s__law_drawn) (defScope s__law_drawn) .none kV21 dc21 pm21 an21 cd21 ct21), sl21⟩) (c21 : PySem.W.codeIn K cd21 "_law_drawn" = true) (k21 : PySem.W.keepIn K (.ref f21) = true)
    {f22 : Addr} {od22 an22 : Option Addr} {sl22 : Array (Option Value)} {oc22 kV22 dc22 pm22 cd22 ct22 : Value} (a22 : PySem.W.nsIn K mainGlobals "_law_raised" = some (some (.ref f22))) (l22 : K.lookup f22 = some ⟨oc22, od22, .func (PySem.W.fnOf "_law_raised" "_law_raised" (defArgs s__law_raised) (defBody s__law_raised) (defScope s__law_raised) .none kV22 dc22 pm22 an22 cd22 ct22), sl22⟩) (c22 : PySem.W.codeIn K cd22 "_law_raised" = true) (k22 : PySem.W.keepIn K (.ref f22) = true)
    {f23 : Addr} {od23 an23 : Option Addr} {sl23 : Array (Option Value)} {oc23 kV23 dc23 pm23 cd23 ct23 : Value} (a23 : PySem.W.nsIn K mainGlobals "_law_bad_forms" = some (some (.ref f23))) (l23 : K.lookup f23 = some ⟨oc23, od23, .func (PySem.W.fnOf "_law_bad_forms" "_law_bad_forms" (defArgs s__law_bad_forms) (defBody s__law_bad_forms) (defScope s__law_bad_forms) .none kV23 dc23 pm23 an23 cd23 ct23), sl23⟩) (c23 : PySem.W.codeIn K cd23 "_law_bad_forms" = true) (k23 : PySem.W.keepIn K (.ref f23) = true)
    {f24 : Addr} {od24 an24 : Option Addr} {sl24 : Array (Option Value)} {oc24 kV24 dc24 pm24 cd24 ct24 : Value} (a24 : PySem.W.nsIn K mainGlobals "_law_spoilt_row" = some (some (.ref f24))) (l24 : K.lookup f24 = some ⟨oc24, od24, .func (PySem.W.fnOf "_law_spoilt_row" "_law_spoilt_row" (defArgs s__law_spoilt_row) (defBody s__law_spoilt_row) (defScope s__law_spoilt_row) .none kV24 dc24 pm24 an24 cd24 ct24), sl24⟩) (c24 : PySem.W.codeIn K cd24 "_law_spoilt_row" = true) (k24 : PySem.W.keepIn K (.ref f24) = true)
    {f25 : Addr} {od25 an25 : Option Addr} {sl25 : Array (Option Value)} {oc25 kV25 dc25 pm25 cd25 ct25 : Value} (a25 : PySem.W.nsIn K mainGlobals "_law_right" = some (some (.ref f25))) (l25 : K.lookup f25 = some ⟨oc25, od25, .func (PySem.W.fnOf "_law_right" "_law_right" (defArgs s__law_right) (defBody s__law_right) (defScope s__law_right) .none kV25 dc25 pm25 an25 cd25 ct25), sl25⟩) (c25 : PySem.W.codeIn K cd25 "_law_right" = true) (k25 : PySem.W.keepIn K (.ref f25) = true)
    {f26 : Addr} {od26 an26 : Option Addr} {sl26 : Array (Option Value)} {oc26 kV26 dc26 pm26 cd26 ct26 : Value} (a26 : PySem.W.nsIn K mainGlobals "law" = some (some (.ref f26))) (l26 : K.lookup f26 = some ⟨oc26, od26, .func (PySem.W.fnOf "law" "law" (defArgs s_law) (defBody s_law) (defScope s_law) .none kV26 dc26 pm26 an26 cd26 ct26), sl26⟩) (c26 : PySem.W.codeIn K cd26 "law" = true) (k26 : PySem.W.keepIn K (.ref f26) = true)
    {fm0 : Addr} {odm0 anm0 : Option Addr} {slm0 : Array (Option Value)} {ocm0 kVm0 dcm0 pmm0 cdm0 ctm0 : Value} (am0 : PySem.W.findIn K (.ref A.Code) "__init__" = some (some (.ref fm0))) (tm0 : PySem.W.isFn K (.ref fm0) = true) (lm0 : K.lookup fm0 = some ⟨ocm0, odm0, .func (PySem.W.fnOf "__init__" "Code.__init__" (defArgs s_Code___init__) (defBody s_Code___init__) (defScope s_Code___init__) .none kVm0 dcm0 pmm0 anm0 cdm0 ctm0), slm0⟩) (cm0 : PySem.W.codeIn K cdm0 "Code.__init__" = true) (km0 : PySem.W.keepIn K (.ref fm0) = true)
    (pm : PySem.W.makesIn K A.Code = true) (pk : PySem.W.keepIn K (.ref A.Code) = true)
    : ∃ fd : FuncData, (∀ (s : Shared) (v : Value), BindsTo s fd ⟨[v], []⟩ [("_law_script", v)]) ∧ ∀ base : Heap, K.In base → base.Ns mainGlobals mg → FnOk P w K mg base CX0 11 fa fd ["_law_script"] (spLaw K) := by
  have e := hfa.symm.trans (PySem.W.mg_of X G0 a26)
  cases e
  refine ⟨PySem.W.fnOf "law" "law" (defArgs s_law) (defBody s_law) (defScope s_law) .none kV26 dc26 pm26 an26 cd26 ct26, fun s v => .of_eq rfl, fun base _ _ => ?_⟩
  have T := TT base
  have F0 := fun_mk (st := s_is_integer) l0 c0 k0
  have b0 := F0.binds (ps := ["value"]) fun _ _ _ _ _ _ us hl => match us, hl with | [_], _ => rfl
  have c_is_integer : Cal P w K mg base 1 "is_integer" ["value"] (spIsInt K) := ⟨_, _, PySem.W.mg_of X G0 a0, k0, b0, ok_is_integer F0 T⟩
  have F1 := fun_mk (st := s_is_within) l1 c1 k1
  have b1 := F1.binds (ps := ["value", "least", "most"]) fun _ _ _ _ _ _ us hl => match us, hl with | [_, _, _], _ => rfl
  have c_is_within : Cal P w K mg base 2 "is_within" ["value", "least", "most"] (spWithin K) := ⟨_, _, PySem.W.mg_of X G0 a1, k1, b1, ok_is_within F1 T c_is_integer⟩
  have F2 := fun_mk (st := s_is_width) l2 c2 k2
  have b2 := F2.binds (ps := ["value"]) fun _ _ _ _ _ _ us hl => match us, hl with | [_], _ => rfl
  have c_is_width : Cal P w K mg base 3 "is_width" ["value"] (spWidth K) := ⟨_, _, PySem.W.mg_of X G0 a2, k2, b2, ok_is_width F2 T c_is_within⟩
  have F3 := fun_mk (st := s_is_sequence) l3 c3 k3
  have b3 := F3.binds (ps := ["value", "least", "most"]) fun _ _ _ _ _ _ us hl => match us, hl with | [_, _, _], _ => rfl
  have c_is_sequence : Cal P w K mg base 1 "is_sequence" ["value", "least", "most"] (spSeqG K) := ⟨_, _, PySem.W.mg_of X G0 a3, k3, b3, ok_seqG F3 T⟩
  have F4 := fun_mk (st := s_are_integers) l4 c4 k4
  have b4 := F4.binds (ps := ["items"]) fun _ _ _ _ _ _ us hl => match us, hl with | [_], _ => rfl
  have c_are_integers : Cal P w K mg base 2 "are_integers" ["items"] (spAreInts K) := ⟨_, _, PySem.W.mg_of X G0 a4, k4, b4, ok_are_integers F4 T c_is_integer⟩
  have F5 := fun_mk (st := s_wrong_integer) l5 c5 k5
  have b5 := F5.binds (ps := ["value", "size"]) fun _ _ _ _ _ _ us hl => match us, hl with | [_, _], _ => rfl
  have c_wrong_integer : Cal P w K mg base 2 "wrong_integer" ["value", "size"] (spWrongX K) := ⟨_, _, PySem.W.mg_of X G0 a5, k5, b5, ok_wrong_integerX F5 T c_is_sequence c_is_integer⟩
  have F6 := fun_mk (st := s_is_form) l6 c6 k6
  have b6 := F6.binds (ps := ["value", "size"]) fun _ _ _ _ _ _ us hl => match us, hl with | [_, _], _ => rfl
  have c_is_form : Cal P w K mg base 3 "is_form" ["value", "size"] (spFormI K) := ⟨_, _, PySem.W.mg_of X G0 a6, k6, b6, ok_is_formI F6 T c_are_integers⟩
  have F7 := fun_mk (st := s_lowered) l7 c7 k7
  have b7 := F7.binds (ps := ["numbers", "width"]) fun _ _ _ _ _ _ us hl => match us, hl with | [_, _], _ => rfl
  have c_lowered : Cal P w K mg base 1 "lowered" ["numbers", "width"] (spLow K) := ⟨_, _, PySem.W.mg_of X G0 a7, k7, b7, ok_lowered F7 T⟩
  have F8 := fun_mk (st := s__check_head) l8 c8 k8
  have b8 := F8.binds (ps := ["width", "counts", "rows", "start"]) fun _ _ _ _ _ _ us hl => match us, hl with | [_, _, _, _], _ => rfl
  have c__check_head : Cax P w K mg base 4 "_check_head" ["width", "counts", "rows", "start"] (spHeadX K A) := ⟨_, _, PySem.W.mg_of X G0 a8, k8, b8, ok_check_headX F8 T c_is_width c_is_sequence c_is_within c_wrong_integer⟩
  have F9 := fun_mk (st := s__check_nexts) l9 c9 k9
  have b9 := F9.binds (ps := ["row", "kind", "nexts", "many"]) fun _ _ _ _ _ _ us hl => match us, hl with | [_, _, _, _], _ => rfl
  have c__check_nexts : Cax P w K mg base 4 "_check_nexts" ["row", "kind", "nexts", "many"] (spNxsX K A) := ⟨_, _, PySem.W.mg_of X G0 a9, k9, b9, ok_check_nextsX F9 T c_is_within⟩
  have F10 := fun_mk (st := s__check_says) l10 c10 k10
  have b10 := F10.binds (ps := ["row", "says", "size"]) fun _ _ _ _ _ _ us hl => match us, hl with | [_, _, _], _ => rfl
  have c__check_says : Cax P w K mg base 4 "_check_says" ["row", "says", "size"] (spSaysX K A) := ⟨_, _, PySem.W.mg_of X G0 a10, k10, b10, ok_check_saysX F10 T c_is_form⟩
  have F11 := fun_mk (st := s_are_forms) l11 c11 k11
  have b11 := F11.binds (ps := ["forms", "many", "size"]) fun _ _ _ _ _ _ us hl => match us, hl with | [_, _, _], _ => rfl
  have c_are_forms : Cal P w K mg base 4 "are_forms" ["forms", "many", "size"] (spFormsX K) := ⟨_, _, PySem.W.mg_of X G0 a11, k11, b11, ok_are_formsX F11 T c_is_form⟩
  have F12 := fun_mk (st := s__check_changes) l12 c12 k12
  have b12 := F12.binds (ps := ["row", "changes", "counts", "size"]) fun _ _ _ _ _ _ us hl => match us, hl with | [_, _, _, _], _ => rfl
  have c__check_changes : Cax P w K mg base 5 "_check_changes" ["row", "changes", "counts", "size"] (spChangesX K A) := ⟨_, _, PySem.W.mg_of X G0 a12, k12, b12, ok_check_changesX F12 T c_are_forms⟩
  have F13 := fun_mk (st := s__check_row) l13 c13 k13
  have b13 := F13.binds (ps := ["counts", "row", "item"]) fun _ _ _ _ _ _ us hl => match us, hl with | [_, _, _], _ => rfl
  have c__check_row : Cax P w K mg base 6 "_check_row" ["counts", "row", "item"] (spCRowX K A) := ⟨_, _, PySem.W.mg_of X G0 a13, k13, b13, ok_check_rowX F13 T c__check_nexts c__check_says c__check_changes⟩
  have F14 := fun_mk (st := s__lowered_row) l14 c14 k14
  have b14 := F14.binds (ps := ["item", "width"]) fun _ _ _ _ _ _ us hl => match us, hl with | [_, _], _ => rfl
  have c__lowered_row : Cal P w K mg base 2 "_lowered_row" ["item", "width"] (spLowRow K) := ⟨_, _, PySem.W.mg_of X G0 a14, k14, b14, ok_lowered_row F14 T c_lowered⟩
  have Fm0 := fun_mk (st := s_Code___init__) lm0 cm0 km0
  have bm0 := Fm0.binds (ps := ["self", "width", "counts", "rows", "start"]) fun _ _ _ _ _ _ us hl => match us, hl with | [_, _, _, _, _], _ => rfl
  have om0 : FnOk P w K mg base (L2.CX P w) 7 fm0 _ ["self", "width", "counts", "rows", "start"] (spInitX K A) := ok_initX Fm0 T c__check_head c__check_row c__lowered_row c_lowered
  have G : CdeI P w K mg base A := ⟨⟨_, _, ⟨pm, am0, tm0, pk⟩, om0, bm0⟩⟩
  have F15 := fun_mk (st := s__law_draw) l15 c15 k15
  have b15 := F15.binds (ps := ["_law_well", "_law_many"]) fun _ _ _ _ _ _ us hl => match us, hl with | [_, _], _ => rfl
  have c__law_draw : Cal P w K mg base 1 "_law_draw" ["_law_well", "_law_many"] spDraw := ⟨_, _, PySem.W.mg_of X G0 a15, k15, b15, ok_draw F15 T⟩
  have F16 := fun_mk (st := s__law_one) l16 c16 k16
  have b16 := F16.binds (ps := ["_law_well", "_law_some"]) fun _ _ _ _ _ _ us hl => match us, hl with | [_, _], _ => rfl
  have c__law_one : Cal P w K mg base 2 "_law_one" ["_law_well", "_law_some"] spOne := ⟨_, _, PySem.W.mg_of X G0 a16, k16, b16, ok_one F16 T c__law_draw⟩
  have F17 := fun_mk (st := s__law_number) l17 c17 k17
  have b17 := F17.binds (ps := ["_law_well", "_law_width"]) fun _ _ _ _ _ _ us hl => match us, hl with | [_, _], _ => rfl
  have c__law_number : Cal P w K mg base 2 "_law_number" ["_law_well", "_law_width"] spNumber := ⟨_, _, PySem.W.mg_of X G0 a17, k17, b17, ok_number F17 T c__law_draw⟩
  have F18 := fun_mk (st := s__law_form) l18 c18 k18
  have b18 := F18.binds (ps := ["_law_well", "_law_width", "_law_many"]) fun _ _ _ _ _ _ us hl => match us, hl with | [_, _, _], _ => rfl
  have c__law_form : Cal P w K mg base 3 "_law_form" ["_law_well", "_law_width", "_law_many"] spForm0 := ⟨_, _, PySem.W.mg_of X G0 a18, k18, b18, ok_form F18 T c__law_draw c__law_number⟩
  have F19 := fun_mk (st := s__law_row) l19 c19 k19
  have b19 := F19.binds (ps := ["_law_well", "_law_width", "_law_names", "_law_total", "_law_k"]) fun _ _ _ _ _ _ us hl => match us, hl with | [_, _, _, _, _], _ => rfl
  have c__law_row : Cal P w K mg base 4 "_law_row" ["_law_well", "_law_width", "_law_names", "_law_total", "_law_k"] spRow := ⟨_, _, PySem.W.mg_of X G0 a19, k19, b19, ok_row F19 T c__law_draw c__law_one c__law_form⟩
  have F20 := fun_mk (st := s__law_rows) l20 c20 k20
  have b20 := F20.binds (ps := ["_law_well", "_law_width", "_law_names", "_law_total"]) fun _ _ _ _ _ _ us hl => match us, hl with | [_, _, _, _], _ => rfl
  have c__law_rows : Cal P w K mg base 5 "_law_rows" ["_law_well", "_law_width", "_law_names", "_law_total"] spRows := ⟨_, _, PySem.W.mg_of X G0 a20, k20, b20, ok_rows F20 T c__law_row⟩
  have F21 := fun_mk (st := s__law_drawn) l21 c21 k21
  have b21 := F21.binds (ps := ["_law_well", "_law_width", "_law_names", "_law_rows_here", "_law_counts"]) fun _ _ _ _ _ _ us hl => match us, hl with | [_, _, _, _, _], _ => rfl
  have c__law_drawn : Cal P w K mg base 4 "_law_drawn" ["_law_well", "_law_width", "_law_names", "_law_rows_here", "_law_counts"] spDrawn := ⟨_, _, PySem.W.mg_of X G0 a21, k21, b21, ok_drawn F21 T c__law_form c__law_number⟩
  have F22 := fun_mk (st := s__law_raised) l22 c22 k22
  have b22 := F22.binds (ps := ["_law_width", "_law_counts", "_law_rows_here", "_law_start"]) fun _ _ _ _ _ _ us hl => match us, hl with | [_, _, _, _], _ => rfl
  have c__law_raised : Cal P w K mg base 9 "_law_raised" ["_law_width", "_law_counts", "_law_rows_here", "_law_start"] (spRaised K A) := ⟨_, _, PySem.W.mg_of X G0 a22, k22, b22, ok_raised F22 T G⟩
  have F23 := fun_mk (st := s__law_bad_forms) l23 c23 k23
  have b23 := F23.binds (ps := ["_law_well", "_law_forms", "_law_size"]) fun _ _ _ _ _ _ us hl => match us, hl with | [_, _, _], _ => rfl
  have c__law_bad_forms : Cal P w K mg base 3 "_law_bad_forms" ["_law_well", "_law_forms", "_law_size"] (spBadForms K) := ⟨_, _, PySem.W.mg_of X G0 a23, k23, b23, ok_bad_forms F23 T c__law_draw c__law_one⟩
  have F24 := fun_mk (st := s__law_spoilt_row) l24 c24 k24
  have b24 := F24.binds (ps := ["_law_well", "_law_spot", "_law_row_here", "_law_counts"]) fun _ _ _ _ _ _ us hl => match us, hl with | [_, _, _, _], _ => rfl
  have c__law_spoilt_row : Cal P w K mg base 4 "_law_spoilt_row" ["_law_well", "_law_spot", "_law_row_here", "_law_counts"] (spSpoilt K A) := ⟨_, _, PySem.W.mg_of X G0 a24, k24, b24, ok_spoilt_row F24 T c__law_draw c__law_one c__law_bad_forms⟩
  have F25 := fun_mk (st := s__law_right) l25 c25 k25
  have b25 := F25.binds (ps := ["_law_well"]) fun _ _ _ _ _ _ us hl => match us, hl with | [_], _ => rfl
  have c__law_right : Cal P w K mg base 10 "_law_right" ["_law_well"] spRight := ⟨_, _, PySem.W.mg_of X G0 a25, k25, b25, ok_right F25 T c__law_draw c__law_one c__law_rows c__law_drawn c__law_raised c__law_spoilt_row⟩
  exact ok_law (fun_mk (st := s_law) l26 c26 k26) T c__law_right
theorem walk {l : PySem.W.OpenLaw} {q : PySem.Program} {loose : List Str} {XP : (Str → Option Value) → Heap → Prop} {YP : World → Heap → Prop} {d : DefRec} {K : Params → PySem.W.Frag} (hn : l.most = some 63) (hdf : d.params.defaults = [])
    (hY : ∀ (w : World) (h : Heap), YP w h → (K w.params).In h)
    (F : ∀ (w : World) (mg : Str → Option Value) (fa : Addr) (h : Heap), (K w.params).In h → h.Ns mainGlobals mg → mg d.name = some (.ref fa) →
      ∃ fd : FuncData, (∀ (s : Shared) (u : Value), BindsTo s fd ⟨[u], []⟩ [("_law_script", u)]) ∧ ∀ base : Heap, (K w.params).In base → base.Ns mainGlobals mg → FnOk l.prog w (K w.params) mg base CX0 11 fa fd ["_law_script"] (spLaw (K w.params))) :
    PySem.W.WalkO q loose XP YP l.row.toRowW d [] (fun f vs => PySem.call f vs) :=
  L2.walk_of (n := 63) (k := 11) (x := "_law_script") (CX := fun _ => CX0) (sp := fun w => spLaw (K w.params)) hn (by decide) hdf ⟨rfl, by decide, by decide⟩ hY F (fun _ _ a ns hl _ hS => ⟨a, ns, rfl, hS, hl, fun _ => rfl⟩) fun _ _ _ _ _ z => z
theorem sq_of {K : PySem.W.Frag} {p : Addr} {a b : Int} {od : Option Addr} {n ta tb : Nat} {sl : Array (Option Value)} (h : K.lookup p = some ⟨.type "tuple", od, .seq #[.int a ta, .int b tb] n, sl⟩) (H : Hp) : SqT K H p [.int a, .int b] :=
  .inr ⟨_, #[.int a ta, .int b tb], n, h, rfl, rfl, Nat.le_of_lt (small1000 (by simp)), .cons ⟨_, rfl⟩ (.cons ⟨_, rfl⟩ .nil)⟩
theorem nexts_of {K : PySem.W.Frag} {d : Addr} {p0 p1 p2 p3 : Addr} {od0 od1 od2 od3 : Option Addr} {np0 np1 np2 np3 ta0 tb0 ta1 tb1 ta2 tb2 ta3 tb3 : Nat} {sp0 sp1 sp2 sp3 : Array (Option Value)}
    (v0 : PySem.W.nsIn K d "go" = some (some (.ref p0))) (u0 : K.lookup p0 = some ⟨.type "tuple", od0, .seq #[.int 1 ta0, .int 1 tb0] np0, sp0⟩) (v1 : PySem.W.nsIn K d "ask" = some (some (.ref p1))) (u1 : K.lookup p1 = some ⟨.type "tuple", od1, .seq #[.int 1 ta1, .int 1 tb1] np1, sp1⟩)
    (v2 : PySem.W.nsIn K d "choose" = some (some (.ref p2))) (u2 : K.lookup p2 = some ⟨.type "tuple", od2, .seq #[.int 1 ta2, .int 6 tb2] np2, sp2⟩) (v3 : PySem.W.nsIn K d "stop" = some (some (.ref p3))) (u3 : K.lookup p3 = some ⟨.type "tuple", od3, .seq #[.int 0 ta3, .int 0 tb3] np3, sp3⟩) :
    ∀ z a b, ndLim z = some (a, b) → ∃ p, PySem.W.nsIn K d z = some (some (.ref p)) ∧ ∀ H, SqT K H p [.int a, .int b] := fun z a b h => by
  unfold ndLim at h
  split at h
  · rename_i e
    cases h
    subst e
    exact ⟨p0, v0, sq_of u0⟩
  · split at h
    · rename_i e
      cases h
      subst e
      exact ⟨p1, v1, sq_of u1⟩
    · split at h
      · rename_i e
        cases h
        subst e
        exact ⟨p2, v2, sq_of u2⟩
      · split at h
        · rename_i e
          cases h
          subst e
          exact ⟨p3, v3, sq_of u3⟩
        · cases h
theorem no_of {K : PySem.W.Frag} {d : Addr} (y0 : PySem.W.nsIn K d "Go" = some none) (y1 : PySem.W.nsIn K d "set" = some none) (y2 : PySem.W.nsIn K d "say" = some none) (y3 : PySem.W.nsIn K d "" = some none) :
    ∀ z ∈ (["Go", "set", "say", ""] : List Str), PySem.W.nsIn K d z = some none := fun z hz => by
  simp only [List.mem_cons, List.not_mem_nil, or_false] at hz
  rcases hz with rfl | rfl | rfl | rfl
  · exact y0
  · exact y1
  · exact y2
  · exact y3
theorem txt_mk {P : PySem.Program} {w : World} {K : PySem.W.Frag} {mg : Str → Option Value} {h : Heap} {cKeepError cNoCode cCode : Addr} (X : K.In h) (G : h.Ns mainGlobals mg)
    (z_int : PySem.W.nsIn K mainGlobals "int" = some none) (z_bool : PySem.W.nsIn K mainGlobals "bool" = some none) (z_str : PySem.W.nsIn K mainGlobals "str" = some none) (z_list : PySem.W.nsIn K mainGlobals "list" = some none) (z_tuple : PySem.W.nsIn K mainGlobals "tuple" = some none) (z_len : PySem.W.nsIn K mainGlobals "len" = some none) (z_isinstance : PySem.W.nsIn K mainGlobals "isinstance" = some none) (z_range : PySem.W.nsIn K mainGlobals "range" = some none) (z_enumerate : PySem.W.nsIn K mainGlobals "enumerate" = some none) (z_all : PySem.W.nsIn K mainGlobals "all" = some none)
    (g_KeepError : PySem.W.nsIn K mainGlobals "KeepError" = some (some (.ref cKeepError))) (g_NoCode : PySem.W.nsIn K mainGlobals "NoCode" = some (some (.ref cNoCode))) (g_Code : PySem.W.nsIn K mainGlobals "Code" = some (some (.ref cCode)))
    (pg : PySem.W.plainGet K cCode Str.empty = true) (hd : PySem.W.hasDictIn K cCode = true) (po : PySem.W.plainOver K cCode = true) (sa : PySem.W.findIn K (.ref cCode) "__setattr__" = some (some (.builtin "object.__setattr__")))
    (i_cls : PySem.W.findIn K (.ref cCode) "__class__" = some (some (.builtin "object.__class__")))
    (i_get : PySem.W.specialIn K (.builtin "object.__class__") "__get__" = some (some (.builtin "getset_descriptor.__get__")))
    (i_tk : PySem.W.takesIn K (.builtin "object.__class__") = some true)
    (i_mro : PySem.W.mroIn K cCode (.type "object") = some true)
    (i_self : PySem.W.kitOne K (.ref cCode) (.ref cCode) = some true)
    (i_tup : PySem.W.kitOne K (.type "tuple") (.ref cCode) = some false)
    (o_nf : PySem.W.notFirst K cCode (.type "tuple") = true)
    (o_ne : PySem.W.findIn K (.ref cCode) "__ne__" = some (some (.builtin "object.__ne__")))
    (n_width : PySem.W.findIn K (.ref cCode) "width" = some none)
    (n_counts : PySem.W.findIn K (.ref cCode) "counts" = some none)
    (n_rows : PySem.W.findIn K (.ref cCode) "rows" = some none)
    (n_start : PySem.W.findIn K (.ref cCode) "start" = some none)
    {tWIDEST : Nat} (g_WIDEST : PySem.W.nsIn K mainGlobals "WIDEST" = some (some (.int 64 tWIDEST)))
    {tMOST_ROWS : Nat} (g_MOST_ROWS : PySem.W.nsIn K mainGlobals "MOST_ROWS" = some (some (.int 200 tMOST_ROWS)))
    {tMOST_REGISTERS : Nat} (g_MOST_REGISTERS : PySem.W.nsIn K mainGlobals "MOST_REGISTERS" = some (some (.int 64 tMOST_REGISTERS)))
    (z_dict : PySem.W.nsIn K mainGlobals "dict" = some none) {cNEXTS : Addr} (g_NEXTS : PySem.W.nsIn K mainGlobals "NEXTS" = some (some (.ref cNEXTS)))
    {es : Array DictEntry} {ne : Nat} (xN : K.lookup cNEXTS = some ⟨.type "dict", none, .dict es ne, #[]⟩) (xL : PySem.W.KeysLit w.params es.toList) (xS : (cNEXTS == sysModules) = false)
    {p0 : Addr} {od0 : Option Addr} {np0 : Nat} {sp0 : Array (Option Value)} {ta0 tb0 : Nat} (v0 : PySem.W.nsIn K cNEXTS "go" = some (some (.ref p0))) (u0 : K.lookup p0 = some ⟨.type "tuple", od0, .seq #[.int 1 ta0, .int 1 tb0] np0, sp0⟩)
    {p1 : Addr} {od1 : Option Addr} {np1 : Nat} {sp1 : Array (Option Value)} {ta1 tb1 : Nat} (v1 : PySem.W.nsIn K cNEXTS "ask" = some (some (.ref p1))) (u1 : K.lookup p1 = some ⟨.type "tuple", od1, .seq #[.int 1 ta1, .int 1 tb1] np1, sp1⟩)
    {p2 : Addr} {od2 : Option Addr} {np2 : Nat} {sp2 : Array (Option Value)} {ta2 tb2 : Nat} (v2 : PySem.W.nsIn K cNEXTS "choose" = some (some (.ref p2))) (u2 : K.lookup p2 = some ⟨.type "tuple", od2, .seq #[.int 1 ta2, .int 6 tb2] np2, sp2⟩)
    {p3 : Addr} {od3 : Option Addr} {np3 : Nat} {sp3 : Array (Option Value)} {ta3 tb3 : Nat} (v3 : PySem.W.nsIn K cNEXTS "stop" = some (some (.ref p3))) (u3 : K.lookup p3 = some ⟨.type "tuple", od3, .seq #[.int 0 ta3, .int 0 tb3] np3, sp3⟩)
    (y0 : PySem.W.nsIn K cNEXTS "Go" = some none)
    (y1 : PySem.W.nsIn K cNEXTS "set" = some none)
    (y2 : PySem.W.nsIn K cNEXTS "say" = some none)
    (y3 : PySem.W.nsIn K cNEXTS "" = some none)
    (eN : ∀ base, Ec3 P w K mg base "NoCode" cKeepError cNoCode "row" "part" "index")
    (base : Heap) : Txt P w K mg base ⟨cKeepError, cNoCode, cCode, cNEXTS⟩ :=
  ⟨PySem.W.mg_none_of X G z_int, PySem.W.mg_none_of X G z_bool, PySem.W.mg_none_of X G z_str, PySem.W.mg_none_of X G z_list, PySem.W.mg_none_of X G z_tuple, PySem.W.mg_none_of X G z_len, PySem.W.mg_none_of X G z_isinstance, PySem.W.mg_none_of X G z_range, PySem.W.mg_none_of X G z_enumerate, PySem.W.mg_none_of X G z_all, PySem.W.mg_of X G g_NoCode, PySem.W.mg_of X G g_Code, ⟨pg, hd, po, sa⟩, i_cls, i_get, i_tk, i_mro, i_self, i_tup, o_nf, o_ne, n_width, n_counts, n_rows, n_start, ⟨_, PySem.W.mg_of X G g_WIDEST⟩, ⟨_, PySem.W.mg_of X G g_MOST_ROWS⟩, ⟨_, PySem.W.mg_of X G g_MOST_REGISTERS⟩, PySem.W.mg_none_of X G z_dict, PySem.W.mg_of X G g_NEXTS, ⟨_, _, ⟨xN, xL, xS⟩⟩, nexts_of v0 u0 v1 u1 v2 u2 v3 u3, eN base, no_of y0 y1 y2 y3⟩
section
variable {P : PySem.Program} {w : World} {K : PySem.W.Frag} {mg : Str → Option Value} {base : Heap} {h : Heap}
theorem erk_mk {x nm q : Str} {C B N : Addr} {bs : List Value} {sn : List Str} {sub : List Value} {ab : Bool} {col : Option Bool} {dd : Option Addr} {m0 m1 m2 m3 m5 : Option Value} (X : K.In h) (G : h.Ns mainGlobals mg)
    (aC : PySem.W.nsIn K mainGlobals x = some (some (.ref C))) (xL : K.lookup C = some (excClassObj nm q C N bs [.ref B, .type "ValueError", .type "Exception", .type "BaseException", .type "object"] true sn sub ab col dd m0 m1 m2 m3 m5 "ValueError.__new__"))
    (sa : PySem.W.findIn K (.ref C) "__setattr__" = some (some (.builtin "object.__setattr__"))) (ty : PySem.W.typeIn K (.ref C) = some (.type "type")) (kp : PySem.W.keepIn K (.ref C) = true)
    (ga : PySem.W.findIn K (.ref C) "__getattribute__" = some (some (.builtin "BaseException.__getattribute__"))) (gt : PySem.W.findIn K (.ref C) "__getattr__" = some none) (su : PySem.W.subIn K (.ref C) (.type "BaseException") = some true)
    (ca : PySem.W.findIn K (.ref C) "__class__" = some (some (.builtin "object.__class__"))) (sp : PySem.W.specialIn K (.builtin "object.__class__") "__get__" = some (some (.builtin "getset_descriptor.__get__"))) (tk : PySem.W.takesIn K (.builtin "object.__class__") = some true)
    (mo : PySem.W.mroIn K C (.type "object") = some true) : ErK K mg x C B :=
  ⟨PySem.W.mg_of X G aC, ⟨nm, q, N, bs, sn, sub, ab, col, dd, m0, m1, m2, m3, m5, xL⟩, sa, ty, kp, ⟨by unfold PySem.W.clsIn; rw [xL]; rfl, ga, gt, su, ca, sp, tk, mo⟩⟩
abbrev s_NoCode : Stmt := inClass (top 2) 0
theorem sc_NoCode : FnScope ["self", "row", "part", "index"] ["self", "row", "part", "index"] (defScope s_NoCode) := ⟨rfl, rfl, rfl, by decide +kernel, rfl, by decide +kernel, by decide +kernel⟩
theorem ini_NoCode {f C : Addr} {fd : FuncData} (F : Fun K "__init__" "NoCode.__init__" s_NoCode f fd) (T : OexC K C) (n0 : PySem.W.findIn K (.ref C) "row" = some none) (n1 : PySem.W.findIn K (.ref C) "part" = some none) (n2 : PySem.W.findIn K (.ref C) "index" = some none) : FnOk P w K mg base CX0 1 f fd ["self", "row", "part", "index"] (spI3 C "row" "part" "index") := by
  refine F.ok sc_NoCode (fun vs H Q E h => ?_) (fun cdv A outer s H vs Q E hr h => ?_)
  · obtain ⟨a, x, y, z, rfl, _⟩ := h
    rfl
  · obtain ⟨a, x, y, z, rfl, ha, k⟩ := h
    exact ⟨_, (pss_cons (ps_ost (pv 0) (pv 1)) (pss_cons (ps_ost (pv 0) (pv 2)) (pss_one (ps_ost (pv 0) (pv 3))))), rd3 T n0 n1 n2 rfl rfl rfl rfl ha k⟩
theorem ec3_mk {x qual : Str} {B C fI : Addr} {f g l : Str} {st : Stmt} {oc kV doc pm cdv ct : Value} {od an : Option Addr} {osl : Array (Option Value)} (E : ErK K mg x C B) (hd : PySem.W.hasDictIn K C = true)
    (a1 : PySem.W.findIn K (.ref C) "__init__" = some (some (.ref fI))) (t1 : PySem.W.typeIn K (.ref fI) = some (.type "function")) (l1 : K.lookup fI = some ⟨oc, od, .func (PySem.W.fnOf "__init__" qual (defArgs st) (defBody st) (defScope st) .none kV doc pm an cdv ct), osl⟩)
    (c1 : PySem.W.codeIn K cdv qual = true) (kf : PySem.W.keepIn K (.ref fI) = true) (nf : PySem.W.findIn K (.ref C) f = some none) (ng : PySem.W.findIn K (.ref C) g = some none) (nl : PySem.W.findIn K (.ref C) l = some none)
    (hini : ∀ {fa : Addr} {fda : FuncData}, Fun K "__init__" qual st fa fda → OexC K C → FnOk P w K mg base CX0 1 fa fda ["self", f, g, l] (spI3 C f g l))
    (hb : ∀ (kV doc pm : Value) (an : Option Addr) (cdv ct : Value) (us : List Value), us.length = (["self", f, g, l] : List Str).length → bindArgs (PySem.W.fnOf "__init__" qual (defArgs st) (defBody st) (defScope st) .none kV doc pm an cdv ct) ⟨us, []⟩ = pure ((["self", f, g, l] : List Str).zip us)) :
    Ec3 P w K mg base x B C f g l := by
  have F := fun_mk (st := st) l1 c1 kf
  exact ⟨E, ⟨_, _, a1, t1, hini F E.ox, F.binds hb⟩, hd, nf, ng, nl⟩
end
end K41
open PySem PySem.W PyProof.Rows in
set_option maxRecDepth 100000 in
set_option maxHeartbeats 0 in
theorem PySem.Challenge.cw_leastkeep_k41_invalid_codes_holds : PySem.Challenge.rw_leastkeep_k41_invalid_codes.Holds := by
  w_on; o_law; k_head; (case hw => w_witness2)
  k_fill
  refine K41.walk (l := PySem.Challenge.rw_leastkeep_k41_invalid_codes) rfl rfl (fun w h Y => PySem.W.kIn_of Y) ?F
  case F =>
    intro w mg fa h KX G hmg
    refine' K41.all_mk KX G hmg (K41.txt_mk KX G ?z_int ?z_bool ?z_str ?z_list ?z_tuple ?z_len ?z_isinstance ?z_range ?z_enumerate ?z_all ?g_KeepError ?g_NoCode ?g_Code ?pg ?hd ?po ?sa ?i_cls ?i_get ?i_tk ?i_mro ?i_self ?i_tup ?o_nf ?o_ne ?n_width ?n_counts ?n_rows ?n_start ?g_WIDEST ?g_MOST_ROWS ?g_MOST_REGISTERS ?z_dict ?g_NEXTS ?xN ?xL ?xS ?v0 ?u0 ?v1 ?u1 ?v2 ?u2 ?v3 ?u3 ?y0 ?y1 ?y2 ?y3 ?eN) ?a0 ?l0 ?c0 ?k0 ?a1 ?l1 ?c1 ?k1 ?a2 ?l2 ?c2 ?k2 ?a3 ?l3 ?c3 ?k3 ?a4 ?l4 ?c4 ?k4 ?a5 ?l5 ?c5 ?k5 ?a6 ?l6 ?c6 ?k6 ?a7 ?l7 ?c7 ?k7 ?a8 ?l8 ?c8 ?k8 ?a9 ?l9 ?c9 ?k9 ?a10 ?l10 ?c10 ?k10 ?a11 ?l11 ?c11 ?k11 ?a12 ?l12 ?c12 ?k12 ?a13 ?l13 ?c13 ?k13 ?a14 ?l14 ?c14 ?k14 ?a15 ?l15 ?c15 ?k15 ?a16 ?l16 ?c16 ?k16 ?a17 ?l17 ?c17 ?k17 ?a18 ?l18 ?c18 ?k18 ?a19 ?l19 ?c19 ?k19 ?a20 ?l20 ?c20 ?k20 ?a21 ?l21 ?c21 ?k21 ?a22 ?l22 ?c22 ?k22 ?a23 ?l23 ?c23 ?k23 ?a24 ?l24 ?c24 ?k24 ?a25 ?l25 ?c25 ?k25 ?a26 ?l26 ?c26 ?k26 ?am0 ?tm0 ?lm0 ?cm0 ?km0 ?pm ?pk
    (case g_KeepError => k_is); (case g_NoCode => k_is); (case g_Code => k_is); (case g_WIDEST => k_is); (case g_MOST_ROWS => k_is); (case g_MOST_REGISTERS => k_is); (case g_NEXTS => k_is)
    (case z_int => k_is); (case z_bool => k_is); (case z_str => k_is); (case z_list => k_is); (case z_tuple => k_is); (case z_len => k_is); (case z_isinstance => k_is); (case z_range => k_is); (case z_enumerate => k_is); (case z_all => k_is); (case pg => k_is); (case hd => k_is); (case po => k_is); (case sa => k_is); (case i_cls => k_is); (case i_get => k_is); (case i_tk => k_is); (case i_mro => k_is); (case i_self => kit_is); (case i_tup => kit_is); (case o_nf => k_is); (case o_ne => k_is); (case n_width => k_is); (case n_counts => k_is); (case n_rows => k_is); (case n_start => k_is); (case z_dict => k_is); (case xN => k_is); (case xL => exact ⟨⟨_, _, rfl, rfl⟩, ⟨_, _, rfl, rfl⟩, ⟨_, _, rfl, rfl⟩, ⟨_, _, rfl, rfl⟩, trivial⟩); (case xS => rfl); (case v0 => k_is); (case u0 => k_is); (case v1 => k_is); (case u1 => k_is); (case v2 => k_is); (case u2 => k_is); (case v3 => k_is); (case u3 => k_is); (case y0 => k_is); (case y1 => k_is); (case y2 => k_is); (case y3 => k_is)
    (case eN => (intro base; refine' K41.ec3_mk (st := K41.s_NoCode) (K41.erk_mk KX G ?q0 ?q1 ?q2 ?q3 ?q4 ?q5 ?q6 ?q7 ?q8 ?q9 ?q10 ?q11) ?ehd ?er0 ?er1 ?er2 ?er3 ?er4 ?en0 ?en1 ?en2 (fun F T => K41.ini_NoCode F T ?en0 ?en1 ?en2) (fun _ _ _ _ _ _ us hl => match us, hl with | [_, _, _, _], _ => rfl); (case q0 => k_is); (case q1 => k_is); (case q2 => k_is); (case q3 => k_is); (case q4 => k_is); (case q5 => k_is); (case q6 => k_is); (case q7 => k_is); (case q8 => k_is); (case q9 => k_is); (case q10 => k_is); (case q11 => k_is); (case ehd => k_is); (case er0 => k_is); (case er1 => k_is); (case er2 => k_is); (case er3 => k_is); (case er4 => k_is); (case en0 => k_is); (case en1 => k_is); (case en2 => k_is)))
    (case a0 => k_is); (case a1 => k_is); (case a2 => k_is); (case a3 => k_is); (case a4 => k_is); (case a5 => k_is); (case a6 => k_is); (case a7 => k_is); (case a8 => k_is); (case a9 => k_is); (case a10 => k_is); (case a11 => k_is); (case a12 => k_is); (case a13 => k_is); (case a14 => k_is); (case a15 => k_is); (case a16 => k_is); (case a17 => k_is); (case a18 => k_is); (case a19 => k_is); (case a20 => k_is); (case a21 => k_is); (case a22 => k_is); (case a23 => k_is); (case a24 => k_is); (case a25 => k_is); (case a26 => k_is); (case am0 => k_is)
    (case l0 => k_is); (case l1 => k_is); (case l2 => k_is); (case l3 => k_is); (case l4 => k_is); (case l5 => k_is); (case l6 => k_is); (case l7 => k_is); (case l8 => k_is); (case l9 => k_is); (case l10 => k_is); (case l11 => k_is); (case l12 => k_is); (case l13 => k_is); (case l14 => k_is); (case l15 => k_is); (case l16 => k_is); (case l17 => k_is); (case l18 => k_is); (case l19 => k_is); (case l20 => k_is); (case l21 => k_is); (case l22 => k_is); (case l23 => k_is); (case l24 => k_is); (case l25 => k_is); (case l26 => k_is); (case lm0 => k_is)
    (case c0 => k_is); (case k0 => k_is); (case c1 => k_is); (case k1 => k_is); (case c2 => k_is); (case k2 => k_is); (case c3 => k_is); (case k3 => k_is); (case c4 => k_is); (case k4 => k_is); (case c5 => k_is); (case k5 => k_is); (case c6 => k_is); (case k6 => k_is); (case c7 => k_is); (case k7 => k_is); (case c8 => k_is); (case k8 => k_is); (case c9 => k_is); (case k9 => k_is); (case c10 => k_is); (case k10 => k_is); (case c11 => k_is); (case k11 => k_is); (case c12 => k_is); (case k12 => k_is); (case c13 => k_is); (case k13 => k_is); (case c14 => k_is); (case k14 => k_is); (case c15 => k_is); (case k15 => k_is); (case c16 => k_is); (case k16 => k_is); (case c17 => k_is); (case k17 => k_is); (case c18 => k_is); (case k18 => k_is); (case c19 => k_is); (case k19 => k_is); (case c20 => k_is); (case k20 => k_is); (case c21 => k_is); (case k21 => k_is); (case c22 => k_is); (case k22 => k_is); (case c23 => k_is); (case k23 => k_is); (case c24 => k_is); (case k24 => k_is); (case c25 => k_is); (case k25 => k_is); (case c26 => k_is); (case k26 => k_is); (case tm0 => k_is); (case cm0 => k_is); (case km0 => k_is); (case pm => k_is); (case pk => k_is)
