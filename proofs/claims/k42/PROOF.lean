import PyProof.Rows.All
import Wide.All
import OpenK.AllK
import Wide.FinOn
import HandS.Base
import HandS.Call
import HandS.List
import HandS.Comp
import HandS.Iter
import HandS.Ends
import HandS.Words
import HandS.WordsList
import HandS.Exc
import HandS.ExcInit
import HandS.ExcValue
import HandS.ExcField
import HandS.IsInst
import HandS.Defaults
import HandS.MakeKwOnly
import KE.KExcIs
import HandS.Walk
import PyProof.Rows.SeqMore
import KE.GoesMore
import HandS.Wide
import HandS.WideBits
import HandS.TupMul
import HandS.TupAny
import HandS.Text
import HandS.Flow
import HandS.OwnEq
import HandS.More
import OpenK.KOps
import OpenK.KMeth
import PyProof.InstNe
import PyProof.P3Eq
import HandS.Zip
import HandS.Strs
import HandS.ExcOwn
import HandS.WordsExc
import HandS.Dict
import HandS.Lambda
import HandS.EndTab
import HandS.TryMany
import PySem.Challenge.RW_leastkeep_k42_runs_of_codes
import HandS.Style
import KE.RegKIsAll
set_option Elab.async false
set_option linter.all false
set_option maxRecDepth 100000
set_option maxHeartbeats 4000000
namespace Lk
open PySem PySem.Spec PyProof.Rows L2
/-- a def that may be called by its name: it lets no error out -/
structure Cal (P : Program) (w : World) (K : PySem.W.Frag) (mg : Str → Option Value) (base : Heap) (k : Nat) (x : Str) (ps : List Str) (sp : Sp) : Prop where
  ex : ∃ f fd, mg x = some (.ref f) ∧ PySem.W.keepIn K (.ref f) = true ∧ Binds K fd ps [] ∧ FnOk P w K mg base CX0 k f fd ps sp
theorem pcal {X : Cx} {k j : Nat} {x : Str} {ps : List Str} {sp : Sp} {e : Expr} {es : List Expr} {t : TA} {p pos : Pos} (c : Cal X.prog X.w X.K X.mg X.base k x ps sp) (hr : Room j X.A) (hk : k ≤ j) (ha : PA X (e :: es) t) (hg : Gl X x := by rfl)
    (hdb : (x == ("__debug__" : Str)) = false := by decide) (he : starEach (e :: es) X.env = (false, eval e X.env) :: starEach es X.env := by rfl) (hpl : (backTo pos (starEach es X.env)).any (·.1) = false := by rfl) :
    PE X (.Call (.Name x p) (e :: es) [] pos) (tCall sp [] E0 t) := by
  obtain ⟨f, fd, hm, kp, b, F⟩ := c.ex
  exact pe_call F (hr.mono hk) hg hm kp b .nil pass0 ha hdb he hpl
section
variable {σ : L2.St} {H : Hp} {i j : Nat} {v x y : V} {Q : VK} {D : Ends} {ta tb te : TE} {t u : TS} {tt tu : TT} {tl tr : TA} {r : R2} {g : TG}
theorem sv (h : σ[i]? = some (some v)) (q : Q v H) : tVar i σ H Q := ⟨v, h, q⟩
theorem sc (q : Q v H) : tC v σ H Q := q
theorem ssq (q : t { D with nx := u D } σ H) : tSeq t u D σ H := q
theorem snx (q : D.nx σ H) : tNext D σ H := q
theorem sas (q : te σ H fun x H1 => g x σ H1 D.nx) : tAsg te g D σ H := q
theorem sgn {K : L2.St → Hp → Prop} (q : K (σ.set i (some v)) H) : gName i v σ H K := q
theorem sdr (q : te σ H fun _ H1 => D.nx σ H1) : tDrop te D σ H := q
theorem srt (q : te σ H D.rt) : tRet te D σ H := q
theorem sop (q : ta σ H fun x H1 => tb σ H1 fun y H2 => r x y H2 Q) : tOp r ta tb σ H Q := q
theorem sun {r : V → Hp → VK → Prop} (q : ta σ H fun x H1 => r x H1 Q) : tUn r ta σ H Q := q
theorem sI0 {f : Int → Int → V} {a b : Int} (q : Q (f a b) H) : rI0 f (.int a) (.int b) H Q := ⟨a, b, rfl, rfl, q⟩
theorem sI {C : Int → Int → Prop} {f : Int → Int → V} {a b : Int} (h : C a b) (q : Q (f a b) H) : rI C f (.int a) (.int b) H Q := ⟨a, b, rfl, rfl, h, q⟩
theorem sU {f : Int → V} {a : Int} (q : Q (f a) H) : rU f (.int a) H Q := ⟨a, rfl, q⟩
theorem sEq (h : scal x y = true) (q : Q (.bl (decide (x = y))) H) : rEq x y H Q := ⟨h, q⟩
theorem sNe (h : scal x y = true) (q : Q (.bl (!decide (x = y))) H) : rNe x y H Q := ⟨h, q⟩
theorem stt {Q : Bool → Hp → Prop} (q : te σ H fun x H' => ∃ k, x = .bl k ∧ Q k H') : tTest te σ H Q := q
theorem stB {Q : Bool → Hp → Prop} (q : te σ H fun x H' => ∃ k, x = .bl k ∧ Q k H') : tB te σ H Q := q
theorem sbl {b : Bool} {Q : Bool → Prop} (q : Q b) : ∃ k, V.bl b = .bl k ∧ Q k := ⟨b, rfl, q⟩
theorem snt {Q : Bool → Hp → Prop} (q : tt σ H fun c H1 => Q (!c) H1) : tNot tt σ H Q := q
theorem sif (q : tt σ H fun b H1 => if b = true then t D σ H1 else u D σ H1) : tIfS tt t u D σ H := q
theorem scB {r : List V → Hp → VK → Prop} (q : tl σ H fun vs H1 => r vs H1 Q) : tCB r tl σ H Q := q
theorem scn {Q : List V → Hp → Prop} (q : ta σ H fun x H1 => tr σ H1 fun xs H2 => Q (x :: xs) H2) : tCons ta tr σ H Q := q
theorem snl {Q : List V → Hp → Prop} (q : Q [] H) : tNil σ H Q := q
theorem scl {sp : Sp} {E : XK} (q : tl σ H fun vs H1 => sp (vs ++ []) H1 Q E) : tCall sp [] E tl σ H Q := q
theorem stu (q : tl σ H fun xs H1 => xs.length ≤ sizeLine ∧ ∀ p, H1 p = none → Q (.ref p) (upd H1 p (.tup xs))) : tTup tl σ H Q := q
theorem sli (q : tl σ H fun xs H1 => xs.length ≤ sizeLine ∧ ∀ p, H1 p = none → Q (.ref p) (upd H1 p (.lst xs))) : tLst tl σ H Q := q
theorem snw {n : Nat} {R : Addr → Prop} (h : n ≤ 1000) (q : ∀ p, H p = none → R p) : n ≤ sizeLine ∧ ∀ p, H p = none → R p := ⟨Nat.le_of_lt (small1000 h), q⟩
theorem sfr {K : PySem.W.Frag} {p : Addr} {xs : List V} {z : Int} (hp : SqL K H p xs) (hz : atI xs z = some v) (q : Q v H) : rIxL K (.ref p) (.int z) H Q := ⟨p, xs, z, v, rfl, rfl, hp, hz, q⟩
theorem sfg {s : TSet} {K : L2.St → Hp → Prop} (q : ta σ H fun o H1 => tb σ H1 fun z H2 => s o z v H2 fun H3 => K σ H3) : gSub ta tb s v σ H K := q
theorem ssl {p : Addr} {xs : List V} {z : Int} {j : Nat} {K : Hp → Prop} (hp : H p = some (.lst xs)) (hz : ixN xs.length z = some j) (q : K (upd H p (.lst (xs.set j v)))) : rSetL (.ref p) (.int z) v H K := ⟨p, xs, z, j, rfl, rfl, hp, hz, q⟩
theorem sI1 {a : Int} (q : Q (.int a) H) : (∃ i, [V.int a] = [.int i] ∧ Q (.int i) H) ∨ ∃ k, [V.int a] = [.bl k] ∧ Q (.int (if k then 1 else 0)) H := .inl ⟨a, rfl, q⟩
theorem sI2 {b : Bool} (q : Q (.int (if b then 1 else 0)) H) : (∃ i, [V.bl b] = [.int i] ∧ Q (.int i) H) ∨ ∃ k, [V.bl b] = [.bl k] ∧ Q (.int (if k then 1 else 0)) H := .inr ⟨b, rfl, q⟩
end
end Lk

/-! ### an error class with its own __init__, called with keywords: the keywords go by the base's __new__ and reach the own __init__ -/
namespace PySem.HandSPX
open Builtin Builtin.ObjectAttr
section
variable {prog : Program} {w : World} {Ar : Around} {E : Value → Shared → Prop} {R : Result → Shared → Prop} {hp : Heap} {gs : Array GenState} {dr : Drawn} {tk : Nat} {os : OsState}
variable {nm qn : Str} {C N : Addr} {bs bm bmB : List Value} {hdct ab : Bool} {sn : List Str} {sub us : List Value} {col : Option Bool} {dd : Option Addr} {m0 m1 m2 m3 m5 : Option Value} {B nid iid : String} {kw : List (Str × Value)}
/-- the check ahead of __new__ passes any keywords -/
theorem kw_check (F : ExcBaseFacts B nid iid bmB) (tl : ∀ Y : String, bm.contains (.type Y) = bmB.contains (.type Y)) (oC : hp.get? C = some (excClassObj nm qn C N bs bm hdct sn sub ab col dd m0 m1 m2 m3 m5 nid)) {Q : Unit → Shared → Prop} (q : Q () ⟨hp, gs, dr, tk, os⟩) :
    wpAny (model prog w) Ar (checkBuiltinCall nid ⟨.ref C :: us, kw⟩) Q E ⟨hp, gs, dr, tk, os⟩ := by
  have inB : (Value.ref C :: bm).contains (.type B) = true := (List.contains_cons).trans (by rw [tl, F.hasB]; exact Bool.or_true _)
  have star := F.noStar
  simp only [checkBuiltinCall, F.newSplit, F.newKind, F.newRow]
  repeat first
    | (refine wpAny_isSubtype_exc oC ?_
       rw [inB])
    | refine wpAny_madeBy_exc oC ?_
    | refine wpAny_staticBase_exc oC ?_
    | refine wpAny_loadPart_at oC ?_
    | simp only [Bool.false_eq_true, if_false, bne_self_eq_false]
    | wp_step
  exact q
/-- __new__ lays the args and the error, and looks at no keyword -/
theorem kw_new (F : ExcBaseFacts B nid iid bmB) (tl : ∀ Y : String, bm.contains (.type Y) = bmB.contains (.type Y)) (oC : hp.get? C = some (excClassObj nm qn C N bs bm hdct sn sub ab col dd m0 m1 m2 m3 m5 nid)) (len : us.length ≤ sizeLine)
    (q : R (.ok (.ret (.ref (hp.objs.size + 1)))) ⟨(hp.push (W.kdv_tup us)).push (excO C hp.objs.size), gs, dr, tk, os⟩) : codeAny (model prog w) Ar (.builtin nid ⟨.ref C :: us, kw⟩) R ⟨hp, gs, dr, tk, os⟩ := by
  have in1 : (Value.ref C :: bm).contains (.type B) = true := (List.contains_cons).trans (by rw [tl, F.hasB]; exact Bool.or_true _)
  have in2 : (Value.ref C :: bm).contains (.type "NameError") = false := (List.contains_cons).trans (by rw [tl, F.noName]; rfl)
  have in3 : (Value.ref C :: bm).contains (.type "AttributeError") = false := (List.contains_cons).trans (by rw [tl, F.noAttr]; rfl)
  have fin := F.ends
  refine codeAny_builtinAt F.entry ?_
  unfold Builtin.«BaseException.__new__»
  refine wpAt_bind (show wpAt _ _ _ (stack >>= _) _ _ _ from wpAt_bind (wpAt_stack fun _ _ => wpAt_of_wpAny ?_))
  wp_walk
  refine wpAt_of_wpAny ?_
  rw [F.owner]
  repeat first
    | with_reducible refine wpAny_loadPart_at oC ?_
    | with_reducible refine wpAny_madeHere_exc F.canon oC ?_
    | (with_reducible refine wpAny_isSubtype_exc oC ?_
       first | rw [in1] | rw [in2] | rw [in3])
    | wp_step
  show R _ _
  rw [Heap.size_push]
  exact q
/-- the whole call -/
theorem call_kw (F : ExcBaseFacts B nid iid bmB) (tl : ∀ Y : String, bm.contains (.type Y) = bmB.contains (.type Y)) {fI : Addr} (oC : hp.get? C = some (excClassObj nm qn C N bs bm hdct sn sub ab col dd m0 m1 m2 m3 m5 nid))
    (li : W.Looks (model prog w) hp (typeLookup (.ref C) "__init__") (some (.ref fI))) (lb : ∀ self, W.Looks (model prog w) hp (bindSpecial (.ref fI) self) (.ref fI, [self])) (len : us.length ≤ sizeLine)
    (q : codeAny (model prog w) (Ar.under (.builtin "type.__call__" ⟨.ref C :: us, kw⟩)) (.call (.ref fI) ⟨.ref (hp.objs.size + 1) :: us, kw⟩) (W.InitBack (hp.objs.size + 1) R) ⟨(hp.push (W.kdv_tup us)).push (excO C hp.objs.size), gs, dr, tk, os⟩) :
    codeAny (model prog w) Ar (.call (.ref C) ⟨us, kw⟩) R ⟨hp, gs, dr, tk, os⟩ := by
  have old : ∀ b o, hp.get? b = some o → ((hp.push (W.kdv_tup us)).push (excO C hp.objs.size)).get? b = some o := fun b o z => Heap.get?_push_of_some _ (Heap.get?_push_of_some _ z)
  have oE : ((hp.push (W.kdv_tup us)).push (excO C hp.objs.size)).get? (hp.objs.size + 1) = some (excO C hp.objs.size) := by heap_get
  have oC' := old _ _ oC
  have inC : (Value.ref C :: bm).contains (.ref C) = true := by simp
  have c1 := tc_lookup
  have c2 := tc_bind (.ref C)
  have c3 : (⟨hp, gs, dr, tk, os⟩ : Shared).TypeIs (.ref C) "type" := ⟨_, oC, rfl⟩
  refine codeAny_of_tree (show wpAny _ _ (callAny (.ref C) _) _ _ _ from ?_)
  repeat (any_goals (first | with_reducible refine wpAny_loadPart_at oC ?_ | assumption | wp_step))
  refine ⟨rfl, codeAny_call_builtin_at (Code.quiet_builtin _ (by decide +kernel)) entry_typeCall (wpAny_check_type_call_sub oC ?_)⟩
  repeat (first | with_reducible refine wpAny_madeBy_exc oC ?_ | with_reducible refine wpAny_loadPart_at oC ?_ | wp_step)
  refine codeAny_call_builtin_code (Code.quiet_builtin _ F.quiet) (kw_check (us := us) F tl oC (kw_new (us := us) F tl oC len ?_))
  show wpAny _ _ _ _ _ _
  unfold isInstance
  repeat first
    | with_reducible refine wpAny_loadPart_at oE ?_
    | (with_reducible refine wpAny_isSubtype_exc oC' ?_
       rw [inC])
    | wp_step
  show wpAny _ _ (typeLookup (.ref C) _) _ _ _
  refine (li.keeps old).at (wpAny_holding (wpAny_bind (((lb (.ref (hp.objs.size + 1))).keeps old).at (wpAny_bind (wpAny_call (codeAny_mono q fun r s' z => ?_))))))
  cases r with
  | error e => exact z
  | ok fl =>
    cases fl with
    | ret v =>
      obtain ⟨ev, z⟩ := z
      subst ev
      first
        | exact wpAny_pure (wpAny_pure z)
        | (wp_walk; exact z)
    | next => exact z.elim
    | brk => exact z.elim
    | cont => exact z.elim
end
end PySem.HandSPX

namespace Lk
open PySem PySem.Spec PyProof.Rows L2
/-- one error class of the program: its object, its own __init__, what isinstance and reading ask -/
structure ErC (K : PySem.W.Frag) (C fI : Addr) : Prop where
  ox : OexC K C
  ini : PySem.W.findIn K (.ref C) "__init__" = some (some (.ref fI))
  tyI : PySem.W.typeIn K (.ref fI) = some (.type "function")
/-- a made error of the class at C: the object at a, its dict, its fields -/
def erAt (H : Hp) (a C : Addr) (fs : List (Str × V)) : Prop := ∃ d, H a = some (exo a C (some d)) ∧ H d = some (exd d fs)
def tXm (C : Addr) (sp : Sp) (t : TA) : TE := fun σ H Q => t σ H fun vs H1 => vs.length ≤ 1000 ∧ ∀ a, H1 a = none → sp (.ref a :: vs) (upd H1 a (exo a C none)) (fun v H2 => v = .non ∧ Q (.ref a) H2) E0
def tXk (C : Addr) (m : Nat) (sp : Sp) (gV : List V → List V → List V) (tk : TA) : TE := fun σ H Q => tk σ H fun zs H1 => zs.length = m ∧ ∀ a, H1 a = none → sp (gV [.ref a] zs) (upd H1 a (exo a C none)) (fun v H2 => v = .non ∧ Q (.ref a) H2) E0
section
variable {X : Cx} {k : Nat} {fI C : Addr} {fd : FuncData} {ps ks : List Str} {sp : Sp} {x : Str} {p pos : Pos} {e : Expr} {es : List Expr} {kws : List Keyword} {t tk : TA} {g : List Value → List Value → List Value} {gV : List V → List V → List V}
theorem run_xm {pins : List (Addr × Obj)} {σ : L2.St} {H : Hp} {s : Shared} {Q : VK} {us : List Value} {kw : List (Str × Value)} {ls : List Value} {vv : Addr → List V} (T : ErC X.K C fI)
    (F1 : FnOk X.prog X.w X.K X.mg X.base CX0 k fI fd ps sp) (hr : Room (k + 1) X.A) (I : Inv X pins σ H s) (hus : us.length ≤ sizeLine)
    (hb : ∀ s' : Shared, X.K.In s'.heap → BindsTo s' fd ⟨.ref (s.heap.objs.size + 1) :: us, kw⟩ (ps.zip ls)) (hv : Vals (vv (s.heap.objs.size + 1)) ls)
    (h : ∀ a, H a = none → sp (vv a) (upd H a (exo a C none)) (fun v H2 => v = .non ∧ Q (.ref a) H2) E0) :
    wpAny (model X.prog X.w) X.A (call (.ref C) us kw) (EP X pins σ Q) X.xe s := by
  obtain ⟨nm, q, N, bs, bm, sn, sub, ab, col, dd, k0, k1, k2, k3, k5, hC, hbm⟩ := T.ox.cls
  obtain ⟨hp, gg, dr, tk, os⟩ := s
  have nw : H (hp.objs.size + 1) = none := I.hok.fresh (Nat.le_succ _)
  have kk : ∀ b o, hp.get? b = some o → ((hp.push (PySem.W.kdv_tup us)).push (PySem.HandSPX.excO C hp.objs.size)).get? b = some o := fun b o z => Heap.get?_push_of_some _ (Heap.get?_push_of_some _ z)
  have ob : ((hp.push (PySem.W.kdv_tup us)).push (PySem.HandSPX.excO C hp.objs.size)).get? (hp.objs.size + 1) = some (PySem.HandSPX.excO C hp.objs.size) := by heap_get
  have J : Inv X pins σ (upd H (hp.objs.size + 1) (exo (hp.objs.size + 1) C none)) ⟨(hp.push (PySem.W.kdv_tup us)).push (PySem.HandSPX.excO C hp.objs.size), gg, dr, tk, os⟩ := I.laid (t' := tk) kk (Nat.le_succ _) (exo_ok ob)
  refine wpAny_call (PySem.HandSPX.call_kw F.excBase_ValueError (fun Y => PySem.HandSPX.refsVE_contains Y bm hbm) (I.kIn _ _ hC) (PySem.W.looks_findIn I.kIn T.ini) (fun self => PySem.W.bind_fn I.kIn self T.tyI) hus
    (codeAny_mono (F1.run _ X.stack _ _ _ ls _ _ E0 (hr.make C us kw) (J.env0.make C us kw) (hb _ J.kIn) hv (h _ nw)) fun r s' z => ?_))
  cases r with
  | error er => exact z.elim
  | ok fl =>
    cases fl with
    | ret u =>
      obtain ⟨v, H', I3, rv, ev, q3⟩ := J.after z
      subst ev
      exact ⟨rv, ⟨.ref (hp.objs.size + 1), H', I3, rfl, q3⟩⟩
    | next => exact z.elim
    | brk => exact z.elim
    | cont => exact z.elim
/-- C(e, ..) as a value -/
theorem pe_xm (T : ErC X.K C fI) (F1 : FnOk X.prog X.w X.K X.mg X.base CX0 k fI fd ps sp) (hr : Room (k + 1) X.A) (hb : Binds X.K fd ps []) (hm : X.mg x = some (.ref C)) (ha : PA X (e :: es) t) (hg : Gl X x := by rfl)
    (hdb : (x == ("__debug__" : Str)) = false := by decide) (he : starEach (e :: es) X.env = (false, eval e X.env) :: starEach es X.env := by rfl) (hpl : (backTo pos (starEach es X.env)).any (·.1) = false := by rfl) :
    PE X (.Call (.Name x p) (e :: es) [] pos) (tXm C sp t) := by
  refine ⟨fun pins s σ H Q I h => wpAny_Call_Name_kw (ld_glob I hg hm ?_ hdb)⟩
  refine PySem.W.callWith_K (h₀ := X.base) I.ok.mod.kin T.ox.kC (thn (ha.run pos pins s σ H _ I h) fun us s1 ⟨vs, H1, I1, r1, hz, q1⟩ => ⟨I1.kIn, ?_⟩) he hpl
  have l1 : us.length ≤ sizeLine := by
    rw [← Paired.length r1, sizeLine_eq]
    omega
  have l2 : vs.length + 1 = ps.length := F1.len _ _ _ _ (q1 _ (I1.hok.fresh (Nat.le_refl _)))
  refine run_xm (vv := fun a => .ref a :: vs) (ls := .ref (s1.heap.objs.size + 1) :: us) T F1 hr I1 l1 (fun s' ks => ?_) (.cons rfl r1) q1
  have z := hb s' (.ref (s1.heap.objs.size + 1) :: us) ks (by rw [List.append_nil, List.length_cons, ← r1.length]; exact l2)
  rw [List.append_nil] at z
  exact z
/-- C(k = e, ..) as a value -/
theorem pe_xk (T : ErC X.K C fI) (F1 : FnOk X.prog X.w X.K X.mg X.base CX0 k fI fd ps sp) (hr : Room (k + 1) X.A) (hb : KBn X.K fd ps 1 ks g gV) (hm : X.mg x = some (.ref C)) (hkw : PK X kws tk) (hg : Gl X x := by rfl)
    (hall : (backToKw pos (keywordEach kws X.env)).all (·.1.isSome) = true := by rfl) (hks : (backToKw pos (keywordEach kws X.env)).filterMap (·.1) = ks := by rfl) (hdb : (x == ("__debug__" : Str)) = false := by decide)
    (hpl : ((backTo pos (starEach [] X.env)).any (·.1) || (backToKw pos (keywordEach kws X.env)).any (·.1.isNone)) = false := by rfl) :
    PE X (.Call (.Name x p) [] kws pos) (tXk C ks.length sp gV tk) := by
  refine ⟨fun pins s σ H Q I h => wpAny_Call_Name_kw (ld_glob I hg hm ?_ hdb)⟩
  refine PySem.W.callWith_KW0 (h₀ := X.base) I.ok.mod.kin T.ox.kC hall ?_ hpl
  refine thn (hkw.run pos pins s σ H _ I h) fun ws s2 ⟨zs, H2, I2, rz, l2, q2⟩ => ⟨I2.kIn, ?_⟩
  rw [hks]
  have r1 : Vals [V.ref (s2.heap.objs.size + 1)] [Value.ref (s2.heap.objs.size + 1)] := .cons rfl .nil
  exact run_xm (vv := fun a => gV [.ref a] zs) (us := []) T F1 hr I2 (Nat.zero_le _) (fun s' kin => hb.to s' _ ws kin rfl (rz.length.symm.trans l2)) (hb.rel r1 rz) q2
/-- C(), the class has no __init__ of its own -/
theorem pe_x0 {bmB : List Value} {B newId initId : String} (F : ExcBaseFacts B newId initId bmB) (q : PySem.W.excIn X.K C bmB newId = true) (gC : X.mg x = some (.ref C)) (kC : PySem.W.keepIn X.K (.ref C) = true) (hg : Gl X x := by rfl) (hdb : (x == ("__debug__" : Str)) = false := by decide) :
    PE X (.Call (.Name x p) [] [] pos) (fun σ H Q => ∀ a, H a = none → Q (.ref a) (upd H a (ExO (.ref C) a))) := by
  refine ⟨fun pins s σ H Q I h => wpAny_Call_Name_kw (ld_glob I hg gC ?_ hdb)⟩
  refine PySem.W.callWith_K0 I.kIn kC ?_
  show wpAny _ _ (call (.ref C) []) _ _ _
  obtain ⟨bm, N, nm, qn, bs, hdct, sn, sub, ab, col, dd, k0, k1, k2, k3, k5, mN, hC, hN, hni, T⟩ := exc_obj I.kIn q
  refine wpAny_call_exc_subT F T hC hN hni (fun h' a mk => ?_) (Nat.zero_le _)
  obtain ⟨t, ht, _, _⟩ := mk.there
  have nw : H a = none := I.hok.gone mk.new
  exact ⟨.ref a, _, I.laidN mk.keeps mk.new nw (exO_ok ht ⟨rfl, rfl⟩ rfl rfl rfl (show 4 < 6 by decide)), rfl, h a nw⟩
/-- ValueError(e) -/
def VeO (a : Addr) : HO := .ext fun h => PySem.W.KitAt a "ValueError" h
theorem pe_ve (hm : X.mg "ValueError" = none) (ha : PA X (e :: es) t) (hg : Gl X "ValueError" := by rfl)
    (he : starEach (e :: es) X.env = (false, eval e X.env) :: starEach es X.env := by rfl) (hpl : (backTo pos (starEach es X.env)).any (·.1) = false := by rfl) :
    PE X (.Call (.Name "ValueError" p) (e :: es) [] pos) (fun σ H Q => t σ H fun vs H1 => vs.length ≤ 1000 ∧ ∀ a, H1 a = none → Q (.ref a) (upd H1 a (VeO a))) := by
  refine ⟨fun pins s σ H Q I h => wpAny_Call_Name_kw (ld_blt I hg hm (u := .type "ValueError") (by decide +kernel) ?_)⟩
  refine PyProof.Rows.callWith_type1 (thn (ha.run pos pins s σ H _ I h) fun us s1 ⟨vs, H1, I1, r1, hz, q1⟩ => ?_) he hpl
  have l1 : us.length ≤ sizeLine := by
    rw [← Paired.length r1, sizeLine_eq]
    omega
  obtain ⟨hp, gg, dr, tk, os⟩ := s1
  refine wpAny_call_exc PySem.F.excCall_ValueError (fun h' a mk => ?_) l1
  obtain ⟨t0, ht, _, _⟩ := (PySem.Heap.MadeExc.of mk).there
  have nw : H1 a = none := I1.hok.gone mk.new
  refine ⟨.ref a, _, I1.laidN mk.keeps mk.new nw (o := VeO a) ⟨⟨_, ht, rfl⟩, ⟨_, ht⟩, fun h1 h2 ⟨o, z1, z2⟩ kp => ⟨o, kp o z1, z2⟩⟩, rfl, q1 a nw⟩
end
/-! ### what is asked of made errors -/
/-- an error that stands: its class, with a dict of its own or without -/
inductive ErV (H : Hp) : V → Addr → Prop where
  | d {a C d : Addr} {fs : List (Str × V)} (h : H a = some (exo a C (some d))) (h2 : H d = some (exd d fs)) : ErV H (.ref a) C
  | n {a C : Addr} (h : H a = some (ExO (.ref C) a)) : ErV H (.ref a) C
/-- what the class must say, so that isinstance asks its errors rightly -/
structure EkC (K : PySem.W.Frag) (C : Addr) : Prop where
  cl : (PySem.W.clsIn K C).isSome = true
  ga : PySem.W.findIn K (.ref C) "__getattribute__" = some (some (.builtin "BaseException.__getattribute__"))
  gt : PySem.W.findIn K (.ref C) "__getattr__" = some none
  su : PySem.W.subIn K (.ref C) (.type "BaseException") = some true
  ca : PySem.W.findIn K (.ref C) "__class__" = some (some (.builtin "object.__class__"))
  sp : PySem.W.specialIn K (.builtin "object.__class__") "__get__" = some (some (.builtin "getset_descriptor.__get__"))
  tk : PySem.W.takesIn K (.builtin "object.__class__") = some true
  mo : PySem.W.mroIn K C (.type "object") = some true
def rIsX (K : PySem.W.Frag) : List V → Hp → VK → Prop := fun xs H Q => ∃ (x c : V) (D : Addr) (cv : Value) (b : Bool), xs = [x, c] ∧ ErV H x D ∧ EkC K D ∧ ClsV c cv ∧ PySem.W.kitOne K (.ref D) cv = some b ∧ Q (.bl b) H
theorem call_isX {X : Cx} : CallR X (.builtin "isinstance") (rIsX X.K) := by
  intro pins s σ H xs us Q I r h
  obtain ⟨x, c, D, cv, b, rfl, hx, T, hc, e, q⟩ := h
  cases r with
  | cons r1 rr =>
    cases rr with
    | cons r2 rr =>
      cases rr
      have ec := hc.eq r2
      subst ec
      cases hx with
      | d h h2 =>
        cases r1
        obtain ⟨t1, g1⟩ := exo_at I.hok h
        obtain ⟨mA, ⟨od, es, ep, g2, _⟩, _⟩ := exd_at I.hok h2
        have J : PySem.W.InstAt s.heap _ _ D (some od) := ⟨g1, rfl, rfl, g2⟩
        exact PySem.W.kia_one (PySem.W.kitx_exc T.cl T.ga T.gt T.su T.ca T.sp T.tk T.mo) I.kIn J e (fun z => nomatch z) fun tk => ⟨.bl b, H, I.kept (t' := tk) fun _ _ z => z, rfl, q⟩
      | n h =>
        cases r1
        rename_i a0
        obtain ⟨⟨oe, vs, g1, hz, hd, _⟩, _, _⟩ := I.hok _ _ h
        have J : PySem.W.InstAt s.heap a0 oe D none := by
          obtain ⟨oc, od, oda, osl⟩ := oe
          obtain ⟨z1, z2⟩ := hz
          dsimp only at z1 z2 hd
          subst z1 z2 hd
          exact ⟨g1, rfl, rfl, trivial⟩
        exact PySem.W.kia_one (PySem.W.kitx_exc T.cl T.ga T.gt T.su T.ca T.sp T.tk T.mo) I.kIn J e (fun z => nomatch z) fun tk => ⟨.bl b, H, I.kept (t' := tk) fun _ _ z => z, rfl, q⟩
def rIsVe (K : PySem.W.Frag) : List V → Hp → VK → Prop := fun xs H Q => ∃ (a : Addr) (c : V) (cv : Value) (b : Bool), xs = [.ref a, c] ∧ H a = some (VeO a) ∧ ClsV c cv ∧ PySem.W.kitOne K (.type "ValueError") cv = some b ∧ Q (.bl b) H
theorem call_isVe {X : Cx} : CallR X (.builtin "isinstance") (rIsVe X.K) := by
  intro pins s σ H xs us Q I r h
  obtain ⟨a, c, cv, b, rfl, hx, hc, e, q⟩ := h
  cases r with
  | cons r1 rr =>
    cases rr with
    | cons r2 rr =>
      cases rr
      have ec := hc.eq r2
      subst ec
      cases r1
      obtain ⟨p, _, _⟩ := I.hok _ _ hx
      exact PySem.W.kia_one (PySem.W.kitx_bexc PySem.F.excAttr_ValueError PySem.F.lkClass_ValueError PySem.F.soClass_ValueError (by decide)) I.kIn p e (fun z => nomatch z) fun tk => ⟨.bl b, H, I.kept (t' := tk) fun _ _ z => z, rfl, q⟩
/-- e.f of a made error -/
structure EfC (K : PySem.W.Frag) (C : Addr) (f : Str) : Prop where
  k : EkC K C
  hd : PySem.W.hasDictIn K C = true
  no : PySem.W.findIn K (.ref C) f = some none
def tEf (K : PySem.W.Frag) (f : Str) (te : TE) : TE := fun σ H Q => te σ H fun x H1 => ∃ (a C d : Addr) (fs : List (Str × V)) (v : V), x = .ref a ∧ H1 a = some (exo a C (some d)) ∧ H1 d = some (exd d fs) ∧ EfC K C f ∧ fs.lookup f = some v ∧ Q v H1
theorem pe_ef {X : Cx} {e : Expr} {te : TE} {f : Str} {pos : Pos} (he : PE X e te) (hb : attributeBase e f X.env (eval e X.env) = eval e X.env := by rfl) : PE X (.Attribute e f pos) (tEf X.K f te) := by
  refine ⟨fun pins s σ H Q I h => attr_of hb (thn (he.run pins s σ H _ I h) fun u s1 ⟨x, H1, I1, rx, a, C, d, fs, v, ex, h1, h2, T, l, q⟩ => ?_)⟩
  subst ex
  obtain rfl : u = Value.ref a := rx
  obtain ⟨t1, g1⟩ := exo_at I1.hok h1
  obtain ⟨mA, hns, hrel⟩ := exd_at I1.hok h2
  obtain ⟨od, ho, hl⟩ := lookIn_ns hns
  obtain ⟨u, hu, ru⟩ := RelO.some_of (v := v) (o := mA f) (by rw [← l]; exact hrel f)
  have J : PySem.W.InstAt s1.heap a _ C (some od) := ⟨g1, rfl, rfl, ho⟩
  exact HandSPX.exc_get I1.kIn J T.k.ga T.k.gt T.k.su (PySem.W.findObj_own T.hd T.no rfl (by rw [hl, hu])) (handed_of ru) ⟨v, H1, I1.tok _, ru, q⟩
end Lk

namespace Lk
open PySem PySem.Spec PyProof.Rows L2
/-! ### the promises of __init__: one, two, three fields -/
def spI1 (C : Addr) (f : Str) : Sp := fun vs H Q _ => ∃ (a : Addr) (x : V), vs = [.ref a, x] ∧ H a = some (exo a C none) ∧
  ∀ (d : Addr) (H' : Hp), H d = none → d ≠ a → H' a = some (exo a C (some d)) → H' d = some (exd d [(f, x)]) → (∀ b, b ≠ a → b ≠ d → H' b = H b) → Q .non H'
def spI2 (C : Addr) (f g : Str) : Sp := fun vs H Q _ => ∃ (a : Addr) (x y : V), vs = [.ref a, x, y] ∧ H a = some (exo a C none) ∧
  ∀ (d : Addr) (H' : Hp), H d = none → d ≠ a → H' a = some (exo a C (some d)) → H' d = some (exd d [(g, y), (f, x)]) → (∀ b, b ≠ a → b ≠ d → H' b = H b) → Q .non H'
def spI3 (C : Addr) (f g h : Str) : Sp := fun vs H Q _ => ∃ (a : Addr) (x y z : V), vs = [.ref a, x, y, z] ∧ H a = some (exo a C none) ∧
  ∀ (d : Addr) (H' : Hp), H d = none → d ≠ a → H' a = some (exo a C (some d)) → H' d = some (exd d [(h, z), (g, y), (f, x)]) → (∀ b, b ≠ a → b ≠ d → H' b = H b) → Q .non H'
/-- the reading of the first store, of a later one -/
theorem st0 {K : PySem.W.Frag} {C a : Addr} {f : Str} {i j : Nat} {x : V} {D : Ends} {σ : L2.St} {H : Hp} (T : OexC K C) (n : PySem.W.findIn K (.ref C) f = some none) (hi : σ[i]? = some (some (.ref a))) (hj : σ[j]? = some (some x)) (ha : H a = some (exo a C none))
    (q : ∀ d, H d = none → d ≠ a → D.nx σ (upd (upd H d (exd d [(f, x)])) a (exo a C (some d)))) : tOst K f (tVar i) (tVar j) D σ H :=
  ⟨x, hj, .ref a, hi, a, C, rfl, T, n, .inl ⟨ha, q⟩⟩
theorem st1 {K : PySem.W.Frag} {C a d : Addr} {f : Str} {i j : Nat} {x : V} {fs : List (Str × V)} {D : Ends} {σ : L2.St} {H : Hp} (T : OexC K C) (n : PySem.W.findIn K (.ref C) f = some none) (hi : σ[i]? = some (some (.ref a))) (hj : σ[j]? = some (some x)) (ha : H a = some (exo a C (some d)))
    (hd : H d = some (exd d fs)) (hl : fs.length ≤ 900) (q : D.nx σ (upd H d (exd d ((f, x) :: fs)))) : tOst K f (tVar i) (tVar j) D σ H :=
  ⟨x, hj, .ref a, hi, a, C, rfl, T, n, .inr ⟨d, fs, ha, hd, hl, q⟩⟩
section
variable {K : PySem.W.Frag} {C a : Addr} {f g h : Str} {i1 i2 i3 : Nat} {x y z : V} {D : Ends} {σ : L2.St} {H : Hp}
theorem rd1 (T : OexC K C) (n : PySem.W.findIn K (.ref C) f = some none) (h0 : σ[0]? = some (some (.ref a))) (h1 : σ[1]? = some (some x)) (ha : H a = some (exo a C none))
    (k : ∀ (d : Addr) (H' : Hp), H d = none → d ≠ a → H' a = some (exo a C (some d)) → H' d = some (exd d [(f, x)]) → (∀ b, b ≠ a → b ≠ d → H' b = H b) → D.nx σ H') : tOst K f (tVar 0) (tVar 1) D σ H := by
  refine st0 T n h0 h1 ha fun d hd hne => k d _ hd hne upd_same (by rw [upd_ne hne, upd_same]) fun b n1 n2 => by rw [upd_ne n1, upd_ne n2]
theorem rd2 (T : OexC K C) (n : PySem.W.findIn K (.ref C) f = some none) (m : PySem.W.findIn K (.ref C) g = some none) (h0 : σ[0]? = some (some (.ref a))) (h1 : σ[1]? = some (some x)) (h2 : σ[2]? = some (some y)) (ha : H a = some (exo a C none))
    (k : ∀ (d : Addr) (H' : Hp), H d = none → d ≠ a → H' a = some (exo a C (some d)) → H' d = some (exd d [(g, y), (f, x)]) → (∀ b, b ≠ a → b ≠ d → H' b = H b) → D.nx σ H') :
    tSeq (tOst K f (tVar 0) (tVar 1)) (tOst K g (tVar 0) (tVar 2)) D σ H := by
  refine rd1 T n h0 h1 ha fun d H' hd hne e1 e2 e3 => ?_
  refine st1 T m h0 h2 e1 e2 (by show 1 ≤ 900; decide) (k d _ hd hne (by rw [upd_ne (Ne.symm hne)]; exact e1) upd_same fun b n1 n2 => by rw [upd_ne n2]; exact e3 b n1 n2)
theorem rd3 (T : OexC K C) (n : PySem.W.findIn K (.ref C) f = some none) (m : PySem.W.findIn K (.ref C) g = some none) (o : PySem.W.findIn K (.ref C) h = some none) (h0 : σ[0]? = some (some (.ref a))) (h1 : σ[1]? = some (some x)) (h2 : σ[2]? = some (some y)) (h3 : σ[3]? = some (some z)) (ha : H a = some (exo a C none))
    (k : ∀ (d : Addr) (H' : Hp), H d = none → d ≠ a → H' a = some (exo a C (some d)) → H' d = some (exd d [(h, z), (g, y), (f, x)]) → (∀ b, b ≠ a → b ≠ d → H' b = H b) → D.nx σ H') :
    tSeq (tOst K f (tVar 0) (tVar 1)) (tSeq (tOst K g (tVar 0) (tVar 2)) (tOst K h (tVar 0) (tVar 3))) D σ H := by
  refine rd2 T n m h0 h1 h2 ha fun d H' hd hne e1 e2 e3 => ?_
  refine st1 T o h0 h3 e1 e2 (by show 2 ≤ 900; decide) (k d _ hd hne (by rw [upd_ne (Ne.symm hne)]; exact e1) upd_same fun b n1 n2 => by rw [upd_ne n2]; exact e3 b n1 n2)
end
/-! ### keywords handed in the other way round -/
theorem vals_rev : ∀ {vs : List V} {us : List Value}, Vals vs us → Vals vs.reverse us.reverse
  | _, _, .nil => .nil
  | _, _, .cons r t => by
    rw [List.reverse_cons, List.reverse_cons]
    exact (vals_rev t).append (.cons r .nil)
theorem kb_rev {K : PySem.W.Frag} {fd : FuncData} {ps ks : List Str} (h : ∀ us ws : List Value, us.length = 1 → ws.length = ks.length → bindArgs fd ⟨us, ks.zip ws⟩ = pure (ps.zip (us ++ ws.reverse))) :
    KBn K fd ps 1 ks (fun us ws => us ++ ws.reverse) (fun us ws => us ++ ws.reverse) :=
  ⟨fun s us ws _ h1 h2 => .of_eq (h us ws h1 h2), fun r1 r2 => r1.append (vals_rev r2)⟩
/-! ### an error class as the top has left it -/
structure ErK (K : PySem.W.Frag) (mg : Str → Option Value) (x : Str) (C B : Addr) : Prop where
  g : mg x = some (.ref C)
  ob : ∃ nm q N bs sn sub ab col dd k0 k1 k2 k3 k5, K.lookup C = some (excClassObj nm q C N bs [.ref B, .type "ValueError", .type "Exception", .type "BaseException", .type "object"] true sn sub ab col dd k0 k1 k2 k3 k5 "ValueError.__new__")
  sa : PySem.W.findIn K (.ref C) "__setattr__" = some (some (.builtin "object.__setattr__"))
  ty : PySem.W.typeIn K (.ref C) = some (.type "type")
  kp : PySem.W.keepIn K (.ref C) = true
  ek : EkC K C
theorem ErK.ox {K : PySem.W.Frag} {mg : Str → Option Value} {x : Str} {C B : Addr} (E : ErK K mg x C B) : OexC K C := by
  obtain ⟨nm, q, N, bs, sn, sub, ab, col, dd, k0, k1, k2, k3, k5, h⟩ := E.ob
  exact ⟨⟨nm, q, N, bs, _, sn, sub, ab, col, dd, k0, k1, k2, k3, k5, h, rfl⟩, E.sa, E.ek.su, E.ty, E.kp⟩
theorem erk_cls {K : PySem.W.Frag} {mg : Str → Option Value} {x : Str} {C B : Addr} (E : ErK K mg x C B) : ∃ cd, PySem.W.clsIn K C = some cd ∧ cd.mro = [.ref C, .ref B, .type "ValueError", .type "Exception", .type "BaseException", .type "object"] := by
  obtain ⟨nm, q, N, bs, sn, sub, ab, col, dd, k0, k1, k2, k3, k5, h⟩ := E.ob
  refine ⟨_, by unfold PySem.W.clsIn; rw [h], rfl⟩
theorem rne {a b : Addr} (h : a ≠ b) : (Value.ref a == Value.ref b) = false := beq_eq_false_iff_ne.mpr fun z => h (Value.ref.inj z)
theorem rty {a : Addr} {n : String} : (Value.ref a == Value.type n) = false := beq_eq_false_iff_ne.mpr fun z => by cases z
/-- isinstance of an error of the class D, asked of another of these classes -/
theorem kit_er {K : PySem.W.Frag} {mg : Str → Option Value} {x y : Str} {C D B : Addr} (E : ErK K mg x D B) (F : ErK K mg y C B) (hn : C ≠ B) : PySem.W.kitOne K (.ref D) (.ref C) = some (decide (D = C)) := by
  obtain ⟨cd, e1, e2⟩ := erk_cls E
  obtain ⟨cd', e3, _⟩ := erk_cls F
  unfold PySem.W.kitOne
  by_cases h : D = C
  · subst h
    rw [if_pos (by simp), decide_eq_true rfl]
  · have h1 : ¬ ((Value.ref D == Value.ref C) = true) := fun z => h (Value.ref.inj (beq_iff_eq.mp z))
    rw [if_neg h1, decide_eq_false h]
    unfold PySem.W.kitCls
    have h2 : ((PySem.W.clsIn K C).isSome && PySem.W.typeIn K (.ref C) == some (.type "type")) = true := by rw [e3, F.ty]; rfl
    simp only []
    rw [if_pos h2]
    show PySem.W.mroIn K D (.ref C) = some false
    unfold PySem.W.mroIn
    rw [e1, Option.bind_some, e2]
    have h3 : ¬ C = D := fun z => h z.symm
    simp [List.contains, List.elem, rne h3, rne hn, rty]
theorem kit_ve {K : PySem.W.Frag} {mg : Str → Option Value} {x : Str} {D B : Addr} (E : ErK K mg x D B) : PySem.W.kitOne K (.ref D) (.type "ValueError") = some true := by
  obtain ⟨cd, e1, e2⟩ := erk_cls E
  unfold PySem.W.kitOne
  rw [if_neg (by intro z; cases beq_iff_eq.mp z)]
  unfold PySem.W.kitCls
  simp only []
  rw [if_pos (by decide +kernel)]
  show PySem.W.mroIn K D _ = some true
  unfold PySem.W.mroIn
  rw [e1, Option.bind_some, e2]
  rfl
/-- asked of their base -/
theorem kit_base {K : PySem.W.Frag} {mg : Str → Option Value} {x : Str} {D B : Addr} (E : ErK K mg x D B) (h1 : (PySem.W.clsIn K B).isSome = true) (h2 : PySem.W.typeIn K (.ref B) = some (.type "type")) (hn : D ≠ B) : PySem.W.kitOne K (.ref D) (.ref B) = some true := by
  obtain ⟨cd, e1, e2⟩ := erk_cls E
  unfold PySem.W.kitOne
  rw [if_neg (fun z => hn (Value.ref.inj (beq_iff_eq.mp z)))]
  unfold PySem.W.kitCls
  simp only []
  rw [if_pos (by rw [h1, h2]; rfl)]
  show PySem.W.mroIn K D _ = some true
  unfold PySem.W.mroIn
  rw [e1, Option.bind_some, e2]
  simp [List.contains, List.elem]
  cases Value.ref B == Value.ref D <;> rfl
theorem kit_veB {K : PySem.W.Frag} {B : Addr} (h1 : (PySem.W.clsIn K B).isSome = true) (h2 : PySem.W.typeIn K (.ref B) = some (.type "type")) : PySem.W.kitOne K (.type "ValueError") (.ref B) = some false := by
  unfold PySem.W.kitOne
  rw [if_neg (by intro z; cases beq_iff_eq.mp z)]
  unfold PySem.W.kitCls
  simp only []
  rw [if_pos (by rw [h1, h2]; rfl)]
  show (PySem.fastBuiltinMro "ValueError").map _ = some false
  have e : ∃ l, PySem.fastBuiltinMro "ValueError" = some l ∧ l = [.type "ValueError", .type "Exception", .type "BaseException", .type "object"] := ⟨_, by decide +kernel, rfl⟩
  obtain ⟨l, e, rfl⟩ := e
  rw [e]
  simp [List.contains, List.elem, rty]
end Lk

namespace Lk
open PySem PySem.Spec PyProof.Rows L2
theorem lkA {f : Str} {v : V} {r : List (Str × V)} : List.lookup f ((f, v) :: r) = some v := by simp [List.lookup]
theorem lkB {f g : Str} {v w : V} {r : List (Str × V)} (h : ¬ f = g) (t : List.lookup f r = some v) : List.lookup f ((g, w) :: r) = some v := by
  have e : (f == g) = false := by simpa using h
  simp [List.lookup, e, t]
theorem same_new {H : Hp} {p : Addr} {o : HO} (h : H p = none) : Same H (upd H p o) := fun b u e => by
  rw [upd_ne (ne_of_none e h)]
  exact e
theorem erv_same {H H' : Hp} {x : V} {C : Addr} (s : Same H H') (h : ErV H x C) : ErV H' x C := by
  cases h with
  | d h h2 => exact .d (s _ _ h) (s _ _ h2)
  | n h => exact .n (s _ _ h)
theorem erat_same {H H' : Hp} {a C : Addr} {fs : List (Str × V)} (s : Same H H') (h : erAt H a C fs) : erAt H' a C fs := by
  obtain ⟨d, h1, h2⟩ := h
  exact ⟨d, s _ _ h1, s _ _ h2⟩
/-! ### a value, a list of values, that leaves the heap as it is -/
def Pv (te : TE) (σ : L2.St) (H : Hp) (v : V) : Prop := ∀ H', Same H H' → ∀ Q : VK, Q v H' → te σ H' Q
def Pl (ta : TA) (σ : L2.St) (H : Hp) (vs : List V) : Prop := ∀ H', Same H H' → ∀ Q : List V → Hp → Prop, Q vs H' → ta σ H' Q
section
variable {σ : L2.St} {H : Hp} {te ta tb : TE} {tl : TA} {v : V} {vs us : List V} {i : Nat} {D : Ends} {p : Addr}
theorem pv_var (h : σ[i]? = some (some v)) : Pv (tVar i) σ H v := fun _ _ _ q => ⟨v, h, q⟩
theorem pv_c : Pv (tC v) σ H v := fun _ _ _ q => q
theorem pv_neg {n : Int} (h : Pv te σ H (.int n)) : Pv (tUn (rU fun i => .int (-i)) te) σ H (.int (-n)) := fun H' s Q q => h H' s _ ⟨n, rfl, q⟩
theorem pl_nil : Pl tNil σ H [] := fun _ _ _ q => q
theorem pl_cons (h : Pv te σ H v) (t : Pl tl σ H vs) : Pl (tCons te tl) σ H (v :: vs) := fun H' s Q q => h H' s _ (t H' s _ q)
theorem pv_isx {K : PySem.W.Frag} {x c : V} {D : Addr} {cv : Value} {b : Bool} (ha : Pv ta σ H x) (hb : Pv tb σ H c) (hx : ErV H x D) (hk : EkC K D) (hc : ClsV c cv) (e : PySem.W.kitOne K (.ref D) cv = some b) : Pv (tCB (rIsX K) (tCons ta (tCons tb tNil))) σ H (.bl b) := fun H' s Q q =>
  ha H' s _ (hb H' s _ ⟨x, c, D, cv, b, rfl, erv_same s hx, hk, hc, e, q⟩)
/-- x = [..]; x = x + [..] -/
theorem as_new (h : Pl tl σ H vs) (hl : vs.length ≤ 1000) (q : ∀ p H', Same H H' → H p = none → H' p = some (.lst vs) → D.nx (σ.set i (some (.ref p))) H') : tAsg (tLst tl) (gName i) D σ H :=
  h H (Same.refl H) _ ⟨Nat.le_of_lt (small1000 hl), fun p hp => q p _ (same_new hp) hp upd_same⟩
theorem as_cat (hi : σ[i]? = some (some (.ref p))) (hp : H p = some (.lst us)) (h : Pl tl σ H vs) (hl : us.length + vs.length ≤ 1000)
    (q : ∀ r H', Same H H' → H r = none → H' r = some (.lst (us ++ vs)) → D.nx (σ.set i (some (.ref r))) H') : tAsg (tOp rCat (tVar i) (tLst tl)) (gName i) D σ H := by
  refine ⟨_, hi, h H (Same.refl H) _ ⟨Nat.le_of_lt (small1000 (by omega)), fun b hb => ?_⟩⟩
  have s1 : Same H (upd H b (.lst vs)) := same_new hb
  refine ⟨p, b, us, vs, rfl, rfl, s1 _ _ hp, upd_same, Nat.le_of_lt (small1000 hl), fun r hr => q r _ (s1.trans (same_new hr)) (s1.free hr) upd_same⟩
end
section
variable {σ : L2.St} {H : Hp} {tl : TA} {vs us : List V} {i : Nat} {D : Ends} {p : Addr} {u : TS}
theorem ss_new (h : Pl tl σ H vs) (hl : vs.length ≤ 1000) (q : ∀ p H', Same H H' → H p = none → H' p = some (.lst vs) → u D (σ.set i (some (.ref p))) H') : tSeq (tAsg (tLst tl) (gName i)) u D σ H := as_new h hl q
theorem ss_cat (hi : σ[i]? = some (some (.ref p))) (hp : H p = some (.lst us)) (h : Pl tl σ H vs) (hl : us.length + vs.length ≤ 1000)
    (q : ∀ r H', Same H H' → H r = none → H' r = some (.lst (us ++ vs)) → u D (σ.set i (some (.ref r))) H') : tSeq (tAsg (tOp rCat (tVar i) (tLst tl)) (gName i)) u D σ H := as_cat hi hp h hl q
end
/-! ### errors that are made -/
def Mds (H : Hp) : List Addr → List (Addr × List (Str × V)) → Prop
  | [], [] => True
  | a :: as, r :: rs => erAt H a r.1 r.2 ∧ Mds H as rs
  | _, _ => False
theorem Mds.same {H H' : Hp} (s : Same H H') : ∀ {as : List Addr} {rs : List (Addr × List (Str × V))}, Mds H as rs → Mds H' as rs
  | [], [], _ => trivial
  | _ :: _, _ :: _, h => ⟨erat_same s h.1, Mds.same s h.2⟩
  | [], _ :: _, h => h.elim
  | _ :: _, [], h => h.elim
theorem Mds.append {H : Hp} : ∀ {as bs : List Addr} {rs qs : List (Addr × List (Str × V))}, Mds H as rs → Mds H bs qs → Mds H (as ++ bs) (rs ++ qs)
  | [], _, [], _, _, k => k
  | _ :: _, _, _ :: _, _, h, k => ⟨h.1, Mds.append h.2 k⟩
  | [], _, _ :: _, _, h, _ => h.elim
  | _ :: _, _, [], _, h, _ => h.elim
theorem Mds.len {H : Hp} : ∀ {as : List Addr} {rs : List (Addr × List (Str × V))}, Mds H as rs → as.length = rs.length
  | [], [], _ => rfl
  | _ :: _, _ :: _, h => congrArg Nat.succ (Mds.len h.2)
  | [], _ :: _, h => h.elim
  | _ :: _, [], h => h.elim
theorem Mds.at {H : Hp} : ∀ {as : List Addr} {rs : List (Addr × List (Str × V))} {i : Nat} {r : Addr × List (Str × V)}, Mds H as rs → rs[i]? = some r → ∃ a, as[i]? = some a ∧ erAt H a r.1 r.2
  | [], [], _, _, _, e => by simp at e
  | a :: _, _ :: _, 0, _, h, e => by
    simp at e
    subst e
    exact ⟨a, rfl, h.1⟩
  | _ :: as, _ :: rs, i + 1, _, h, e => by
    obtain ⟨a, e1, e2⟩ := Mds.at (as := as) (rs := rs) (i := i) h.2 (by simpa using e)
    exact ⟨a, by simpa using e1, e2⟩
  | [], _ :: _, _, _, h, _ => h.elim
  | _ :: _, [], _, _, h, _ => h.elim
def Mk1 (te : TE) (σ : L2.St) (C : Addr) (fs : List (Str × V)) : Prop := ∀ (H : Hp) (Q : VK), (∀ a H', Same H H' → erAt H' a C fs → Q (.ref a) H') → te σ H Q
def MkL (ta : TA) (σ : L2.St) (rs : List (Addr × List (Str × V))) : Prop := ∀ (H : Hp) (Q : List V → Hp → Prop), (∀ as H', Same H H' → Mds H' as rs → Q (as.map V.ref) H') → ta σ H Q
section
variable {σ : L2.St} {H : Hp} {te : TE} {tl : TA} {C : Addr} {fs : List (Str × V)} {rs qs : List (Addr × List (Str × V))} {i : Nat} {D : Ends} {p : Addr} {as : List Addr}
theorem mkl_nil : MkL tNil σ [] := fun H Q q => q [] H (Same.refl H) trivial
theorem mkl_cons (h : Mk1 te σ C fs) (t : MkL tl σ rs) : MkL (tCons te tl) σ ((C, fs) :: rs) := fun H Q q =>
  h H _ fun a H1 s1 e1 => t H1 _ fun as H2 s2 e2 => q (a :: as) H2 (s1.trans s2) ⟨erat_same s2 e1, e2⟩
theorem er_made {H H' : Hp} {a d : Addr} (ha : H a = none) (hd : upd H a (exo a C none) d = none) (hne : d ≠ a) (e3 : ∀ b, b ≠ a → b ≠ d → H' b = upd H a (exo a C none) b) : Same H H' := fun b o e => by
  have n1 : b ≠ a := ne_of_none e ha
  have n2 : b ≠ d := fun z => by
    rw [z] at e
    rw [upd_ne hne, e] at hd
    cases hd
  rw [e3 b n1 n2, upd_ne n1]
  exact e
theorem mk1 {f : Str} {x : V} {t : TA} (h : ∀ H, Pl t σ H [x]) : Mk1 (tXm C (spI1 C f) t) σ C [(f, x)] := fun H Q q => h H H (Same.refl H) _ ⟨by simp, fun a ha =>
  ⟨a, x, rfl, upd_same, fun d H' hd hne e1 e2 e3 => ⟨rfl, q a H' (er_made ha hd hne e3) ⟨d, e1, e2⟩⟩⟩⟩
theorem mk2 {f g : Str} {x y : V} {t : TA} (h : ∀ H, Pl t σ H [x, y]) : Mk1 (tXm C (spI2 C f g) t) σ C [(g, y), (f, x)] := fun H Q q => h H H (Same.refl H) _ ⟨by simp, fun a ha =>
  ⟨a, x, y, rfl, upd_same, fun d H' hd hne e1 e2 e3 => ⟨rfl, q a H' (er_made ha hd hne e3) ⟨d, e1, e2⟩⟩⟩⟩
theorem mk3 {f g l : Str} {x y z : V} {t : TA} (h : ∀ H, Pl t σ H [x, y, z]) : Mk1 (tXm C (spI3 C f g l) t) σ C [(l, z), (g, y), (f, x)] := fun H Q q => h H H (Same.refl H) _ ⟨by simp, fun a ha =>
  ⟨a, x, y, z, rfl, upd_same, fun d H' hd hne e1 e2 e3 => ⟨rfl, q a H' (er_made ha hd hne e3) ⟨d, e1, e2⟩⟩⟩⟩
theorem mk1k {f : Str} {x : V} {t : TA} (h : ∀ H, Pl t σ H [x]) : Mk1 (tXk C 1 (spI1 C f) (fun us ws => us ++ ws.reverse) t) σ C [(f, x)] := fun H Q q => h H H (Same.refl H) _ ⟨rfl, fun a ha =>
  ⟨a, x, rfl, upd_same, fun d H' hd hne e1 e2 e3 => ⟨rfl, q a H' (er_made ha hd hne e3) ⟨d, e1, e2⟩⟩⟩⟩
theorem mk2k {f g : Str} {x y : V} {t : TA} (h : ∀ H, Pl t σ H [y, x]) : Mk1 (tXk C 2 (spI2 C f g) (fun us ws => us ++ ws.reverse) t) σ C [(g, y), (f, x)] := fun H Q q => h H H (Same.refl H) _ ⟨rfl, fun a ha =>
  ⟨a, x, y, rfl, upd_same, fun d H' hd hne e1 e2 e3 => ⟨rfl, q a H' (er_made ha hd hne e3) ⟨d, e1, e2⟩⟩⟩⟩
theorem mk3k {f g l : Str} {x y z : V} {t : TA} (h : ∀ H, Pl t σ H [z, y, x]) : Mk1 (tXk C 3 (spI3 C f g l) (fun us ws => us ++ ws.reverse) t) σ C [(l, z), (g, y), (f, x)] := fun H Q q => h H H (Same.refl H) _ ⟨rfl, fun a ha =>
  ⟨a, x, y, z, rfl, upd_same, fun d H' hd hne e1 e2 e3 => ⟨rfl, q a H' (er_made ha hd hne e3) ⟨d, e1, e2⟩⟩⟩⟩
theorem as_mk (h : MkL tl σ rs) (hl : rs.length ≤ 1000) (q : ∀ p as H', Same H H' → H' p = some (.lst (as.map V.ref)) → Mds H' as rs → D.nx (σ.set i (some (.ref p))) H') : tAsg (tLst tl) (gName i) D σ H := by
  refine h H _ fun as H1 s1 e1 => ⟨Nat.le_of_lt (small1000 (by rw [List.length_map, e1.len]; exact hl)), fun p hp => ?_⟩
  exact q p as _ (s1.trans (same_new hp)) upd_same (e1.same (same_new hp))
theorem as_mkcat (hi : σ[i]? = some (some (.ref p))) (hp : H p = some (.lst (as.map V.ref))) (hm : Mds H as rs) (h : MkL tl σ qs) (hl : rs.length + qs.length ≤ 1000)
    (q : ∀ r bs H', Same H H' → H' r = some (.lst (bs.map V.ref)) → Mds H' bs (rs ++ qs) → D.nx (σ.set i (some (.ref r))) H') : tAsg (tOp rCat (tVar i) (tLst tl)) (gName i) D σ H := by
  refine ⟨_, hi, h H _ fun bs H1 s1 e1 => ⟨Nat.le_of_lt (small1000 (by rw [List.length_map, e1.len]; omega)), fun b hb => ?_⟩⟩
  have s2 : Same H1 (upd H1 b (.lst (bs.map V.ref))) := same_new hb
  refine ⟨p, b, as.map V.ref, bs.map V.ref, rfl, rfl, s2 _ _ (s1 _ _ hp), upd_same, Nat.le_of_lt (small1000 (by rw [List.length_map, List.length_map, hm.len, e1.len]; exact hl)), fun r hr => ?_⟩
  have s3 := (s1.trans s2).trans (same_new (o := .lst (as.map V.ref ++ bs.map V.ref)) hr)
  refine q r (as ++ bs) _ s3 (by rw [upd_same, List.map_append]) ((hm.same s3).append (e1.same (s2.trans (same_new hr))))
theorem ss_mk {u : TS} (h : MkL tl σ rs) (hl : rs.length ≤ 1000) (q : ∀ p as H', Same H H' → H' p = some (.lst (as.map V.ref)) → Mds H' as rs → u D (σ.set i (some (.ref p))) H') : tSeq (tAsg (tLst tl) (gName i)) u D σ H := as_mk h hl q
theorem ss_mkcat {u : TS} (hi : σ[i]? = some (some (.ref p))) (hp : H p = some (.lst (as.map V.ref))) (hm : Mds H as rs) (h : MkL tl σ qs) (hl : rs.length + qs.length ≤ 1000)
    (q : ∀ r bs H', Same H H' → H' r = some (.lst (bs.map V.ref)) → Mds H' bs (rs ++ qs) → u D (σ.set i (some (.ref r))) H') : tSeq (tAsg (tOp rCat (tVar i) (tLst tl)) (gName i)) u D σ H := as_mkcat hi hp hm h hl q
/-- e.f of the i-th -/
theorem pv_ef {K : PySem.W.Frag} {f : Str} {l : Addr} {j n : Nat} {v : V} (hi : σ[j]? = some (some (.ref l))) (hl : SqL K H l (as.map V.ref)) (hm : Mds H as rs) (hr : rs[n]? = some (C, fs)) (T : EfC K C f) (hf : fs.lookup f = some v) : Pv (tEf K f (tOp (rIxL K) (tVar j) (tC (.int (n : Nat))))) σ H v := fun H' s Q q => by
  obtain ⟨a, e1, d, h1, h2⟩ := hm.at hr
  refine ⟨_, hi, l, as.map V.ref, _, .ref a, rfl, rfl, s.seq hl, atI_nat (by rw [List.getElem?_map, e1]; rfl), a, C, d, fs, v, rfl, s _ _ h1, s _ _ h2, T, hf, q⟩
end
end Lk

namespace Lk
open PySem PySem.Spec PyProof.Rows L2
section
variable {K : PySem.W.Frag} {tl : TE} {ta : TA} {g : TG} {tb : TS} {D : Ends} {σ : L2.St} {H : Hp}
theorem sfor {wi : TI} (q : wi σ H fun J H1 => ∃ W : Nat → Nat → L2.St → Hp → Prop, (∃ m, W 0 m σ H1) ∧ ∀ i m σ H, W i m σ H →
    (J.stop i H ∧ D.nx σ H) ∨ (J.go i H ∧ ∃ N : L2.St → Hp → Prop, (∀ σ' H', N σ' H' → ∃ m', m' < m ∧ W (i + 1) m' σ' H') ∧ ∀ x H', J.yld i H x H' → g x σ H' fun σ2 H2 => tb { D with nx := N, ct := N, bk := D.nx } σ2 H2)) : tFor wi g tb D σ H := q
theorem sils {R : It → Hp → Prop} (q : tl σ H fun x H1 => ∃ a, x = .ref a ∧ (∃ xs, SqL K H1 a xs) ∧ R (Itl K a) H1) : iList K tl σ H R := q
theorem sien {R : It → Hp → Prop} (q : ta σ H fun vs H1 => ∃ a xs, vs = [.ref a] ∧ SqL K H1 a xs ∧ R (Ite K a) H1) : iEnum K ta σ H R := q
theorem en_by {a : Addr} {xs : List V} (I : Nat → L2.St → Hp → Prop) (h0 : I 0 σ H) (hl : ∀ i σ H, i ≤ xs.length → I i σ H → SqL K H a xs)
    (ht : ∀ i x p σ H, xs[i]? = some x → I i σ H → H p = none → g (.ref p) σ (upd H p (.tup [.int (i : Nat), x])) fun σ2 H2 => tb { D with nx := I (i + 1), ct := I (i + 1), bk := D.nx } σ2 H2) (hd : ∀ σ H, I xs.length σ H → D.nx σ H) :
    ∃ W : Nat → Nat → L2.St → Hp → Prop, (∃ m, W 0 m σ H) ∧ ∀ i m σ H, W i m σ H →
      ((Ite K a).stop i H ∧ D.nx σ H) ∨ ((Ite K a).go i H ∧ ∃ N : L2.St → Hp → Prop, (∀ σ' H', N σ' H' → ∃ m', m' < m ∧ W (i + 1) m' σ' H') ∧ ∀ x H', (Ite K a).yld i H x H' → g x σ H' fun σ2 H2 => tb { D with nx := N, ct := N, bk := D.nx } σ2 H2) := by
  refine for_it walk_enum I h0 hl (fun i v σ H H' hi hI hy => ?_) hd
  obtain ⟨T, x, y, rfl, hT, rfl, e1, e2⟩ := hy
  cases Option.some.inj e1
  exact ht i y T σ H e2 hI hT
/-- i, x = (i, x) -/
theorem g_pair {i j : Nat} {x y : V} {p : Addr} {R : L2.St → Hp → Prop} (h : SqT K H p [x, y]) (q : R ((σ.set i (some x)).set j (some y)) H) : gTup K 2 (gCons (gName i) (gCons (gName j) gNil)) (.ref p) σ H R :=
  ⟨p, [x, y], rfl, h, rfl, x, [y], rfl, y, [], rfl, rfl, q⟩
/-! ### data -/
theorem dp_same {H' : Hp} (s : Same H H') : ∀ {d : PyData} {v : V}, Dp K H v d → Dp K H' v d := fun {d v} h => by
  refine Dp.rec (motive_1 := fun v d _ => Dp K H' v d) (motive_2 := fun vs ds _ => DpAll K H' vs ds) .non .bl .int .str (fun hl _ ih => .lst (s.seq hl) ih) (fun ht _ ih => .tup ?_ ih) .nil (fun _ _ a b => .cons a b) h
  rcases ht with (e | ⟨o, e⟩) | e
  · exact .inl (.inl (s _ _ e))
  · exact .inl (.inr ⟨o, s _ _ e⟩)
  · exact .inr e
theorem dp_bools : ∀ bs : List Bool, DpAll K H (bs.map V.bl) (bs.map PyData.bool)
  | [] => .nil
  | b :: bs => .cons (.bl b) (dp_bools bs)
end
section
variable {tc tu : TT} {t u : TS} {D : Ends} {σ : L2.St} {H : Hp} {Q : Bool → Hp → Prop}
theorem sor (q : tc σ H fun c H1 => if c = true then Q true H1 else tu σ H1 Q) : tOr tc tu σ H Q := q
theorem san (q : tc σ H fun c H1 => if c = true then tu σ H1 Q else Q false H1) : tAnd tc tu σ H Q := q
end
end Lk

namespace Lk
open PySem PySem.Spec PyProof.Rows L2
/-- xs + ys, xs any list that may be read -/
def rCatL (K : PySem.W.Frag) : R2 := fun x y H Q => ∃ (l b : Addr) (xs zs : List V), x = .ref l ∧ y = .ref b ∧ SqL K H l xs ∧ H b = some (.lst zs) ∧ xs.length + zs.length ≤ sizeLine ∧ ∀ r, H r = none → Q (.ref r) (upd H r (.lst (xs ++ zs)))
theorem op_catL {X : Cx} : OpR X (binaryOp .Add) (rCatL X.K) := by
  intro pins s σ H x y v u Q I rx ry ⟨l, b, xs, zs, ex, ey, hS, hB, hz, q⟩
  subst ex ey
  cases rx
  cases ry
  obtain ⟨us, r1, ⟨⟨c1, d1, e1, f1⟩, n1, g1, h1, i1, j1⟩, _⟩ := I.list hS
  obtain ⟨_, ws, n2, r2, l2, g2⟩ := I.lstM hB
  dsimp only at h1 i1 j1
  subst h1 i1 j1
  have hl : us.toArray.size + ws.toArray.size ≤ sizeLine := by
    rw [List.size_toArray, List.size_toArray, ← r1.length, ← l2]
    exact hz
  refine concat_meets ⟨_, g1, rfl⟩ ⟨_, g2, rfl⟩ noFill_list_add seq_list_add
    PySem.F.slot_list_add PySem.F.entry_list_add (PySem.F.args_list_add_2 _ _)
    (list_addW l b us.toArray ws.toArray n1 n2 none none f1 #[] hl) ⟨g1, g2, ?_⟩
  rw [show us.toArray ++ ws.toArray = (us ++ ws).toArray by simp]
  exact ⟨.ref _, _, I.lnew (t' := s.toks) (r1.append r2) (by rw [List.length_append]; exact hz), rfl, q _ I.fresh⟩
end Lk

/-! ### enumerate(tuple) -/
namespace Lk
open PySem PySem.Spec PyProof.Rows L2
open AutoSeq1 (wpAny_loadPart')
theorem enum_newT (t : Addr) (its : Array Value) (o : Obj) (hc : o.cls = .type "tuple") (hd : ∃ n, o.data = .seq its n) :
    Meets (Builtin.«enumerate.__new__» ⟨[.type "enumerate", .ref t], []⟩) (fun _ R s => s.heap.get? t = some o ∧
      R (.ok (.ret (.ref (s.heap.push { cls := .type "tuple_iterator", data := .fields #[.ref t, .int 0 0] }).objs.size)))
        { s with heap := (s.heap.push { cls := .type "tuple_iterator", data := .fields #[.ref t, .int 0 0] }).push { cls := .type "enumerate", data := .fields #[.none, .bool false, .ref s.heap.objs.size, rawInt 0, .none, .none] } }) :=
  .of_wp fun prog w A R s ⟨hl, h⟩ => by
    obtain ⟨n, hd⟩ := hd
    have hsub := sub_enumerate
    have hT : s.heap.IsTuple t its := ⟨o, hl, hc, n, hd⟩
    obtain ⟨hp, g, d, tk, os⟩ := s
    wp_walk using wpAny_loadPart' hl
    refine wpAny_stack_any fun st => wpAny_pure ?_
    split
    · rename_i c _ _ _ _ _
      cases (c == Value.type "enumerate") <;>
        (wp_walk using wpAny_loadPart' hl, wpAny_pyIter_tuple hT
         exact ⟨_, rfl, h⟩)
    · wp_walk using wpAny_loadPart' hl, wpAny_pyIter_tuple hT
      exact ⟨_, rfl, h⟩
section
variable {prog : Program} {w : World} {A : Around} {E : Value → Shared → Prop} {s : Shared}
theorem call_enumT {t : Addr} {its : Array Value} {Q : Value → Shared → Prop} (hT : s.heap.IsTuple t its)
    (h : ∀ h', IsEnum h' (s.heap.objs.size + 1) s.heap.objs.size 0 .none → h'.IsTupleIter s.heap.objs.size t 0 → (∀ b o, s.heap.get? b = some o → h'.get? b = some o) → Q (.ref (s.heap.objs.size + 1)) { s with heap := h' }) :
    wpAny (model prog w) A (call (.type "enumerate") [.ref t]) Q E s := by
  obtain ⟨o, ho, hc, hd⟩ := hT
  refine callType_new F.called_enumerate (by decide) (F.typeCall_enumerate_1 _) (F.newCall_enumerate_1 _) (fun obj => F.args_object_init_2 obj _) F.entry_enumerate_new (enum_newT t its o hc hd) ⟨ho, ?_⟩
  have z : (s.heap.push { cls := .type "tuple_iterator", data := .fields #[.ref t, .int 0 0] }).objs.size = s.heap.objs.size + 1 := Heap.size_push ..
  show _ ∧ _
  rw [z]
  have e : IsEnum ((s.heap.push { cls := .type "tuple_iterator", data := .fields #[.ref t, .int 0 0] }).push { cls := .type "enumerate", data := .fields #[.none, .bool false, .ref s.heap.objs.size, rawInt 0, .none, .none] }) (s.heap.objs.size + 1) s.heap.objs.size 0 .none := by
    have q := Heap.get?_push_size (s.heap.push { cls := .type "tuple_iterator", data := .fields #[.ref t, .int 0 0] }) (o := { cls := .type "enumerate", data := .fields #[.none, .bool false, .ref s.heap.objs.size, rawInt 0, .none, .none] }) rfl
    rw [z] at q
    exact q
  exact ⟨⟨_, e, rfl⟩, h _ e ⟨_, Heap.get?_push_of_some _ (Heap.get?_push_size _ rfl), rfl, rfl⟩ fun b o x => Heap.get?_push_of_some _ (Heap.get?_push_of_some _ x)⟩
theorem enum_endT {e it t : Addr} {i : Nat} {its : Array Value} {old : Value} {Q : Option Value → Shared → Prop} (hh : A.handled = none) (he : IsEnum s.heap e it i old) (hit : s.heap.IsTupleIter it t i) (ht : s.heap.IsTuple t its) (hx : its[i]? = none)
    (q : ∀ h', Heap.ExtBut it s.heap h' → Q none { s with heap := h' }) : wpAny (model prog w) A (pyNext (.ref e)) Q E s := by
  have ty : s.TypeIs (.ref e) "enumerate" := ⟨_, he, rfl⟩
  unfold pyNext
  refine wpAny_bind (wpAny_attempt (wpAny_callSpecial?_slot (name := Str.ofString "__next__") ty F.slot_enumerate_next (wpAny_call_entry F.slot_enumerate_next ty F.entry_enumerate_next (show wpAny _ _ (field (.ref e) 2 >>= _) _ _ _ from wpAny_bind (wpAny_field he rfl (x := .ref it) rfl ?_)) (F.args_enumerate_next_1 _))))
  refine wpAny_bind (wpAny_nextOf_tuple_end hh hit ht hx fun h' x k ⟨o, ho, hc⟩ => wpAny_bind (wpAny_isInstance (T := "StopIteration") (b := true) ⟨o, ho, hc⟩ isSubtype_stop (wpAny_pure (q _ k))))
end
/-- the tuple at a, each item in a new pair -/
def Itet (K : PySem.W.Frag) (a : Addr) : It :=
  ⟨fun i H => ∃ (xs : List V) (x : V), SqT K H a xs ∧ xs[i]? = some x, fun i H v H' => ∃ T x, v = .ref T ∧ H T = none ∧ H' = upd H T (.tup [.int (i : Nat), x]) ∧ ∀ xs, SqT K H a xs → xs[i]? = some x, fun i H => ∃ xs : List V, SqT K H a xs ∧ xs.length ≤ i⟩
theorem turn_enumT {P : Program} {w : World} {K : PySem.W.Frag} {elts : List Expr} {kk : Nat} {tpos : Pos} (a e it : Addr) (hai : a ≠ it) (hae : e ≠ a) :
    Turn P w K (.Tuple elts kk tpos) (Itet K a) [e, it] e (fun i h => (∃ old, IsEnum h e it ((i : Nat) : Int) old) ∧ h.IsTupleIter it a i ∧ e ≠ it) where
  mem := by simp
  obj := fun i h ⟨⟨old, he⟩, ⟨o, ho, hc, hd⟩, _⟩ b hb => by
    simp only [List.mem_cons, List.not_mem_nil, or_false] at hb
    rcases hb with rfl | rfl
    · exact ⟨_, he, fun v q => nomatch q⟩
    · exact ⟨o, ho, fun v q => by rw [hd] at q; cases q⟩
  keep := fun i h h' ⟨⟨old, he⟩, hi, hne⟩ k => ⟨⟨old, k e (by simp) _ he⟩, hi.at fun o q => k it (by simp) o q, hne⟩
  item := by
    intro X hP hw hK hc i pins s σ H E I hf ⟨⟨old, he⟩, hit, hne⟩ ⟨xs, x, hq, hx⟩
    subst hP hw hK
    obtain ⟨its, rv, p, hz⟩ := I.tuple hq
    obtain ⟨u, hu, ru⟩ := rv.get hx
    have hel : e < s.heap.objs.size := Heap.lt_size he
    have hil : it < s.heap.objs.size := by
      obtain ⟨_, q, _⟩ := hit
      exact Heap.lt_size q
    have hui : its.toArray[i]? = some u := by simpa using hu
    have D : Draws X.prog X.w X.A.in1 it [it, a] its.toArray.size (fun i v => its.toArray[i]? = some v) (fun i h => h.IsTupleIter it a i ∧ h.IsTuple a its.toArray) := Draws.tuple (show X.A.in1.handled = none from I.ok.hd hc) it a hai its.toArray
    refine wpAny_pyNext_enum_itemD D he ⟨hit, p⟩ (Array.getElem?_eq_some_iff.mp hui).1 hne (by simp [hne, hae]) fun y h' tk hy ho hs' hT hsz hk => ?_
    rw [hui] at hy
    cases hy
    refine ⟨_, rfl, wpAny_letOwnedTupleGo_enum (s := { s with heap := h', toks := tk + 1 }) ho fun h'' he' sb => ?_⟩
    have hT2 : h''.get? s.heap.objs.size = some { cls := .type "tuple", data := .seq #[.int i tk, u] } := (sb.2 _ (Nat.ne_of_gt hel)).trans hT
    have new : ObjOk X.prog X.w (upd H s.heap.objs.size (.tup [.int (i : Nat), x])) h'' s.heap.objs.size (.tup [.int (i : Nat), x]) :=
      ⟨by show 2 ≤ sizeLine; decide, [.int i tk, u], .cons ⟨_, rfl⟩ (.cons ru .nil), ⟨_, hT2, rfl, _, rfl⟩⟩
    have I1 : Inv X pins σ (upd H s.heap.objs.size (.tup [.int (i : Nat), x])) { s with heap := h'', toks := tk + 1 } :=
      I.turnedNew (ch := [e, it]) (fun b ob hb q => (sb.2 b (fun z => hb (by simp [z]))).trans (hk b ob (fun z => hb (by simp [z])) (fun z => hb (by simp [z])) q)) hf (Nat.le_refl _) new
    refine ⟨.ref s.heap.objs.size, _, I1, rfl, ⟨_, x, rfl, I.hok.fresh (Nat.le_refl _), rfl, fun ys hy => by rw [I.tuple_inj hy hq]; exact hx⟩, ⟨⟨u, ?_⟩, hs'.1.at fun o q => (sb.2 it (Ne.symm hne)).trans q, hne⟩, fun b hb => ?_⟩
    · rw [show ((i + 1 : Nat) : Int) = (i : Int) + 1 by omega]
      exact he'
    · have hb' : b < s.heap.objs.size := by
        simp only [List.mem_cons, List.not_mem_nil, or_false] at hb
        rcases hb with rfl | rfl
        · exact hel
        · exact hil
      rw [upd_ne (Nat.ne_of_lt hb')]
      exact (hf b hb).1
  done := by
    intro X hP hw hK hc i pins s σ H E I hf ⟨⟨old, he⟩, hit, hne⟩ ⟨xs, hq, hx⟩
    subst hP hw hK
    obtain ⟨its, rv, p, hz⟩ := I.tuple hq
    obtain ⟨f0, f1, f2, f3, f4, f5⟩ := hf it (by simp)
    have out : its.toArray[i]? = none := List.getElem?_toArray ▸ rv.none_of (List.getElem?_eq_none hx)
    exact enum_endT (I.ok.hd hc) he hit p out fun h' eb => ⟨rfl, I.turned (t' := s.toks) (fun b o hb q => eb b o hb q) f0 f1 f3 f4 f5⟩
  self := fun A i s Q E ⟨⟨_, he⟩, _⟩ h => wpAny_pyIter_enum he h
def iEnumT (K : PySem.W.Frag) (ta : TA) : TI := fun σ H R => ta σ H fun vs H1 => ∃ a xs, vs = [.ref a] ∧ SqT K H1 a xs ∧ R (Itet K a) H1
theorem pi_enumT {X : Cx} {e : Expr} {ta : TA} {p pos tpos : Pos} {elts : List Expr} {kk : Nat} (hg : Gl X "enumerate") (hm : X.mg "enumerate" = none) (ha : PA X [e] ta) (hs : starEach [e] X.env = [(false, eval e X.env)] := by rfl) :
    PI X (.Tuple elts kk tpos) (.Call (.Name "enumerate" p) [e] [] pos) (iEnumT X.K ta) := by
  refine ⟨fun pins s σ H R I h => Call_ (ld_blt I hg hm boot_enumerate (PyProof.Rows.callWith_type1 (thn (ha.run pos pins s σ H _ I h) fun us s1 ⟨vs, H1, I1, r1, a, xs, ex, hq, q⟩ => ?_) hs rfl))⟩
  subst ex
  cases r1 with
  | cons r rr =>
    cases rr
    cases r
    obtain ⟨its, rv, p', hz⟩ := I1.tuple hq
    have la : a < s1.heap.objs.size := p'.lt
    refine call_enumT p' fun h' he hit hk => wpAny_pyIter_enum he ?_
    refine ⟨s1.heap.objs.size + 1, [s1.heap.objs.size + 1, s1.heap.objs.size], _, _, H1, rfl, I1.kept (t' := s1.toks) hk, turn_enumT a (s1.heap.objs.size + 1) s1.heap.objs.size (Nat.ne_of_lt la) (Nat.ne_of_gt (Nat.lt_succ_of_lt la)), ⟨⟨.none, he⟩, hit, Nat.succ_ne_self _⟩, fun b hb => ?_, q⟩
    have hle : s1.heap.objs.size ≤ b := by
      simp only [List.mem_cons, List.not_mem_nil, or_false] at hb
      rcases hb with rfl | rfl
      · exact Nat.le_succ _
      · exact Nat.le_refl _
    exact I1.fpOk hle (I1.hok.fresh hle)
theorem walk_enumT {K : PySem.W.Frag} {a : Addr} {xs : List V} : Walk (Itet K a) xs.length (fun H => SqT K H a xs) (YPair (fun i => some (.int (i : Nat))) (fun i => xs[i]?)) :=
  ⟨fun i _ hi q => ⟨xs, xs[i], q, by simp [hi]⟩, fun _ q => ⟨xs, q, Nat.le_refl _⟩, fun i H v H' _ q ⟨T, x, h1, h2, h3, h4⟩ => ⟨T, .int (i : Nat), x, h1, h2, h3, rfl, h4 xs q⟩⟩
end Lk

namespace Lk
open PySem PySem.Spec PyProof.Rows L2
/-! ### data made of tuples alone -/
/-- tuples stay -/
def Ts (H H' : Hp) : Prop := ∀ a xs, H a = some (.tup xs) → H' a = some (.tup xs)
theorem Ts.refl (H : Hp) : Ts H H := fun _ _ e => e
theorem Ts.trans {H H1 H2 : Hp} (s : Ts H H1) (t : Ts H1 H2) : Ts H H2 := fun a xs e => t a xs (s a xs e)
theorem Ts.of {H H' : Hp} (s : Same H H') : Ts H H' := fun a xs e => s _ _ e
theorem Ts.new {H : Hp} {p : Addr} {o : HO} (h : H p = none) : Ts H (upd H p o) := Ts.of (same_new h)
theorem Ts.lst {H : Hp} {p : Addr} {xs : List V} {o : HO} (h : H p = some (.lst xs)) : Ts H (upd H p o) := fun a ys e => by
  rw [upd_ne (fun z => by rw [z, h] at e; cases e)]
  exact e
mutual
inductive Dt (H : Hp) : V → PyData → Prop
  | non : Dt H .non .none
  | bl (b : Bool) : Dt H (.bl b) (.bool b)
  | int (i : Int) : Dt H (.int i) (.int i)
  | str (x : Str) : Dt H (.str x) (.str x)
  | tup {a : Addr} {xs : List V} {ds : List PyData} : H a = some (.tup xs) → DtAll H xs ds → Dt H (.ref a) (.tuple ds)
inductive DtAll (H : Hp) : List V → List PyData → Prop
  | nil : DtAll H [] []
  | cons {v : V} {vs : List V} {d : PyData} {ds : List PyData} : Dt H v d → DtAll H vs ds → DtAll H (v :: vs) (d :: ds)
end
section
variable {K : PySem.W.Frag} {H H' : Hp}
theorem Dt.ts (s : Ts H H') {d : PyData} {v : V} (h : Dt H v d) : Dt H' v d := by
  refine Dt.rec (motive_1 := fun v d _ => Dt H' v d) (motive_2 := fun vs ds _ => DtAll H' vs ds) .non .bl .int .str (fun hl _ ih => .tup (s _ _ hl) ih) .nil (fun _ _ a b => .cons a b) h
theorem DtAll.ts (s : Ts H H') {ds : List PyData} {vs : List V} (h : DtAll H vs ds) : DtAll H' vs ds := by
  refine DtAll.rec (motive_1 := fun v d _ => Dt H' v d) (motive_2 := fun vs ds _ => DtAll H' vs ds) .non .bl .int .str (fun hl _ ih => .tup (s _ _ hl) ih) .nil (fun _ _ a b => .cons a b) h
theorem Dt.dp {d : PyData} {v : V} (h : Dt H v d) : Dp K H v d := by
  refine Dt.rec (motive_1 := fun v d _ => Dp K H v d) (motive_2 := fun vs ds _ => DpAll K H vs ds) .non .bl .int .str (fun hl _ ih => .tup (.inl (.inl hl)) ih) .nil (fun _ _ a b => .cons a b) h
theorem DtAll.dp {ds : List PyData} {vs : List V} (h : DtAll H vs ds) : DpAll K H vs ds := by
  refine DtAll.rec (motive_1 := fun v d _ => Dp K H v d) (motive_2 := fun vs ds _ => DpAll K H vs ds) .non .bl .int .str (fun hl _ ih => .tup (.inl (.inl hl)) ih) .nil (fun _ _ a b => .cons a b) h
theorem dpa_same (s : Same H H') : ∀ {ds : List PyData} {vs : List V}, DpAll K H vs ds → DpAll K H' vs ds
  | _, _, .nil => .nil
  | _, _, .cons h t => .cons (dp_same s h) (dpa_same s t)
theorem dpa_len : ∀ {vs : List V} {ds : List PyData}, DpAll K H vs ds → vs.length = ds.length
  | _, _, .nil => rfl
  | _, _, .cons _ t => congrArg Nat.succ (dpa_len t)
theorem dpa_at : ∀ {vs : List V} {ds : List PyData} {i : Nat} {v : V}, DpAll K H vs ds → vs[i]? = some v → ∃ d, ds[i]? = some d ∧ Dp K H v d
  | _, _, _, _, .nil, e => by simp at e
  | _, _, 0, _, .cons h _, e => by
    simp at e
    subst e
    exact ⟨_, rfl, h⟩
  | _, _, i + 1, _, .cons _ t, e => by
    obtain ⟨d, e1, e2⟩ := dpa_at (i := i) t (by simpa using e)
    exact ⟨d, by simpa using e1, e2⟩
theorem DtAll.len : ∀ {vs : List V} {ds : List PyData}, DtAll H vs ds → vs.length = ds.length
  | _, _, .nil => rfl
  | _, _, .cons _ t => congrArg Nat.succ t.len
theorem DtAll.at : ∀ {vs : List V} {ds : List PyData} {i : Nat} {v : V}, DtAll H vs ds → vs[i]? = some v → ∃ d, ds[i]? = some d ∧ Dt H v d
  | _, _, _, _, .nil, e => by simp at e
  | _, _, 0, _, .cons h _, e => by
    simp at e
    subst e
    exact ⟨_, rfl, h⟩
  | _, _, i + 1, _, .cons _ t, e => by
    obtain ⟨d, e1, e2⟩ := DtAll.at (i := i) t (by simpa using e)
    exact ⟨d, by simpa using e1, e2⟩
theorem DtAll.append : ∀ {vs us : List V} {ds es : List PyData}, DtAll H vs ds → DtAll H us es → DtAll H (vs ++ us) (ds ++ es)
  | _, _, _, _, .nil, k => k
  | _, _, _, _, .cons h t, k => .cons h (t.append k)
theorem dt_ints : ∀ xs : List Int, DtAll H (xs.map V.int) (xs.map PyData.int)
  | [] => .nil
  | x :: xs => .cons (.int x) (dt_ints xs)
/-! ### isinstance of data -/
def tyn : PyData → String
  | .none => "NoneType"
  | .bool _ => "bool"
  | .int _ => "int"
  | .str _ => "str"
  | .list _ => "list"
  | .tuple _ => "tuple"
  | .dict _ => "dict"
theorem tyx_dp {v : V} {d : PyData} (h : Dp K H v d) : TyX K H v (.type (tyn d)) := by
  cases h with
  | non => exact .base .non
  | bl b => exact .base (.bl b)
  | int i => exact .base (.int i)
  | str x => exact .base (.str x)
  | lst hs _ =>
    rcases hs with (e | ⟨o, e⟩) | ⟨o, its, n, e, c, _⟩
    · exact .base (.lst e)
    · exact .base (.frz e)
    · exact .kList e c
  | tup hs _ =>
    rcases hs with (e | ⟨o, e⟩) | ⟨o, its, n, e, c, _⟩
    · exact .base (.tup e)
    · exact .fTuple e
    · exact .kTuple e c
def isIntI : PyData → Bool
  | .bool _ => true
  | .int _ => true
  | _ => false
def isBoolD : PyData → Bool
  | .bool _ => true
  | _ => false
def isStrD : PyData → Bool
  | .str _ => true
  | _ => false
def isTupD : PyData → Bool
  | .tuple _ => true
  | _ => false
def isListD : PyData → Bool
  | .list _ => true
  | _ => false
theorem ki_int (d : PyData) : kitB (tyn d) "int" = some (isIntI d) := by cases d <;> simp only [tyn, isIntI] <;> decide +kernel
theorem ki_bool (d : PyData) : kitB (tyn d) "bool" = some (isBoolD d) := by cases d <;> simp only [tyn, isBoolD] <;> decide +kernel
theorem ki_str (d : PyData) : kitB (tyn d) "str" = some (isStrD d) := by cases d <;> simp only [tyn, isStrD] <;> decide +kernel
theorem ki_tup (d : PyData) : kitB (tyn d) "tuple" = some (isTupD d) := by cases d <;> simp only [tyn, isTupD] <;> decide +kernel
theorem ki_list (d : PyData) : kitB (tyn d) "list" = some (isListD d) := by cases d <;> simp only [tyn, isListD] <;> decide +kernel
theorem s_isi {v : V} {d : PyData} {n : String} {b : Bool} {Q : VK} (h : Dp K H v d) (e : kitB (tyn d) n = some b) (q : Q (.bl b) H) : rIsi K [v, .ty n] H Q := ⟨v, _, _, _, b, rfl, .ty n, tyx_dp h, kit_ty e, q⟩
theorem ki_lt (d : PyData) : PySem.W.kitAny K (.type (tyn d)) [.type "list", .type "tuple"] = some (isListD d || isTupD d) := by
  refine kitAny_cons (kit_ty (ki_list d)) (fun _ => kitAny_cons (kit_ty (ki_tup d)) (fun z => ?_) fun z => by rw [z, Bool.or_true]) fun z => by rw [z, Bool.true_or]
  rename_i y
  rw [y, z]
  rfl
theorem s_isiLT {v : V} {d : PyData} {t : Addr} {Q : VK} (h : Dp K H v d) (ht : H t = some (.tup [.ty "list", .ty "tuple"])) (q : Q (.bl (isListD d || isTupD d)) H) : rIsiT K [v, .ref t] H Q :=
  ⟨v, t, _, _, _, _, rfl, ht, .cons (.ty _) (.cons (.ty _) .nil), tyx_dp h, ki_lt d, q⟩
/-! ### what the checks tell -/
def isIntD : PyData → Bool
  | .int _ => true
  | _ => false
def withinD (d : PyData) (a b : Int) : Bool := match d with
  | .int x => decide (a ≤ x) && decide (x ≤ b)
  | _ => false
def seqD (d : PyData) (a b : Int) : Bool := match d with
  | .list ds => decide (a ≤ ds.length) && decide ((ds.length : Int) ≤ b)
  | .tuple ds => decide (a ≤ ds.length) && decide ((ds.length : Int) ≤ b)
  | _ => false
def formD (d : PyData) (n : Int) : Bool := match d with
  | .tuple ds => decide ((ds.length : Int) = n + 1) && ds.all isIntD
  | _ => false
def nextsD (d : PyData) (a b m : Int) : Bool := match d with
  | .tuple ds => decide (a ≤ ds.length) && decide ((ds.length : Int) ≤ b) && ds.all fun e => withinD e 0 (m - 1)
  | _ => false
end
section
variable {σ : L2.St} {H : Hp} {ta tb tc : TE} {Q : VK} {r r' : R2}
theorem sav (q : ta σ H fun x H1 => ∃ c, x = .bl c ∧ if c = true then tb σ H1 Q else Q (.bl false) H1) : tAndV ta tb σ H Q := q
theorem sov (q : ta σ H fun x H1 => ∃ c, x = .bl c ∧ if c = true then Q (.bl true) H1 else tb σ H1 Q) : tOrV ta tb σ H Q := q
theorem snv (q : ta σ H fun x H1 => ∃ c, x = .bl c ∧ Q (.bl (!c)) H1) : tNotV ta σ H Q := q
theorem sch (q : ta σ H fun x H1 => tb σ H1 fun y H2 => r x y H2 fun z H3 => ∃ k, z = .bl k ∧ if k = true then tc σ H3 fun z' H4 => r' y z' H4 Q else Q (.bl false) H3) : tChain r r' ta tb tc σ H Q := q
theorem pe_gint {X : Cx} {x : Str} {i : Int} {pos : Pos} (hg : Gl X x) (hm : ∃ t, X.mg x = some (.int i t)) (hd : (x == ("__debug__" : Str)) = false := by decide) : PE X (.Name x pos) (tC (.int i)) := by
  obtain ⟨t, h⟩ := hm
  exact pe_glob hg h ⟨t, rfl⟩ hd
end
section
variable {K : PySem.W.Frag} {H : Hp} {Q : VK}
theorem s_lenL {v : V} {ds : List PyData} (h : Dp K H v (.list ds)) (q : Q (.int ds.length) H) : ∃ p ys, [v] = [V.ref p] ∧ (SqL K H p ys ∨ SqT K H p ys) ∧ Q (.int ys.length) H := by
  cases h with
  | lst hs ha => exact ⟨_, _, rfl, .inl hs, by rw [dpa_len ha]; exact q⟩
theorem s_lenT {v : V} {ds : List PyData} (h : Dp K H v (.tuple ds)) (q : Q (.int ds.length) H) : ∃ p ys, [v] = [V.ref p] ∧ (SqL K H p ys ∨ SqT K H p ys) ∧ Q (.int ys.length) H := by
  cases h with
  | tup hs ha => exact ⟨_, _, rfl, .inr hs, by rw [dpa_len ha]; exact q⟩
/-- a <= i <= b, the second part behind the first one -/
theorem two_le {a i b : Int} (q : Q (.bl (decide (a ≤ i) && decide (i ≤ b))) H) : if decide (a ≤ i) = true then Q (.bl (decide (i ≤ b))) H else Q (.bl false) H := by
  by_cases h : a ≤ i
  · rw [if_pos (decide_eq_true h)]
    rw [decide_eq_true h, Bool.true_and] at q
    exact q
  · rw [if_neg (by simpa using h)]
    rw [decide_eq_false h, Bool.false_and] at q
    exact q
end
end Lk

namespace Lk
open PySem PySem.Spec PyProof.Rows L2
section
variable {K : PySem.W.Frag} {H H' : Hp}
theorem same_sqT {a : Addr} {xs : List V} (s : Same H H') (h : SqT K H a xs) : SqT K H' a xs := by
  rcases h with (e | ⟨o, e⟩) | e
  · exact .inl (.inl (s _ _ e))
  · exact .inl (.inr ⟨o, s _ _ e⟩)
  · exact .inr e
theorem dp_listI {v : V} {ds : List PyData} (h : Dp K H v (.list ds)) : ∃ a xs, v = .ref a ∧ SqL K H a xs ∧ DpAll K H xs ds := by
  cases h with
  | lst hs ha => exact ⟨_, _, rfl, hs, ha⟩
theorem dp_tupI {v : V} {ds : List PyData} (h : Dp K H v (.tuple ds)) : ∃ a xs, v = .ref a ∧ SqT K H a xs ∧ DpAll K H xs ds := by
  cases h with
  | tup hs ha => exact ⟨_, _, rfl, hs, ha⟩
theorem dp_intI {v : V} {i : Int} (h : Dp K H v (.int i)) : v = .int i := by cases h; rfl
theorem dp_strI {v : V} {x : Str} (h : Dp K H v (.str x)) : v = .str x := by cases h; rfl
/-- [e for x in t], t a tuple: item by item, where only objects are made -/
theorem tlc_mapT {σ : L2.St} {a : Addr} {xs ys : List V} {j k : Nat} {te : TE} {vs : List Nat} {Q : VK} (hj : σ[j]? = some (some (.ref a))) (hx : SqT K H a xs) (hl : ys.length = xs.length) (h3 : xs.length ≤ 1000)
    (hw : ∀ x, wipe ((wipe σ vs).set k (some x)) vs = wipe σ vs)
    (he : ∀ (i : Nat) (x y : V) (H' : Hp), xs[i]? = some x → ys[i]? = some y → Same H H' → ∀ R : VK, (∀ H'', Same H' H'' → R y H'') → te ((wipe σ vs).set k (some x)) H' R)
    (q : ∀ D H', Same H H' → H D = none → H' D = some (.lst ys) → Q (.ref D) H') : tLc (iTup K (tVar j)) (gName k) tYes te vs σ H Q := by
  refine ⟨_, hj, a, rfl, ⟨xs, hx⟩, fun D hD => lc_tup (fun i H' => Same H H' ∧ H' D = some (.lst (ys.take i))) ⟨same_new hD, upd_same⟩ (fun i H' _ h => same_sqT h.1 hx) (fun i x H' hi h => ?_) (fun H' h => ?_)⟩
  · have hlt : i < ys.length := by
      rw [hl]
      exact (List.getElem?_eq_some_iff.mp hi).1
    refine ⟨hw x, ?_⟩
    unfold tYes
    simp only [if_true]
    refine he i x ys[i] H' hi (List.getElem?_eq_getElem hlt) h.1 _ fun H2 s2 => ⟨_, s2 _ _ h.2, ?_, fun b o e => ?_, ?_⟩
    · rw [List.length_take]
      exact small1000 (by omega)
    · rw [upd_ne (ne_of_none e hD)]
      exact s2 _ _ (h.1 _ _ e)
    · rw [upd_same, List.take_succ, List.getElem?_eq_getElem hlt]
      rfl
  · rw [← hl, List.take_length] at h
    exact q D H' h.1 hD h.2
/-- the same over a list -/
theorem tlc_mapL {σ : L2.St} {a : Addr} {xs ys : List V} {j k : Nat} {te : TE} {vs : List Nat} {Q : VK} (hj : σ[j]? = some (some (.ref a))) (hx : SqL K H a xs) (hl : ys.length = xs.length) (h3 : xs.length ≤ 1000)
    (hw : ∀ x, wipe ((wipe σ vs).set k (some x)) vs = wipe σ vs)
    (he : ∀ (i : Nat) (x y : V) (H' : Hp), xs[i]? = some x → ys[i]? = some y → Same H H' → ∀ R : VK, (∀ H'', Same H' H'' → R y H'') → te ((wipe σ vs).set k (some x)) H' R)
    (q : ∀ D H', Same H H' → H D = none → H' D = some (.lst ys) → Q (.ref D) H') : tLc (iList K (tVar j)) (gName k) tYes te vs σ H Q := by
  refine ⟨_, hj, a, rfl, ⟨xs, hx⟩, fun D hD => lc_list (fun i H' => Same H H' ∧ H' D = some (.lst (ys.take i))) ⟨same_new hD, upd_same⟩ (fun i H' _ h => h.1.seq hx) (fun i x H' hi h => ?_) (fun H' h => ?_)⟩
  · have hlt : i < ys.length := by
      rw [hl]
      exact (List.getElem?_eq_some_iff.mp hi).1
    refine ⟨hw x, ?_⟩
    unfold tYes
    simp only [if_true]
    refine he i x ys[i] H' hi (List.getElem?_eq_getElem hlt) h.1 _ fun H2 s2 => ⟨_, s2 _ _ h.2, ?_, fun b o e => ?_, ?_⟩
    · rw [List.length_take]
      exact small1000 (by omega)
    · rw [upd_ne (ne_of_none e hD)]
      exact s2 _ _ (h.1 _ _ e)
    · rw [upd_same, List.take_succ, List.getElem?_eq_getElem hlt]
      rfl
  · rw [← hl, List.take_length] at h
    exact q D H' h.1 hD h.2
theorem sft {p : Addr} {xs : List V} {z : Int} {v : V} {Q : VK} (hp : SqT K H p xs) (hz : atI xs z = some v) (q : Q v H) : rIxT K (.ref p) (.int z) H Q := ⟨p, xs, z, v, rfl, rfl, hp, hz, q⟩
theorem itt_ {c : Bool} {A B : Prop} (h : c = true) (q : A) : if c = true then A else B := by rw [if_pos h]; exact q
theorem iff_ {c : Bool} {A B : Prop} (h : c = false) (q : B) : if c = true then A else B := by rw [if_neg (by rw [h]; decide)]; exact q
theorem ssll {r : V → Option Int → Option Int → Hp → VK → Prop} {te : TE} {tl th : TO} {σ : L2.St} {Q : VK} (q : te σ H fun x H1 => tl σ H1 fun l H2 => th σ H2 fun u H3 => r x l u H3 Q) : tSl r te tl th σ H Q := q
theorem spt {t : TE} {σ : L2.St} {Q : Option Int → Hp → Prop} (q : t σ H fun x H1 => ∃ i, x = .int i ∧ Q (some i) H1) : tPart t σ H Q := q
theorem snp {σ : L2.St} {Q : Option Int → Hp → Prop} (q : Q none H) : tNoPart σ H Q := q
theorem sin {i : Int} {Q : Int → Prop} (q : Q i) : ∃ j, V.int i = .int j ∧ Q j := ⟨i, rfl, q⟩
/-- t[1:] -/
theorem s_cut {a : Addr} {x : V} {ys : List V} {Q : VK} (ha : SqT K H a (x :: ys)) (q : ∀ p, H p = none → Q (.ref p) (upd H p (.tup ys))) : rSlA K (.ref a) (some 1) none H Q := by
  have e0 : HT.sIx (x :: ys).length 0 (some 1) = 1 := by
    have := HT.sIx_nat (x :: ys).length 0 1
    rw [show ((1 : Nat) : Int) = 1 from rfl] at this
    rw [this]
    simp
  have e1 : HT.sIx (x :: ys).length (x :: ys).length none = (x :: ys).length := rfl
  refine ⟨a, x :: ys, rfl, ha, fun z => ?_, fun _ p hp => ?_⟩
  · rw [e0] at z
    exact absurd z.1 (by decide)
  · have e2 : cutV (x :: ys) (some 1) none = ys := by
      unfold cutV
      rw [e0, e1]
      simp
    rw [e2]
    exact q p hp
/-- what all tells of such a list -/
theorem all_bls {ds : List PyData} {p : PyData → Bool} {D : Addr} {Q : VK} (h : H D = some (.lst (ds.map fun d => V.bl (p d)))) (q : Q (.bl (ds.all p)) H) : rAll K [V.ref D] H Q := by
  refine ⟨D, ds.map p, rfl, .inl (.inl (by rw [h, List.map_map]; rfl)), ?_⟩
  rw [List.all_map]
  exact q
end
end Lk

namespace Lk
open PySem PySem.Spec PyProof.Rows L2
/-! ### rows of programs -/
inductive LRow where
  | set (n : Str) (f : List Int) (k : Int)
  | say (f : List Int) (k : Int)
  | ask (n : Str) (k : Int)
  | choose (ks : List Int)
  | look (k : Int)
  | stop
def intsD (xs : List Int) : PyData := .tuple (xs.map .int)
def LRow.d : LRow → PyData
  | .set n f k => .tuple [.str "set", .str n, intsD f, .int k]
  | .say f k => .tuple [.str "say", intsD f, .int k]
  | .ask n k => .tuple [.str "ask", .str n, .int k]
  | .choose ks => .tuple [.str "choose", intsD ks]
  | .look k => .tuple [.str "look", .int k]
  | .stop => .tuple [.str "stop"]
/-- the row as it lies in the heap -/
def RowH (H : Hp) (v : V) : LRow → Prop
  | .set n f k => ∃ a b, v = .ref a ∧ H a = some (.tup [.str "set", .str n, .ref b, .int k]) ∧ H b = some (.tup (f.map .int))
  | .say f k => ∃ a b, v = .ref a ∧ H a = some (.tup [.str "say", .ref b, .int k]) ∧ H b = some (.tup (f.map .int))
  | .ask n k => ∃ a, v = .ref a ∧ H a = some (.tup [.str "ask", .str n, .int k])
  | .choose ks => ∃ a b, v = .ref a ∧ H a = some (.tup [.str "choose", .ref b]) ∧ H b = some (.tup (ks.map .int))
  | .look k => ∃ a, v = .ref a ∧ H a = some (.tup [.str "look", .int k])
  | .stop => ∃ a, v = .ref a ∧ H a = some (.tup [.str "stop"])
/-- what a row must be over these variables, among m rows -/
def RowOk (names : List Str) (m : Int) : LRow → Prop
  | .set n f k => n ∈ names ∧ f.length = names.length + 1 ∧ 0 ≤ k ∧ k < m
  | .say f k => f.length = names.length + 1 ∧ 0 ≤ k ∧ k < m
  | .ask n k => n ∈ names ∧ 0 ≤ k ∧ k < m
  | .choose ks => 1 ≤ ks.length ∧ ks.length ≤ 6 ∧ ∀ k ∈ ks, 0 ≤ k ∧ k < m
  | .look k => 0 ≤ k ∧ k < m
  | .stop => True
/-- its numbers reduced -/
def LRow.low (w : Nat) : LRow → LRow
  | .set n f k => .set n (f.map (· % 2 ^ w)) k
  | .say f k => .say (f.map (· % 2 ^ w)) k
  | r => r
section
variable {K : PySem.W.Frag} {H H' : Hp}
theorem RowH.ts (s : Ts H H') {v : V} {r : LRow} (h : RowH H v r) : RowH H' v r := by
  cases r with
  | set n f k => obtain ⟨a, b, e, h1, h2⟩ := h; exact ⟨a, b, e, s _ _ h1, s _ _ h2⟩
  | say f k => obtain ⟨a, b, e, h1, h2⟩ := h; exact ⟨a, b, e, s _ _ h1, s _ _ h2⟩
  | ask n k => obtain ⟨a, e, h1⟩ := h; exact ⟨a, e, s _ _ h1⟩
  | choose ks => obtain ⟨a, b, e, h1, h2⟩ := h; exact ⟨a, b, e, s _ _ h1, s _ _ h2⟩
  | look k => obtain ⟨a, e, h1⟩ := h; exact ⟨a, e, s _ _ h1⟩
  | stop => obtain ⟨a, e, h1⟩ := h; exact ⟨a, e, s _ _ h1⟩
theorem dt_intsT {b : Addr} {xs : List Int} (h : H b = some (.tup (xs.map .int))) : Dt H (.ref b) (intsD xs) := .tup h (dt_ints xs)
theorem RowH.dt {v : V} {r : LRow} (h : RowH H v r) : Dt H v r.d := by
  cases r with
  | set n f k => obtain ⟨a, b, rfl, h1, h2⟩ := h; exact .tup h1 (.cons (.str _) (.cons (.str _) (.cons (dt_intsT h2) (.cons (.int _) .nil))))
  | say f k => obtain ⟨a, b, rfl, h1, h2⟩ := h; exact .tup h1 (.cons (.str _) (.cons (dt_intsT h2) (.cons (.int _) .nil)))
  | ask n k => obtain ⟨a, rfl, h1⟩ := h; exact .tup h1 (.cons (.str _) (.cons (.str _) (.cons (.int _) .nil)))
  | choose ks => obtain ⟨a, b, rfl, h1, h2⟩ := h; exact .tup h1 (.cons (.str _) (.cons (dt_intsT h2) .nil))
  | look k => obtain ⟨a, rfl, h1⟩ := h; exact .tup h1 (.cons (.str _) (.cons (.int _) .nil))
  | stop => obtain ⟨a, rfl, h1⟩ := h; exact .tup h1 (.cons (.str _) .nil)
theorem RowH.ref {v : V} {r : LRow} (h : RowH H v r) : ∃ a xs, v = .ref a ∧ H a = some (.tup xs) := by
  cases r with
  | set n f k => obtain ⟨a, b, e, h1, h2⟩ := h; exact ⟨a, _, e, h1⟩
  | say f k => obtain ⟨a, b, e, h1, h2⟩ := h; exact ⟨a, _, e, h1⟩
  | ask n k => obtain ⟨a, e, h1⟩ := h; exact ⟨a, _, e, h1⟩
  | choose ks => obtain ⟨a, b, e, h1, h2⟩ := h; exact ⟨a, _, e, h1⟩
  | look k => obtain ⟨a, e, h1⟩ := h; exact ⟨a, _, e, h1⟩
  | stop => obtain ⟨a, e, h1⟩ := h; exact ⟨a, _, e, h1⟩
/-- a list of rows -/
inductive RowsH (H : Hp) : List V → List LRow → Prop
  | nil : RowsH H [] []
  | cons {v : V} {vs : List V} {r : LRow} {rs : List LRow} : RowH H v r → RowsH H vs rs → RowsH H (v :: vs) (r :: rs)
theorem RowsH.ts (s : Ts H H') : ∀ {vs : List V} {rs : List LRow}, RowsH H vs rs → RowsH H' vs rs
  | _, _, .nil => .nil
  | _, _, .cons h t => .cons (h.ts s) (t.ts s)
theorem RowsH.len : ∀ {vs : List V} {rs : List LRow}, RowsH H vs rs → vs.length = rs.length
  | _, _, .nil => rfl
  | _, _, .cons _ t => congrArg Nat.succ t.len
theorem RowsH.at : ∀ {vs : List V} {rs : List LRow} {i : Nat} {v : V}, RowsH H vs rs → vs[i]? = some v → ∃ r, rs[i]? = some r ∧ RowH H v r
  | _, _, _, _, .nil, e => by simp at e
  | _, _, 0, _, .cons h _, e => by
    simp at e
    subst e
    exact ⟨_, rfl, h⟩
  | _, _, i + 1, _, .cons _ t, e => by
    obtain ⟨d, e1, e2⟩ := RowsH.at (i := i) t (by simpa using e)
    exact ⟨d, by simpa using e1, e2⟩
theorem RowsH.get : ∀ {vs : List V} {rs : List LRow} {i : Nat} {r : LRow}, RowsH H vs rs → rs[i]? = some r → ∃ v, vs[i]? = some v ∧ RowH H v r
  | _, _, _, _, .nil, e => by simp at e
  | _, _, 0, _, .cons h _, e => by
    simp at e
    subst e
    exact ⟨_, rfl, h⟩
  | _, _, i + 1, _, .cons _ t, e => by
    obtain ⟨d, e1, e2⟩ := RowsH.get (i := i) t (by simpa using e)
    exact ⟨d, by simpa using e1, e2⟩
theorem atI_nat {α : Type} {xs : List α} {i : Nat} {x : α} (h : xs[i]? = some x) : atI xs (i : Int) = some x := by
  have hlt := (List.getElem?_eq_some_iff.mp h).1
  unfold atI ixN
  rw [if_pos (by omega), if_pos (by omega)]
  exact h
theorem RowsH.append : ∀ {vs us : List V} {rs qs : List LRow}, RowsH H vs rs → RowsH H us qs → RowsH H (vs ++ us) (rs ++ qs)
  | _, _, _, _, .nil, k => k
  | _, _, _, _, .cons h t, k => .cons h (t.append k)
theorem RowsH.dt : ∀ {vs : List V} {rs : List LRow}, RowsH H vs rs → DtAll H vs (rs.map LRow.d)
  | _, _, .nil => .nil
  | _, _, .cons h t => .cons h.dt t.dt
/-! ### names -/
def letD (c : Nat) : Bool := decide (97 ≤ c) && decide (c ≤ 122)
def nameS (s : Str) : Bool := decide (1 ≤ s.length) && decide (s.length ≤ 8) && s.cps.toList.all letD
def nameD : PyData → Bool
  | .str s => nameS s
  | _ => false
theorem lex1 (a b : Nat) : decide ([a] < [b]) = decide (a < b) := by
  refine decide_eq_decide.mpr ⟨fun h => ?_, fun h => ?_⟩
  · cases h with
    | rel h => exact h
    | cons h => cases h
  · exact .rel h
/-- [e for c in s] -/
theorem tlc_mapS {σ : L2.St} {z : Str} {ys : List V} {j k : Nat} {te : TE} {vs : List Nat} {Q : VK} (hj : σ[j]? = some (some (.str z))) (hl : ys.length = z.cps.size) (h3 : z.cps.size ≤ 1000)
    (hw : ∀ x, wipe ((wipe σ vs).set k (some x)) vs = wipe σ vs)
    (he : ∀ (i c : Nat) (y : V) (H' : Hp), z.cps[i]? = some c → ys[i]? = some y → Same H H' → ∀ R : VK, (∀ H'', Same H' H'' → R y H'') → te ((wipe σ vs).set k (some (.str ⟨#[c]⟩))) H' R)
    (q : ∀ D H', Same H H' → H D = none → H' D = some (.lst ys) → Q (.ref D) H') : tLc (iStr (tVar j)) (gName k) tYes te vs σ H Q := by
  refine ⟨_, hj, z, rfl, fun D hD => lc_it walk_str (fun i H' => Same H H' ∧ H' D = some (.lst (ys.take i))) ⟨same_new hD, upd_same⟩ (fun _ _ _ _ => trivial) (fun i x H1 H' hi h hy => ?_) (fun H' h => ?_)⟩
  · obtain ⟨rfl, c, hc, rfl⟩ := hy
    have hlt : i < ys.length := by
      rw [hl]
      exact hi
    refine ⟨hw _, ?_⟩
    unfold tYes
    simp only [if_true]
    refine he i c ys[i] H' hc (List.getElem?_eq_getElem hlt) h.1 _ fun H2 s2 => ⟨_, s2 _ _ h.2, ?_, fun b o e => ?_, ?_⟩
    · rw [List.length_take]
      exact small1000 (by omega)
    · rw [upd_ne (ne_of_none e hD)]
      exact s2 _ _ (h.1 _ _ e)
    · rw [upd_same, List.take_succ, List.getElem?_eq_getElem hlt]
      rfl
  · rw [← hl, List.take_length] at h
    exact q D H' h.1 hD h.2
/-- a list or a tuple -/
def SqE (K : PySem.W.Frag) (H : Hp) (p : Addr) (xs : List V) : Prop := SqL K H p xs ∨ SqT K H p xs
theorem SqE.same (s : Same H H') {p : Addr} {xs : List V} (h : SqE K H p xs) : SqE K H' p xs := h.imp s.seq (same_sqT s)
theorem inV_str {x : Str} : ∀ {ns : List Str}, x ∈ ns → inV (.str x) (ns.map V.str) = true
  | [], h => by cases h
  | n :: ns, h => by
    rw [List.map_cons]
    unfold inV
    rw [List.any_cons, Bool.or_eq_true]
    rcases List.mem_cons.mp h with rfl | h
    · exact .inl (by show (x == x) = true; exact beq_self_eq_true x)
    · exact .inr (inV_str h)
theorem flat_strs (ns : List Str) : (ns.map V.str).all flatV = true := by
  rw [List.all_map]
  exact List.all_eq_true.mpr fun _ _ => rfl
end
end Lk

namespace Lk
open PySem PySem.Spec PyProof.Rows L2
/-! ### a list or a tuple, whichever was handed in -/
section
variable {X : Cx} {tg e : Expr} {te : TE}
def rSlE (K : PySem.W.Frag) : V → Option Int → Option Int → Hp → VK → Prop := fun x lo hi H Q => rSlL K x lo hi H Q ∨ rSlA K x lo hi H Q
theorem sl_either : SlR X (rSlE X.K) := sl_list.or sl_tupA
def rTupOf (K : PySem.W.Frag) : List V → Hp → VK → Prop := fun xs H Q => ∃ p ys, xs = [.ref p] ∧ ((SqL K H p ys ∧ ∀ l, H l = none → Q (.ref l) (upd H l (.tup ys))) ∨ (SqT K H p ys ∧ Q (.ref p) H))
theorem call_tupOf : CallR X (.type "tuple") (rTupOf X.K) := call_tuple_of
def iEither (K : PySem.W.Frag) (te : TE) : TI := fun σ H R => iList K te σ H R ∨ iTup K te σ H R
theorem pi_either (he : PE X e te) : PI X tg e (iEither X.K te) := ⟨fun pins s σ H R I h => h.elim ((pi_list he).run pins s σ H R I) ((pi_tup he).run pins s σ H R I)⟩
def iEnumE (K : PySem.W.Frag) (ta : TA) : TI := fun σ H R => iEnum K ta σ H R ∨ iEnumT K ta σ H R
theorem pi_enumE {ta : TA} {p pos tpos : Pos} {elts : List Expr} {kk : Nat} (hg : Gl X "enumerate") (hm : X.mg "enumerate" = none) (ha : PA X [e] ta) (hs : starEach [e] X.env = [(false, eval e X.env)] := by rfl) :
    PI X (.Tuple elts kk tpos) (.Call (.Name "enumerate" p) [e] [] pos) (iEnumE X.K ta) := ⟨fun pins s σ H R I h => h.elim ((pi_enum hg hm ha hs).run pins s σ H R I) ((pi_enumT hg hm ha hs).run pins s σ H R I)⟩
end
section
variable {K : PySem.W.Frag} {H H' : Hp} {σ : L2.St} {a : Addr} {xs : List V}
theorem sIx_take {n i : Nat} (hi : i < n) : HT.sIx n n (some (i : Int)) = i := by
  rw [HT.sIx_nat]
  omega
theorem cut_take {i : Nat} (hi : i < xs.length) : cutV xs none (some (i : Int)) = xs.take i := by
  unfold cutV
  rw [sIx_take hi, show HT.sIx xs.length 0 none = 0 from rfl]
  simp
/-- xs[:i] -/
theorem s_take {i : Nat} {Q : VK} (hx : SqE K H a xs) (hi : i < xs.length) (q : ∀ p H', Same H H' → SqE K H' p (xs.take i) → Q (.ref p) H') : rSlE K (.ref a) none (some (i : Int)) H Q := by
  rcases hx with hx | hx
  · refine .inl ⟨a, xs, rfl, hx, fun p hp => ?_⟩
    rw [cut_take hi]
    exact q p _ (same_new hp) (.inl (SqL.of upd_same))
  · refine .inr ⟨a, xs, rfl, hx, fun z => ?_, fun _ p hp => ?_⟩
    · have := z.2
      rw [sIx_take hi] at this
      omega
    · rw [cut_take hi]
      exact q p _ (same_new hp) (.inr (SqT.of upd_same))
/-- for i, x in enumerate(xs) -/
theorem for_enE {g : TG} {tb : TS} {D : Ends} {j : Nat} (I : Nat → L2.St → Hp → Prop) (hj : σ[j]? = some (some (.ref a))) (hx : SqE K H a xs) (h0 : I 0 σ H) (hS : ∀ i σ' H', I i σ' H' → Same H H')
    (ht : ∀ (i : Nat) (x : V) p σ' H', xs[i]? = some x → I i σ' H' → H' p = none → g (.ref p) σ' (upd H' p (.tup [.int (i : Nat), x])) fun σ2 H2 => tb { D with nx := I (i + 1), ct := I (i + 1), bk := D.nx } σ2 H2)
    (hd : ∀ σ' H', I xs.length σ' H' → D.nx σ' H') : tFor (iEnumE K (tCons (tVar j) tNil)) g tb D σ H := by
  rcases hx with hx | hx
  · exact .inl ⟨_, hj, a, xs, rfl, hx, en_by I h0 (fun i σ H' _ h => (hS i σ H' h).seq hx) ht hd⟩
  · refine .inr ⟨_, hj, a, xs, rfl, hx, for_it walk_enumT I h0 (fun i σ H' _ h => same_sqT (hS i σ H' h) hx) (fun i v σ' H1 H2 hi hI hy => ?_) hd⟩
    obtain ⟨T, x, y, rfl, hT, rfl, e1, e2⟩ := hy
    cases Option.some.inj e1
    exact ht i y T σ' H1 e2 hI hT
theorem tlc_mapE {ys : List V} {j k : Nat} {te : TE} {vs : List Nat} {Q : VK} (hj : σ[j]? = some (some (.ref a))) (hx : SqE K H a xs) (hl : ys.length = xs.length) (h3 : xs.length ≤ 1000)
    (hw : ∀ x, wipe ((wipe σ vs).set k (some x)) vs = wipe σ vs)
    (he : ∀ (i : Nat) (x y : V) (H' : Hp), xs[i]? = some x → ys[i]? = some y → Same H H' → ∀ R : VK, (∀ H'', Same H' H'' → R y H'') → te ((wipe σ vs).set k (some x)) H' R)
    (q : ∀ D H', Same H H' → H D = none → H' D = some (.lst ys) → Q (.ref D) H') : tLc (iEither K (tVar j)) (gName k) tYes te vs σ H Q := by
  rcases hx with hx | hx
  · exact Or.inl (tlc_mapL hj hx hl h3 hw he q)
  · exact Or.inr (tlc_mapT hj hx hl h3 hw he q)
/-- tuple(xs) -/
theorem s_tupE {R : VK} (hx : SqE K H a xs) (q : ∀ p H', Same H H' → SqT K H' p xs → R (.ref p) H') : rTupOf K [V.ref a] H R := by
  rcases hx with hx | hx
  · exact ⟨a, xs, rfl, .inl ⟨hx, fun l hl => q l _ (same_new hl) (SqT.of upd_same)⟩⟩
  · exact ⟨a, xs, rfl, .inr ⟨hx, q a _ (Same.refl _) hx⟩⟩
/-- [f(row, ..) for row in rows] -/
theorem tlc_rowsE {rs : List LRow} {j k : Nat} {te : TE} {vs : List Nat} {Q : VK} (f : LRow → LRow) (hj : σ[j]? = some (some (.ref a))) (hx : SqE K H a xs) (hr : RowsH H xs rs) (h3 : xs.length ≤ 1000)
    (hw : ∀ x, wipe ((wipe σ vs).set k (some x)) vs = wipe σ vs)
    (he : ∀ (i : Nat) (x : V) (r : LRow) (H' : Hp), rs[i]? = some r → RowH H' x r → Same H H' → ∀ R : VK, (∀ u H'', Same H' H'' → RowH H'' u (f r) → R u H'') → te ((wipe σ vs).set k (some x)) H' R)
    (q : ∀ D ys H', Same H H' → H D = none → H' D = some (.lst ys) → RowsH H' ys (rs.map f) → Q (.ref D) H') : tLc (iEither K (tVar j)) (gName k) tYes te vs σ H Q := by
  have step : ∀ D, H D = none → ∀ i x H', xs[i]? = some x → (Same H H' ∧ ∃ ys, H' D = some (.lst ys) ∧ RowsH H' ys ((rs.take i).map f)) → gName k x (wipe σ vs) H' fun σ2 H2 => wipe σ2 vs = wipe σ vs ∧ tYes σ2 H2 fun b H3 =>
      if b = true then te σ2 H3 fun y H4 => ∃ acc, H4 D = some (.lst acc) ∧ acc.length < sizeLine ∧ (Same H (upd H4 D (.lst (acc ++ [y]))) ∧ ∃ ys, (upd H4 D (.lst (acc ++ [y]))) D = some (.lst ys) ∧ RowsH (upd H4 D (.lst (acc ++ [y]))) ys ((rs.take (i + 1)).map f)) else (Same H H3 ∧ ∃ ys, H3 D = some (.lst ys) ∧ RowsH H3 ys ((rs.take (i + 1)).map f)) := by
    intro D hD i x H' hi h
    obtain ⟨s1, ys, hys, hrs⟩ := h
    obtain ⟨r, hri, hrv⟩ := hr.at hi
    have hlen := hrs.len
    refine ⟨hw _, ?_⟩
    unfold tYes
    simp only [if_true]
    refine he i x r H' hri (hrv.ts (Ts.of s1)) s1 _ fun u H2 s2 hu => ⟨ys, s2 _ _ hys, ?_, fun b o e => ?_, _, upd_same, ?_⟩
    · rw [hlen, List.length_map, List.length_take]
      have := hr.len
      exact small1000 (by omega)
    · rw [upd_ne (ne_of_none e hD)]
      exact s2 _ _ (s1 _ _ e)
    · have t1 : Ts H2 (upd H2 D (.lst (ys ++ [u]))) := Ts.lst (s2 _ _ hys)
      rw [List.take_succ, hri, List.map_append]
      exact ((hrs.ts (Ts.of s2)).ts t1).append (.cons (hu.ts t1) .nil)
  have start : ∀ D, H D = none → Same H (upd H D (.lst [])) ∧ ∃ ys, (upd H D (.lst [])) D = some (.lst ys) ∧ RowsH (upd H D (.lst [])) ys ((rs.take 0).map f) := fun D hD => ⟨same_new hD, [], upd_same, .nil⟩
  have fin : ∀ D, H D = none → ∀ H', (Same H H' ∧ ∃ ys, H' D = some (.lst ys) ∧ RowsH H' ys ((rs.take xs.length).map f)) → Q (.ref D) H' := fun D hD H' ⟨s1, ys, h1, h2⟩ => by
    rw [hr.len, List.take_length] at h2
    exact q D ys H' s1 hD h1 h2
  rcases hx with hx | hx
  · exact Or.inl ⟨_, hj, a, rfl, ⟨xs, hx⟩, fun D hD => lc_list (fun i H' => Same H H' ∧ ∃ ys, H' D = some (.lst ys) ∧ RowsH H' ys ((rs.take i).map f)) (start D hD) (fun i H' _ h => h.1.seq hx) (step D hD) (fin D hD)⟩
  · exact Or.inr ⟨_, hj, a, rfl, ⟨xs, hx⟩, fun D hD => lc_tup (fun i H' => Same H H' ∧ ∃ ys, H' D = some (.lst ys) ∧ RowsH H' ys ((rs.take i).map f)) (start D hD) (fun i H' _ h => same_sqT h.1 hx) (step D hD) (fin D hD)⟩
/-! ### all stays but for one object -/
def Bar (x : Addr) (H H' : Hp) : Prop := ∀ b o, b ≠ x → H b = some o → H' b = some o
theorem Bar.refl {x : Addr} : Bar x H H := fun _ _ _ e => e
theorem Bar.of {x : Addr} (s : Same H H') : Bar x H H' := fun b o _ e => s b o e
theorem Bar.upd {x : Addr} {o : HO} : Bar x H (upd H x o) := fun b u n e => by rw [upd_ne n]; exact e
theorem Bar.trans {x : Addr} {H1 : Hp} (s : Bar x H H1) (t : Bar x H1 H') : Bar x H H' := fun b o n e => t b o n (s b o n e)
theorem Bar.ts {x C dx : Addr} {fs : List (Str × V)} (s : Bar x H H') (hx : H x = some (.ins C dx fs)) : Ts H H' := fun b ys e => s b _ (fun z => by rw [z, hx] at e; cases e) e
theorem Bar.sqT {x C dx : Addr} {fs : List (Str × V)} (s : Bar x H H') (hx : H x = some (.ins C dx fs)) (h : SqT K H a xs) : SqT K H' a xs := by
  rcases h with (e | ⟨o, e⟩) | e
  · exact .inl (.inl (s _ _ (fun z => by rw [z, hx] at e; cases e) e))
  · exact .inl (.inr ⟨o, s _ _ (fun z => by rw [z, hx] at e; cases e) e⟩)
  · exact .inr e
theorem Bar.sqL {x C dx : Addr} {fs : List (Str × V)} (s : Bar x H H') (hx : H x = some (.ins C dx fs)) (h : SqL K H a xs) : SqL K H' a xs := by
  rcases h with (e | ⟨o, e⟩) | e
  · exact .inl (.inl (s _ _ (fun z => by rw [z, hx] at e; cases e) e))
  · exact .inl (.inr ⟨o, s _ _ (fun z => by rw [z, hx] at e; cases e) e⟩)
  · exact .inr e
theorem Bar.sqE {x C dx : Addr} {fs : List (Str × V)} (s : Bar x H H') (hx : H x = some (.ins C dx fs)) (h : SqE K H a xs) : SqE K H' a xs := h.imp (s.sqL hx) (s.sqT hx)
theorem sfl {ta tv : TE} {f : Str} {D : Ends} (q : tv σ H fun y H1 => ta σ H1 fun x H2 => ∃ a C dx fs, x = .ref a ∧ H2 a = some (.ins C dx fs) ∧ Cls K C ∧ NoAttr K C f ∧ fs.length < 1000 ∧ D.nx σ (L2.upd H2 a (.ins C dx (putF f y fs)))) : sFld K ta tv f D σ H := q
theorem sfd {ta : TE} {f : Str} {R : VK} (q : ta σ H fun x H1 => ∃ a C dx fs v, x = .ref a ∧ H1 a = some (.ins C dx fs) ∧ Cls K C ∧ NoAttr K C f ∧ fs.lookup f = some v ∧ R v H1) : tFld K ta f σ H R := q
/-- a program in the heap, its numbers reduced -/
def prF (w : Int) (tv tr : Addr) : List (Str × V) := [("width", .int w), ("variables", .ref tv), ("rows", .ref tr)]
def ProgO (K : PySem.W.Frag) (C : Addr) (H : Hp) (p : Addr) (w : Nat) (ns : List Str) (rs : List LRow) : Prop :=
  ∃ dx tv tr vs, H p = some (.ins C dx (prF w tv tr)) ∧ SqT K H tv (ns.map V.str) ∧ SqT K H tr vs ∧ RowsH H vs rs
theorem sqe_seq {ds : List PyData} (h : SqE K H a xs) (hd : DpAll K H xs ds) : ∃ d, Dp K H (.ref a) d ∧ ∀ lo hi : Int, lo ≤ ds.length → (ds.length : Int) ≤ hi → seqD d lo hi = true := by
  rcases h with h | h
  · exact ⟨_, .lst h hd, fun lo hi h1 h2 => by simp [seqD, h1, h2]⟩
  · exact ⟨_, .tup h hd, fun lo hi h1 h2 => by simp [seqD, h1, h2]⟩
theorem dp_strs : ∀ ns : List Str, DpAll K H (ns.map V.str) (ns.map PyData.str)
  | [] => .nil
  | n :: ns => .cons (.str n) (dp_strs ns)
theorem inV_not {x : Str} {ns : List Str} (h : x ∉ ns) : inV (.str x) (ns.map V.str) = false := by
  unfold inV
  rw [List.any_map, List.any_eq_false]
  intro y hy
  show ¬ (y == x) = true
  exact fun z => h (eq_of_beq z ▸ hy)
theorem nodup_take {ns : List Str} {i : Nat} {x : Str} (nd : ns.Nodup) (hx : ns[i]? = some x) : x ∉ ns.take i := fun h => by
  obtain ⟨j, hj⟩ := List.getElem?_of_mem h
  have hlt : j < i := by
    have := (List.getElem?_eq_some_iff.mp hj).1
    rw [List.length_take] at this
    omega
  rw [List.getElem?_take_of_lt hlt] at hj
  have h1 := (List.getElem?_eq_some_iff.mp hj).1
  have := (List.getElem?_inj h1 nd).mp (hj.trans hx.symm)
  omega
end
end Lk

/-! own == and != with either answer -/
namespace LkN
open PySem PySem.Spec PyProof.Rows PySem.SeqAt
section
variable {M : Model} {prog : Program} {w : World} {A : Around} {E : Value → Shared → Prop} {s : Shared} {K : PySem.W.Frag} {x y C f : Addr} {ox oy : Obj} {od oe : Option Obj}
theorem objNe_body (X : K.In s.heap) (I : PySem.W.InstAt s.heap x ox C od) (hs : PySem.W.findIn K (.ref C) "__eq__" = some (some (.ref f))) (hf : PySem.W.isFn K (.ref f) = true) (hu : A.units < cLine) {Q : Fin → Shared → Prop}
    (hcall : wpAny (model prog w) A (call (.ref f) [.ref x, .ref y]) (fun v s' => ∃ b, v = .bool b ∧ Q (.done (.ret (.bool (!b)))) s') E s) :
    wpAny (model prog w) A (Builtin.«object.__ne__» ⟨[.ref x, .ref y], []⟩) Q E s := by
  unfold Builtin.«object.__ne__»
  repeat (first
    | with_reducible refine wpAny_cRoomFor hu ?_
    | (refine wpAny_bind (m := callSpecialIfBound? (.ref x) (Str.ofString "__eq__") [.ref y])
        (PySem.W.ifBound_K X I hs hf (wpAny_mono hcall (fun r s' hr => by
          obtain ⟨b, rfl, hq⟩ := hr
          repeat (first | exact hq | exact wpAny_pure hq | exact wpAny_truthy_bool hq | (refine wpAny_bind (m := truthy (.bool _)) (wpAny_truthy_bool ?_)) | wp_step)) fun _ _ e => e)))
    | wp_step)
theorem call_objNe {Q : Value → Shared → Prop} (X : K.In s.heap) (I : PySem.W.InstAt s.heap x ox C od) (hm : PySem.W.mroIn K C (.type "object") = some true) (hs : PySem.W.findIn K (.ref C) "__eq__" = some (some (.ref f))) (hf : PySem.W.isFn K (.ref f) = true) (hu : A.in1.units < cLine)
    (hcall : wpAny (model prog w) A.in1 (call (.ref f) [.ref x, .ref y]) (fun v s' => ∃ b, v = .bool b ∧ Q (.bool (!b)) s') E s) :
    wpAny (model prog w) A (call (.builtin "object.__ne__") [.ref x, .ref y]) Q E s :=
  wpAny_call (codeAny_call_builtin F.cmp_object.ne.plain F.cmpEntry_ne (PySem.W.check_slot F.cmpKind_ne F.cmpSplit_ne (I.type.andThen (PySem.W.looks_mroIn X hm)) (F.cmpArgs_ne _ _)
    (objNe_body (A := A.in1) X I hs hf hu (wpAny_mono hcall (fun v s' hv => by obtain ⟨b, e, q⟩ := hv; exact ⟨b, e, q⟩) fun _ _ e => e))))
theorem ifBound_objNe {args : List Value} {Q : Option Value → Shared → Prop} (X : K.In s.heap) (I : PySem.W.InstAt s.heap x ox C od) (hs : PySem.W.findIn K (.ref C) "__ne__" = some (some (.builtin "object.__ne__")))
    (h : wpAny M A (call (.builtin "object.__ne__") (.ref x :: args)) (fun v => Q (some v)) E s) : wpAny M A (callSpecialIfBound? (.ref x) "__ne__" args) Q E s := by
  simp only [callSpecialIfBound?, bindSpecialIfBound?]
  refine wpAny_holding (wpAny_bind (wpAny_bind (wpAny_bind (I.type.here ((PySem.W.looks_findIn X hs).here ?_)))))
  refine wpAny_bind (wpAny_askSetting (wpAny_ite ?_))
  have fin : wpAny M A (call (.builtin "object.__ne__") ([.ref x] ++ args) >>= fun v => pure (some v)) Q E s := wpAny_bind (wpAny_mono h (fun v s' h' => wpAny_pure h') fun _ _ h' => h')
  split
  · exact wpAny_bind (wpAny_of_eq (F.cmp_object.ne.bind _) (wpAny_pure (by exact fin)))
  · exact wpAny_tryCatch (wpAny_bind (wpAny_of_eq (F.cmp_object.ne.bind _) (wpAny_pure (by exact fin))))
theorem rc_ne {Q : Value → Shared → Prop} (X : K.In s.heap) (I : PySem.W.InstAt s.heap x ox C od) (J : PySem.W.InstAt s.heap y oy C oe) (hm : PySem.W.mroIn K C (.type "object") = some true) (hs : PySem.W.findIn K (.ref C) "__eq__" = some (some (.ref f))) (hn : PySem.W.findIn K (.ref C) "__ne__" = some (some (.builtin "object.__ne__"))) (hf : PySem.W.isFn K (.ref f) = true) (hu : A.units + 1 < cLine)
    (hcall : wpAny (model prog w) A.in1 (call (.ref f) [.ref x, .ref y]) (fun v s' => ∃ b, v = .bool b ∧ Q (.bool (!b)) s') E s) :
    wpAny (model prog w) A (richCompare .NotEq (.ref x) (.ref y)) Q E s := by
  have one : wpAny (model prog w) A (tryCompare (.ref x) "__ne__" (.ref y)) (fun r s' => ∃ b, r = some (.bool b) ∧ Q (.bool b) s') E s := by
    unfold tryCompare
    refine wpAny_bind (ifBound_objNe X I hn (call_objNe X I hm hs hf hu (wpAny_mono hcall (fun v s' hv => ?_) fun _ _ e => e)))
    obtain ⟨b, rfl, hq⟩ := hv
    refine ⟨b, rfl, ?_⟩
    exact wpAny_pure ⟨!b, rfl, hq⟩
  simp only [richCompare, cmpInfo_NotEq, oneThing_ref]
  refine wpAny_holding (wpAny_bind (wpAny_cRoomFor (Nat.lt_of_succ_lt hu) ?_))
  refine wpAny_bind (I.type.here (wpAny_bind (J.type.here ?_)))
  rw [show (Value.ref C != Value.ref C) = false from by simp]
  simp only [Bool.false_eq_true, if_false]
  refine wpAny_bind (wpAny_pure ?_)
  simp only [Bool.false_eq_true, if_false]
  refine wpAny_bind (wpAny_mono one (fun r s' z => ?_) fun _ _ e => e)
  obtain ⟨b, rfl, hq⟩ := z
  first | exact wpAny_pure hq | exact wpAny_pure (wpAny_pure hq)
end
end LkN

namespace Lk
open PySem PySem.Spec PyProof.Rows L2
section
variable {X : Cx} {CX : CXT} {n : Nat} {C f : Addr} {fd : FuncData} {ps : List Str} {sp : Sp} {E : XK}
/-- the own == , called at A below the body X -/
theorem run_own {A : Around} {pins : List (Addr × Obj)} {σ : L2.St} {H : Hp} {s : Shared} {vs : List V} {us : List Value} {R : VK} (F : FnOk X.prog X.w X.K X.mg X.base CX n f fd ps sp) (hb : Binds X.K fd ps []) (hx : Passes CX X E) (sb : Sub X n A)
    (I : Inv X pins σ H s) (r2 : Vals vs us) (hsp : sp vs H R E) : wpAny (model X.prog X.w) A (call (.ref f) us) (fun r s' => ∃ z H', Inv X pins σ H' s' ∧ RelV z r ∧ R z H') X.xe s := by
  have e0 : Env0 X.prog X.w X.K X.mg X.base A X.stack s H := by
    have e := I.env0
    exact ⟨by rw [sb.fr]; exact e.frames, e.mod, e.bs, e.bsz, e.funs, e.frf, e.hok, e.bare⟩
  have hl := F.len _ _ _ _ hsp
  refine wpAny_call (codeAny_mono (F.run A X.stack s H ⟨us, []⟩ us vs _ E sb.room e0 (by
    have := hb s us I.kIn (by rw [List.append_nil, ← r2.length]; exact hl)
    simpa using this) r2 hsp) fun r s' hq => ?_)
  cases r with
  | error e => exact hx pins σ H s e s' I hq
  | ok fl =>
    cases fl with
    | ret w =>
      obtain ⟨z, H', I', rz, q⟩ := I.after hq
      exact ⟨z, H', I', rz, q⟩
    | next => exact False.elim hq
    | brk => exact False.elim hq
    | cont => exact False.elim hq
theorem run_eq {A : Around} {pins : List (Addr × Obj)} {σ : L2.St} {H : Hp} {s : Shared} {x y : V} {u v : Value} {R : VK} (F : FnOk X.prog X.w X.K X.mg X.base CX n f fd ps sp) (hb : Binds X.K fd ps []) (hx : Passes CX X E) (sb : Sub X n A)
    (I : Inv X pins σ H s) (rx : RelV x u) (ry : RelV y v) (hsp : sp [x, y] H R E) : wpAny (model X.prog X.w) A (call (.ref f) [u, v]) (fun r s' => ∃ z H', Inv X pins σ H' s' ∧ RelV z r ∧ R z H') X.xe s := run_own F hb hx sb I (.cons rx (.cons ry .nil)) hsp
/-- len(x) by the own __len__ -/
def rLenO (C : Addr) (sp : Sp) (E : XK) : List V → Hp → VK → Prop := fun xs H Q => ∃ a dx fs, xs = [.ref a] ∧ H a = some (.ins C dx fs) ∧ sp [.ref a] H (fun z H' => ∃ k : Nat, z = .int (k : Int) ∧ k ≤ 1000 ∧ Q (.int (k : Int)) H') E
theorem call_lenO (F : FnOk X.prog X.w X.K X.mg X.base CX n f fd ps sp) (hs : PySem.W.findIn X.K (.ref C) "__len__" = some (some (.ref f))) (hf : PySem.W.isFn X.K (.ref f) = true) (hb : Binds X.K fd ps []) (hx : Passes CX X E) (hr : Room (n + 1) X.A) : CallR X (.builtin "len") (rLenO C sp E) := by
  intro pins s σ H xs us Q I r h
  obtain ⟨a, dx, fs, rfl, ha, hsp⟩ := h
  obtain ⟨u, rfl, rx⟩ := vals1 r
  cases rx
  obtain ⟨mA, J, _⟩ := ins_get I.hok ha
  obtain ⟨od, J, _⟩ := J.look
  obtain ⟨m, hF⟩ := I.fr
  have sb : Sub X (n + 1) X.A := ⟨hr, rfl⟩
  refine PySem.W.len_K hF I.ok.mod.kin J hs hf (wpAny_mono (run_own F hb hx sb.in1 I (.cons (show RelV (.ref a) (.ref a) from rfl) .nil) hsp) (fun r s' z => ?_) fun _ _ e => e)
  obtain ⟨z, H', I', rz, k, ez, hk, q⟩ := z
  subst ez
  obtain ⟨t, rfl⟩ := rz
  exact ⟨⟨by omega, by omega⟩, .int (k : Int), H', I'.tok _, ⟨_, rfl⟩, q⟩
/-- x[y] by the own __getitem__ -/
def rIxO (C : Addr) (sp : Sp) (E : XK) : R2 := fun x y H Q => ∃ a dx fs, x = .ref a ∧ H a = some (.ins C dx fs) ∧ sp [x, y] H Q E
theorem pe_ixO {a b : Expr} {ta tb : TE} {pos : Pos} (F : FnOk X.prog X.w X.K X.mg X.base CX n f fd ps sp) (hs : PySem.W.findIn X.K (.ref C) "__getitem__" = some (some (.ref f))) (hfn : PySem.W.fnIn X.K f = true) (hf : PySem.W.isFn X.K (.ref f) = true) (hb' : Binds X.K fd ps []) (hx : Passes CX X E) (hr : Room (n + 1) X.A)
    (ha : PE X a ta) (hb : PE X b tb) (hsl : ∀ v u, subscripted b true v u = runValue (.builtin "lifetime.subscript" ⟨[v, u], []⟩) := by intros; with_unfolding_all rfl) : PE X (.Subscript a b pos) (tOp (rIxO C sp E) ta tb) := by
  refine ⟨fun pins s σ H Q I h => ?_⟩
  refine Subscript_ (binT ha hb I h fun v u s2 x y H2 I2 rx ry q => ?_)
  obtain ⟨a', dx, fs, rfl, ha', hsp⟩ := q
  cases rx
  obtain ⟨mA, J, _⟩ := ins_get I2.hok ha'
  obtain ⟨od, J, _⟩ := J.look
  obtain ⟨m, hF⟩ := I2.fr
  have sb : Sub X (n + 1) X.A := ⟨hr, rfl⟩
  exact PySem.W.sub_K hF I2.ok.mod.kin J hs hfn hf (wpAny_mono (run_own F hb' hx sb.in1 I2 (.cons (show RelV (.ref a') (.ref a') from rfl) (.cons ry .nil)) hsp) (fun r s' z => by
    obtain ⟨z, H', I', rz, q⟩ := z
    exact ⟨z, H', I', rz, q⟩) fun _ _ e => e) (hsl _ _)
/-- x == y by the own __eq__ of x's class; y an instance of the same class, or a tuple -/
def rEqO (K : PySem.W.Frag) (C : Addr) (sp : Sp) (E : XK) : R2 := fun x y H Q => ∃ a dx fs, x = .ref a ∧ H a = some (.ins C dx fs) ∧ ((∃ b dy gs, y = .ref b ∧ H b = some (.ins C dy gs)) ∨ ∃ b xs, y = .ref b ∧ H b = some (.tup xs)) ∧
  sp [x, y] H (fun z H' => ∃ b, z = .bl b ∧ Q (.bl b) H') E
def rNeO (C : Addr) (sp : Sp) (E : XK) : R2 := fun x y H Q => ∃ a dx fs b dy gs, x = .ref a ∧ H a = some (.ins C dx fs) ∧ y = .ref b ∧ H b = some (.ins C dy gs) ∧
  sp [x, y] H (fun z H' => ∃ k, z = .bl k ∧ Q (.bl (!k)) H') E
theorem op_eqO (F : FnOk X.prog X.w X.K X.mg X.base CX n f fd ps sp) (hs : PySem.W.findIn X.K (.ref C) "__eq__" = some (some (.ref f))) (hf : PySem.W.isFn X.K (.ref f) = true) (hb : Binds X.K fd ps []) (hx : Passes CX X E)
    (hn : PySem.W.notFirst X.K C (.type "tuple") = true) (hr : Room n X.A) : OpR X (compareOp .Eq) (rEqO X.K C sp E) := by
  intro pins s σ H x y v u Q I rx ry hq
  obtain ⟨a, dx, fs, rfl, ha, hy, hsp⟩ := hq
  show wpAny (model X.prog X.w) X.A (richCompare .Eq v u) (EP X pins σ Q) X.xe s
  cases rx
  obtain ⟨mA, J, _⟩ := ins_get I.hok ha
  obtain ⟨od, J, _⟩ := J.look
  obtain ⟨m, hF⟩ := I.fr
  have hu := hr.units0
  have back : wpAny (model X.prog X.w) X.A (call (.ref f) [.ref a, u]) (PySem.W.CmpBack (EP X pins σ Q)) X.xe s := wpAny_mono (run_eq (x := .ref a) F hb hx ⟨hr, rfl⟩ I (show RelV (.ref a) (.ref a) from rfl) ry hsp) (fun r s' z => by
    obtain ⟨z, H', I', rz, b, ez, q⟩ := z
    subst ez
    cases rz
    exact ⟨.bl b, H', I', rfl, q⟩) fun _ _ e => e
  rcases hy with ⟨b, dy, gs, rfl, hb'⟩ | ⟨b, xs, rfl, hb'⟩
  · cases ry
    obtain ⟨mB, J', _⟩ := ins_get I.hok hb'
    obtain ⟨od', J', _⟩ := J'.look
    exact PySem.W.cmp_K (op := .Eq) (tb := .ref C) hu hF I.ok.mod.kin J J'.type (by simp [PySem.W.notFirst]) hs hf back
  · cases ry
    obtain ⟨_, _, _, o, h1, h2, _⟩ := (show ObjOk X.prog X.w H s.heap b (.tup xs) from I.hok b _ hb')
    exact PySem.W.cmp_K (op := .Eq) (tb := .type "tuple") hu hF I.ok.mod.kin J (fun A Q E s k q => wpAny_typeOf_ref (k _ _ h1) (by rw [h2]; exact q)) hn hs hf back
theorem op_neO (F : FnOk X.prog X.w X.K X.mg X.base CX n f fd ps sp) (hs : PySem.W.findIn X.K (.ref C) "__eq__" = some (some (.ref f))) (hne : PySem.W.findIn X.K (.ref C) "__ne__" = some (some (.builtin "object.__ne__"))) (hm : PySem.W.mroIn X.K C (.type "object") = some true)
    (hf : PySem.W.isFn X.K (.ref f) = true) (hb : Binds X.K fd ps []) (hx : Passes CX X E) (hr : Room (n + 1) X.A) : OpR X (compareOp .NotEq) (rNeO C sp E) := by
  intro pins s σ H x y v u Q I rx ry hq
  obtain ⟨a, dx, fs, b, dy, gs, rfl, ha, rfl, hb', hsp⟩ := hq
  cases rx
  cases ry
  show wpAny (model X.prog X.w) X.A (richCompare .NotEq (.ref a) (.ref b)) (EP X pins σ Q) X.xe s
  obtain ⟨mA, J, _⟩ := ins_get I.hok ha
  obtain ⟨od, J, _⟩ := J.look
  obtain ⟨mB, J', _⟩ := ins_get I.hok hb'
  obtain ⟨od', J', _⟩ := J'.look
  have sb : Sub X (n + 1) X.A := ⟨hr, rfl⟩
  refine LkN.rc_ne I.kIn J J' hm hs hne hf sb.in1.room.units0 (wpAny_mono (run_eq (x := .ref a) (y := .ref b) F hb hx sb.in1 I (show RelV (.ref a) (.ref a) from rfl) (show RelV (.ref b) (.ref b) from rfl) hsp) (fun r s' z => ?_) fun _ _ e => e)
  obtain ⟨z, H', I', rz, k, ez, q⟩ := z
  subst ez
  cases rz
  exact ⟨k, rfl, .bl (!k), H', I', rfl, q⟩
end
end Lk

namespace Lk
open PySem PySem.Spec PyProof.Rows L2
/-! ### what may be compared -/
theorem cl_map {α : Type} {f : α → PyData} : ∀ {xs : List α}, (∀ x ∈ xs, (f x).canLay0 = true) → PyData.canLayAll0 (xs.map f) = true
  | [], _ => by simp [PyData.canLayAll0]
  | x :: xs, h => by
    rw [List.map_cons, PyData.canLayAll0, h x (List.mem_cons_self ..), cl_map fun y hy => h y (List.mem_cons_of_mem _ hy)]
    rfl
theorem dep_map {α : Type} {f : α → PyData} {n : Nat} : ∀ {xs : List α}, (∀ x ∈ xs, (f x).depth ≤ n) → PyData.depthAll (xs.map f) ≤ n
  | [], _ => by simp [PyData.depthAll]
  | x :: xs, h => by
    rw [List.map_cons, PyData.depthAll]
    have h1 := h x (List.mem_cons_self ..)
    have h2 := dep_map (xs := xs) fun y hy => h y (List.mem_cons_of_mem _ hy)
    omega
theorem nameS_str {x : Str} (h : nameS x = true) : (PyData.str x).canLay0 = true := by
  unfold nameS at h
  rw [Bool.and_eq_true] at h
  have h3 := List.all_eq_true.mp h.2
  rw [PyData.canLay0]
  unfold PyData.strOk
  rw [← Array.all_toList]
  refine List.all_eq_true.mpr fun c hc => ?_
  have := h3 c hc
  unfold letD at this
  rw [Bool.and_eq_true] at this
  have := of_decide_eq_true this.2
  exact decide_eq_true (by omega)
theorem ints_cl (xs : List Int) : (intsD xs).canLay0 = true := by
  unfold intsD
  rw [PyData.canLay0]
  exact cl_map fun _ _ => by rw [PyData.canLay0]
theorem ints_dep (xs : List Int) : (intsD xs).depth ≤ 1 := by
  unfold intsD
  rw [PyData.depth]
  have := dep_map (f := PyData.int) (n := 0) (xs := xs) fun _ _ => by simp [PyData.depth]
  omega
/-- the row's name is a name -/
def RowNm : LRow → Prop
  | .set n _ _ => nameS n = true
  | .ask n _ => nameS n = true
  | _ => True
theorem rowNm_of {ns : List Str} {m : Int} {r : LRow} (h : RowOk ns m r) (hn : ∀ x ∈ ns, nameS x = true) : RowNm r := by
  cases r with
  | set n f k => exact hn n h.1
  | ask n k => exact hn n h.1
  | _ => trivial
theorem rowNm_low {k : Nat} {r : LRow} (h : RowNm r) : RowNm (r.low k) := by
  cases r <;> exact h
theorem row_cl {r : LRow} (h : RowNm r) : r.d.canLay0 = true := by
  cases r with
  | set n f k =>
    have h1 := nameS_str h
    have h2 := ints_cl f
    have h3 : (PyData.str "set").canLay0 = true := by decide +kernel
    simp [LRow.d, PyData.canLay0, PyData.canLayAll0] at h1 h2 h3 ⊢
    exact ⟨h3, h1, h2⟩
  | say f k =>
    have h2 := ints_cl f
    have h3 : (PyData.str "say").canLay0 = true := by decide +kernel
    simp [LRow.d, PyData.canLay0, PyData.canLayAll0] at h2 h3 ⊢
    exact ⟨h3, h2⟩
  | ask n k =>
    have h1 := nameS_str h
    have h3 : (PyData.str "ask").canLay0 = true := by decide +kernel
    simp [LRow.d, PyData.canLay0, PyData.canLayAll0] at h1 h3 ⊢
    exact ⟨h3, h1⟩
  | choose ks =>
    have h2 := ints_cl ks
    have h3 : (PyData.str "choose").canLay0 = true := by decide +kernel
    simp [LRow.d, PyData.canLay0, PyData.canLayAll0] at h2 h3 ⊢
    exact ⟨h3, h2⟩
  | look k =>
    have h3 : (PyData.str "look").canLay0 = true := by decide +kernel
    simp [LRow.d, PyData.canLay0, PyData.canLayAll0] at h3 ⊢
    exact h3
  | stop => decide +kernel
theorem row_dep (r : LRow) : r.d.depth ≤ 2 := by
  cases r with
  | set n f k => have := ints_dep f; simp only [LRow.d, PyData.depth, PyData.depthAll]; omega
  | say f k => have := ints_dep f; simp only [LRow.d, PyData.depth, PyData.depthAll]; omega
  | ask n k => simp [LRow.d, PyData.depth, PyData.depthAll]
  | choose ks => have := ints_dep ks; simp only [LRow.d, PyData.depth, PyData.depthAll]; omega
  | look k => simp [LRow.d, PyData.depth, PyData.depthAll]
  | stop => simp [LRow.d, PyData.depth, PyData.depthAll]
def rowsD (rs : List LRow) : PyData := .tuple (rs.map LRow.d)
def namesD (ns : List Str) : PyData := .tuple (ns.map PyData.str)
theorem shaped_rows {rs : List LRow} (h : ∀ r ∈ rs, RowNm r) : SeqAt.shaped (rowsD rs) = true := by
  unfold SeqAt.shaped rowsD
  rw [PyData.canLay0, cl_map fun r hr => row_cl (h r hr), PyData.depth]
  have := dep_map (f := LRow.d) (n := 2) (xs := rs) fun r _ => row_dep r
  exact decide_eq_true (by omega)
theorem shaped_rowsL {rs : List LRow} (h : ∀ r ∈ rs, RowNm r) : SeqAt.shaped (.list (rs.map LRow.d)) = true := by
  unfold SeqAt.shaped
  rw [PyData.canLay0, cl_map fun r hr => row_cl (h r hr), PyData.depth]
  have := dep_map (f := LRow.d) (n := 2) (xs := rs) fun r _ => row_dep r
  exact decide_eq_true (by omega)
theorem shaped_row {r : LRow} (h : RowNm r) : SeqAt.shaped r.d = true := by
  unfold SeqAt.shaped
  rw [row_cl h]
  have := row_dep r
  exact decide_eq_true (by omega)
theorem shaped_names {ns : List Str} (h : ∀ x ∈ ns, nameS x = true) : SeqAt.shaped (namesD ns) = true := by
  unfold SeqAt.shaped namesD
  rw [PyData.canLay0, cl_map fun r hr => nameS_str (h r hr), PyData.depth]
  have := dep_map (f := PyData.str) (n := 0) (xs := ns) fun r _ => by simp [PyData.depth]
  exact decide_eq_true (by omega)
/-- whether two programs are equal -/
def prEq (k : Nat) (ns : List Str) (rs : List LRow) (k2 : Nat) (ns2 : List Str) (rs2 : List LRow) : Bool := decide (k = k2) && PyData.eqv (namesD ns) (namesD ns2) && PyData.eqv (rowsD rs) (rowsD rs2)
end Lk

namespace Lk
open PySem PySem.Spec PyProof.Rows L2
/-! ### the well of a law: a list of three numbers; all else stays -/
def Wl (H : Hp) (p : Addr) : Prop := ∃ a b c : Int, H p = some (.lst [.int a, .int b, .int c])
def Wk (p : Addr) (H H' : Hp) : Prop := Bar p H H' ∧ Wl H' p
section
variable {K : PySem.W.Frag} {H H1 H2 : Hp} {p a : Addr} {xs : List V}
theorem Wl.same (w : Wl H p) (s : Same H H1) : Wl H1 p := by
  obtain ⟨a, b, c, h⟩ := w
  exact ⟨a, b, c, s _ _ h⟩
theorem Wk.refl (w : Wl H p) : Wk p H H := ⟨Bar.refl, w⟩
theorem Wk.of (w : Wl H p) (s : Same H H1) : Wk p H H1 := ⟨Bar.of s, w.same s⟩
theorem Wk.trans (s : Wk p H H1) (t : Wk p H1 H2) : Wk p H H2 := ⟨s.1.trans t.1, t.2⟩
theorem Wk.st (s : Wk p H H1) (t : Same H1 H2) : Wk p H H2 := s.trans (Wk.of s.2 t)
theorem Wk.at {b : Addr} {o : HO} (s : Wk p H H1) (n : b ≠ p) (h : H b = some o) : H1 b = some o := s.1 b o n h
theorem Wk.upd {x y z : Int} : Wk p H (upd H p (.lst [.int x, .int y, .int z])) := ⟨Bar.upd, x, y, z, upd_same⟩
theorem Wk.ts (w : Wl H p) (s : Wk p H H1) : Ts H H1 := by
  obtain ⟨x, y, z, h⟩ := w
  exact fun b ys e => s.1 b _ (fun q => by rw [q, h] at e; cases e) e
theorem Wk.none {q : Addr} (w : Wl H p) (s : Wk p H H1) (h : H1 q = none) : H q = none := by
  cases e : H q with
  | none => rfl
  | some o =>
    exfalso
    by_cases n : q = p
    · obtain ⟨x, y, z, hw⟩ := s.2
      rw [n, hw] at h
      cases h
    · rw [s.1 q o n e] at h
      cases h
theorem Wk.sqT (w : Wl H p) (s : Wk p H H1) (h : SqT K H a xs) : SqT K H1 a xs := by
  obtain ⟨x, y, z, hw⟩ := w
  rcases h with (e | ⟨o, e⟩) | e
  · exact .inl (.inl (s.1 _ _ (fun q => by rw [q, hw] at e; cases e) e))
  · exact .inl (.inr ⟨o, s.1 _ _ (fun q => by rw [q, hw] at e; cases e) e⟩)
  · exact .inr e
theorem Wk.updD {q : Addr} {o : HO} (s : Wk p H H1) (hq : H q = Option.none) (n : q ≠ p) : Wk p H (L2.upd H1 q o) := by
  refine ⟨fun b u m e => ?_, ?_⟩
  · rw [upd_ne (ne_of_none e hq)]
    exact s.1 b u m e
  · obtain ⟨x, y, z, h⟩ := s.2
    exact ⟨x, y, z, by rw [upd_ne (Ne.symm n)]; exact h⟩
theorem ne_well {q : Addr} {o : HO} (w : Wl H p) (h : H q = some o) (n : ∀ x y z : Int, o ≠ .lst [.int x, .int y, .int z]) : q ≠ p := fun e => by
  obtain ⟨x, y, z, hw⟩ := w
  rw [e, hw] at h
  exact n x y z (Option.some.inj h).symm
theorem ne_new {q : Addr} (w : Wl H p) (h : H q = none) : q ≠ p := fun e => by
  obtain ⟨x, y, z, hw⟩ := w
  rw [e, hw] at h
  cases h
theorem mul01 {r : Int} {k : Nat} (c : Bool) (h0 : 0 ≤ r) (h1 : r < 2 ^ k) : 0 ≤ r * (if c = true then 1 else 0) ∧ r * (if c = true then 1 else 0) < 2 ^ k := by
  cases c with
  | true => simpa using ⟨h0, h1⟩
  | false =>
    have p0 : (0 : Int) < 2 ^ k := Int.pow_pos (by decide)
    simpa using p0
theorem cmul01 {r : Int} (c : Bool) : CMul r (if c = true then 1 else 0) := by
  refine .inr ?_
  cases c <;> exact ⟨by decide, by decide⟩
theorem lt31 {r : Int} (h0 : 0 ≤ r) (h : r < 2 ^ (31 : Int).toNat) : r.natAbs < 2 ^ 40 := by
  have e : ((2 : Int) ^ (31 : Int).toNat) = 2147483648 := by decide
  rw [e] at h
  exact Nat.lt_of_lt_of_le (show r.natAbs < 2147483648 by omega) (by decide)
theorem spr {i j : Nat} {ta : TA} {D : Ends} {σ : L2.St} (q : ta σ H fun vs H' => ∃ x y, vs = [x, y] ∧ D.nx ((σ.set i (some x)).set j (some y)) H') : tPar i j ta D σ H := q
theorem sbm {T : String} {r : V → List V → Hp → VK → Prop} {to : TE} {t : TA} {σ : L2.St} {Q : VK} (q : to σ H fun x H1 => tyV K T x H1 ∧ t σ H1 fun xs H2 => r x xs H2 Q) : tBM K T r to t σ H Q := q
end
end Lk

namespace L2
open PySem PySem.Spec PyProof.Rows MeetsSeq MeetsSeq2 MeetsSeq3 SeqRoads2
open AutoSeq1 (wpAny_loadPart')
theorem tuple_mul1 (l : Addr) (items : Array Value) (n : Nat) (dd : Option Addr) (sl : Array (Option Value)) (x : Int) (u : Tok) (c0 : (decide (x < -(2 ^ 63)) || decide (x ≥ 2 ^ 63)) = false) (c1 : (items.isEmpty || x == 1) = true) :
    Meets (Builtin.«tuple.__mul__» ⟨[.ref l, .int x u], []⟩) (fun _ R s => s.heap.get? l = some { cls := .type "tuple", dict := dd, data := .seq items n, slots := sl } ∧ R (.ok (.ret (Value.ref l))) s) :=
  .of_wp fun prog w A R s h => by
    obtain ⟨hp, g, d, tk, os⟩ := s
    obtain ⟨hl, h⟩ := h
    have f1 := AutoSeq1.idx_int
    wp_walk using wpAny_loadPart' hl
    repeat (first
      | (refine wpAny_ite_false (decide_eq_false (by rw [c0]; exact Bool.false_ne_true)) ?_; wp_walk using wpAny_loadPart' hl)
      | (refine wpAny_ite_true (decide_eq_true c1) ?_; wp_walk using wpAny_loadPart' hl))
    exact ⟨_, rfl, h⟩
/-- t * k, k at least 1; t * 1 is t itself -/
def rRepN (K : PySem.W.Frag) : R2 := fun x y H Q => ∃ l k xs, x = .ref l ∧ y = .int k ∧ SqT K H l xs ∧ xs ≠ [] ∧ 1 ≤ k ∧ k ≤ 1000 ∧ xs.length ≤ 1000 ∧ (k = 1 → Q (.ref l) H) ∧ (2 ≤ k → ∀ p, H p = none → Q (.ref p) (upd H p (.tup (List.replicate k.toNat xs).flatten)))
theorem op_repN {X : Cx} : OpR X (binaryOp .Mult) (rRepN X.K) := by
  intro pins s σ H x y v u Q I rx ry h
  obtain ⟨l, k, xs, rfl, rfl, hT, hne, h1, h2, hz, q1, q2⟩ := h
  by_cases hk : k = 1
  · subst hk
    cases rx
    obtain ⟨t, rfl⟩ := ry
    obtain ⟨its, r, ⟨⟨cls, dd, data, sl⟩, ho, hc, n, hd⟩, hs⟩ := I.tuple hT
    simp only at hc hd
    subst hc hd
    have c0 : (decide ((1 : Int) < -(2 ^ 63)) || decide ((1 : Int) ≥ 2 ^ 63)) = false := by decide
    have c1 : (its.toArray.isEmpty || (1 : Int) == 1) = true := by
      rw [show ((1 : Int) == 1) = true from rfl, Bool.or_true]
    exact wpAny_binaryOp_repeat_ref (T := "tuple") (U := "int") (by decide) ⟨_, ho, rfl⟩ (fun s' => typeIs_int s' 1 t) noFill_tuple_mul F.fills_int_mul F.slot_int_rmul repeat_tuple F.slot_int_index.lookup
      (call_meets F.slot_int_rmul (typeIs_int s 1 t) F.entry_int_rmul (F.args_int_rmul_2 _ _) (int_rmul_tuple 1 t l its.toArray n dd sl)
        ⟨ho, rfl, ⟨_, ho, rfl⟩, call_meets F.slot_tuple_mul ⟨_, ho, rfl⟩ F.entry_tuple_mul (F.args_tuple_mul_2 _ _) (tuple_mul1 l its.toArray n dd sl 1 t c0 c1) ⟨ho, .ref l, H, I, rfl, q1 rfl⟩⟩)
  · exact op_repT pins s σ H _ _ v u Q I rx ry ⟨l, k, xs, rfl, rfl, hT, hne, by omega, h2, hz, q2 (by omega)⟩
end L2
namespace Lk
open PySem PySem.Spec PyProof.Rows L2
theorem sifx {tc : TT} {ta tb : TE} {σ : L2.St} {H : Hp} {Q : VK} (q : tc σ H fun c H1 => if c = true then ta σ H1 Q else tb σ H1 Q) : tIf tc ta tb σ H Q := q
theorem flat_rep {α : Type} (x : α) : ∀ n : Nat, (List.replicate n [x]).flatten = List.replicate n x
  | 0 => rfl
  | n + 1 => by rw [List.replicate_succ, List.flatten_cons, flat_rep x n, List.replicate_succ]; rfl
theorem one_lt_pow {k : Nat} (h : 1 ≤ k) : (1 : Int) < 2 ^ k := by
  obtain ⟨j, rfl⟩ : ∃ j, k = j + 1 := ⟨k - 1, by omega⟩
  have p0 : (0 : Int) < 2 ^ j := Int.pow_pos (by decide)
  rw [Int.pow_succ]
  omega
theorem s_repN {K : PySem.W.Frag} {H : Hp} {l : Addr} {x : V} {n : Nat} {Q : VK} (h : SqT K H l [x]) (h1 : 1 ≤ n) (h2 : n ≤ 1000) (q : ∀ p H', Same H H' → SqT K H' p (List.replicate n x) → Q (.ref p) H') : rRepN K (.ref l) (.int (n : Int)) H Q := by
  refine ⟨l, n, [x], rfl, rfl, h, by simp, by omega, by omega, by simp, fun e => ?_, fun _ p hp => ?_⟩
  · have e1 : n = 1 := by omega
    subst e1
    exact q l H (Same.refl H) h
  · refine q p _ (same_new hp) (SqT.of ?_)
    rw [upd_same, Int.toNat_natCast, flat_rep]
theorem s_catA {K : PySem.W.Frag} {H : Hp} {a b : Addr} {xs ys : List V} {Q : VK} (h : SqT K H a xs) (h' : SqT K H b ys) (hx : xs ≠ []) (hy : ys ≠ []) (hl : xs.length + ys.length ≤ 1000) (q : ∀ p, H p = none → Q (.ref p) (upd H p (.tup (xs ++ ys)))) : rCatA K (.ref a) (.ref b) H Q :=
  ⟨a, b, xs, ys, rfl, rfl, h, h', Nat.le_of_lt (small1000 hl), fun e => absurd e hx, fun _ e => absurd e hy, fun _ _ => q⟩
end Lk

namespace Lk
open PySem PySem.Spec PyProof.Rows L2
mutual
def nbD : PyData → Bool
  | .none | .int _ | .str _ => true
  | .list xs | .tuple xs => nbAll xs
  | .bool _ | .dict _ => false
def nbAll : List PyData → Bool
  | [] => true
  | x :: xs => nbD x && nbAll xs
end
mutual
theorem eqv_eq : ∀ d e : PyData, nbD d = true → nbD e = true → PyData.eqv d e = true → d = e
  | .none, .none, _, _, _ => rfl
  | .int i, .int j, _, _, h => by
    rw [PyData.eqv] at h
    rw [eq_of_beq h]
  | .str x, .str y, _, _, h => by
    rw [PyData.eqv] at h
    rw [eq_of_beq h]
  | .list xs, .list ys, h1, h2, h => by
    rw [PyData.eqv] at h
    rw [nbD] at h1 h2
    rw [eqvAll_eq xs ys h1 h2 h]
  | .tuple xs, .tuple ys, h1, h2, h => by
    rw [PyData.eqv] at h
    rw [nbD] at h1 h2
    rw [eqvAll_eq xs ys h1 h2 h]
  | .bool _, _, h1, _, _ => by rw [nbD] at h1; cases h1
  | .dict _, _, h1, _, _ => by rw [nbD] at h1; cases h1
  | _, .bool _, _, h1, _ => by rw [nbD] at h1; cases h1
  | _, .dict _, _, h1, _ => by rw [nbD] at h1; cases h1
  | .none, .int _, _, _, h | .none, .str _, _, _, h | .none, .list _, _, _, h | .none, .tuple _, _, _, h => by rw [PyData.eqv] at h; cases h
  | .int _, .none, _, _, h | .int _, .str _, _, _, h | .int _, .list _, _, _, h | .int _, .tuple _, _, _, h => by rw [PyData.eqv] at h; cases h
  | .str _, .none, _, _, h | .str _, .int _, _, _, h | .str _, .list _, _, _, h | .str _, .tuple _, _, _, h => by rw [PyData.eqv] at h; cases h
  | .list _, .none, _, _, h | .list _, .int _, _, _, h | .list _, .str _, _, _, h | .list _, .tuple _, _, _, h => by rw [PyData.eqv] at h; cases h
  | .tuple _, .none, _, _, h | .tuple _, .int _, _, _, h | .tuple _, .str _, _, _, h | .tuple _, .list _, _, _, h => by rw [PyData.eqv] at h; cases h
theorem eqvAll_eq : ∀ xs ys : List PyData, nbAll xs = true → nbAll ys = true → PyData.eqvAll xs ys = true → xs = ys
  | [], [], _, _, _ => rfl
  | x :: xs, y :: ys, h1, h2, h => by
    rw [PyData.eqvAll, Bool.and_eq_true] at h
    rw [nbAll, Bool.and_eq_true] at h1 h2
    rw [eqv_eq x y h1.1 h2.1 h.1, eqvAll_eq xs ys h1.2 h2.2 h.2]
  | [], _ :: _, _, _, h => by rw [PyData.eqvAll] at h; cases h
  | _ :: _, [], _, _, h => by rw [PyData.eqvAll] at h; cases h
end
theorem nb_map {α : Type} {f : α → PyData} (h : ∀ x, nbD (f x) = true) : ∀ xs : List α, nbAll (xs.map f) = true
  | [] => by simp [nbAll]
  | x :: xs => by
    rw [List.map_cons, nbAll, h x, nb_map h xs]
    rfl
theorem nb_ints (f : List Int) : nbD (intsD f) = true := by
  unfold intsD
  rw [nbD]
  exact nb_map (fun _ => by rw [nbD]) f
theorem nb_row (r : LRow) : nbD r.d = true := by
  cases r with
  | set n f k => have := nb_ints f; simp [LRow.d, nbD, nbAll, this]
  | say f k => have := nb_ints f; simp [LRow.d, nbD, nbAll, this]
  | choose ks => have := nb_ints ks; simp [LRow.d, nbD, nbAll, this]
  | _ => simp [LRow.d, nbD, nbAll]
theorem intsD_inj {f g : List Int} (h : intsD f = intsD g) : f = g := by
  unfold intsD at h
  have h1 := PyData.tuple.inj h
  exact (List.map_inj_right (fun _ _ e => PyData.int.inj e)).mp h1
def LRow.kind : LRow → Str
  | .set .. => "set"
  | .say .. => "say"
  | .ask .. => "ask"
  | .choose .. => "choose"
  | .look .. => "look"
  | .stop => "stop"
theorem kind_of {r s : LRow} (h : r.d = s.d) : r.kind = s.kind := by
  have e : ∀ r : LRow, ∃ l, r.d = .tuple (.str r.kind :: l) := fun r => by cases r <;> exact ⟨_, rfl⟩
  obtain ⟨l, hl⟩ := e r
  obtain ⟨m, hm⟩ := e s
  rw [hl, hm] at h
  have h1 := PyData.tuple.inj h
  injection h1 with h2 _
  exact PyData.str.inj h2
theorem row_inj {r s : LRow} (h : r.d = s.d) : r = s := by
  have hk := kind_of h
  cases r with
  | set n f k =>
    cases s with
    | set n' f' k' =>
      have h1 := PyData.tuple.inj h
      injection h1 with _ h1
      injection h1 with h2 h1
      injection h1 with h3 h1
      injection h1 with h4 _
      rw [PyData.str.inj h2, intsD_inj h3, PyData.int.inj h4]
    | _ => exact absurd hk (by simp only [LRow.kind]; decide +kernel)
  | say f k =>
    cases s with
    | say f' k' =>
      have h1 := PyData.tuple.inj h
      injection h1 with _ h1
      injection h1 with h3 h1
      injection h1 with h4 _
      rw [intsD_inj h3, PyData.int.inj h4]
    | _ => exact absurd hk (by simp only [LRow.kind]; decide +kernel)
  | ask n k =>
    cases s with
    | ask n' k' =>
      have h1 := PyData.tuple.inj h
      injection h1 with _ h1
      injection h1 with h2 h1
      injection h1 with h4 _
      rw [PyData.str.inj h2, PyData.int.inj h4]
    | _ => exact absurd hk (by simp only [LRow.kind]; decide +kernel)
  | choose ks =>
    cases s with
    | choose ks' =>
      have h1 := PyData.tuple.inj h
      injection h1 with _ h1
      injection h1 with h3 _
      rw [intsD_inj h3]
    | _ => exact absurd hk (by simp only [LRow.kind]; decide +kernel)
  | look k =>
    cases s with
    | look k' =>
      have h1 := PyData.tuple.inj h
      injection h1 with _ h1
      injection h1 with h4 _
      rw [PyData.int.inj h4]
    | _ => exact absurd hk (by simp only [LRow.kind]; decide +kernel)
  | stop =>
    cases s with
    | stop => rfl
    | _ => exact absurd hk (by simp only [LRow.kind]; decide +kernel)
theorem rows_eqv {rs qs : List LRow} (h : PyData.eqv (rowsD rs) (rowsD qs) = true) : rs = qs := by
  have e := eqv_eq _ _ (by unfold rowsD; rw [nbD]; exact nb_map nb_row rs) (by unfold rowsD; rw [nbD]; exact nb_map nb_row qs) h
  unfold rowsD at e
  exact (List.map_inj_right (fun _ _ e => row_inj e)).mp (PyData.tuple.inj e)
theorem names_eqv {ns ms : List Str} (h : PyData.eqv (namesD ns) (namesD ms) = true) : ns = ms := by
  have e := eqv_eq _ _ (by unfold namesD; rw [nbD]; exact nb_map (fun _ => by rw [nbD]) ns) (by unfold namesD; rw [nbD]; exact nb_map (fun _ => by rw [nbD]) ms) h
  unfold namesD at e
  exact (List.map_inj_right (fun _ _ e => PyData.str.inj e)).mp (PyData.tuple.inj e)
theorem row_eqv {r s : LRow} (h : PyData.eqv r.d s.d = true) : r = s := row_inj (eqv_eq _ _ (nb_row r) (nb_row s) h)
theorem prEq_iff {k : Nat} {ns : List Str} {rs : List LRow} {k2 : Nat} {ns2 : List Str} {rs2 : List LRow} (h : prEq k ns rs k2 ns2 rs2 = true) : k = k2 ∧ ns = ns2 ∧ rs = rs2 := by
  unfold prEq at h
  rw [Bool.and_eq_true, Bool.and_eq_true] at h
  exact ⟨of_decide_eq_true h.1.1, names_eqv h.1.2, rows_eqv h.2⟩
theorem names_refl {ns : List Str} (hn : ∀ n ∈ ns, nameS n = true) : PyData.eqv (namesD ns) (namesD ns) = true := SeqAt.eqv_refl _ (SeqAt.canLay_of_shaped (shaped_names hn))
theorem rows_refl {rs : List LRow} (h : ∀ r ∈ rs, RowNm r) : PyData.eqv (rowsD rs) (rowsD rs) = true := SeqAt.eqv_refl _ (SeqAt.canLay_of_shaped (shaped_rows h))
theorem prEq_refl {k : Nat} {ns : List Str} {rs : List LRow} (hn : ∀ n ∈ ns, nameS n = true) (h : ∀ r ∈ rs, RowNm r) : prEq k ns rs k ns rs = true := by
  unfold prEq
  rw [decide_eq_true rfl, names_refl hn, rows_refl h]
  rfl
section
variable {K : PySem.W.Frag} {H : Hp} {b : Addr} {xs : List V} {x : V} {Q : VK}
/-- t[:-1] -/
theorem s_butlast (hb : SqT K H b (xs ++ [x])) (q : ∀ p, H p = none → Q (.ref p) (upd H p (.tup xs))) : rSlA K (.ref b) none (some (-1)) H Q := by
  have hl : (xs ++ [x]).length = xs.length + 1 := by rw [List.length_append]; rfl
  have e1 : HT.sIx (xs ++ [x]).length (xs ++ [x]).length (some (-1)) = xs.length := by
    show (if (-1 : Int) < 0 then ((-1 : Int) + ((xs ++ [x]).length : Int)).toNat else min (-1 : Int).toNat (xs ++ [x]).length) = _
    rw [if_pos (by decide), hl]
    omega
  have e0 : HT.sIx (xs ++ [x]).length 0 none = 0 := rfl
  refine ⟨b, xs ++ [x], rfl, hb, fun z => ?_, fun _ p hp => ?_⟩
  · have := z.2
    rw [e1, hl] at this
    omega
  · have e2 : cutV (xs ++ [x]) none (some (-1)) = xs := by
      unfold cutV
      rw [e0, e1]
      simp
    rw [e2]
    exact q p hp
theorem atI_last {α : Type} {xs : List α} {x : α} : atI (xs ++ [x]) (-1) = some x := by
  unfold atI ixN
  have hl : (xs ++ [x]).length = xs.length + 1 := by rw [List.length_append]; rfl
  rw [if_neg (by decide), hl, if_pos (by omega)]
  have e : ((-1 : Int) + ((xs.length + 1 : Nat) : Int)).toNat = xs.length := by omega
  show (xs ++ [x])[((-1 : Int) + ((xs.length + 1 : Nat) : Int)).toNat]? = some x
  rw [e]
  simp
end
theorem bump {z : Int} {k : Nat} (k1 : 1 ≤ k) (h0 : 0 ≤ z) (h1 : z < 2 ^ k) : (z + 1) % 2 ^ k ≠ z := fun h => by
  have p1 := one_lt_pow k1
  by_cases e : z + 1 < 2 ^ k
  · rw [Int.emod_eq_of_lt (by omega) e] at h
    omega
  · have e2 : z + 1 = 2 ^ k := by omega
    rw [e2, Int.emod_self] at h
    omega
end Lk

namespace Lk
open PySem PySem.Spec PyProof.Rows L2
section
variable {K : PySem.W.Frag} {H : Hp} {σ : L2.St} {a p : Addr} {xs : List V}
theorem cut_takeLe {i : Nat} (hi : i ≤ xs.length) : cutV xs none (some (i : Int)) = xs.take i := by
  unfold cutV
  rw [HT.sIx_nat, show HT.sIx xs.length 0 none = 0 from rfl, Nat.min_eq_left hi]
  simp
theorem cut_drop {i : Nat} (hi : i ≤ xs.length) : cutV xs (some (i : Int)) none = xs.drop i := by
  unfold cutV
  rw [HT.sIx_nat, show HT.sIx xs.length xs.length none = xs.length from rfl, Nat.min_eq_left hi]
  rw [List.take_of_length_le (by rw [List.length_drop]; omega)]
/-- [f(well, row, ..) for row in rows]: the well is drawn from -/
theorem tlc_rowsW {rs : List LRow} {j k : Nat} {te : TE} {vs : List Nat} {Q : VK} (R : LRow → LRow → Prop) (w : Wl H p) (np : a ≠ p) (hj : σ[j]? = some (some (.ref a))) (hx : H a = some (.lst xs)) (hr : RowsH H xs rs) (h3 : xs.length ≤ 1000)
    (hw : ∀ x, wipe ((wipe σ vs).set k (some x)) vs = wipe σ vs)
    (he : ∀ (i : Nat) (x : V) (r : LRow) (H' : Hp), rs[i]? = some r → RowH H' x r → Wk p H H' → ∀ S : VK, (∀ u r' H'', Wk p H' H'' → RowH H'' u r' → R r r' → S u H'') → te ((wipe σ vs).set k (some x)) H' S)
    (q : ∀ D ys qs H', Wk p H H' → H D = none → H' D = some (.lst ys) → RowsH H' ys qs → qs.length = rs.length → (∀ (i : Nat) r, rs[i]? = some r → ∃ r', qs[i]? = some r' ∧ R r r') → Q (.ref D) H') : tLc (iList K (tVar j)) (gName k) tYes te vs σ H Q := by
  have hlen := hr.len
  refine ⟨_, hj, a, rfl, ⟨xs, SqL.of hx⟩, fun D hD => ?_⟩
  have nD : D ≠ p := ne_new w hD
  refine lc_list (xs := xs) (fun i H' => Wk p H H' ∧ ∃ ys qs, H' D = some (.lst ys) ∧ RowsH H' ys qs ∧ qs.length = i ∧ ∀ (n : Nat) r, n < i → rs[n]? = some r → ∃ r', qs[n]? = some r' ∧ R r r') ⟨Wk.of w (same_new hD), [], [], upd_same, .nil, rfl, fun n r h _ => by omega⟩ (fun i H' _ h => SqL.of (h.1.at np hx)) (fun i x H' hi h => ?_) (fun H' h => ?_)
  · obtain ⟨w1, ys, qs, h1, h2, h4, h5⟩ := h
    obtain ⟨r, hri, hrv⟩ := hr.at hi
    refine ⟨hw _, ?_⟩
    unfold tYes
    simp only [if_true]
    refine he i x r H' hri (hrv.ts (w1.ts w)) w1 _ fun u r' H2 w2 hu hR => ?_
    have e2 := w2.at nD h1
    have t2 : Ts H2 (upd H2 D (.lst (ys ++ [u]))) := Ts.lst e2
    have hi' : i < xs.length := (List.getElem?_eq_some_iff.mp hi).1
    refine ⟨ys, e2, by rw [h2.len, h4]; exact small1000 (by omega), (w1.trans w2).updD hD nD, ys ++ [u], qs ++ [r'], upd_same, ((h2.ts (w2.ts w1.2)).ts t2).append (.cons (hu.ts t2) .nil), by rw [List.length_append, h4]; rfl, fun n r0 hn hr0 => ?_⟩
    by_cases hni : n < i
    · obtain ⟨r1, g1, g2⟩ := h5 n r0 hni hr0
      exact ⟨r1, by rw [List.getElem?_append_left (by omega)]; exact g1, g2⟩
    · have : n = i := by omega
      subst this
      rw [hri] at hr0
      cases hr0
      exact ⟨r', by rw [List.getElem?_append_right (by omega), h4]; simp, hR⟩
  · obtain ⟨w1, ys, qs, h1, h2, h4, h5⟩ := h
    rw [hlen] at h4 h5
    exact q D ys qs H' w1 hD h1 h2 h4 fun n r hr' => h5 n r (List.getElem?_eq_some_iff.mp hr').1 hr'
end
/-! ### lists may change, all else stays -/
def Lc (H H' : Hp) : Prop := ∀ b o, H b = some o → (∀ ys, o ≠ .lst ys) → H' b = some o
section
variable {K : PySem.W.Frag} {H H1 H2 : Hp} {p : Addr}
theorem Lc.of (s : Same H H1) : Lc H H1 := fun b o e _ => s b o e
theorem Lc.trans (s : Lc H H1) (t : Lc H1 H2) : Lc H H2 := fun b o e n => t b o (s b o e n) n
theorem Lc.wk (w : Wl H p) (s : Wk p H H1) : Lc H H1 := fun b o e n => s.1 b o (fun z => by
  obtain ⟨x, y, z', h⟩ := w
  rw [z, h] at e
  exact n _ (Option.some.inj e).symm) e
theorem Lc.upd {q : Addr} {xs : List V} {o : HO} (h : H q = some (.lst xs)) : Lc H (L2.upd H q o) := fun b u e n => by
  rw [upd_ne (fun z => by rw [z, h] at e; exact n _ (Option.some.inj e).symm)]
  exact e
theorem Lc.ts (s : Lc H H1) : Ts H H1 := fun a xs e => s a _ e (fun _ z => by cases z)
theorem Lc.sqT {a : Addr} {xs : List V} (s : Lc H H1) (h : SqT K H a xs) : SqT K H1 a xs := by
  rcases h with (e | ⟨o, e⟩) | e
  · exact .inl (.inl (s _ _ e (fun _ z => by cases z)))
  · exact .inl (.inr ⟨o, s _ _ e (fun _ z => by cases z)⟩)
  · exact .inr e
theorem ProgO.lc {C x : Addr} {k : Nat} {ns : List Str} {rs : List LRow} (s : Lc H H1) (h : ProgO K C H x k ns rs) : ProgO K C H1 x k ns rs := by
  obtain ⟨dx, tv, tr, vs, h1, h2, h3, h4⟩ := h
  exact ⟨dx, tv, tr, vs, s _ _ h1 (fun _ z => by cases z), s.sqT h2, s.sqT h3, h4.ts s.ts⟩
theorem good_low {k : Nat} : ∀ {rs : List LRow}, (∀ r ∈ rs, r.low k = r) → rs.map (·.low k) = rs
  | [], _ => rfl
  | r :: rs, h => by
    rw [List.map_cons, h r (List.mem_cons_self ..), good_low fun q hq => h q (List.mem_cons_of_mem _ hq)]
theorem RowsH.take : ∀ {vs : List V} {rs : List LRow} {n : Nat}, RowsH H vs rs → RowsH H (vs.take n) (rs.take n)
  | _, _, 0, _ => by simpa using RowsH.nil
  | _, _, n + 1, .nil => by simpa using RowsH.nil
  | _, _, n + 1, .cons h t => by
    rw [List.take_succ_cons, List.take_succ_cons]
    exact .cons h (RowsH.take (n := n) t)
theorem RowsH.drop : ∀ {vs : List V} {rs : List LRow} {n : Nat}, RowsH H vs rs → RowsH H (vs.drop n) (rs.drop n)
  | _, _, 0, h => h
  | _, _, n + 1, .nil => by simpa using RowsH.nil
  | _, _, n + 1, .cons h t => by
    rw [List.drop_succ_cons, List.drop_succ_cons]
    exact RowsH.drop (n := n) t
theorem snxd {u b c : L2.St → Hp → Prop} {r : VK} {σ : L2.St} (q : u σ H) : Ends.nx ⟨u, r, b, c⟩ σ H := q
/-- the rest once for all ways through a statement that stores nothing -/
theorem ss_cont {t u : TS} {D : Ends} {σ : L2.St} (I : Hp → Prop) (h1 : ∀ H', I H' → u D σ H') (h2 : (∀ H', I H' → u D σ H') → t { D with nx := u D } σ H) : tSeq t u D σ H := h2 h1
/-- width, variables, rows as one tuple -/
def triD (k : Nat) (ns : List Str) (rs : List LRow) : PyData := .tuple [.int (k : Int), namesD ns, rowsD rs]
theorem shaped_tri {k : Nat} {ns : List Str} {rs : List LRow} (hn : ∀ n ∈ ns, nameS n = true) (hr : ∀ r ∈ rs, RowNm r) : SeqAt.shaped (triD k ns rs) = true := by
  have h1 := SeqAt.canLay_of_shaped (shaped_names hn)
  have h2 := SeqAt.canLay_of_shaped (shaped_rows hr)
  have d1 : (namesD ns).depth ≤ 1 := by
    unfold namesD
    rw [PyData.depth]
    have := dep_map (f := PyData.str) (n := 0) (xs := ns) fun r _ => by simp [PyData.depth]
    omega
  have d2 : (rowsD rs).depth ≤ 3 := by
    unfold rowsD
    rw [PyData.depth]
    have := dep_map (f := LRow.d) (n := 2) (xs := rs) fun r _ => row_dep r
    omega
  unfold SeqAt.shaped triD
  rw [Bool.and_eq_true]
  constructor
  · simp [PyData.canLay0, PyData.canLayAll0, h1, h2]
  · refine decide_eq_true ?_
    simp only [PyData.depth, PyData.depthAll]
    omega
theorem tri_dp {a t v : Addr} {k : Nat} {ns : List Str} {rs : List LRow} {us : List V} (ha : H a = some (.tup [.int (k : Int), .ref t, .ref v])) (h1 : SqT K H t (ns.map V.str)) (h2 : SqT K H v us) (h3 : RowsH H us rs) : Dp K H (.ref a) (triD k ns rs) :=
  .tup (SqT.of ha) (.cons (.int _) (.cons (.tup h1 (dp_strs ns)) (.cons (.tup h2 h3.dt.dp) .nil)))
end
end Lk

namespace Lk
open PySem PySem.Spec PyProof.Rows L2
/-! ### what a run does -/
def dot (f v : List Int) : Int := (List.zipWith (· * ·) f v).sum
def valM (k : Nat) (f st : List Int) : Int := dot f (1 :: st) % 2 ^ k
def stM (k : Nat) (ns : List Str) (r : LRow) (st : List Int) (x : Int) : List Int := match r with
  | .set n f _ => st.set (ns.idxOf n) (valM k f st)
  | .ask n _ => st.set (ns.idxOf n) (x % 2 ^ k)
  | _ => st
def sdM (k : Nat) (r : LRow) (st : List Int) : List Int := match r with
  | .say f _ => [valM k f st]
  | .look _ => st
  | _ => []
def nxM (r : LRow) (x : Int) : Int := match r with
  | .set _ _ j => j
  | .say _ j => j
  | .ask _ j => j
  | .look j => j
  | .choose ks => ks.getD x.toNat 0
  | .stop => 0
def fitM (r : LRow) (x : Int) : Prop := match r with
  | .ask _ _ => True
  | .choose ks => 0 ≤ x ∧ x < ks.length
  | .stop => False
  | _ => x = 0
/-- the row that is next, the state, what was said -/
abbrev Q3 := Int × List Int × List Int
def stp (k : Nat) (ns : List Str) (rs : List LRow) (q : Q3) (x : Int) : Q3 := match rs[q.1.toNat]? with
  | some r => (nxM r x, stM k ns r q.2.1 x, q.2.2 ++ sdM k r q.2.1)
  | none => q
def runF (k : Nat) (ns : List Str) (rs : List LRow) (q : Q3) (nums : List Int) : Q3 := nums.foldl (stp k ns rs) q
/-- each number fits the row that is executed with it -/
def Fits (k : Nat) (ns : List Str) (rs : List LRow) (q : Q3) (nums : List Int) : Prop := ∀ i x, nums[i]? = some x → ∃ r, rs[(runF k ns rs q (nums.take i)).1.toNat]? = some r ∧ fitM r x
def InR (k : Nat) (st : List Int) : Prop := ∀ x ∈ st, 0 ≤ x ∧ x < 2 ^ k
section
variable {k : Nat} {ns : List Str} {rs : List LRow} {q : Q3} {nums more : List Int} {x : Int} {r : LRow} {st : List Int} {m : Int}
theorem runF_nil : runF k ns rs q [] = q := rfl
theorem runF_snoc : runF k ns rs q (nums ++ [x]) = stp k ns rs (runF k ns rs q nums) x := by
  unfold runF
  rw [List.foldl_append]
  rfl
theorem runF_append : runF k ns rs q (nums ++ more) = runF k ns rs (runF k ns rs q nums) more := by
  unfold runF
  rw [List.foldl_append]
theorem take_snoc {α : Type} {l : List α} {i : Nat} {y : α} (h : l[i]? = some y) : l.take (i + 1) = l.take i ++ [y] := by
  rw [List.take_succ, h]
  rfl
theorem runF_take {i : Nat} (h : nums[i]? = some x) : runF k ns rs q (nums.take (i + 1)) = stp k ns rs (runF k ns rs q (nums.take i)) x := by
  rw [take_snoc h, runF_snoc]
/-- what is said is put behind what was said -/
theorem stp_said {q' : Q3} (h1 : q.1 = q'.1) (h2 : q.2.1 = q'.2.1) : (stp k ns rs q x).1 = (stp k ns rs q' x).1 ∧ (stp k ns rs q x).2.1 = (stp k ns rs q' x).2.1 := by
  unfold stp
  rw [h1]
  cases rs[q'.1.toNat]? with
  | none => exact ⟨h1, h2⟩
  | some r => exact ⟨rfl, by rw [h2]⟩
theorem fits_nil : Fits k ns rs q [] := fun i x h => by simp at h
theorem fits_snoc (h : Fits k ns rs q nums) (hr : rs[(runF k ns rs q nums).1.toNat]? = some r) (hx : fitM r x) : Fits k ns rs q (nums ++ [x]) := fun i y hy => by
  by_cases hi : i < nums.length
  · rw [List.getElem?_append_left hi] at hy
    obtain ⟨r', e1, e2⟩ := h i y hy
    exact ⟨r', by rw [List.take_append_of_le_length (by omega)]; exact e1, e2⟩
  · have hle := (List.getElem?_eq_some_iff.mp hy).1
    rw [List.length_append, List.length_singleton] at hle
    have : i = nums.length := by omega
    subst this
    rw [List.getElem?_append_right (Nat.le_refl _)] at hy
    simp at hy
    subst hy
    exact ⟨r, by rw [List.take_left' rfl]; exact hr, hx⟩
theorem nx_ok (h : RowOk ns m r) (hx : fitM r x) : 0 ≤ nxM r x ∧ nxM r x < m := by
  cases r with
  | set n f j => exact ⟨h.2.2.1, h.2.2.2⟩
  | say f j => exact ⟨h.2.1, h.2.2⟩
  | ask n j => exact ⟨h.2.1, h.2.2⟩
  | look j => exact h
  | stop => exact hx.elim
  | choose ks =>
    obtain ⟨h1, h2, h3⟩ := h
    obtain ⟨x0, x1⟩ := hx
    show 0 ≤ ks.getD x.toNat 0 ∧ ks.getD x.toNat 0 < m
    have hlt : x.toNat < ks.length := by omega
    rw [List.getD_eq_getElem?_getD, List.getElem?_eq_getElem hlt]
    exact h3 _ (List.getElem_mem hlt)
theorem valM_in {f : List Int} : 0 ≤ valM k f st ∧ valM k f st < 2 ^ k := by
  have p0 : (0 : Int) < 2 ^ k := Int.pow_pos (by decide)
  exact ⟨Int.emod_nonneg _ (by omega), Int.emod_lt_of_pos _ p0⟩
theorem inR_set {i : Nat} {y : Int} (h : InR k st) (hy : 0 ≤ y ∧ y < 2 ^ k) : InR k (st.set i y) := fun z hz => by
  rcases List.mem_or_eq_of_mem_set hz with hz | rfl
  · exact h z hz
  · exact hy
theorem stM_in (h : InR k st) : InR k (stM k ns r st x) := by
  have p0 : (0 : Int) < 2 ^ k := Int.pow_pos (by decide)
  cases r with
  | set n f j => exact inR_set h valM_in
  | ask n j => exact inR_set h ⟨Int.emod_nonneg _ (by omega), Int.emod_lt_of_pos _ p0⟩
  | _ => exact h
theorem stM_len : (stM k ns r st x).length = st.length := by
  cases r with
  | set n f j => exact List.length_set
  | ask n j => exact List.length_set
  | _ => rfl
/-- what holds along a run -/
structure Good3 (k n : Nat) (m : Int) (q : Q3) : Prop where
  r0 : 0 ≤ q.1
  r1 : q.1 < m
  len : q.2.1.length = n
  inr : InR k q.2.1
theorem good_stp {n : Nat} (hok : ∀ r ∈ rs, RowOk ns m r) (h : Good3 k n m q) (hr : rs[q.1.toNat]? = some r) (hx : fitM r x) : Good3 k n m (stp k ns rs q x) := by
  have z := nx_ok (hok r (List.mem_of_getElem? hr)) hx
  unfold stp
  rw [hr]
  exact ⟨z.1, z.2, by show (stM k ns r q.2.1 x).length = n; rw [stM_len]; exact h.len, stM_in h.inr⟩
theorem good_run {n : Nat} (hok : ∀ r ∈ rs, RowOk ns m r) (h : Good3 k n m q) (hf : Fits k ns rs q nums) : ∀ i, i ≤ nums.length → Good3 k n m (runF k ns rs q (nums.take i))
  | 0, _ => h
  | i + 1, hi => by
    have hlt : i < nums.length := hi
    obtain ⟨r, h1, h2⟩ := hf i _ (List.getElem?_eq_getElem hlt)
    rw [runF_take (List.getElem?_eq_getElem hlt)]
    exact good_stp hok (good_run hok h hf i (Nat.le_of_lt hlt)) h1 h2
end
/-! ### ways out of rows, in the heap -/
def exR : LRow → Str × List Int
  | .stop => ("stop", [])
  | .choose ks => ("choose", ks)
  | .ask _ j => ("ask", [j])
  | .set _ _ j => ("go", [j])
  | .say _ j => ("go", [j])
  | .look j => ("go", [j])
def ExH (H : Hp) (v : V) (g : Str × List Int) : Prop := ∃ a b, v = .ref a ∧ H a = some (.tup [.str g.1, .ref b]) ∧ H b = some (.tup (g.2.map .int))
theorem ExH.ts {H H' : Hp} (s : Ts H H') {v : V} {g : Str × List Int} (h : ExH H v g) : ExH H' v g := by
  obtain ⟨a, b, e, h1, h2⟩ := h
  exact ⟨a, b, e, s _ _ h1, s _ _ h2⟩
/-! ### lists that are related item by item -/
inductive F2 {α : Type} (R : V → α → Prop) : List V → List α → Prop
  | nil : F2 R [] []
  | cons {v : V} {vs : List V} {a : α} {as : List α} : R v a → F2 R vs as → F2 R (v :: vs) (a :: as)
section
variable {α β : Type} {R S : V → α → Prop}
theorem F2.mono (h : ∀ v a, R v a → S v a) : ∀ {vs : List V} {as : List α}, F2 R vs as → F2 S vs as
  | _, _, .nil => .nil
  | _, _, .cons x t => .cons (h _ _ x) (t.mono h)
theorem F2.len : ∀ {vs : List V} {as : List α}, F2 R vs as → vs.length = as.length
  | _, _, .nil => rfl
  | _, _, .cons _ t => congrArg Nat.succ t.len
theorem F2.at : ∀ {vs : List V} {as : List α} {i : Nat} {v : V}, F2 R vs as → vs[i]? = some v → ∃ a, as[i]? = some a ∧ R v a
  | _, _, _, _, .nil, e => by simp at e
  | _, _, 0, _, .cons h _, e => by
    simp at e
    subst e
    exact ⟨_, rfl, h⟩
  | _, _, i + 1, _, .cons _ t, e => by
    obtain ⟨d, e1, e2⟩ := F2.at (i := i) t (by simpa using e)
    exact ⟨d, by simpa using e1, e2⟩
theorem F2.get : ∀ {vs : List V} {as : List α} {i : Nat} {a : α}, F2 R vs as → as[i]? = some a → ∃ v, vs[i]? = some v ∧ R v a
  | _, _, _, _, .nil, e => by simp at e
  | _, _, 0, _, .cons h _, e => by
    simp at e
    subst e
    exact ⟨_, rfl, h⟩
  | _, _, i + 1, _, .cons _ t, e => by
    obtain ⟨d, e1, e2⟩ := F2.get (i := i) t (by simpa using e)
    exact ⟨d, by simpa using e1, e2⟩
theorem F2.append : ∀ {vs us : List V} {as bs : List α}, F2 R vs as → F2 R us bs → F2 R (vs ++ us) (as ++ bs)
  | _, _, _, _, .nil, k => k
  | _, _, _, _, .cons h t, k => .cons h (t.append k)
theorem f2_rows {H : Hp} : ∀ {vs : List V} {rs : List LRow}, RowsH H vs rs → F2 (RowH H) vs rs
  | _, _, .nil => .nil
  | _, _, .cons h t => .cons h (f2_rows t)
theorem f2_ints : ∀ xs : List Int, F2 (fun v (x : Int) => v = .int x) (xs.map V.int) xs
  | [] => .nil
  | _ :: xs => .cons rfl (f2_ints xs)
theorem f2_ints_of : ∀ {vs : List V} {xs : List Int}, F2 (fun v (x : Int) => v = .int x) vs xs → vs = xs.map V.int
  | _, _, .nil => rfl
  | _, _, .cons h t => by rw [h, f2_ints_of t]; rfl
end
section
variable {K : PySem.W.Frag} {H : Hp} {σ : L2.St} {a : Addr} {xs : List V}
/-- [f(x) for x in t], t a tuple or a list, only objects made: the results are of one kind, which tuples alone tell -/
theorem tlc_core {α β : Type} {J : It} {as : List α} {k : Nat} {te : TE} {vs : List Nat} {Q : VK} {D : Addr} (Rin : Hp → V → α → Prop) (Rout : Hp → V → β → Prop) (f : α → β)
    (iS : ∀ {H H' v x}, Same H H' → Rin H v x → Rin H' v x) (oS : ∀ {H H' v x}, Ts H H' → Rout H v x → Rout H' v x) (hr : F2 (Rin H) xs as) (h3 : xs.length ≤ 1000) (hD : H D = none)
    (hw : ∀ x, wipe ((wipe σ vs).set k (some x)) vs = wipe σ vs)
    (he : ∀ (i : Nat) (x : V) (r : α) (H' : Hp), as[i]? = some r → Rin H' x r → Same H H' → ∀ R : VK, (∀ u H'', Same H' H'' → Rout H'' u (f r) → R u H'') → te ((wipe σ vs).set k (some x)) H' R)
    (lc : ∀ (Pv : Nat → Hp → Prop), Pv 0 (upd H D (.lst [])) → (∀ i H', Pv i H' → Same H H') → (∀ i x H', xs[i]? = some x → Pv i H' → gName k x (wipe σ vs) H' fun σ2 H2 => wipe σ2 vs = wipe σ vs ∧ tYes σ2 H2 fun b H3 =>
        if b = true then te σ2 H3 fun y H4 => ∃ acc, H4 D = some (.lst acc) ∧ acc.length < sizeLine ∧ Pv (i + 1) (upd H4 D (.lst (acc ++ [y]))) else Pv (i + 1) H3) → (∀ H', Pv xs.length H' → Q (.ref D) H') →
      ∃ W : Nat → Nat → Hp → Prop, (∃ m, W 0 m (upd H D (.lst []))) ∧ ∀ i m H, W i m H → (J.stop i H ∧ Q (.ref D) H) ∨ (J.go i H ∧ ∃ Nx : Hp → Prop, (∀ H', Nx H' → ∃ m', m' < m ∧ W (i + 1) m' H') ∧ ∀ x H', J.yld i H x H' → gName k x (wipe σ vs) H' fun σ2 H2 => wipe σ2 vs = wipe σ vs ∧ tYes σ2 H2 fun b H3 =>
        if b = true then te σ2 H3 fun y H4 => ∃ acc, H4 D = some (.lst acc) ∧ acc.length < sizeLine ∧ Nx (upd H4 D (.lst (acc ++ [y]))) else Nx H3))
    (q : ∀ ys H', Same H H' → H' D = some (.lst ys) → F2 (Rout H') ys (as.map f) → Q (.ref D) H') :
    ∃ W : Nat → Nat → Hp → Prop, (∃ m, W 0 m (upd H D (.lst []))) ∧ ∀ i m H, W i m H → (J.stop i H ∧ Q (.ref D) H) ∨ (J.go i H ∧ ∃ Nx : Hp → Prop, (∀ H', Nx H' → ∃ m', m' < m ∧ W (i + 1) m' H') ∧ ∀ x H', J.yld i H x H' → gName k x (wipe σ vs) H' fun σ2 H2 => wipe σ2 vs = wipe σ vs ∧ tYes σ2 H2 fun b H3 =>
        if b = true then te σ2 H3 fun y H4 => ∃ ac, H4 D = some (.lst ac) ∧ ac.length < sizeLine ∧ Nx (upd H4 D (.lst (ac ++ [y]))) else Nx H3) := by
  refine lc (fun i H' => Same H H' ∧ ∃ ys, H' D = some (.lst ys) ∧ F2 (Rout H') ys ((as.take i).map f)) ⟨same_new hD, [], upd_same, .nil⟩ (fun i H' h => h.1) ?_ ?_
  · rintro i x H' hi ⟨s1, ys, hys, hrs⟩
    obtain ⟨r, hri, hrv⟩ := hr.at hi
    have hlen := hrs.len
    refine ⟨hw _, ?_⟩
    unfold tYes
    simp only [if_true]
    refine he i x r H' hri (iS s1 hrv) s1 _ fun u H2 s2 hu => ⟨ys, s2 _ _ hys, ?_, fun b o e => ?_, _, upd_same, ?_⟩
    · rw [hlen, List.length_map, List.length_take]
      have := hr.len
      exact small1000 (by omega)
    · rw [upd_ne (ne_of_none e hD)]
      exact s2 _ _ (s1 _ _ e)
    · have t1 : Ts H2 (upd H2 D (.lst (ys ++ [u]))) := Ts.lst (s2 _ _ hys)
      rw [List.take_succ, hri, List.map_append]
      exact (hrs.mono fun v b h => oS t1 (oS (Ts.of s2) h)).append (.cons (oS t1 hu) .nil)
  · rintro H' ⟨s1, ys, h1, h2⟩
    rw [hr.len, List.take_length] at h2
    exact q ys H' s1 h1 h2
theorem tlc_F2E {α β : Type} {as : List α} {j k : Nat} {te : TE} {vs : List Nat} {Q : VK} (Rin : Hp → V → α → Prop) (Rout : Hp → V → β → Prop) (f : α → β)
    (iS : ∀ {H H' v x}, Same H H' → Rin H v x → Rin H' v x) (oS : ∀ {H H' v x}, Ts H H' → Rout H v x → Rout H' v x) (hj : σ[j]? = some (some (.ref a))) (hx : SqE K H a xs) (hr : F2 (Rin H) xs as) (h3 : xs.length ≤ 1000)
    (hw : ∀ x, wipe ((wipe σ vs).set k (some x)) vs = wipe σ vs)
    (he : ∀ (i : Nat) (x : V) (r : α) (H' : Hp), as[i]? = some r → Rin H' x r → Same H H' → ∀ R : VK, (∀ u H'', Same H' H'' → Rout H'' u (f r) → R u H'') → te ((wipe σ vs).set k (some x)) H' R)
    (q : ∀ D ys H', Same H H' → H D = none → H' D = some (.lst ys) → F2 (Rout H') ys (as.map f) → Q (.ref D) H') : tLc (iEither K (tVar j)) (gName k) tYes te vs σ H Q := by
  rcases hx with hx | hx
  · exact Or.inl ⟨_, hj, a, rfl, ⟨xs, hx⟩, fun D hD => tlc_core (J := Itl K a) (D := D) Rin Rout f iS oS hr h3 hD hw he (fun Pv p0 pS ht hd => lc_list Pv p0 (fun i H' _ h => (pS i H' h).seq hx) ht hd) fun ys H' s e h => q D ys H' s hD e h⟩
  · exact Or.inr ⟨_, hj, a, rfl, ⟨xs, hx⟩, fun D hD => tlc_core (J := Itt K a) (D := D) Rin Rout f iS oS hr h3 hD hw he (fun Pv p0 pS ht hd => lc_tup Pv p0 (fun i H' _ h => same_sqT (pS i H' h) hx) ht hd) fun ys H' s e h => q D ys H' s hD e h⟩
end
end Lk

namespace Lk
open PySem PySem.Spec PyProof.Rows L2
/-- an own error with two fields, as the top has left it -/
structure Ec2 (P : Program) (w : World) (K : PySem.W.Frag) (mg : Str → Option Value) (base : Heap) (x : Str) (B C : Addr) (f g : Str) : Prop where
  k : ErK K mg x C B
  i : ∃ fI fd, PySem.W.findIn K (.ref C) "__init__" = some (some (.ref fI)) ∧ PySem.W.typeIn K (.ref fI) = some (.type "function") ∧ FnOk P w K mg base CX0 1 fI fd ["self", f, g] (spI2 C f g) ∧ Binds K fd ["self", f, g] []
  hd : PySem.W.hasDictIn K C = true
  nf : PySem.W.findIn K (.ref C) f = some none
  ng : PySem.W.findIn K (.ref C) g = some none
theorem Ec2.xf {P : Program} {w : World} {K : PySem.W.Frag} {mg : Str → Option Value} {base : Heap} {x : Str} {B C : Addr} {f g : Str} (E : Ec2 P w K mg base x B C f g) : XfC K C := ⟨E.k.ek.ga, E.k.ek.gt, E.k.ek.su, E.hd⟩
/-- what is left to show once the error's fields are there -/
def rzP (C : Addr) (f g : Str) (W : WX) (σ : L2.St) (vs : List V) (H : Hp) : Prop := vs.length ≤ 1000 ∧ ∀ a, H a = none → spI2 C f g (.ref a :: (vs ++ [])) (upd H a (exo a C none))
  (fun v H2 => v = .non ∧ ∃ (d : Addr) (fs : List (Str × V)), H2 a = some (exo a C (some d)) ∧ H2 d = some (exd d fs) ∧ H d = none ∧ W (.ref C) (some d) σ (upd (del H2 a) d (.xd fs))) (fun _ _ _ => False)
def tRz (C : Addr) (f g : Str) (W : WX) (t : TA) : TS := fun _ σ H => t σ H fun vs H1 => rzP C f g W σ vs H1
theorem srz {C : Addr} {f g : Str} {W : WX} {t : TA} {D : Ends} {σ : L2.St} {H : Hp} (q : t σ H fun vs H1 => rzP C f g W σ vs H1) : tRz C f g W t D σ H := q
theorem s_rz {C : Addr} {f g : Str} {W : WX} {σ : L2.St} {H : Hp} {x y : V} (q : ∀ d H', Same H H' → H' d = some (.xd [(g, y), (f, x)]) → W (.ref C) (some d) σ H') : rzP C f g W σ [x, y] H := by
  refine ⟨Nat.le_of_ble_eq_true rfl, fun a ha => ⟨a, x, y, rfl, upd_same, fun d H2 hd hne e1 e2 e3 => ⟨rfl, d, _, e1, e2, by rwa [upd_ne hne] at hd, q d _ (fun b o e => ?_) upd_same⟩⟩⟩
  have nb : b ≠ a := ne_of_none e ha
  have nd : b ≠ d := fun z => by
    rw [z] at e
    rw [upd_ne hne, e] at hd
    cases hd
  rw [upd_ne nd, del_ne nb, e3 b nb nd, upd_ne nb]
  exact e
section
variable {X : Cx} {x : Str} {B C : Addr} {f g : Str} {e : Expr} {es : List Expr} {t : TA} {p pos pos2 : Pos} {W : WX} {j : Nat}
theorem ps_rz (E : Ec2 X.prog X.w X.K X.mg X.base x B C f g) (hr : Room j X.A) (hj : 2 ≤ j) (tk : Takes X W) (ha : PA X (e :: es) t) (hc : X.calm = true := by rfl) (hg : Gl X x := by rfl)
    (hdb : (x == ("__debug__" : Str)) = false := by decide) (he : starEach (e :: es) X.env = (false, eval e X.env) :: starEach es X.env := by rfl) (hpl : (backTo pos (starEach es X.env)).any (·.1) = false := by rfl) :
    PS X (.Raise (some (.Call (.Name x p) (e :: es) [] pos)) none pos2) (tRz C f g W t) := by
  obtain ⟨fI, fd, h1, h2, F, b⟩ := E.i
  exact ps_raise hc tk (pmk_oex E.k.ox h1 h2 F (hr.mono hj) b .nil pass0 hg E.k.g ha hdb he hpl)
end
/-- a def that may let an error out -/
structure Cax (P : Program) (w : World) (K : PySem.W.Frag) (mg : Str → Option Value) (base : Heap) (k : Nat) (x : Str) (ps : List Str) (sp : Sp) : Prop where
  ex : ∃ f fd, mg x = some (.ref f) ∧ PySem.W.keepIn K (.ref f) = true ∧ Binds K fd ps [] ∧ FnOk P w K mg base (L2.CX P w) k f fd ps sp
theorem pcax {X : Cx} {k j : Nat} {x : Str} {ps : List Str} {sp : Sp} {e : Expr} {es : List Expr} {t : TA} {p pos : Pos} {W : WX} (c : Cax X.prog X.w X.K X.mg X.base k x ps sp) (hr : Room j X.A) (hk : k ≤ j) (tk : Takes X W) (ha : PA X (e :: es) t) (hg : Gl X x := by rfl)
    (hdb : (x == ("__debug__" : Str)) = false := by decide) (he : starEach (e :: es) X.env = (false, eval e X.env) :: starEach es X.env := by rfl) (hpl : (backTo pos (starEach es X.env)).any (·.1) = false := by rfl) :
    PE X (.Call (.Name x p) (e :: es) [] pos) (tCallS sp (WE W) t) := by
  obtain ⟨f, fd, hm, kp, b, F⟩ := c.ex
  exact pe_callS F (hr.mono hk) hg hm kp b (fun σ => passAt tk σ) ha hdb he hpl
theorem scx {sp : Sp} {E : L2.St → XK} {tl : TA} {σ : L2.St} {H : Hp} {Q : VK} (q : tl σ H fun vs H1 => sp vs H1 Q (E σ)) : tCallS sp E tl σ H Q := q
/-- C(..), the errors of its __init__ wished for at the slots -/
def mkP (C : Addr) (sp : Sp) (E : XK) (vs : List V) (H : Hp) (Q : VK) : Prop := ∀ x dx, H x = none → H dx = none → dx ≠ x → sp (.ref x :: vs) (upd (upd H dx (.own x)) x (.ins C dx [])) (fun v H2 => v = .non ∧ Q (.ref x) H2) E
def tMakeX (C : Addr) (sp : Sp) (W : WX) (t : TA) : TE := fun σ H Q => t σ H fun vs H1 => mkP C sp (WE W σ) vs H1 Q
theorem smx {C : Addr} {sp : Sp} {W : WX} {t : TA} {σ : L2.St} {H : Hp} {Q : VK} (q : t σ H fun vs H1 => mkP C sp (WE W σ) vs H1 Q) : tMakeX C sp W t σ H Q := q
section
variable {X : Cx} {x : Str} {C f : Addr} {k : Nat} {fd : FuncData} {ps : List Str} {sp : Sp} {e : Expr} {es : List Expr} {t : TA} {p pos : Pos} {W : WX}
theorem pe_makeX (M : Mk X.K C f) (F : FnOk X.prog X.w X.K X.mg X.base (L2.CX X.prog X.w) k f fd ps sp) (hr : Room (k + 1) X.A) (hm : X.mg x = some (.ref C)) (hb : Binds X.K fd ps []) (tk : Takes X W) (ha : PA X (e :: es) t) (hg : Gl X x := by rfl)
    (hdb : (x == ("__debug__" : Str)) = false := by decide) (he : starEach (e :: es) X.env = (false, eval e X.env) :: starEach es X.env := by rfl) (hpl : (backTo pos (starEach es X.env)).any (·.1) = false := by rfl) :
    PE X (.Call (.Name x p) (e :: es) [] pos) (tMakeX C sp W t) := by
  refine ⟨fun pins s σ H Q I h => wpAny_Call_Name_kw (ld_glob I hg hm ?_ hdb)⟩
  refine PySem.W.callWith_K (h₀ := X.base) I.ok.mod.kin M.kp (thn (ha.run pos pins s σ H _ I h) fun us s1 hh => ?_) he hpl
  obtain ⟨vs, H1, I1, r, q⟩ := hh
  refine ⟨I1.kIn, ?_⟩
  obtain ⟨n, hn⟩ : ∃ n, n = s1.heap.objs.size := ⟨_, rfl⟩
  have fr0 : H1 n = none := by rw [hn]; exact I1.hok.fresh (Nat.le_refl _)
  have fr1 : H1 (n + 1) = none := by rw [hn]; exact I1.hok.fresh (Nat.le_succ _)
  have go := q (n + 1) n fr1 fr0 (Nat.ne_of_lt (Nat.lt_succ_self _))
  have J := Inv.made (C := C) I1
  rw [← hn] at J
  have rr : Vals (V.ref (n + 1) :: vs) (Value.ref (n + 1) :: us) := .cons rfl r
  have len : (Value.ref (n + 1) :: us).length = ps.length := by rw [← rr.length]; exact F.len _ _ _ _ go
  have bb := hb _ (Value.ref (n + 1) :: us) J.kIn (by rw [List.append_nil]; exact len)
  rw [List.append_nil] at bb
  rw [hn] at bb rr go J
  refine wpAny_call (make_map (f := f) I1.kIn M.makes M.init (beq_iff_eq.mp M.fn) ?_)
  refine codeAny_mono (F.run _ X.stack _ _ ⟨Value.ref (s1.heap.objs.size + 1) :: us, []⟩ (Value.ref (s1.heap.objs.size + 1) :: us) _ _ (WE W σ) (hr.make C us []) (J.env0.make C us []) bb rr go) fun r s' hq => ?_
  cases r with
  | error er => exact passAt tk σ pins _ _ er s' J hq
  | ok fl =>
    cases fl with
    | ret u =>
      obtain ⟨v, H', J3, rv, ev, q3⟩ := J.after hq
      subst ev
      exact ⟨rv, ⟨V.ref _, H', J3, rfl, q3⟩⟩
    | next => exact hq.elim
    | brk => exact hq.elim
    | cont => exact hq.elim
end
/-- e.f, e the error that the suite holds -/
theorem s_xf {a C dd : Addr} {f : Str} {i : Nat} {fs : List (Str × V)} {v : V} {σ : L2.St} {H : Hp} {Q : VK} (hi : σ[i]? = some (some (.ref a))) (hd : H dd = some (.xd fs)) (hl : fs.lookup f = some v) (q : Q v H) : tXf a (.ref C) (some dd) C f (tVar i) σ H Q :=
  ⟨.ref a, hi, rfl, rfl, dd, fs, v, rfl, hd, hl, q⟩
/-- «except C» takes an error of the class C -/
theorem exm_er {K : PySem.W.Frag} {mg : Str → Option Value} {x : Str} {C B : Addr} (E : ErK K mg x C B) : PySem.W.exmOne K (.ref C) (.ref C) = some true := by
  obtain ⟨cd, e1, e2⟩ := erk_cls E
  have a1 : (PySem.W.subIn K (.ref C) (.type "BaseException") == some true) = true := by rw [E.ek.su] <;> rfl
  have a2 : ((PySem.W.clsIn K C).isSome && PySem.W.typeIn K (.ref C) == some (.type "type")) = true := by rw [e1, E.ty] <;> rfl
  unfold PySem.W.exmOne
  rw [if_pos a1]
  unfold PySem.W.kitCls
  simp only []
  rw [if_pos a2]
  show PySem.W.mroIn K C (.ref C) = some true
  unfold PySem.W.mroIn
  rw [e1, Option.bind_some, e2]
  simp [List.contains, List.elem]
end Lk

namespace Lk
open PySem PySem.Spec PyProof.Rows L2
/-! ### data that may be of the wrong kind -/
section
variable {K : PySem.W.Frag} {H H' : Hp}
theorem ty_sqL {p : Addr} {xs : List V} (h : SqL K H p xs) : TyX K H (.ref p) (.type "list") := by
  rcases h with (e | ⟨o, e⟩) | ⟨o, its, n, e, c, _⟩
  · exact .base (.lst e)
  · exact .base (.frz e)
  · exact .kList e c
theorem ty_sqT {p : Addr} {xs : List V} (h : SqT K H p xs) : TyX K H (.ref p) (.type "tuple") := by
  rcases h with (e | ⟨o, e⟩) | ⟨o, its, n, e, c, _⟩
  · exact .base (.tup e)
  · exact .fTuple e
  · exact .kTuple e c
/-- its type stays -/
inductive Tyo (K : PySem.W.Frag) (H : Hp) : V → String → Prop
  | dp {v : V} {d : PyData} (h : Dp K H v d) : Tyo K H v (tyn d)
  | dct {a : Addr} {kvs : List (Key × V)} (h : H a = some (.dK kvs)) : Tyo K H (.ref a) "dict"
  | lst {p : Addr} {xs : List V} (h : SqL K H p xs) : Tyo K H (.ref p) "list"
theorem Tyo.ty {v : V} {t : String} (h : Tyo K H v t) : TyX K H v (.type t) := by
  cases h with
  | dp h => exact tyx_dp h
  | dct h => exact .base (.dK h)
  | lst h => exact ty_sqL h
theorem Tyo.same (s : Same H H') {v : V} {t : String} (h : Tyo K H v t) : Tyo K H' v t := by
  cases h with
  | dp h => exact .dp (dp_same s h)
  | dct h => exact .dct (s _ _ h)
  | lst h => exact .lst (s.seq h)
/-- a list or a tuple of these items, or neither -/
inductive Sh (K : PySem.W.Frag) (H : Hp) : V → Option (List V) → Prop
  | seq {p : Addr} {xs : List V} (h : SqE K H p xs) : Sh K H (.ref p) (some xs)
  | no {v : V} {t : String} (h : Tyo K H v t) (h1 : kitB t "list" = some false) (h2 : kitB t "tuple" = some false) : Sh K H v none
/-- a tuple of these data, or no tuple -/
inductive It (K : PySem.W.Frag) (H : Hp) : V → Option (List PyData) → Prop
  | tup {p : Addr} {xs : List V} {ds : List PyData} (h : SqT K H p xs) (hd : DpAll K H xs ds) : It K H (.ref p) (some ds)
  | no {v : V} {t : String} (h : Tyo K H v t) (h2 : kitB t "tuple" = some false) : It K H v none
theorem Sh.same (s : Same H H') {v : V} {o : Option (List V)} (h : Sh K H v o) : Sh K H' v o := by
  cases h with
  | seq h => exact .seq (h.same s)
  | no h h1 h2 => exact .no (h.same s) h1 h2
theorem It.same (s : Same H H') {v : V} {o : Option (List PyData)} (h : It K H v o) : It K H' v o := by
  cases h with
  | tup h hd => exact .tup (same_sqT s h) (dpa_same s hd)
  | no h h2 => exact .no (h.same s) h2
def shB (o : Option (List V)) (a b : Int) : Bool := match o with
  | some xs => decide (a ≤ xs.length) && decide ((xs.length : Int) ≤ b)
  | none => false
def tupD : PyData → Option (List PyData)
  | .tuple ds => some ds
  | _ => none
theorem it_dp {v : V} {d : PyData} (h : Dp K H v d) : It K H v (tupD d) := by
  cases d with
  | tuple ds =>
    obtain ⟨p, xs, rfl, h1, h2⟩ := dp_tupI h
    exact .tup h1 h2
  | dict kvs => cases h
  | none => exact .no (.dp h) (ki_tup _)
  | bool b => exact .no (.dp h) (ki_tup _)
  | int i => exact .no (.dp h) (ki_tup _)
  | str x => exact .no (.dp h) (ki_tup _)
  | list ds => exact .no (.dp h) (ki_tup _)
theorem it_dct {a : Addr} {kvs : List (Key × V)} (h : H a = some (.dK kvs)) : It K H (.ref a) none := .no (.dct h) (by decide +kernel)
theorem it_lst {p : Addr} {xs : List V} (h : SqL K H p xs) : It K H (.ref p) none := .no (.lst h) (by decide +kernel)
theorem sh_dct {a : Addr} {kvs : List (Key × V)} (h : H a = some (.dK kvs)) : Sh K H (.ref a) none := .no (.dct h) (by decide +kernel) (by decide +kernel)
theorem sh_non : Sh K H .non none := .no (.dp .non) (by decide +kernel) (by decide +kernel)
theorem sh_int (i : Int) : Sh K H (.int i) none := .no (.dp (.int i)) (ki_list _) (ki_tup _)
theorem sh_str (x : Str) : Sh K H (.str x) none := .no (.dp (.str x)) (ki_list _) (ki_tup _)
/-- isinstance(v, (list, tuple)) -/
theorem s_isiSh {v : V} {o : Option (List V)} {t : Addr} {Q : VK} (h : Sh K H v o) (ht : H t = some (.tup [.ty "list", .ty "tuple"])) (q : Q (.bl o.isSome) H) : rIsiT K [v, .ref t] H Q := by
  cases h with
  | seq h =>
    rcases h with h | h
    · exact ⟨_, t, _, _, _, true, rfl, ht, .cons (.ty _) (.cons (.ty _) .nil), ty_sqL h, ki_lt (.list []), q⟩
    · exact ⟨_, t, _, _, _, true, rfl, ht, .cons (.ty _) (.cons (.ty _) .nil), ty_sqT h, ki_lt (.tuple []), q⟩
  | no h h1 h2 =>
    have z : ∀ K', PySem.W.kitAny K' (.type _) [.type "list", .type "tuple"] = some false := fun K' => kitAny_cons (K := K') (b := false) (kit_ty h1) (fun _ => kitAny_cons (b := false) (kit_ty h2) (fun _ => rfl) (fun y => by cases y)) (fun y => by cases y)
    exact ⟨_, t, _, _, _, false, rfl, ht, .cons (.ty _) (.cons (.ty _) .nil), h.ty, z _, q⟩
/-- isinstance(v, tuple) -/
theorem s_isiIt {v : V} {o : Option (List PyData)} {Q : VK} (h : It K H v o) (q : Q (.bl o.isSome) H) : rIsi K [v, .ty "tuple"] H Q := by
  cases h with
  | tup h hd => exact ⟨_, _, _, _, true, rfl, .ty _, ty_sqT h, kit_ty (by decide +kernel), q⟩
  | no h h2 => exact ⟨_, _, _, _, false, rfl, .ty _, h.ty, kit_ty h2, q⟩
end
/-! ### rows of any kind -/
def varD (ns : List Str) : PyData → Bool
  | .str x => decide (x ∈ ns)
  | _ => false
def rowT (ns : List Str) (m : Int) (ds : List PyData) : Bool := match ds with
  | .str k :: rest =>
    if k = "set" ∧ rest.length = 3 then varD ns (rest.getD 0 .none) && (formD (rest.getD 1 .none) ns.length && withinD (rest.getD 2 .none) 0 (m - 1))
    else if k = "ask" ∧ rest.length = 2 then varD ns (rest.getD 0 .none) && withinD (rest.getD 1 .none) 0 (m - 1)
    else if k = "say" ∧ rest.length = 2 then formD (rest.getD 0 .none) ns.length && withinD (rest.getD 1 .none) 0 (m - 1)
    else if k = "look" ∧ rest.length = 1 then withinD (rest.getD 0 .none) 0 (m - 1)
    else if k = "choose" ∧ rest.length = 1 then nextsD (rest.getD 0 .none) 1 6 m
    else decide (k = "stop") && decide (rest.length = 0)
  | _ => false
def rowO (ns : List Str) (m : Int) (o : Option (List PyData)) : Bool := match o with
  | some ds => rowT ns m ds
  | none => false
def LRow.ds : LRow → List PyData
  | .set n f k => [.str "set", .str n, intsD f, .int k]
  | .say f k => [.str "say", intsD f, .int k]
  | .ask n k => [.str "ask", .str n, .int k]
  | .choose ks => [.str "choose", intsD ks]
  | .look k => [.str "look", .int k]
  | .stop => [.str "stop"]
theorem LRow.tupD (r : LRow) : tupD r.d = some r.ds := by cases r <;> rfl
theorem formD_ints {f : List Int} {n : Int} (h : (f.length : Int) = n + 1) : formD (intsD f) n = true := by
  show (decide (((f.map PyData.int).length : Int) = n + 1) && (f.map PyData.int).all isIntD) = true
  rw [List.length_map, List.all_map, Bool.and_eq_true]
  exact ⟨decide_eq_true h, List.all_eq_true.mpr fun _ _ => rfl⟩
theorem within_ok {i m : Int} (h0 : 0 ≤ i) (h1 : i < m) : withinD (.int i) 0 (m - 1) = true := by
  show (decide (0 ≤ i) && decide (i ≤ m - 1)) = true
  rw [Bool.and_eq_true]
  exact ⟨decide_eq_true h0, decide_eq_true (by omega)⟩
theorem nextsD_ints {ks : List Int} {m : Int} (h1 : 1 ≤ ks.length) (h2 : ks.length ≤ 6) (h : ∀ k ∈ ks, 0 ≤ k ∧ k < m) : nextsD (intsD ks) 1 6 m = true := by
  show (decide ((1 : Int) ≤ (ks.map PyData.int).length) && decide (((ks.map PyData.int).length : Int) ≤ 6) && (ks.map PyData.int).all fun e => withinD e 0 (m - 1)) = true
  rw [List.length_map, List.all_map, Bool.and_eq_true, Bool.and_eq_true]
  refine ⟨⟨decide_eq_true (by omega), decide_eq_true (by omega)⟩, List.all_eq_true.mpr fun k hk => ?_⟩
  obtain ⟨a, b⟩ := h k hk
  exact within_ok a b
theorem nand_ {a b : Str} {p : Prop} (h : a ≠ b) : ¬ (a = b ∧ p) := fun x => h x.1
theorem rowT_ok {ns : List Str} {m : Int} {r : LRow} (h : RowOk ns m r) : rowT ns m r.ds = true := by
  cases r with
  | set n f k =>
    obtain ⟨h1, h2, h3, h4⟩ := h
    unfold LRow.ds rowT
    dsimp only
    rw [if_pos ⟨rfl, rfl⟩]
    show (decide (n ∈ ns) && (formD (intsD f) ns.length && withinD (.int k) 0 (m - 1))) = true
    rw [decide_eq_true h1, formD_ints (by omega), within_ok h3 h4]
    rfl
  | say f k =>
    obtain ⟨h2, h3, h4⟩ := h
    unfold LRow.ds rowT
    dsimp only
    rw [if_neg (nand_ (by decide +kernel)), if_neg (nand_ (by decide +kernel)), if_pos ⟨rfl, rfl⟩]
    show (formD (intsD f) ns.length && withinD (.int k) 0 (m - 1)) = true
    rw [formD_ints (by omega), within_ok h3 h4]
    rfl
  | ask n k =>
    obtain ⟨h1, h3, h4⟩ := h
    unfold LRow.ds rowT
    dsimp only
    rw [if_neg (nand_ (by decide +kernel)), if_pos ⟨rfl, rfl⟩]
    show (decide (n ∈ ns) && withinD (.int k) 0 (m - 1)) = true
    rw [decide_eq_true h1, within_ok h3 h4]
    rfl
  | choose ks =>
    obtain ⟨h1, h2, h3⟩ := h
    unfold LRow.ds rowT
    dsimp only
    rw [if_neg (nand_ (by decide +kernel)), if_neg (nand_ (by decide +kernel)), if_neg (nand_ (by decide +kernel)), if_neg (nand_ (by decide +kernel)), if_pos ⟨rfl, rfl⟩]
    exact nextsD_ints h1 h2 h3
  | look k =>
    obtain ⟨h3, h4⟩ := h
    unfold LRow.ds rowT
    dsimp only
    rw [if_neg (nand_ (by decide +kernel)), if_neg (nand_ (by decide +kernel)), if_neg (nand_ (by decide +kernel)), if_pos ⟨rfl, rfl⟩]
    exact within_ok h3 h4
  | stop =>
    unfold LRow.ds rowT
    dsimp only
    rw [if_neg (nand_ (by decide +kernel)), if_neg (nand_ (by decide +kernel)), if_neg (nand_ (by decide +kernel)), if_neg (nand_ (by decide +kernel)), if_neg (nand_ (by decide +kernel))]
    rfl
/-- two tests that leave the heap as it is -/
theorem s_and2 {tc tu : TT} {σ : L2.St} {H : Hp} {Q : Bool → Hp → Prop} {a b : Bool} (h1 : ∀ R : Bool → Hp → Prop, R a H → tc σ H R) (h2 : ∀ R : Bool → Hp → Prop, R b H → tu σ H R) (q : Q (a && b) H) : tAnd tc tu σ H Q := by
  refine h1 _ ?_
  cases a with
  | true => exact itt_ rfl (h2 _ q)
  | false => exact iff_ rfl q
theorem decS {a b : Str} : decide (V.str a = V.str b) = decide (a = b) := decide_eq_decide.mpr ⟨fun h => V.str.inj h, fun h => congrArg V.str h⟩
theorem decI {a b : Int} : decide (V.int a = V.int b) = decide (a = b) := decide_eq_decide.mpr ⟨fun h => V.int.inj h, fun h => congrArg V.int h⟩
theorem decA {a b : Prop} [Decidable a] [Decidable b] [Decidable (a ∧ b)] : (decide a && decide b) = decide (a ∧ b) := by
  by_cases h1 : a <;> by_cases h2 : b <;> simp [h1, h2]
end Lk

namespace Lk
open PySem PySem.Spec PyProof.Rows L2
def NmOk (ns : List Str) : Prop := 1 ≤ ns.length ∧ ns.length ≤ 6 ∧ (∀ x ∈ ns, nameS x = true) ∧ ns.Nodup
def RwOk (ns : List Str) (rs : List LRow) : Prop := 1 ≤ rs.length ∧ rs.length ≤ 25 ∧ ∀ r ∈ rs, RowOk ns rs.length r
/-- texts in it are not too long -/
def shortD : PyData → Prop
  | .str x => x.length ≤ 900
  | _ => True
section
variable {K : PySem.W.Frag} {H H' : Hp}
inductive BadV (K : PySem.W.Frag) (H : Hp) : V → Int → Prop
  | shape {v : V} {o : Option (List V)} (h : Sh K H v o) (e : shB o 1 6 = false) : BadV K H v (-1)
  | at {l : Addr} {ns : List Str} {v : V} {us : List V} {d : PyData} (h : SqE K H l (ns.map V.str ++ v :: us)) (hl : ns.length + us.length + 1 ≤ 6) (hn : ∀ x ∈ ns, nameS x = true) (nd : ns.Nodup)
      (hd : Dp K H v d) (hs : shortD d) (hb : nameD d = false ∨ ∃ x, d = .str x ∧ x ∈ ns) : BadV K H (.ref l) (ns.length : Nat)
inductive BadR (K : PySem.W.Frag) (H : Hp) (ns : List Str) : V → Int → Prop
  | shape {v : V} {o : Option (List V)} (h : Sh K H v o) (e : shB o 1 25 = false) : BadR K H ns v (-1)
  | at {t : Addr} {us : List V} {rs : List LRow} {v : V} {ws : List V} {o : Option (List PyData)} (h : SqE K H t (us ++ v :: ws)) (hl : us.length + ws.length + 1 ≤ 25) (hr : RowsH H us rs)
      (hok : ∀ r ∈ rs, RowOk ns ((us.length + ws.length + 1 : Nat) : Int) r) (hi : It K H v o) (hb : rowO ns ((us.length + ws.length + 1 : Nat) : Int) o = false) : BadR K H ns (.ref t) (us.length : Nat)
inductive Bad (K : PySem.W.Frag) (H : Hp) : V → V → V → Str → Int → Prop
  | width {w v r : V} {d : PyData} (h : Dp K H w d) (e : withinD d 1 64 = false) : Bad K H w v r "width" (-1)
  | vars {k : Nat} {v r : V} {i : Int} (k1 : 1 ≤ k) (k2 : k ≤ 64) (h : BadV K H v i) : Bad K H (.int (k : Int)) v r "variables" i
  | rows {k : Nat} {l : Addr} {ns : List Str} {r : V} {i : Int} (k1 : 1 ≤ k) (k2 : k ≤ 64) (hl : SqE K H l (ns.map V.str)) (hn : NmOk ns) (h : BadR K H ns r i) : Bad K H (.int (k : Int)) (.ref l) r "rows" i
theorem BadV.same (s : Same H H') {v : V} {i : Int} (h : BadV K H v i) : BadV K H' v i := by
  cases h with
  | shape h e => exact .shape (h.same s) e
  | «at» h hl hn nd hd hs hb => exact .at (h.same s) hl hn nd (dp_same s hd) hs hb
theorem BadR.same (s : Same H H') {ns : List Str} {v : V} {i : Int} (h : BadR K H ns v i) : BadR K H' ns v i := by
  cases h with
  | shape h e => exact .shape (h.same s) e
  | «at» h hl hr hok hi hb => exact .at (h.same s) hl (hr.ts (Ts.of s)) hok (hi.same s) hb
theorem Bad.same (s : Same H H') {w v r : V} {p : Str} {i : Int} (h : Bad K H w v r p i) : Bad K H' w v r p i := by
  cases h with
  | width h e => exact .width (dp_same s h) e
  | vars k1 k2 h => exact .vars k1 k2 (h.same s)
  | rows k1 k2 hl hn h => exact .rows k1 k2 (hl.same s) hn (h.same s)
/-- what is wished for where NoProgram(part, i) is let out -/
def ErN (C : Addr) (p : Str) (i : Int) (E : XK) (H : Hp) : Prop := ∀ d H', Same H H' → H' d = some (.xd [("index", .int i), ("part", .str p)]) → E (.ref C) (some d) H'
theorem ErN.same (s : Same H H') {C : Addr} {p : Str} {i : Int} {E : XK} (h : ErN C p i E H) : ErN C p i E H' := fun d H2 s2 e => h d H2 (s.trans s2) e
/-- xs[:i], i the place of the item behind -/
theorem s_takeA {a : Addr} {xs ys : List V} {v : V} {Q : VK} (hx : SqE K H a (xs ++ v :: ys)) (q : ∀ p H', Same H H' → SqE K H' p xs → Q (.ref p) H') : rSlE K (.ref a) none (some (xs.length : Int)) H Q := by
  refine s_take hx (by rw [List.length_append, List.length_cons]; omega) fun p H' s h => ?_
  rw [List.take_left' rfl] at h
  exact q p H' s h
end
end Lk

namespace Lk
open PySem PySem.Spec PyProof.Rows L2
/-! ### data that is made, apart from one object that may change -/
section
variable {K : PySem.W.Frag} {p : Addr} {H H' H1 : Hp}
def DpN (K : PySem.W.Frag) (p : Addr) (H : Hp) (v : V) (d : PyData) : Prop := ∀ H', Bar p H H' → Dp K H' v d
def DpsN (K : PySem.W.Frag) (p : Addr) (H : Hp) (vs : List V) (ds : List PyData) : Prop := ∀ H', Bar p H H' → DpAll K H' vs ds
def ItN (K : PySem.W.Frag) (p : Addr) (H : Hp) (v : V) (o : Option (List PyData)) : Prop := ∀ H', Bar p H H' → It K H' v o
def ItsN (K : PySem.W.Frag) (p : Addr) (H : Hp) (vs : List V) (os : List (Option (List PyData))) : Prop := vs.length = os.length ∧ ∀ v ∈ vs, ∃ o ∈ os, ItN K p H v o
theorem DpN.bar (b : Bar p H H') {v : V} {d : PyData} (h : DpN K p H v d) : DpN K p H' v d := fun H2 c => h H2 (b.trans c)
theorem DpsN.bar (b : Bar p H H') {v : List V} {d : List PyData} (h : DpsN K p H v d) : DpsN K p H' v d := fun H2 c => h H2 (b.trans c)
theorem ItN.bar (b : Bar p H H') {v : V} {o : Option (List PyData)} (h : ItN K p H v o) : ItN K p H' v o := fun H2 c => h H2 (b.trans c)
theorem ItsN.bar (b : Bar p H H') {vs : List V} {os : List (Option (List PyData))} (h : ItsN K p H vs os) : ItsN K p H' vs os := ⟨h.1, fun v hv => by
  obtain ⟨o, h1, h2⟩ := h.2 v hv
  exact ⟨o, h1, h2.bar b⟩⟩
theorem DpN.dp {v : V} {d : PyData} (h : DpN K p H v d) : Dp K H v d := h H Bar.refl
theorem ItN.it {v : V} {o : Option (List PyData)} (h : ItN K p H v o) : It K H v o := h H Bar.refl
theorem DpN.it {v : V} {d : PyData} (h : DpN K p H v d) : ItN K p H v (tupD d) := fun H' b => it_dp (h H' b)
theorem ItsN.append {vs us : List V} {os qs : List (Option (List PyData))} (h : ItsN K p H vs os) (k : ItsN K p H us qs) : ItsN K p H (vs ++ us) (os ++ qs) := ⟨by rw [List.length_append, List.length_append, h.1, k.1], fun v hv => by
  rcases List.mem_append.mp hv with hv | hv
  · obtain ⟨o, h1, h2⟩ := h.2 v hv
    exact ⟨o, List.mem_append_left _ h1, h2⟩
  · obtain ⟨o, h1, h2⟩ := k.2 v hv
    exact ⟨o, List.mem_append_right _ h1, h2⟩⟩
theorem ItsN.one {v : V} {o : Option (List PyData)} (h : ItN K p H v o) : ItsN K p H [v] [o] := ⟨rfl, fun u hu => ⟨o, List.mem_singleton.mpr rfl, by rw [List.mem_singleton.mp hu]; exact h⟩⟩
theorem DpN.tup {a : Addr} {vs : List V} {ds : List PyData} (n : a ≠ p) (e : H a = some (.tup vs)) (h : DpsN K p H vs ds) : DpN K p H (.ref a) (.tuple ds) := fun H' b => .tup (.inl (.inl (b _ _ n e))) (h H' b)
theorem DpN.lst {a : Addr} {vs : List V} {ds : List PyData} (n : a ≠ p) (e : H a = some (.lst vs)) (h : DpsN K p H vs ds) : DpN K p H (.ref a) (.list ds) := fun H' b => .lst (.inl (.inl (b _ _ n e))) (h H' b)
end
def MkD (K : PySem.W.Frag) (p : Addr) (te : TE) (σ : L2.St) (H : Hp) (d : PyData) : Prop := ∀ H1, Same H H1 → ∀ Q : VK, (∀ v H2, Same H1 H2 → DpN K p H2 v d → Q v H2) → te σ H1 Q
def MkDs (K : PySem.W.Frag) (p : Addr) (tl : TA) (σ : L2.St) (H : Hp) (ds : List PyData) : Prop := ∀ H1, Same H H1 → ∀ Q : List V → Hp → Prop, (∀ vs H2, Same H1 H2 → DpsN K p H2 vs ds → vs.length = ds.length → Q vs H2) → tl σ H1 Q
def MkI (K : PySem.W.Frag) (p : Addr) (te : TE) (σ : L2.St) (H : Hp) (o : Option (List PyData)) : Prop := ∀ H1, Same H H1 → ∀ Q : VK, (∀ v H2, Same H1 H2 → ItN K p H2 v o → Q v H2) → te σ H1 Q
def MkIs (K : PySem.W.Frag) (p : Addr) (tl : TA) (σ : L2.St) (H : Hp) (os : List (Option (List PyData))) : Prop := ∀ H1, Same H H1 → ∀ Q : List V → Hp → Prop, (∀ vs H2, Same H1 H2 → ItsN K p H2 vs os → Q vs H2) → tl σ H1 Q
section
variable {K : PySem.W.Frag} {p : Addr} {te ty : TE} {tl : TA} {σ : L2.St} {H : Hp} {d : PyData} {ds : List PyData} {o : Option (List PyData)} {os qs : List (Option (List PyData))} {i : Nat}
theorem md_non : MkD K p (tC .non) σ H .none := fun H1 _ Q q => q _ _ (Same.refl _) fun _ _ => .non
theorem md_bl {b : Bool} : MkD K p (tC (.bl b)) σ H (.bool b) := fun H1 _ Q q => q _ _ (Same.refl _) fun _ _ => .bl b
theorem md_int {i : Int} : MkD K p (tC (.int i)) σ H (.int i) := fun H1 _ Q q => q _ _ (Same.refl _) fun _ _ => .int i
theorem md_str {x : Str} : MkD K p (tC (.str x)) σ H (.str x) := fun H1 _ Q q => q _ _ (Same.refl _) fun _ _ => .str x
theorem md_neg {i : Int} : MkD K p (tUn (rU fun i => .int (-i)) (tC (.int i))) σ H (.int (-i)) := fun H1 _ Q q => sun (sc (sU (q _ _ (Same.refl _) fun _ _ => .int (-i))))
theorem md_var {v : V} (h : σ[i]? = some (some v)) (hd : DpN K p H v d) : MkD K p (tVar i) σ H d := fun H1 s Q q => sv h (q _ _ (Same.refl _) (hd.bar (Bar.of s)))
theorem md_name {l : Addr} {ns : List Str} {n0 : Str} (h : σ[i]? = some (some (.ref l))) (hl : H l = some (.lst (ns.map V.str))) (hn : ns[0]? = some n0) : MkD K p (tOp (rIxL K) (tVar i) (tC (.int 0))) σ H (.str n0) := fun H1 s Q q =>
  sop (sv h (sc (sfr (SqL.of (s _ _ hl)) (Lk.atI_nat (i := 0) (by rw [List.getElem?_map, hn]; rfl)) (q _ _ (Same.refl _) fun _ _ => .str n0))))
theorem mds_nil : MkDs K p tNil σ H [] := fun H1 _ Q q => q _ _ (Same.refl _) (fun _ _ => .nil) rfl
theorem mds_cons (h : MkD K p te σ H d) (t : MkDs K p tl σ H ds) : MkDs K p (tCons te tl) σ H (d :: ds) := fun H1 s Q q => scn (h H1 s _ fun v H2 s2 hv => t H2 (s.trans s2) _ fun vs H3 s3 hvs hl => q _ _ (s2.trans s3) (fun H' b => .cons (hv.bar (Bar.of s3) H' b) (hvs H' b)) (congrArg Nat.succ hl))
theorem md_tup (hw : Wl H p) (h : MkDs K p tl σ H ds) (hl : ds.length ≤ 1000) : MkD K p (tTup tl) σ H (.tuple ds) := fun H1 s Q q => stu (h H1 s _ fun vs H2 s2 hvs hlen => ⟨Nat.le_of_lt (small1000 (by omega)), fun a ha =>
  q _ _ (s2.trans (same_new ha)) (.tup (ne_new (hw.same (s.trans s2)) ha) upd_same (hvs.bar (Bar.of (same_new ha))))⟩)
theorem md_lst (hw : Wl H p) (h : MkDs K p tl σ H ds) (hl : ds.length ≤ 1000) : MkD K p (tLst tl) σ H (.list ds) := fun H1 s Q q => sli (h H1 s _ fun vs H2 s2 hvs hlen => ⟨Nat.le_of_lt (small1000 (by omega)), fun a ha =>
  q _ _ (s2.trans (same_new ha)) (.lst (ne_new (hw.same (s.trans s2)) ha) upd_same (hvs.bar (Bar.of (same_new ha))))⟩)
theorem dps_rep {v : V} : ∀ (n : Nat) {H : Hp}, Dp K H v d → DpAll K H (List.replicate n v) (List.replicate n d)
  | 0, _, _ => .nil
  | n + 1, _, h => .cons h (dps_rep n h)
/-- (e,) * k -/
theorem md_repX {v : V} {k : Nat} {Q : VK} {H1 : Hp} (hw : Wl H1 p) (hx : ∀ H1 (Q : VK), Q v H1 → te σ H1 Q) (hy : ∀ H1 (Q : VK), Q (.int (k : Int)) H1 → ty σ H1 Q) (h1 : 1 ≤ k) (h2 : k ≤ 1000)
    (q : ∀ a H2, Same H1 H2 → a ≠ p → H2 a = some (.tup (List.replicate k v)) → Q (.ref a) H2) : tOp (rRepN K) (tTup (tCons te tNil)) ty σ H1 Q := by
  refine sop (stu (scn (hx _ _ (snl ⟨Nat.le_of_lt (small1000 (Nat.le_of_ble_eq_true rfl)), fun a ha => hy _ _ ?_⟩))))
  have s1 : Same H1 (upd H1 a (.tup [v])) := same_new ha
  have na : a ≠ p := ne_new hw ha
  by_cases k1 : k = 1
  · subst k1
    refine ⟨a, _, _, rfl, rfl, SqT.of upd_same, by simp, by omega, by omega, Nat.le_of_ble_eq_true rfl, fun _ => ?_, fun z => by omega⟩
    exact q _ _ s1 na upd_same
  · refine ⟨a, _, _, rfl, rfl, SqT.of upd_same, by simp, by omega, by omega, Nat.le_of_ble_eq_true rfl, fun z => by omega, fun _ b hb => ?_⟩
    have s2 := s1.trans (same_new (o := .tup (List.replicate (k : Int).toNat [v]).flatten) hb)
    refine q _ _ s2 (ne_new (hw.same s1) hb) ?_
    rw [upd_same, Int.toNat_natCast, List.flatten_replicate_singleton]
theorem md_rep {v : V} {k : Nat} (hw : Wl H p) (hv : ∀ H', Dp K H' v d) (hx : ∀ H1 (Q : VK), Q v H1 → te σ H1 Q) (hy : ∀ H1 (Q : VK), Q (.int (k : Int)) H1 → ty σ H1 Q) (h1 : 1 ≤ k) (h2 : k ≤ 1000) :
    MkD K p (tOp (rRepN K) (tTup (tCons te tNil)) ty) σ H (.tuple (List.replicate k d)) := fun H1 s Q q =>
  md_repX (hw.same s) hx hy h1 h2 fun a H2 s2 na e => q _ _ s2 (.tup na e fun H' _ => dps_rep k (hv H'))
/-- list(t) -/
theorem md_list {a : Addr} {xs : List V} (hw : Wl H p) (h : σ[i]? = some (some (.ref a))) (ha : H a = some (.tup xs)) (hd : DpsN K p H xs ds) : MkD K p (tCB (fun xs H Q => ∃ p ys, xs = [.ref p] ∧ (SqL K H p ys ∨ SqT K H p ys) ∧ ∀ l, H l = none → Q (.ref l) (upd H l (.lst ys))) (tCons (tVar i) tNil)) σ H (.list ds) := fun H1 s Q q =>
  scB (scn (sv h (snl ⟨a, xs, rfl, .inr (SqT.of (s _ _ ha)), fun l hl => q _ _ (same_new hl) (.lst (ne_new (hw.same s) hl) upd_same (hd.bar (Bar.of (s.trans (same_new hl)))))⟩)))
/-- t + (e,) -/
theorem md_cat {a : Addr} {xs : List V} {e : PyData} (hw : Wl H p) (h : σ[i]? = some (some (.ref a))) (ha : H a = some (.tup xs)) (hd : DpsN K p H xs ds) (hx : xs ≠ []) (hl : xs.length ≤ 900) (ht : MkDs K p tl σ H [e]) :
    MkD K p (tOp (rCatA K) (tVar i) (tTup tl)) σ H (.tuple (ds ++ [e])) := fun H1 s Q q => by
  refine sop (sv h (stu (ht H1 s _ fun vs H2 s2 hvs hlen => ⟨Nat.le_of_lt (small1000 (by rw [hlen]; exact Nat.le_of_ble_eq_true rfl)), fun b hb => ?_⟩)))
  have s3 := s2.trans (same_new (o := .tup vs) hb)
  match vs, hlen, hvs with
  | [v], _, hvs =>
    refine s_catA (SqT.of ((s.trans s3) _ _ ha)) (SqT.of upd_same) hx (by simp) (by simp; omega) fun c hc => ?_
    have s4 := s3.trans (same_new (o := .tup (xs ++ [v])) hc)
    refine q _ _ s4 (.tup (ne_new (hw.same (s.trans s3)) hc) upd_same fun H' b => ?_)
    have b1 : Bar p H2 H' := (Bar.of ((same_new hb).trans (same_new hc))).trans b
    have h1 := hd H' ((Bar.of (s.trans s4)).trans b)
    have h2 := hvs H' b1
    have ap : ∀ {vs us : List V} {ds es : List PyData}, DpAll K H' vs ds → DpAll K H' us es → DpAll K H' (vs ++ us) (ds ++ es) := fun {vs us ds es} k => by
      induction ds generalizing vs with
      | nil => cases k; exact id
      | cons d ds ih =>
        cases k with
        | cons k1 k2 => exact fun k3 => .cons k1 (ih k2 k3)
    exact ap h1 h2
/-! ### items -/
theorem mi_of (h : MkD K p te σ H d) : MkI K p te σ H (tupD d) := fun H1 s Q q => h H1 s Q fun v H2 s2 hv => q v H2 s2 hv.it
theorem mi_dct (hw : Wl H p) : MkI K p tDNewK σ H none := fun H1 s Q q a ha => q _ _ (same_new ha) fun H' b => it_dct (b _ _ (ne_new (hw.same s) ha) upd_same)
theorem mis_nil : MkIs K p tNil σ H [] := fun H1 _ Q q => q _ _ (Same.refl _) ⟨rfl, fun v hv => by cases hv⟩
theorem mis_cons (h : MkI K p te σ H o) (t : MkIs K p tl σ H os) : MkIs K p (tCons te tl) σ H (o :: os) := fun H1 s Q q => scn (h H1 s _ fun v H2 s2 hv => t H2 (s.trans s2) _ fun vs H3 s3 hvs =>
  q _ _ (s2.trans s3) (ItsN.append (.one (hv.bar (Bar.of s3))) hvs))
theorem s_lit {u : TS} {D : Ends} {σ : L2.St} (τ : L2.St) (e : σ = τ) (q : u D τ H) : u D σ H := by
  rw [e]
  exact q
theorem ssi_new {D : Ends} {u : TS} (hw : Wl H p) (h : MkIs K p tl σ H os) (hl : os.length ≤ 1000) (q : ∀ a vs H', Same H H' → a ≠ p → H' a = some (.lst vs) → ItsN K p H' vs os → u D (σ.set i (some (.ref a))) H') : tSeq (tAsg (tLst tl) (gName i)) u D σ H :=
  h H (Same.refl H) _ fun vs H2 s2 hvs => ⟨Nat.le_of_lt (small1000 (by rw [hvs.1]; exact hl)), fun a ha => q a vs _ (s2.trans (same_new ha)) (ne_new (hw.same s2) ha) upd_same (hvs.bar (Bar.of (same_new ha)))⟩
theorem ssi_cat {D : Ends} {u : TS} {a : Addr} {vs : List V} (hw : Wl H p) (hi : σ[i]? = some (some (.ref a))) (ha : H a = some (.lst vs)) (hvs : ItsN K p H vs os) (h : MkIs K p tl σ H qs) (hl : os.length + qs.length ≤ 1000)
    (q : ∀ b us H', Same H H' → b ≠ p → H' b = some (.lst us) → ItsN K p H' us (os ++ qs) → u D (σ.set i (some (.ref b))) H') : tSeq (tAsg (tOp rCat (tVar i) (tLst tl)) (gName i)) u D σ H := by
  refine ⟨_, hi, h H (Same.refl H) _ fun us H1 s1 hus => ⟨Nat.le_of_lt (small1000 (by rw [hus.1]; omega)), fun b hb => ?_⟩⟩
  have s2 : Same H (upd H1 b (.lst us)) := s1.trans (same_new hb)
  refine ⟨a, b, vs, us, rfl, rfl, s2 _ _ ha, upd_same, Nat.le_of_lt (small1000 (by rw [hvs.1, hus.1]; exact hl)), fun r hr => ?_⟩
  have s3 := s2.trans (same_new (o := .lst (vs ++ us)) hr)
  refine q r (vs ++ us) _ s3 (ne_new (hw.same s2) hr) upd_same ((hvs.bar (Bar.of s3)).append (hus.bar (Bar.of ((same_new hb).trans (same_new hr)))))
theorem si_cat {Q : VK} {a : Addr} {vs : List V} (hw : Wl H p) (hi : σ[i]? = some (some (.ref a))) (ha : H a = some (.lst vs)) (hvs : ItsN K p H vs os) (h : MkIs K p tl σ H qs) (hl : os.length + qs.length ≤ 1000)
    (q : ∀ b us H', Same H H' → b ≠ p → H' b = some (.lst us) → ItsN K p H' us (os ++ qs) → Q (.ref b) H') : tOp rCat (tVar i) (tLst tl) σ H Q := by
  refine ⟨_, hi, h H (Same.refl H) _ fun us H1 s1 hus => ⟨Nat.le_of_lt (small1000 (by rw [hus.1]; omega)), fun b hb => ?_⟩⟩
  have s2 : Same H (upd H1 b (.lst us)) := s1.trans (same_new hb)
  refine ⟨a, b, vs, us, rfl, rfl, s2 _ _ ha, upd_same, Nat.le_of_lt (small1000 (by rw [hvs.1, hus.1]; exact hl)), fun r hr => ?_⟩
  have s3 := s2.trans (same_new (o := .lst (vs ++ us)) hr)
  exact q r (vs ++ us) _ s3 (ne_new (hw.same s2) hr) upd_same ((hvs.bar (Bar.of s3)).append (hus.bar (Bar.of ((same_new hb).trans (same_new hr)))))
end
/-! ### rows that are none -/
section
variable {ns : List Str} {m : Int} {a b c d : PyData} {k : Str} {K : PySem.W.Frag} {p : Addr} {H : Hp}
theorem rT_set : rowT ns m [.str "set", a, b, c] = (varD ns a && (formD b ns.length && withinD c 0 (m - 1))) := by
  unfold rowT
  dsimp only
  rw [if_pos ⟨rfl, rfl⟩]
  rfl
theorem rT_ask : rowT ns m [.str "ask", a, b] = (varD ns a && withinD b 0 (m - 1)) := by
  unfold rowT
  dsimp only
  rw [if_neg (nand_ (by decide +kernel)), if_pos ⟨rfl, rfl⟩]
  rfl
theorem rT_say : rowT ns m [.str "say", a, b] = (formD a ns.length && withinD b 0 (m - 1)) := by
  unfold rowT
  dsimp only
  rw [if_neg (nand_ (by decide +kernel)), if_neg (nand_ (by decide +kernel)), if_pos ⟨rfl, rfl⟩]
  rfl
theorem rT_look : rowT ns m [.str "look", a] = withinD a 0 (m - 1) := by
  unfold rowT
  dsimp only
  rw [if_neg (nand_ (by decide +kernel)), if_neg (nand_ (by decide +kernel)), if_neg (nand_ (by decide +kernel)), if_pos ⟨rfl, rfl⟩]
  rfl
theorem rT_choose : rowT ns m [.str "choose", a] = nextsD a 1 6 m := by
  unfold rowT
  dsimp only
  rw [if_neg (nand_ (by decide +kernel)), if_neg (nand_ (by decide +kernel)), if_neg (nand_ (by decide +kernel)), if_neg (nand_ (by decide +kernel)), if_pos ⟨rfl, rfl⟩]
  rfl
/-- a kind with another number of parts -/
def kindN (k : Str) (n : Nat) : Bool := (k == "set" && n == 3) || (k == "ask" && n == 2) || (k == "say" && n == 2) || (k == "look" && n == 1) || (k == "choose" && n == 1) || (k == "stop" && n == 0)
theorem rT_odd {ds : List PyData} (n : Nat) (hn : ds.length = n) (hb : kindN k n = false) : rowT ns m (.str k :: ds) = false := by
  subst hn
  unfold kindN at hb
  simp only [Bool.or_eq_false_iff, Bool.and_eq_false_iff, beq_eq_false_iff_ne] at hb
  obtain ⟨⟨⟨⟨⟨h1, h2⟩, h3⟩, h4⟩, h5⟩, h6⟩ := hb
  have nn : ∀ {x y : Str} {a b : Nat}, x ≠ y ∨ a ≠ b → ¬ (x = y ∧ a = b) := fun h z => h.elim (fun q => q z.1) fun q => q z.2
  unfold rowT
  dsimp only
  rw [if_neg (nn h1), if_neg (nn h2), if_neg (nn h3), if_neg (nn h4), if_neg (nn h5), decA, decide_eq_false (nn h6)]
theorem rowT_more {r : LRow} : rowT ns m (r.ds ++ [.none]) = false := by
  cases r with
  | set n f k => exact rT_odd 4 rfl (by decide +kernel)
  | say f k => exact rT_odd 3 rfl (by decide +kernel)
  | ask n k => exact rT_odd 3 rfl (by decide +kernel)
  | choose ks => exact rT_odd 2 rfl (by decide +kernel)
  | look k => exact rT_odd 2 rfl (by decide +kernel)
  | stop => exact rT_odd 1 rfl (by decide +kernel)
theorem row_dps {v : V} {r : LRow} (hw : Wl H p) (h : RowH H v r) : ∃ a xs, v = .ref a ∧ H a = some (.tup xs) ∧ DpsN K p H xs r.ds ∧ xs ≠ [] ∧ xs.length ≤ 4 := by
  have ts : ∀ H', Bar p H H' → Ts H H' := fun H' b a xs e => b _ _ (ne_well hw e fun _ _ _ z => by cases z) e
  cases r with
  | set n f k =>
    obtain ⟨a, b, rfl, h1, h2⟩ := h
    exact ⟨a, _, rfl, h1, fun H' q => .cons (.str _) (.cons (.str _) (.cons (dt_intsT (ts H' q _ _ h2)).dp (.cons (.int _) .nil))), by simp, by simp⟩
  | say f k =>
    obtain ⟨a, b, rfl, h1, h2⟩ := h
    exact ⟨a, _, rfl, h1, fun H' q => .cons (.str _) (.cons (dt_intsT (ts H' q _ _ h2)).dp (.cons (.int _) .nil)), by simp, by simp⟩
  | ask n k =>
    obtain ⟨a, rfl, h1⟩ := h
    exact ⟨a, _, rfl, h1, fun H' q => .cons (.str _) (.cons (.str _) (.cons (.int _) .nil)), by simp, by simp⟩
  | choose ks =>
    obtain ⟨a, b, rfl, h1, h2⟩ := h
    exact ⟨a, _, rfl, h1, fun H' q => .cons (.str _) (.cons (dt_intsT (ts H' q _ _ h2)).dp .nil), by simp, by simp⟩
  | look k =>
    obtain ⟨a, rfl, h1⟩ := h
    exact ⟨a, _, rfl, h1, fun H' q => .cons (.str _) (.cons (.int _) .nil), by simp, by simp⟩
  | stop =>
    obtain ⟨a, rfl, h1⟩ := h
    exact ⟨a, _, rfl, h1, fun H' q => .cons (.str _) .nil, by simp, by simp⟩
end
end Lk

namespace Lk
open PySem PySem.Spec PyProof.Rows L2 RZ
section
variable {K : PySem.W.Frag} {a b : Addr} {xs ys : List V} {H : Hp} {σ : L2.St}
theorem walk_zipT (hl : xs.length = ys.length) : Walk (ItzT K a b) xs.length (fun H => SqT K H a xs ∧ SqT K H b ys) (YPair (fun i => xs[i]?) (fun i => ys[i]?)) :=
  ⟨fun i _ hi q => ⟨xs, ys, xs[i], ys[i]'(by omega), q.1, q.2, by simp [hi], by simp [hl ▸ hi]⟩, fun _ q => ⟨xs, ys, q.1, q.2, .inl (Nat.le_refl _)⟩, fun i H v H' _ q ⟨T, x, y, h1, h2, h3, h4, h5⟩ => ⟨T, x, y, h1, h2, h3, h4 xs q.1, h5 ys q.2⟩⟩
/-- [e for x, y in zip(t, u)], two tuples of numbers -/
theorem tlc_zipT {fs gs : List Int} {f : Int → Int → Int} {i j p q : Nat} {te : TE} {vs : List Nat} {Q : VK} (hi : σ[i]? = some (some (.ref a))) (hj : σ[j]? = some (some (.ref b))) (ha : SqT K H a (fs.map V.int)) (hb : SqT K H b (gs.map V.int)) (hl : fs.length = gs.length) (h3 : fs.length ≤ 1000)
    (hw : ∀ x y, wipe (((wipe σ vs).set p (some x)).set q (some y)) vs = wipe σ vs)
    (he : ∀ (x y : Int) (H' : Hp) (R : VK), x ∈ fs → R (.int (f x y)) H' → te (((wipe σ vs).set p (some (.int x))).set q (some (.int y))) H' R)
    (k : ∀ D H', Same H H' → H' D = some (.lst ((List.zipWith f fs gs).map V.int)) → Q (.ref D) H') : tLc (iZipA K (tCons (tVar i) (tCons (tVar j) tNil))) (gTup K 2 (gCons (gName p) (gCons (gName q) gNil))) tYes te vs σ H Q := by
  refine ⟨_, hi, _, hj, a, b, _, _, rfl, .inr ⟨ha, hb, fun D hD => ?_⟩⟩
  refine lc_it (walk_zipT (K := K) (a := a) (b := b) (xs := fs.map V.int) (ys := gs.map V.int) (by rw [List.length_map, List.length_map]; exact hl)) (fun n H' => Same H H' ∧ H' D = some (.lst (((List.zipWith f fs gs).take n).map V.int))) ⟨same_new hD, upd_same⟩ (fun n H' _ h => ⟨same_sqT h.1 ha, same_sqT h.1 hb⟩) (fun n v H1 H' hn h hy => ?_) (fun H' h => ?_)
  · obtain ⟨T, x, y, rfl, hT, rfl, e1, e2⟩ := hy
    rw [List.length_map] at hn
    have hn2 : n < gs.length := by omega
    dsimp only at e1 e2
    rw [List.getElem?_map, List.getElem?_eq_getElem hn] at e1
    rw [List.getElem?_map, List.getElem?_eq_getElem hn2] at e2
    cases e1
    cases e2
    obtain ⟨s1, hl1⟩ := h
    refine g_pair (SqT.of upd_same) ⟨hw _ _, ?_⟩
    have s2 : Same H1 (upd H1 T (.tup [.int fs[n], .int gs[n]])) := same_new hT
    have l2 := s2 _ _ hl1
    have s3 := s1.trans s2
    generalize upd H1 T (.tup [.int fs[n], .int gs[n]]) = H2 at s2 l2 s3 ⊢
    unfold tYes
    simp only [if_true]
    refine he _ _ _ _ (List.getElem_mem hn) ⟨_, l2, ?_, fun c o e => ?_, ?_⟩
    · rw [List.length_map, List.length_take, List.length_zipWith]
      exact small1000 (by omega)
    · rw [upd_ne (ne_of_none e hD)]
      exact s3 _ _ e
    · rw [upd_same, List.take_succ, List.getElem?_eq_getElem (by rw [List.length_zipWith]; omega), List.getElem_zipWith, List.map_append]
      rfl
  · rw [List.length_map] at h
    rw [List.take_of_length_le (by rw [List.length_zipWith]; omega)] at h
    exact k D H' h.1 h.2
/-- [f(i) for i in range(n)], only objects made -/
theorem tlc_rangeC {β : Type} {lo : Int} {n k : Nat} {te : TE} {vs : List Nat} {Qd : Hp → Prop} {D : Addr} (Rout : Hp → V → β → Prop) (f : Nat → β) (oS : ∀ {H H' v x}, Ts H H' → Rout H v x → Rout H' v x) (hD : H D = none) (h3 : n ≤ 1000)
    (hw : ∀ x, wipe ((wipe σ vs).set k (some x)) vs = wipe σ vs)
    (he : ∀ (i : Nat) (H' : Hp), i < n → Same H H' → ∀ R : VK, (∀ u H'', Same H' H'' → Rout H'' u (f i) → R u H'') → te ((wipe σ vs).set k (some (.int (lo + (i : Int))))) H' R)
    (q : ∀ ys H', Same H H' → H' D = some (.lst ys) → F2 (Rout H') ys ((List.range n).map f) → Qd H') :
    ∃ W : Nat → Nat → Hp → Prop, (∃ m, W 0 m (upd H D (.lst []))) ∧ ∀ i m H, W i m H → ((Itr lo n).stop i H ∧ Qd H) ∨ ((Itr lo n).go i H ∧ ∃ Nx : Hp → Prop, (∀ H', Nx H' → ∃ m', m' < m ∧ W (i + 1) m' H') ∧ ∀ x H', (Itr lo n).yld i H x H' → gName k x (wipe σ vs) H' fun σ2 H2 => wipe σ2 vs = wipe σ vs ∧ tYes σ2 H2 fun b H3 =>
        if b = true then te σ2 H3 fun y H4 => ∃ ac, H4 D = some (.lst ac) ∧ ac.length < sizeLine ∧ Nx (upd H4 D (.lst (ac ++ [y]))) else Nx H3) := by
  refine lc_range (lo := lo) (n := n) (fun i H' => Same H H' ∧ ∃ ys, H' D = some (.lst ys) ∧ F2 (Rout H') ys ((List.range i).map f)) ⟨same_new hD, [], upd_same, .nil⟩ ?_ ?_
  · rintro i H' hi ⟨s1, ys, hys, hrs⟩
    have hlen := hrs.len
    refine ⟨hw _, ?_⟩
    unfold tYes
    simp only [if_true]
    refine he i H' hi s1 _ fun u H2 s2 hu => ⟨ys, s2 _ _ hys, ?_, fun b o e => ?_, _, upd_same, ?_⟩
    · rw [hlen, List.length_map, List.length_range]
      exact small1000 (by omega)
    · rw [upd_ne (ne_of_none e hD)]
      exact s2 _ _ (s1 _ _ e)
    · have t1 : Ts H2 (upd H2 D (.lst (ys ++ [u]))) := Ts.lst (s2 _ _ hys)
      rw [List.range_succ, List.map_append]
      exact (hrs.mono fun v b h => oS t1 (oS (Ts.of s2) h)).append (.cons (oS t1 hu) .nil)
  · rintro H' ⟨s1, ys, h1, h2⟩
    exact q ys H' s1 h1 h2
/-- tuple(l) of a new list -/
theorem s_tupL {D : Addr} {R : VK} (hx : H D = some (.lst xs)) (q : ∀ p H', Same H H' → H p = none → H' p = some (.tup xs) → R (.ref p) H') : rTupOf K [V.ref D] H R :=
  ⟨D, xs, rfl, .inl ⟨SqL.of hx, fun l hl => q l _ (same_new hl) hl upd_same⟩⟩
/-- t[:i], t[i:] of a tuple, i within it -/
theorem s_takeT {t : Addr} {i : Nat} {R : VK} (ht : SqT K H t xs) (hi : i < xs.length) (q : ∀ p, H p = none → R (.ref p) (upd H p (.tup (xs.take i)))) : rSlA K (.ref t) none (some (i : Int)) H R :=
  ⟨t, xs, rfl, ht, fun z => by
    have := z.2
    rw [sIx_take hi] at this
    omega, fun _ p hp => by
    rw [cut_take hi]
    exact q p hp⟩
theorem s_dropT {t : Addr} {i : Nat} {R : VK} (ht : SqT K H t xs) (h1 : 1 ≤ i) (hi : i ≤ xs.length) (hx : xs ≠ []) (q : ∀ p, H p = none → R (.ref p) (upd H p (.tup (xs.drop i)))) : rSlA K (.ref t) (some (i : Int)) none H R :=
  ⟨t, xs, rfl, ht, fun z => by
    have := z.1
    rw [HT.sIx_nat] at this
    have hl : 0 < xs.length := List.length_pos_iff.mpr hx
    omega, fun _ p hp => by
    rw [cut_drop hi]
    exact q p hp⟩
theorem s_cat2 {t u : Addr} {ys : List V} {R : VK} (ht : SqT K H t xs) (hu : SqT K H u ys) (hx : xs ≠ []) (hl : xs.length + ys.length ≤ 1000) (h0 : ys = [] → ∀ Q : Prop, (H t = some (.tup xs) → Q) → Q)
    (q : ∀ p H', Same H H' → H' p = some (.tup (xs ++ ys)) → R (.ref p) H') : rCatA K (.ref t) (.ref u) H R :=
  ⟨t, u, xs, ys, rfl, rfl, ht, hu, Nat.le_of_lt (small1000 hl), fun e => absurd e hx, fun _ e => by
    refine h0 e _ fun e2 => q t H (Same.refl _) ?_
    rw [e, List.append_nil]
    exact e2, fun _ _ p hp => q p _ (same_new hp) upd_same⟩
end
end Lk

namespace Lk
open PySem PySem.Spec PyProof.Rows L2
/-! ### tuples that are made with no dictionary of their own: their methods can be called -/
def TzH (H : Hp) (p : Addr) : Prop := ∃ (o : Obj) (xs : List V), H p = some (.frz o (.tup xs)) ∧ o.cls = .type "tuple" ∧ o.dict = none
theorem TzH.same {H H' : Hp} (s : Same H H') {p : Addr} (h : TzH H p) : TzH H' p := by
  obtain ⟨o, xs, h1, h2, h3⟩ := h
  exact ⟨o, xs, s _ _ h1, h2, h3⟩
theorem TzH.lc {H H' : Hp} (s : Lc H H') {p : Addr} (h : TzH H p) : TzH H' p := by
  obtain ⟨o, xs, h1, h2, h3⟩ := h
  exact ⟨o, xs, s _ _ h1 (fun ys e => by cases e), h2, h3⟩
theorem TzH.bar {x C dx : Addr} {fs : List (Str × V)} {H H' : Hp} (s : Bar x H H') (hx : H x = some (.ins C dx fs)) {p : Addr} (h : TzH H p) : TzH H' p := by
  obtain ⟨o, xs, h1, h2, h3⟩ := h
  exact ⟨o, xs, s _ _ (fun z => by rw [z, hx] at h1; cases h1) h1, h2, h3⟩
def rTupFz (K : PySem.W.Frag) : List V → Hp → VK → Prop := fun xs H Q => ∃ p ys, xs = [.ref p] ∧ SqL K H p ys ∧ ∀ l o, H l = none → o.cls = .type "tuple" → o.dict = none → Q (.ref l) (upd H l (.frz o (.tup ys)))
section
variable {X : Cx}
theorem call_tupFz : CallR X (.type "tuple") (rTupFz X.K) := by
  intro pins s σ H xs us Q I r h
  obtain ⟨p, ys, rfl, hsq, q⟩ := h
  obtain ⟨u, rfl, rx⟩ := vals1 r
  cases rx
  obtain ⟨its, r', pl, hz⟩ := I.list hsq
  have hlen := r'.length
  refine call_tuple_list pl.isList (fun hp2 kp => ?_) (by simp only [List.size_toArray]; omega)
  have I1 : L2.Inv X pins σ H { s with heap := hp2 } := I.kept (t' := s.toks) kp
  have I2 : L2.Inv X pins σ (upd H hp2.objs.size (.frz { cls := .type "tuple", data := .seq its.toArray } (.tup ys))) { s with heap := hp2.push { cls := .type "tuple", data := .seq its.toArray } } :=
    I1.laid (t' := s.toks) (fun b o e => Heap.get?_push_of_some _ e) (Nat.le_refl _) (show ObjOk X.prog X.w _ _ _ (.frz _ (.tup ys)) from ⟨Heap.get?_push_size _ rfl, hz, its, r', IsTup.new _ _⟩)
  exact ⟨.ref hp2.objs.size, _, I2, rfl, q _ _ (I1.hok.fresh (Nat.le_refl _)) rfl rfl⟩
/-- o.m(..) of such a tuple -/
def tBMz (r : V → List V → Hp → VK → Prop) (to : TE) (t : TA) : TE := fun σ H Q => to σ H fun x H1 => (∃ p, x = .ref p ∧ TzH H1 p) ∧ t σ H1 fun xs H2 => r x xs H2 Q
theorem pe_bmz {o e : Expr} {es : List Expr} {to : TE} {t : TA} {name : Str} {apos cpos : Pos} {id : String} {r : V → List V → Hp → VK → Prop} (pa : PlainAttrs "tuple") (slot : Slot "tuple" name id) (hty : typeOf (.builtin id) = pure (.type "method_descriptor")) (hm : MtR X id r)
    (ho : PE X o to) (ha : PA X (e :: es) t) (hbase : attributeBase o name X.env (eval o X.env) = eval o X.env := by rfl)
    (hfew : (((backTo cpos (starEach (e :: es) X.env)).all (fun x => !x.1)) && ((backToKw cpos (keywordEach [] X.env)).all (fun x => x.1.isSome)) && decide (((e :: es).length + ([] : List Keyword).length + if ([] : List Keyword).isEmpty then 0 else 1) < 30)) = true := by rfl)
    (hline : (apos.endLine == cpos.line) = true := by rfl) (hs : starEach (e :: es) X.env = (false, eval e X.env) :: starEach es X.env := by rfl) (hplain : ((backTo cpos (starEach es X.env)).any (fun x => x.1)) = false := by rfl) : PE X (.Call (.Attribute o name apos) (e :: es) [] cpos) (tBMz r to t) := by
  refine ⟨fun pins s σ H Q I h => ?_⟩
  refine wpAny_Call_method_late hbase hfew hline rfl (thn (ho.run pins s σ H (fun x H1 => (∃ p, x = .ref p ∧ TzH H1 p) ∧ t σ H1 fun xs H2 => r x xs H2 Q) I h) fun v s1 x => ?_)
  obtain ⟨x, H1, I1, r1, ⟨p, rfl, ob, ys, hp, hc, hd⟩, q1⟩ := x
  cases r1
  have hob : s1.heap.get? p = some ob := (show ObjOk X.prog X.w H1 s1.heap p (.frz ob (.tup ys)) from I1.hok _ _ hp).1
  refine ⟨"tuple", id, pa, slot, hty, ⟨ob, hob, hc⟩, fun a e => by cases e; exact ⟨ob, hob, hd⟩, ?_⟩
  have hA := ha.run cpos pins s1 σ H1 (fun xs H2 => r (.ref p) xs H2 Q) I1 q1
  rw [hs] at hA ⊢
  refine Calls.callWith_builtin (by
    refine (congrArg (fun z => (false || z)) hplain).trans rfl) (Calls.evalArgs_plain (thn hA fun us s2 x => ?_))
  obtain ⟨vs, H2, I2, r2, q2⟩ := x
  exact hm pins s2 σ H2 (.ref p) vs (.ref p) us Q I2 rfl r2 q2
end
/-- a field, within a comprehension -/
theorem pe_fldB {X : Cx} {K : PySem.W.Frag} {e : Expr} {f : Str} {pos : Pos} {ta : TE} (ho : PE X e ta) (hb : attributeBase e f X.env (eval e X.env) = eval e X.env) (hK : X.K = K) : PE X (e.Attribute f pos) (tFld K ta f) := by
  subst hK
  exact pe_fld ho hb
section
variable {K : PySem.W.Frag} {H : Hp} {a : Addr} {xs : List V} {σ : L2.St}
theorem s_tupFz {R : VK} (hx : SqL K H a xs) (q : ∀ p H', Same H H' → SqT K H' p xs → TzH H' p → R (.ref p) H') : rTupFz K [V.ref a] H R :=
  ⟨a, xs, rfl, hx, fun l o hl h1 h2 => q l _ (same_new hl) (.inl (.inr ⟨o, upd_same⟩)) ⟨o, xs, upd_same, h1, h2⟩⟩
theorem sbz {r : V → List V → Hp → VK → Prop} {to : TE} {t : TA} {Q : VK} (q : to σ H fun x H1 => (∃ p, x = .ref p ∧ TzH H1 p) ∧ t σ H1 fun xs H2 => r x xs H2 Q) : tBMz r to t σ H Q := q
end
/-- a program whose variables are such a tuple -/
def VzH (H : Hp) (x : Addr) : Prop := ∃ (C dx : Addr) (w tv tr : V) (z : Addr), H x = some (.ins C dx [("width", w), ("variables", tv), ("rows", tr)]) ∧ tv = .ref z ∧ TzH H z
theorem VzH.same {H H' : Hp} (s : Same H H') {x : Addr} (h : VzH H x) : VzH H' x := by
  obtain ⟨C, dx, w, tv, tr, z, h1, h2, h3⟩ := h
  exact ⟨C, dx, w, tv, tr, z, s _ _ h1, h2, h3.same s⟩
theorem VzH.lc {H H' : Hp} (s : Lc H H') {x : Addr} (h : VzH H x) : VzH H' x := by
  obtain ⟨C, dx, w, tv, tr, z, h1, h2, h3⟩ := h
  exact ⟨C, dx, w, tv, tr, z, s _ _ h1 (fun ys e => by cases e), h2, h3.lc s⟩
end Lk

namespace Lk
open PySem PySem.Spec PyProof.Rows L2
/-- an own error with one field, as the top has left it -/
structure Ec1 (P : Program) (w : World) (K : PySem.W.Frag) (mg : Str → Option Value) (base : Heap) (x : Str) (B C : Addr) (f : Str) : Prop where
  k : ErK K mg x C B
  i : ∃ fI fd, PySem.W.findIn K (.ref C) "__init__" = some (some (.ref fI)) ∧ PySem.W.typeIn K (.ref fI) = some (.type "function") ∧ FnOk P w K mg base CX0 1 fI fd ["self", f] (spI1 C f) ∧ Binds K fd ["self", f] []
  hd : PySem.W.hasDictIn K C = true
  nf : PySem.W.findIn K (.ref C) f = some none
theorem Ec1.xf {P : Program} {w : World} {K : PySem.W.Frag} {mg : Str → Option Value} {base : Heap} {x : Str} {B C : Addr} {f : Str} (E : Ec1 P w K mg base x B C f) : XfC K C := ⟨E.k.ek.ga, E.k.ek.gt, E.k.ek.su, E.hd⟩
/-- what is left to show once the error's field is there -/
def rzQ (C : Addr) (f : Str) (W : WX) (σ : L2.St) (vs : List V) (H : Hp) : Prop := vs.length ≤ 1000 ∧ ∀ a, H a = none → spI1 C f (.ref a :: (vs ++ [])) (upd H a (exo a C none))
  (fun v H2 => v = .non ∧ ∃ (d : Addr) (fs : List (Str × V)), H2 a = some (exo a C (some d)) ∧ H2 d = some (exd d fs) ∧ H d = none ∧ W (.ref C) (some d) σ (upd (del H2 a) d (.xd fs))) (fun _ _ _ => False)
def tRz1 (C : Addr) (f : Str) (W : WX) (t : TA) : TS := fun _ σ H => t σ H fun vs H1 => rzQ C f W σ vs H1
theorem srz1 {C : Addr} {f : Str} {W : WX} {t : TA} {D : Ends} {σ : L2.St} {H : Hp} (q : t σ H fun vs H1 => rzQ C f W σ vs H1) : tRz1 C f W t D σ H := q
theorem s_rz1 {C : Addr} {f : Str} {W : WX} {σ : L2.St} {H : Hp} {x : V} (q : ∀ d H', Same H H' → H' d = some (.xd [(f, x)]) → W (.ref C) (some d) σ H') : rzQ C f W σ [x] H := by
  refine ⟨Nat.le_of_ble_eq_true rfl, fun a ha => ⟨a, x, rfl, upd_same, fun d H2 hd hne e1 e2 e3 => ⟨rfl, d, _, e1, e2, by rwa [upd_ne hne] at hd, q d _ (fun b o e => ?_) upd_same⟩⟩⟩
  have nb : b ≠ a := ne_of_none e ha
  have nd : b ≠ d := fun z => by
    rw [z] at e
    rw [upd_ne hne, e] at hd
    cases hd
  rw [upd_ne nd, del_ne nb, e3 b nb nd, upd_ne nb]
  exact e
section
variable {X : Cx} {x : Str} {B C : Addr} {f : Str} {e : Expr} {es : List Expr} {t : TA} {p pos pos2 : Pos} {W : WX} {j : Nat}
theorem ps_rz1 (E : Ec1 X.prog X.w X.K X.mg X.base x B C f) (hr : Room j X.A) (hj : 2 ≤ j) (tk : Takes X W) (ha : PA X (e :: es) t) (hc : X.calm = true := by rfl) (hg : Gl X x := by rfl)
    (hdb : (x == ("__debug__" : Str)) = false := by decide) (he : starEach (e :: es) X.env = (false, eval e X.env) :: starEach es X.env := by rfl) (hpl : (backTo pos (starEach es X.env)).any (·.1) = false := by rfl) :
    PS X (.Raise (some (.Call (.Name x p) (e :: es) [] pos)) none pos2) (tRz1 C f W t) := by
  obtain ⟨fI, fd, h1, h2, F, b⟩ := E.i
  exact ps_raise hc tk (pmk_oex E.k.ox h1 h2 F (hr.mono hj) b .nil pass0 hg E.k.g ha hdb he hpl)
end
end Lk

namespace Lk
open PySem PySem.Spec PyProof.Rows L2
/-! ### data of any kind, an empty dict among them -/
inductive Dg (K : PySem.W.Frag) (H : Hp) : V → PyData → Prop
  | dp {v : V} {d : PyData} (h : Dp K H v d) : Dg K H v d
  | dct {a : Addr} (h : H a = some (.dK [])) : Dg K H (.ref a) (.dict [])
section
variable {K : PySem.W.Frag} {H H' : Hp}
theorem Dg.same (s : Same H H') {v : V} {d : PyData} (h : Dg K H v d) : Dg K H' v d := by
  cases h with
  | dp h => exact .dp (dp_same s h)
  | dct h => exact .dct (s _ _ h)
theorem Dg.ty {v : V} {d : PyData} (h : Dg K H v d) : TyX K H v (.type (tyn d)) := by
  cases h with
  | dp h => exact tyx_dp h
  | dct h => exact .base (.dK h)
theorem Dg.int {v : V} {i : Int} (h : Dg K H v (.int i)) : v = .int i := by
  cases h with
  | dp h => cases h; rfl
theorem s_isiG {v : V} {d : PyData} {n : String} {b : Bool} {Q : VK} (h : Dg K H v d) (e : kitB (tyn d) n = some b) (q : Q (.bl b) H) : rIsi K [v, .ty n] H Q := ⟨v, _, _, _, b, rfl, .ty n, h.ty, kit_ty e, q⟩
theorem dg_all (s : Same H H') {xs : List V} {ds : List PyData} (h : F2 (Dg K H) xs ds) : F2 (Dg K H') xs ds := h.mono fun _ _ z => z.same s
theorem dg_ints : ∀ xs : List Int, F2 (Dg K H) (xs.map V.int) (xs.map PyData.int)
  | [] => .nil
  | x :: xs => .cons (.dp (.int x)) (dg_ints xs)
/-! ### a list or a tuple of such data, or none -/
inductive Nv (K : PySem.W.Frag) (H : Hp) : V → Option (List PyData) → Prop
  | seq {p : Addr} {xs : List V} {ds : List PyData} (h : SqE K H p xs) (hd : F2 (Dg K H) xs ds) : Nv K H (.ref p) (some ds)
  | no {v : V} {d : PyData} (h : Dg K H v d) (h1 : isListD d = false) (h2 : isTupD d = false) : Nv K H v none
theorem Nv.same (s : Same H H') {v : V} {o : Option (List PyData)} (h : Nv K H v o) : Nv K H' v o := by
  cases h with
  | seq h hd => exact .seq (h.same s) (dg_all s hd)
  | no h h1 h2 => exact .no (h.same s) h1 h2
theorem tyx_sqE {p : Addr} {xs : List V} (h : SqE K H p xs) : TyX K H (.ref p) (.type "list") ∨ TyX K H (.ref p) (.type "tuple") := by
  rcases h with h | h
  · rcases h with (e | ⟨o, e⟩) | ⟨o, its, n, e, c, _⟩
    · exact .inl (.base (.lst e))
    · exact .inl (.base (.frz e))
    · exact .inl (.kList e c)
  · rcases h with (e | ⟨o, e⟩) | ⟨o, its, n, e, c, _⟩
    · exact .inr (.base (.tup e))
    · exact .inr (.fTuple e)
    · exact .inr (.kTuple e c)
/-- isinstance(v, (list, tuple)) -/
theorem s_isiNv {v : V} {o : Option (List PyData)} {t : Addr} {Q : VK} (h : Nv K H v o) (ht : H t = some (.tup [.ty "list", .ty "tuple"])) (q : Q (.bl o.isSome) H) : rIsiT K [v, .ref t] H Q := by
  cases h with
  | seq h hd =>
    rcases tyx_sqE h with z | z
    · exact ⟨_, t, _, _, _, true, rfl, ht, .cons (.ty _) (.cons (.ty _) .nil), z, ki_lt (.list []), q⟩
    · exact ⟨_, t, _, _, _, true, rfl, ht, .cons (.ty _) (.cons (.ty _) .nil), z, ki_lt (.tuple []), q⟩
  | no h h1 h2 =>
    exact ⟨_, t, _, _, _, false, rfl, ht, .cons (.ty _) (.cons (.ty _) .nil), h.ty, by rw [ki_lt, h1, h2]; rfl, q⟩
end
end Lk

namespace Lk
open PySem PySem.Spec PyProof.Rows L2 LamX
/-! ### lambdas: all but the tables stays -/
section
variable {K : PySem.W.Frag} {H H1 H2 : Hp} {p a : Addr} {xs : List V} {T : List (Addr × Str)}
theorem ext_lst (e : ExtN H H1) (h : H a = some (.lst xs)) : H1 a = some (.lst xs) := e _ _ h (fun _ z => by cases z)
theorem ext_ts (e : ExtN H H1) : Ts H H1 := fun b ys h => e _ _ h (fun _ z => by cases z)
theorem ext_lc (e : ExtN H H1) (n : ∀ b ps, H b ≠ some (.tbl ps)) : Lc H H1 := fun b o h _ => e _ _ h (fun ps z => n b ps (by rw [h, z]))
theorem ext_sqT (e : ExtN H H1) (h : SqT K H a xs) : SqT K H1 a xs := by
  rcases h with (z | ⟨o, z⟩) | z
  · exact .inl (.inl (e _ _ z (fun _ y => by cases y)))
  · exact .inl (.inr ⟨o, e _ _ z (fun _ y => by cases y)⟩)
  · exact .inr z
theorem ext_sqL (e : ExtN H H1) (h : SqL K H a xs) : SqL K H1 a xs := by
  rcases h with (z | ⟨o, z⟩) | z
  · exact .inl (.inl (e _ _ z (fun _ y => by cases y)))
  · exact .inl (.inr ⟨o, e _ _ z (fun _ y => by cases y)⟩)
  · exact .inr z
theorem ext_sqE (e : ExtN H H1) (h : SqE K H a xs) : SqE K H1 a xs := h.imp (ext_sqL e) (ext_sqT e)
theorem ext_prog {C x : Addr} {k : Nat} {ns : List Str} {rs : List LRow} (e : ExtN H H1) (h : ProgO K C H x k ns rs) : ProgO K C H1 x k ns rs := by
  obtain ⟨dx, tv, tr, vs, h1, h2, h3, h4⟩ := h
  exact ⟨dx, tv, tr, vs, e _ _ h1 (fun _ z => by cases z), ext_sqT e h2, ext_sqT e h3, h4.ts (ext_ts e)⟩
theorem ext_vz {x : Addr} (e : ExtN H H1) (h : VzH H x) : VzH H1 x := by
  obtain ⟨C, dx, w, tv, tr, z, h1, h2, o, ys, h3, h4, h5⟩ := h
  exact ⟨C, dx, w, tv, tr, z, e _ _ h1 (fun _ y => by cases y), h2, o, ys, e _ _ h3 (fun _ y => by cases y), h4, h5⟩
theorem ext_wl (e : ExtN H H1) (w : Wl H p) : Wl H1 p := by
  obtain ⟨x, y, z, h⟩ := w
  exact ⟨x, y, z, ext_lst e h⟩
theorem tabS_keep {P : Addr} {q : Str} (t : TabS H P q) (e : ∀ b o, H b = some o → (∀ ys, o ≠ .lst ys) → H1 b = some o) : TabS H1 P q := by
  obtain ⟨ps, h1, h2, h3⟩ := t
  refine ⟨ps, e _ _ h1 (fun _ z => by cases z), h2, fun pos cv hc => ?_⟩
  obtain ⟨c, e1, e2⟩ := h3 pos cv hc
  exact ⟨c, e1, e _ _ e2 (fun _ z => by unfold CodeO at z; cases z)⟩
theorem tabs_lc (t : Tabs T H) (e : Lc H H1) : Tabs T H1 := fun q hq => tabS_keep (t q hq) e
theorem tabs_same (t : Tabs T H) (s : Same H H1) : Tabs T H1 := tabs_lc t (Lc.of s)
theorem tabs_wk (t : Tabs T H) (w : Wl H p) (s : Wk p H H1) : Tabs T H1 := tabs_lc t (Lc.wk w s)
/-- all but one list and the tables stays -/
def Em (p : Addr) (H H' : Hp) : Prop := ∀ b o, b ≠ p → H b = some o → (∀ ps, o ≠ .tbl ps) → H' b = some o
theorem Em.ext (e : ExtN H H1) : Em p H H1 := fun b o _ h n => e b o h n
theorem Em.wk (s : Wk p H H1) : Em p H H1 := fun b o nb h _ => s.1 b o nb h
theorem Em.same (s : Same H H1) : Em p H H1 := fun b o _ h _ => s b o h
theorem Em.trans (s : Em p H H1) (t : Em p H1 H2) : Em p H H2 := fun b o nb h n => t b o nb (s b o nb h n) n
theorem Em.new (h : H p = none) (s : Em p H H1) : ExtN H H1 := fun b o e n => s b o (ne_of_none e h) e n
end
/-! ### x(lambda: ..), the one error that it may let out taken -/
def TTr (C : Addr) : (XK → Hp → VK → Prop) → Hp → VK → Prop := fun tl H Q => ∀ N : Hp → Prop, (∀ H', Q .non H' → N H') → tl (fun cls d H' => cls = .ref C ∧ ∃ (dd : Addr) (z : Int), d = some dd ∧ H' dd = some (.xd [("index", .int z)]) ∧ Q (.int z) H') H fun _ H' => N H'
/-- the end with tables of the defs that the top has made -/
theorem walk_ofTab {l : PySem.W.OpenLaw} {k : Nat} {q : PySem.Program} {loose : List Str} {XP : (Str → Option Value) → Heap → Prop} {YP : World → Heap → Prop} {d : DefRec} {K : Params → PySem.W.Frag} {CX : World → CXT} {x : Str} (fs : List Str)
    (hn : l.most = some 63) (hdf : d.params.defaults = []) (hr : Room k callerA) (hrec : (fs.all fun f => (recsOf q).any fun e => e.name == f) = true) (hY : ∀ (w : World) (h : Heap), YP w h → (K w.params).In h)
    (F : ∀ (w : World) (mg : Str → Option Value) (fa : Addr) (h : Heap), (K w.params).In h → h.Ns mainGlobals mg → mg d.name = some (.ref fa) →
      (∀ f ∈ fs, ∀ (g c P : Addr) (o1 : Obj) (fd1 : FuncData) (e1 : Value) (dd1 : Option Addr) (vs1 : Array Value) (sl1 : Array (Option Value)), mg f = some (.ref g) → (K w.params).lookup g = some o1 → o1.data = .func fd1 → fd1.code = .ref c → (K w.params).lookup c = some ⟨e1, dd1, .fields vs1, sl1⟩ → vs1[11]? = some (.ref P) → h.get? P = some { cls := .none, data := .fields #[] }) →
      LawAtS l w (K w.params) (CX w) k 63 x mg fa h)
    (hCX : ∀ (w : World) (H : Hp) (s : Shared) (e : Value) (s' : Shared), CX w [] H s (fun _ _ _ => False) e s' → False) :
    PySem.W.WalkO q loose XP YP l.row.toRowW d [] (fun f vs => PySem.call f vs) := by
  refine Att.attach_callB hn hdf fun w s0 s1 mg mb fa o pm cd doc a vs ns G Y ho hd hcd hmg hob hin hle hbi hge => ?_
  have KY := hY w _ Y
  obtain ⟨fd, cs, sp, g1, g2, g3, g4, g5, g6⟩ := F w mg fa _ KY G.T.g hmg fun f hf g c P o1 fd1 e1 dd1 vs1 sl1 m0 k1 k2 k3 k4 k5 => by
    obtain ⟨dL, hm, hn1⟩ := List.any_eq_true.mp (List.all_eq_true.mp hrec f hf)
    have hn2 : dL.name = f := beq_iff_eq.mp hn1
    obtain ⟨a', o', fd', c', P', h1, h2, h3, h4, h5, ⟨⟨oc, vc, i1, _, i3, i4⟩, hP⟩⟩ := G.T.tab dL hm
    rw [hn2, m0] at h1
    cases h1
    have j1 := KY _ _ k1
    rw [j1] at h2
    cases h2
    rw [k2] at h3
    cases h3
    rw [k3] at h4
    cases h4
    have j2 := KY _ _ k4
    rw [j2] at i1
    cases i1
    cases i3
    rw [k5] at i4
    cases i4
    exact hP
  exact law_callTs KY G.T.g G.T.b G.T.builtins G.T.nolimit hge g1 g2 g3 G.T.bmain hob hin (Nat.le_trans hle (by decide)) hr g6 g4 (fun H hH hS => g5 H a ns hle hbi hH hS) fun H e s' => hCX w H s1 e s'
end Lk

namespace Lk
open PySem PySem.Spec PyProof.Rows L2
/-! ### try with several clauses «except C as e» -/
abbrev TsA := Addr → Value → Option Addr → TS
/-- the ends of a clause's suite: the name is gone behind it -/
def offA (i : Nat) (D : Ends) : Ends := { nx := fun σ H => D.nx (σ.set i none) H, rt := D.rt, bk := fun σ H => D.bk (σ.set i none) H, ct := fun σ H => D.ct (σ.set i none) H }
/-- what the clauses wish for -/
def wClauses (K : PySem.W.Frag) (Wo : WX) (D : Ends) : List (Value × Nat × TsA) → WX
  | [] => Wo
  | q :: r => fun cls d σ H => ∃ b, PySem.W.exmOne K cls q.1 = some b ∧ (b = true → ∀ a, H a = none → q.2.2 a cls d (offA q.2.1 D) (σ.set q.2.1 (some (.ref a))) H) ∧ (b = false → wClauses K Wo D r cls d σ H)
inductive Clauses (X : Cx) : List ExceptHandler → List (Value × Nat × TsA) → Prop
  | nil : Clauses X [] []
  | cons {x n : Str} {c : Value} {i : Nat} {ts : TsA} {st : Stmt} {suite : List Stmt} {p1 p2 : Pos} {hds : List ExceptHandler} {l : List (Value × Nat × TsA)} (hi : X.N[i]? = some n) (hln : X.env.kindOf n = some .local) (hc : Names X x c)
      (hsu : ∀ (a : Addr) (oe : Obj) (cls : Value) (d : Option Addr) (pn : List (Addr × Obj)), Zc cls d oe → (∃ vs, oe.data = .fields vs) → PSs (X.suite a ((a, oe) :: pn)) (st :: suite) (ts a cls d)) (r : Clauses X hds l) :
      Clauses X (.ExceptHandler (some (.Name x p1)) (some n) (st :: suite) p2 :: hds) ((c, i, ts) :: l)
/-- the exception at a, caught by X, its clauses not yet looked at -/
structure Caught (X : Cx) (pins : List (Addr × Obj)) (a : Addr) (cls : Value) (d : Option Addr) (σ : L2.St) (H : Hp) (s : Shared) : Prop where
  ex : ∃ (B : Heap) (t : Shared), Inv X pins σ H t ∧ (∀ b o, t.heap.get? b = some o → b ∉ frs X.stack → B.get? b = some o) ∧ t.heap.UpToSlots s.heap ∧ HandSPX.FlyingZ B (X.env :: X.outer) a (Zc cls d) s.heap ∧ s.os = t.os ∧ AllBare s.gens
  na : H a = none
section
variable {X : Cx} {pins : List (Addr × Obj)} {a : Addr} {cls c : Value} {d : Option Addr} {σ : L2.St} {H : Hp} {s : Shared} {D : Ends} {Wo : WX}
/-- no clause is left -/
theorem Caught.out (C : Caught X pins a cls d σ H s) (hst : X.stack = X.env :: X.outer) (hfr : X.env.frame = some X.env.locals) (tk : Takes X Wo) (q : Wo cls d σ H) : wpAny (model X.prog X.w) X.A (handleBy (.ref a) X.env []) (SP X pins D) X.xe s := by
  obtain ⟨B, t, J, nb, up, fl, eo, eg⟩ := C.ex
  refine wpAny_handleBy_nil ?_
  obtain ⟨_, _, _, oe, vs, T, oT, tt, g1, _, g3, g4, _⟩ := id fl
  unfold PySem.passOn
  refine wpAny_bind (wpAny_field g1 g3 g4 ?_)
  rw [if_neg (by simp)]
  have up_ : wpAny (model X.prog X.w) X.A (setFlight (.ref a) X.env.frame) (fun _ z => wpAny (model X.prog X.w) X.A (throw (.ref a) : Sem Flow) (SP X pins D) X.xe z) X.xe s := by
    rw [hfr]
    refine HandSPX.setFlight_upZ fl fun h2 sk u2 => wpAny_throw (tk _ _ ⟨a, B, t, pins, σ, H, cls, d, rfl, J, nb, up.trans u2, ?_, C.na, eo, eg, q⟩)
    exact .inr (.inr (hst ▸ sk))
  first
    | exact wpAny_bind (wpAny_pure (wpAny_bind up_))
    | exact wpAny_bind up_
theorem Caught.inv (C : Caught X pins a cls d σ H s) : Inv X pins σ H s := by
  obtain ⟨B, t, J, nb, up, fl, eo, eg⟩ := C.ex
  exact J.landed nb fl.1 up eo eg
/-- the error's object is none that X keeps -/
theorem Caught.apart (C : Caught X pins a cls d σ H s) (hfr : X.env.frame = some X.env.locals) : a ≠ X.env.locals ∧ a ∉ X.fs := by
  obtain ⟨B, t, J, nb, up, fl, eo, eg⟩ := C.ex
  obtain ⟨oe, vs, g1, _, g2⟩ := fl.there
  have no : a ∉ frs (X.env :: X.outer) := fun hm => by
    obtain ⟨_, o2, g3, g4⟩ := fl.2.2.1.mem hm
    rw [g1] at g3
    cases g3
    exact g4 _ g2
  refine ⟨fun z => no (List.mem_filterMap.mpr ⟨X.env, .head _, by rw [hfr, z]⟩), fun hm => ?_⟩
  obtain ⟨e, h1, h2⟩ := List.mem_filterMap.mp hm
  exact no (List.mem_filterMap.mpr ⟨e, .tail _ h1, h2⟩)
/-- one clause: it takes the error, or those behind it are looked at -/
theorem Caught.clause (C : Caught X pins a cls d σ H s) (hfr : X.env.frame = some X.env.locals) (hN : X.N.Nodup) {x n : Str} {i : Nat} {ts : TsA} {st : Stmt} {suite : List Stmt} {p1 p2 : Pos} {hds : List ExceptHandler} {b : Bool}
    (hi : X.N[i]? = some n) (hln : X.env.kindOf n = some .local) (hc : Names X x c)
    (hsu : ∀ (a : Addr) (oe : Obj) (cls : Value) (d : Option Addr) (pn : List (Addr × Obj)), Zc cls d oe → (∃ vs, oe.data = .fields vs) → PSs (X.suite a ((a, oe) :: pn)) (st :: suite) (ts a cls d))
    (hb : PySem.W.exmOne X.K cls c = some b) (yes : b = true → ts a cls d (offA i D) (σ.set i (some (.ref a))) H) (no : b = false → wpAny (model X.prog X.w) X.A (handleBy (.ref a) X.env hds) (SP X pins D) X.xe s) :
    wpAny (model X.prog X.w) X.A (handleBy (.ref a) X.env (.ExceptHandler (some (.Name x p1)) (some n) (st :: suite) p2 :: hds)) (SP X pins D) X.xe s := by
  have J1 := C.inv
  obtain ⟨nL, nF⟩ := C.apart hfr
  obtain ⟨B, t, J, nb, up, fl, eo, eg⟩ := C.ex
  obtain ⟨oe, vs, g1, g2, g3⟩ := fl.there
  have S1 := J1.suite g1 g3 C.na nL nF
  refine wpAny_handleBy_cons (codeAny_handlers_test ?_) (fun z => by cases z)
  have lk : PySem.W.Looks (model X.prog X.w) s.heap (typeOf (.ref a)) cls := fun A Q E z k q => wpAny_typeOf_ref (k _ _ g1) (by rw [g2.1]; exact q)
  have m := PySem.W.exm_one (M := model X.prog X.w) J1.kIn lk hb
  have named : ∀ {Q E : Value → Shared → Prop}, Q c s → wpAny (model X.prog X.w) (X.A.mark (some (.ref a))) (eval (.Name x p1) X.env) Q E s := fun {Q E} q => by
    obtain ⟨y1, y2, y3⟩ := hc
    rcases y3 with y3 | ⟨y3, y4, y5⟩
    · exact ld_glob (X := X.suite a ((a, oe) :: (X.pn ++ pins))) S1 y1 y3 q y2
    · exact ld_blt (X := X.suite a ((a, oe) :: (X.pn ++ pins))) S1 y1 y3 y4 q y5 y2
  refine named (m.here ?_)
  cases b with
  | false => exact no rfl
  | true =>
    refine codeAny_handlers_suite_as (HandSPX.lands_againZ fl fun h2 fl2 u2 => ?_)
    have J2 : Inv X pins σ H { s with heap := h2 } := J.landed nb fl2.1 (up.trans u2) eo eg
    obtain ⟨oe2, vs2, k1, k2, k3⟩ := fl2.there
    refine store_ok (X := X.suite a ((a, oe2) :: (X.pn ++ pins))) (v := .ref a) (J2.suite k1 k3 C.na nL nF) hN hi (.inl hln) rfl (fun s5 S5 => ?_) (.inr hln)
    refine wpAny_mono ((hsu a oe2 cls d (X.pn ++ pins) k2 ⟨_, k3⟩).run [] s5 _ H _ S5 (yes rfl)) (fun f s6 hs => ?_) (fun _ _ z => z.elim)
    have fin : ∀ {σ6 : L2.St} {H6 : Hp} {Q : Shared → Prop}, Inv (X.suite a ((a, oe2) :: (X.pn ++ pins))) [] σ6 H6 s6 → (∀ s7, Inv X pins (σ6.set i none) H6 s7 → Q s7) →
        wpAny (model X.prog X.w) X.A (do bindName X.env n .none; unbindBehindTheSuite X.env n p2) (fun _ s7 => Q s7) X.xe s6 := fun S6 hq => gone_ok (S6.unsuite J.ok) hN hi hln hq
    cases f with
    | ret u =>
      obtain ⟨v6, _, _, S6, r6, q6⟩ := hs
      exact fin S6 fun _ J7 => ⟨_, _, _, J7, r6, q6⟩
    | next =>
      obtain ⟨_, _, S6, q6⟩ := hs
      exact fin S6 fun _ J7 => ⟨_, _, J7, q6⟩
    | brk =>
      obtain ⟨_, _, S6, q6⟩ := hs
      exact fin S6 fun _ J7 => ⟨_, _, J7, q6⟩
    | cont =>
      obtain ⟨_, _, S6, q6⟩ := hs
      exact fin S6 fun _ J7 => ⟨_, _, J7, q6⟩
theorem Caught.all (C : Caught X pins a cls d σ H s) (hst : X.stack = X.env :: X.outer) (hfr : X.env.frame = some X.env.locals) (hN : X.N.Nodup) (tk : Takes X Wo) {hds : List ExceptHandler} {l : List (Value × Nat × TsA)} (h : Clauses X hds l) :
    wClauses X.K Wo D l cls d σ H → wpAny (model X.prog X.w) X.A (handleBy (.ref a) X.env hds) (SP X pins D) X.xe s := by
  induction h with
  | nil => exact C.out hst hfr tk
  | cons hi hln hc hsu r ih =>
    rintro ⟨b, hb, yes, no⟩
    exact C.clause hfr hN hi hln hc hsu hb (fun z => yes z a C.na) fun z => ih (no z)
theorem ps_tryA {body : List Stmt} {h0 : ExceptHandler} {hds : List ExceptHandler} {l : List (Value × Nat × TsA)} {pos : Pos} {tb : WX → TS} (hst : X.stack = X.env :: X.outer) (hfr : X.env.frame = some X.env.locals) (hN : X.N.Nodup) (tk : Takes X Wo)
    (hb : ∀ (W : WX) (pn : List (Addr × Obj)) (xe : Value → Shared → Prop), Takes (X.tr pn xe) W → PassesOwn (model X.prog X.w) X.A X.env xe → PSs (X.tr pn xe) body (tb W)) (hc : Clauses X (h0 :: hds) l) :
    PS X (.Try body (h0 :: hds) [] [] pos) (fun D σ H => tb (wClauses X.K Wo D l) D σ H) := by
  refine ⟨fun pins s σ H D I h => wpAny_Try_except ?_⟩
  have run := (hb (wClauses X.K Wo D l) (X.pn ++ pins) (fun e s1 => wpAny (model X.prog X.w) X.A (noteFrame e X.env) (fun _ s2 => wpAny (model X.prog X.w) X.A (setFlight e none) (fun _ s3 =>
    wpAny (model X.prog X.w) X.A (handleBy e X.env (h0 :: hds)) (SP X pins D) X.xe s3) X.xe s2) X.xe s1) (fun u s2 xx => ?_) PassesOwn.looking).run [] s σ H D (I.toTry _) h
  · refine wpAny_mono run (fun f s1 hs => ?_) fun _ _ z => z
    cases f with
    | ret u =>
      obtain ⟨v, σ2, H2, J, r, q⟩ := hs
      exact ⟨v, σ2, H2, J.ofTry I.ok, r, q⟩
    | next =>
      obtain ⟨σ2, H2, J, q⟩ := hs
      exact wpAny_execs_nil ⟨σ2, H2, J.ofTry I.ok, q⟩
    | brk =>
      obtain ⟨σ2, H2, J, q⟩ := hs
      exact ⟨σ2, H2, J.ofTry I.ok, q⟩
    | cont =>
      obtain ⟨σ2, H2, J, q⟩ := hs
      exact ⟨σ2, H2, J.ofTry I.ok, q⟩
  · obtain ⟨a, B, t, pins2, σ2, H2, cls, d, rfl, J, nb, up, sky, na, eo, eg, w⟩ := xx
    have J0 : Inv X pins σ2 H2 t := J.ofTry I.ok
    have sk : Sky B (X.env :: X.outer) a (Zc cls d) X.env.locals s2.heap := hst ▸ sky
    show wpAny _ X.A (noteFrame (.ref a) X.env) _ _ _
    exact Sky.land Zc.steady (by rw [I.ok.frames, hst]) hfr sk fun h3 fl u3 => Caught.all (s := { s2 with heap := h3 }) ⟨⟨B, t, J0, nb, up.trans u3, fl, eo, eg⟩, na⟩ hst hfr hN tk hc w
end
/-! ### tuples whose items are the same -/
section
variable {X : Cx}
def oneB : V → Bool
  | .ref _ => true
  | v => flatB v
def rNeI (K : PySem.W.Frag) : R2 := fun x y H Q => ∃ a b xs, x = .ref a ∧ y = .ref b ∧ SqT K H a xs ∧ SqT K H b xs ∧ (∀ v ∈ xs, oneB v = true) ∧ Q (.bl false) H
theorem op_neI (hu : X.A.units + 64 < cLine) : OpR X (compareOp .NotEq) (rNeI X.K) := by
  intro pins s σ H x y v u Q I rx ry h
  obtain ⟨a, b, xs, rfl, rfl, ha, hb, hx, q⟩ := h
  cases (show v = Value.ref a from rx)
  cases (show u = Value.ref b from ry)
  obtain ⟨us, r1, p1, _⟩ := I.tuple ha
  obtain ⟨ws, r2, p2, _⟩ := I.tuple hb
  have items : ∀ {xs : List V} {us ws : List Value}, (∀ v ∈ xs, oneB v = true) → Vals xs us → Vals xs ws → ∀ j (h1 : j < us.length) (h2 : j < ws.length), SeqAt.EqAt X.A.in1 s us[j] ws[j] true := by
    intro xs
    induction xs with
    | nil =>
      intro us ws _ r1
      cases r1
      exact fun _ j h1 => absurd h1 (Nat.not_lt_zero j)
    | cons z xs ih =>
      intro us ws hz r1 r2
      cases r1 with
      | cons a1 b1 =>
        cases r2 with
        | cons a2 b2 =>
          intro j h1 h2
          cases j with
          | succ j => exact ih (fun v hv => hz v (.tail _ hv)) b1 b2 j (Nat.lt_of_succ_lt_succ h1) (Nat.lt_of_succ_lt_succ h2)
          | zero =>
            have f := hz z (.head _)
            cases z with
            | ref p =>
              rename_i y1 _ y2 _
              cases (show y1 = Value.ref p from a1)
              cases (show y2 = Value.ref p from a2)
              exact SeqAt.EqAt.same _
            | _ => exact eqAt_same a1 a2 f
  have z := SeqAt.RcNeAt.tuples (A := X.A) (s := s) (e := fun _ => true) p1 p2 (by omega) (fun j h1 h2 => items hx r1 r2 j (by simpa using h1) (by simpa using h2))
  refine z X.prog X.w _ _ ?_
  have sz : us.toArray.size = ws.toArray.size := by rw [List.size_toArray, List.size_toArray, ← r1.length, ← r2.length]
  rw [show ((List.range (min us.toArray.size ws.toArray.size)).all fun _ => true) = true from List.all_eq_true.mpr fun _ _ => rfl, sz, beq_self_eq_true]
  exact ⟨.bl false, H, I, rfl, q⟩
/-- a text times a small number -/
def rRepS : R2 := fun x y H Q => ∃ (z : Str) (k : Int), x = .str z ∧ y = .int k ∧ 1 ≤ k ∧ k ≤ 10 ∧ z.length ≤ 10 ∧ ∀ t, Q (.str t) H
theorem long_no {n : Nat} (h : n ≤ 100) : PySem.Builtin.Str.tooLong n = false := decide_eq_false (Nat.not_lt.mpr (Nat.le_trans h (by decide)))
theorem op_repS : OpR X (binaryOp .Mult) rRepS := by
  intro pins s σ H x y v u Q I rx ry h
  obtain ⟨z, k, rfl, rfl, k1, k2, hz, q⟩ := h
  obtain ⟨t1, rfl⟩ := (show ∃ t, v = Value.str z t from rx)
  obtain ⟨t2, rfl⟩ := (show ∃ t, u = Value.int k t from ry)
  have kn : k.toNat ≤ 10 := by omega
  have hl : z.length * k.toNat ≤ 100 := Nat.le_trans (Nat.mul_le_mul hz kn) (by decide)
  refine PySem.P.mul_str ?_ (fun _ _ => ?_) (fun _ _ => ?_) ?_
  · rw [decide_eq_false (by omega), decide_eq_false (by omega)]
    rfl
  · have : (10 : Int) ≤ (2 ^ 63 - 1) / k := by
      rw [Int.le_ediv_iff_mul_le (by omega)]
      omega
    omega
  · exact long_no hl
  · rw [if_neg (by omega)]
    by_cases c : (k == 1 || z.length == 0) = true
    · rw [if_pos c]
      exact ⟨.str z, H, I, ⟨_, rfl⟩, q z⟩
    · rw [if_neg c]
      exact ⟨PySem.fits_reps (long_no hl), .str _, H, I.tok _, ⟨_, rfl⟩, q _⟩
/-- «except D» takes no error of the class C -/
theorem exm_ne {K : PySem.W.Frag} {mg : Str → Option Value} {x y : Str} {C D B : Addr} (E : ErK K mg x C B) (F : ErK K mg y D B) (n1 : D ≠ C) (n2 : D ≠ B) : PySem.W.exmOne K (.ref C) (.ref D) = some false := by
  obtain ⟨cd, e1, e2⟩ := erk_cls E
  obtain ⟨dd, e3, _⟩ := erk_cls F
  have a1 : (PySem.W.subIn K (.ref D) (.type "BaseException") == some true) = true := by rw [F.ek.su] <;> rfl
  have a2 : ((PySem.W.clsIn K D).isSome && PySem.W.typeIn K (.ref D) == some (.type "type")) = true := by rw [e3, F.ty] <;> rfl
  unfold PySem.W.exmOne
  rw [if_pos a1]
  unfold PySem.W.kitCls
  simp only []
  rw [if_pos a2]
  show PySem.W.mroIn K C (.ref D) = some false
  unfold PySem.W.mroIn
  rw [e1, Option.bind_some, e2]
  have b1 : (Value.ref D == Value.ref C) = false := by simpa using n1
  have b2 : (Value.ref D == Value.ref B) = false := by simpa using n2
  show some (([Value.ref C, Value.ref B, Value.type "ValueError", Value.type "Exception", Value.type "BaseException", Value.type "object"] : List Value).contains (Value.ref D)) = some false
  simp only [List.contains, List.elem, b1, b2]
  rfl
end
end Lk

namespace Lk
open PySem PySem.Spec PyProof.Rows L2
/-! ### rows of codes -/
structure CRow where
  kd : Str
  nx : List Int
  sy : List (List Int)
  ch : List (List (List Int))
def fsD (fs : List (List Int)) : PyData := .tuple (fs.map intsD)
def csD (cs : List (List (List Int))) : PyData := .tuple (cs.map fsD)
def CRow.d (r : CRow) : PyData := .tuple [.str r.kd, intsD r.nx, fsD r.sy, csD r.ch]
def lowF (k : Nat) (f : List Int) : List Int := f.map (· % 2 ^ k)
def CRow.low (k : Nat) (r : CRow) : CRow := ⟨r.kd, r.nx, r.sy.map (lowF k), r.ch.map (·.map (lowF k))⟩
def Kd4 (k : Str) : Prop := k = "go" ∨ k = "ask" ∨ k = "choose" ∨ k = "stop"
/-- the items in the heap -/
def CfH (H : Hp) (v : V) (f : List Int) : Prop := ∃ a, v = .ref a ∧ H a = some (.tup (f.map V.int))
def CfsH (H : Hp) (v : V) (fs : List (List Int)) : Prop := ∃ a us, v = .ref a ∧ H a = some (.tup us) ∧ F2 (CfH H) us fs
def CcsH (H : Hp) (v : V) (cs : List (List (List Int))) : Prop := ∃ a us, v = .ref a ∧ H a = some (.tup us) ∧ F2 (CfsH H) us cs
def CRowH (H : Hp) (v : V) (r : CRow) : Prop := ∃ a b c d, v = .ref a ∧ H a = some (.tup [.str r.kd, b, c, d]) ∧ CfH H b r.nx ∧ CfsH H c r.sy ∧ CcsH H d r.ch
section
variable {K : PySem.W.Frag} {H H' : Hp} {v : V}
theorem CfH.ts (s : Ts H H') {f : List Int} (h : CfH H v f) : CfH H' v f := by
  obtain ⟨a, e, h1⟩ := h
  exact ⟨a, e, s _ _ h1⟩
theorem CfsH.ts (s : Ts H H') {fs : List (List Int)} (h : CfsH H v fs) : CfsH H' v fs := by
  obtain ⟨a, us, e, h1, h2⟩ := h
  exact ⟨a, us, e, s _ _ h1, h2.mono fun _ _ z => z.ts s⟩
theorem CcsH.ts (s : Ts H H') {cs : List (List (List Int))} (h : CcsH H v cs) : CcsH H' v cs := by
  obtain ⟨a, us, e, h1, h2⟩ := h
  exact ⟨a, us, e, s _ _ h1, h2.mono fun _ _ z => z.ts s⟩
theorem CRowH.ts (s : Ts H H') {r : CRow} (h : CRowH H v r) : CRowH H' v r := by
  obtain ⟨a, b, c, d, e, h1, h2, h3, h4⟩ := h
  exact ⟨a, b, c, d, e, s _ _ h1, h2.ts s, h3.ts s, h4.ts s⟩
theorem dta_of {α : Type} {R : V → α → Prop} {g : α → PyData} (h : ∀ v a, R v a → Dt H v (g a)) : ∀ {vs : List V} {as : List α}, F2 R vs as → DtAll H vs (as.map g)
  | _, _, .nil => .nil
  | _, _, .cons x t => .cons (h _ _ x) (dta_of h t)
theorem CfH.dt {f : List Int} (h : CfH H v f) : Dt H v (intsD f) := by
  obtain ⟨a, rfl, h1⟩ := h
  exact .tup h1 (dt_ints f)
theorem CfsH.dt {fs : List (List Int)} (h : CfsH H v fs) : Dt H v (fsD fs) := by
  obtain ⟨a, us, rfl, h1, h2⟩ := h
  exact .tup h1 (dta_of (fun _ _ z => z.dt) h2)
theorem CcsH.dt {cs : List (List (List Int))} (h : CcsH H v cs) : Dt H v (csD cs) := by
  obtain ⟨a, us, rfl, h1, h2⟩ := h
  exact .tup h1 (dta_of (fun _ _ z => z.dt) h2)
theorem CRowH.dt {r : CRow} (h : CRowH H v r) : Dt H v r.d := by
  obtain ⟨a, b, c, d, rfl, h1, h2, h3, h4⟩ := h
  exact .tup h1 (.cons (.str _) (.cons h2.dt (.cons h3.dt (.cons h4.dt .nil))))
theorem crows_dt {us : List V} {rs : List CRow} (h : F2 (CRowH H) us rs) : DtAll H us (rs.map CRow.d) := dta_of (fun _ _ z => z.dt) h
end
/-! ### what may be compared -/
theorem fs_cl (fs : List (List Int)) : (fsD fs).canLay0 = true := by
  unfold fsD
  rw [PyData.canLay0]
  exact cl_map fun f _ => ints_cl f
theorem fs_dep (fs : List (List Int)) : (fsD fs).depth ≤ 2 := by
  unfold fsD
  rw [PyData.depth]
  have := dep_map (f := intsD) (n := 1) (xs := fs) fun f _ => ints_dep f
  omega
theorem cs_cl (cs : List (List (List Int))) : (csD cs).canLay0 = true := by
  unfold csD
  rw [PyData.canLay0]
  exact cl_map fun f _ => fs_cl f
theorem cs_dep (cs : List (List (List Int))) : (csD cs).depth ≤ 3 := by
  unfold csD
  rw [PyData.depth]
  have := dep_map (f := fsD) (n := 2) (xs := cs) fun f _ => fs_dep f
  omega
theorem kd4_cl {k : Str} (h : Kd4 k) : (PyData.str k).canLay0 = true := by
  rcases h with rfl | rfl | rfl | rfl <;> decide +kernel
theorem crow_cl {r : CRow} (h : Kd4 r.kd) : r.d.canLay0 = true := by
  have h1 := kd4_cl h
  have h2 := ints_cl r.nx
  have h3 := fs_cl r.sy
  have h4 := cs_cl r.ch
  unfold CRow.d
  simp only [PyData.canLay0, PyData.canLayAll0] at *
  simp only [h1, h2, h3, h4]
  rfl
theorem crow_dep (r : CRow) : r.d.depth ≤ 4 := by
  have h2 := ints_dep r.nx
  have h3 := fs_dep r.sy
  have h4 := cs_dep r.ch
  unfold CRow.d
  simp only [PyData.depth, PyData.depthAll]
  omega
def crowsD (rs : List CRow) : PyData := .tuple (rs.map CRow.d)
theorem shaped_of {d : PyData} (h1 : d.canLay0 = true) (h2 : d.depth ≤ 40) : SeqAt.shaped d = true := by
  unfold SeqAt.shaped
  rw [h1]
  exact decide_eq_true (by omega)
theorem crows_cl {rs : List CRow} (h : ∀ r ∈ rs, Kd4 r.kd) : (crowsD rs).canLay0 = true := by
  unfold crowsD
  rw [PyData.canLay0]
  exact cl_map fun r hr => crow_cl (h r hr)
theorem crows_dep (rs : List CRow) : (crowsD rs).depth ≤ 5 := by
  unfold crowsD
  rw [PyData.depth]
  have := dep_map (f := CRow.d) (n := 4) (xs := rs) fun r _ => crow_dep r
  omega
theorem shaped_crows {rs : List CRow} (h : ∀ r ∈ rs, Kd4 r.kd) : SeqAt.shaped (crowsD rs) = true := shaped_of (crows_cl h) (by have := crows_dep rs; omega)
theorem shaped_ints (xs : List Int) : SeqAt.shaped (intsD xs) = true := shaped_of (ints_cl xs) (by have := ints_dep xs; omega)
/-! ### rows that are right -/
def nxOk (kd : Str) (n : Nat) : Prop := (kd = "go" ∧ n = 1) ∨ (kd = "ask" ∧ n = 1) ∨ (kd = "choose" ∧ 1 ≤ n ∧ n ≤ 6) ∨ (kd = "stop" ∧ n = 0)
theorem nxOk.kd {kd : Str} {n : Nat} (h : nxOk kd n) : Kd4 kd := by
  rcases h with h | h | h | h
  · exact .inl h.1
  · exact .inr (.inl h.1)
  · exact .inr (.inr (.inl h.1))
  · exact .inr (.inr (.inr h.1))
theorem nxOk.le {kd : Str} {n : Nat} (h : nxOk kd n) : n ≤ 6 := by
  rcases h with h | h | h | h <;> omega
def ndLim (k : Str) : Option (Int × Int) := if k = ("go" : Str) then some (1, 1) else if k = ("ask" : Str) then some (1, 1) else if k = ("choose" : Str) then some (1, 6) else if k = ("stop" : Str) then some (0, 0) else none
theorem nxOk.lim {kd : Str} {n : Nat} (h : nxOk kd n) : ∃ a b : Int, ndLim kd = some (a, b) ∧ a ≤ n ∧ n ≤ b := by
  rcases h with ⟨rfl, rfl⟩ | ⟨rfl, rfl⟩ | ⟨rfl, h1, h2⟩ | ⟨rfl, rfl⟩
  · exact ⟨1, 1, by decide +kernel, by decide, by decide⟩
  · exact ⟨1, 1, by decide +kernel, by decide, by decide⟩
  · exact ⟨1, 6, by decide +kernel, by omega, by omega⟩
  · exact ⟨0, 0, by decide +kernel, by decide, by decide⟩
theorem form_ints {f : List Int} {n : Int} (h : (f.length : Int) = n + 1) : formD (intsD f) n = true := by
  show (decide (((f.map PyData.int).length : Int) = n + 1) && (f.map PyData.int).all isIntD) = true
  rw [List.length_map, decide_eq_true h, Bool.true_and, List.all_eq_true]
  intro d hd
  obtain ⟨x, _, rfl⟩ := List.mem_map.mp hd
  rfl
def askN (kd : Str) : Nat := if kd = ("ask" : Str) then 1 else 0
structure CRowOk (cts : List Int) (i : Nat) (r : CRow) : Prop where
  nxl : nxOk r.kd r.nx.length
  nxi : ∀ j ∈ r.nx, 0 ≤ j ∧ j < cts.length
  syl : r.sy.length ≤ 900
  syf : ∀ f ∈ r.sy, (f.length : Int) = cts.getD i 0 + 1
  chl : r.ch.length = r.nx.length
  chn : ∀ (n : Nat) (j : Int) (c : List (List Int)), r.nx[n]? = some j → r.ch[n]? = some c → (c.length : Int) = cts.getD j.toNat 0
  chf : ∀ c ∈ r.ch, ∀ f ∈ c, (f.length : Int) = cts.getD i 0 + 1 + askN r.kd
/-- counts, rows and the first registers that make a code -/
structure CodeOk (cts : List Int) (rs : List CRow) (st : List Int) : Prop where
  l1 : 1 ≤ rs.length
  l2 : rs.length ≤ 200
  cl : cts.length = rs.length
  c0 : ∀ c ∈ cts, 0 ≤ c ∧ c ≤ 64
  sl : (st.length : Int) = cts.getD 0 0
  ok : ∀ i r, rs[i]? = some r → CRowOk cts i r
theorem CodeOk.cD {cts : List Int} {rs : List CRow} {st : List Int} (h : CodeOk cts rs st) (i : Nat) : 0 ≤ cts.getD i 0 ∧ cts.getD i 0 ≤ 64 := by
  rw [List.getD_eq_getElem?_getD]
  cases e : cts[i]? with
  | none => exact ⟨Int.le_refl 0, by decide⟩
  | some c => exact h.c0 c (List.mem_of_getElem? e)
/-- a code in the heap, its numbers reduced -/
def cdF (w : Int) (tc tr ts : Addr) : List (Str × V) := [("width", .int w), ("counts", .ref tc), ("rows", .ref tr), ("start", .ref ts)]
def CodeO (K : PySem.W.Frag) (C : Addr) (H : Hp) (p : Addr) (w : Nat) (cts : List Int) (rs : List CRow) (st : List Int) : Prop :=
  ∃ dx tc tr ts vs, H p = some (.ins C dx (cdF w tc tr ts)) ∧ SqT K H tc (cts.map V.int) ∧ SqT K H tr vs ∧ F2 (CRowH H) vs rs ∧ SqT K H ts (st.map V.int)
/-- whether two codes are equal -/
def cdEq (k : Nat) (cts : List Int) (rs : List CRow) (st : List Int) (k2 : Nat) (cts2 : List Int) (rs2 : List CRow) (st2 : List Int) : Bool :=
  decide (k = k2) && (PyData.eqv (intsD cts) (intsD cts2) && (PyData.eqv (crowsD rs) (crowsD rs2) && PyData.eqv (intsD st) (intsD st2)))
end Lk

namespace Lk
open PySem PySem.Spec PyProof.Rows L2
section
variable {K : PySem.W.Frag} {H : Hp}
/-! ### a pair of a text and a number, compared with its like -/
theorem pair_sh {s : Str} {i : Int} (hs : (PyData.str s).canLay0 = true) : SeqAt.shaped (.tuple [.str s, .int i]) = true := by
  unfold SeqAt.shaped
  rw [Bool.and_eq_true]
  constructor
  · simp [PyData.canLay0, PyData.canLayAll0] at hs ⊢
    exact hs
  · exact decide_eq_true (by simp [PyData.depth, PyData.depthAll])
theorem s_neP {a b : Addr} {s : Str} {i : Int} {Q : VK} (hs : (PyData.str s).canLay0 = true) (ha : H a = some (.tup [.str s, .int i])) (hb : H b = some (.tup [.str s, .int i])) (q : Q (.bl false) H) : rNeD K (.ref a) (.ref b) H Q := by
  refine ⟨.tuple [.str s, .int i], .tuple [.str s, .int i], .tup (SqT.of ha) (.cons (.str _) (.cons (.int _) .nil)), .tup (SqT.of hb) (.cons (.str _) (.cons (.int _) .nil)), pair_sh hs, pair_sh hs, ?_⟩
  rw [SeqAt.eqv_refl _ (SeqAt.canLay_of_shaped (pair_sh hs))]
  exact q
end
/-! ### for x in [..]: each item keeps a property that stays -/
def MkV (te : TE) (σ : L2.St) (H : Hp) (P : Hp → V → Prop) : Prop := ∀ H1, Same H H1 → ∀ Q : VK, (∀ v H2, Same H1 H2 → P H2 v → Q v H2) → te σ H1 Q
def MkVs (tl : TA) (σ : L2.St) (H : Hp) (P : Hp → V → Prop) (n : Nat) : Prop := ∀ H1, Same H H1 → ∀ Q : List V → Hp → Prop, (∀ vs H2, Same H1 H2 → vs.length = n → (∀ v ∈ vs, P H2 v) → Q vs H2) → tl σ H1 Q
section
variable {K : PySem.W.Frag} {te : TE} {tl : TA} {σ : L2.St} {H : Hp} {P : Hp → V → Prop} {n i : Nat} {tb : TS} {D : Ends}
theorem mv_nil : MkVs tNil σ H P 0 := fun H1 _ Q q => q _ _ (Same.refl _) rfl fun v hv => by cases hv
theorem mv_cons (st : ∀ {H H' v}, Same H H' → P H v → P H' v) (h : MkV te σ H P) (t : MkVs tl σ H P n) : MkVs (tCons te tl) σ H P (n + 1) := fun H1 s Q q => scn (h H1 s _ fun v H2 s2 hv => t H2 (s.trans s2) _ fun vs H3 s3 hl hvs =>
  q _ _ (s2.trans s3) (congrArg Nat.succ hl) fun u hu => by
    rcases List.mem_cons.mp hu with rfl | hu
    · exact st s3 hv
    · exact hvs u hu)
/-- a thing that is no new object -/
theorem mv_c {v : V} (h : ∀ H, P H v) : MkV (tC v) σ H P := fun H1 _ Q q => q _ _ (Same.refl _) (h _)
theorem mv_lst {xs : List V} (ht : ∀ H1 (Q : List V → Hp → Prop), Q xs H1 → tl σ H1 Q) (hl : xs.length ≤ 1000) (h : ∀ H a, H a = some (.lst xs) → P H (.ref a)) : MkV (tLst tl) σ H P := fun H1 _ Q q => sli (ht _ _ ⟨Nat.le_of_lt (small1000 hl), fun a ha => q _ _ (same_new ha) (h _ _ upd_same)⟩)
theorem mv_tup {xs : List V} (ht : ∀ H1 (Q : List V → Hp → Prop), Q xs H1 → tl σ H1 Q) (hl : xs.length ≤ 1000) (h : ∀ H a, H a = some (.tup xs) → P H (.ref a)) : MkV (tTup tl) σ H P := fun H1 _ Q q => stu (ht _ _ ⟨Nat.le_of_lt (small1000 hl), fun a ha => q _ _ (same_new ha) (h _ _ upd_same)⟩)
theorem mv_dct (h : ∀ H a, H a = some (.dK []) → P H (.ref a)) : MkV tDNewK σ H P := fun H1 _ Q q a ha => q _ _ (same_new ha) (h _ _ upd_same)
/-- [(v,)] * k -/
theorem mv_rep1 {v : V} {k : Nat} (hk : k ≤ 900) (h : ∀ H a t, H a = some (.lst (List.replicate k (.ref t))) → H t = some (.tup [v]) → P H (.ref a)) : MkV (tOp rRep (tLst (tCons (tTup (tCons (tC v) tNil)) tNil)) (tC (.int (k : Int)))) σ H P := fun H1 _ Q q => by
  refine sop (sli (scn (stu (scn (sc (snl ?_))))))
  refine ⟨Nat.le_of_lt (small1000 (Nat.le_of_ble_eq_true rfl)), fun t ht => snl ⟨Nat.le_of_lt (small1000 (Nat.le_of_ble_eq_true rfl)), fun a ha => sc ?_⟩⟩
  refine ⟨a, (k : Int), [.ref t], rfl, rfl, upd_same, by omega, by omega, Nat.le_of_lt (small1000 (by rw [Int.toNat_natCast]; simp; omega)), fun c hc => ?_⟩
  have s1 : Same H1 (upd H1 t (.tup [v])) := same_new ht
  have s2 := s1.trans (same_new (o := .lst [.ref t]) ha)
  have e2 := same_new (o := .lst [.ref t]) ha _ _ (upd_same (H := H1) (a := t) (o := .tup [v]))
  refine q _ _ (s2.trans (same_new hc)) (h _ _ t ?_ (same_new hc _ _ e2))
  rw [upd_same, Int.toNat_natCast, List.flatten_replicate_singleton]
theorem for_lit (st : ∀ {H H' v}, Same H H' → P H v → P H' v) (hmk : MkVs tl σ H P n) (hn : n ≤ 1000) (h0 : ∃ e, σ = σ.set i e)
    (ht : ∀ HB v H', Same H HB → Same HB H' → P H' v → tb { D with nx := fun σ' H' => (∃ e, σ' = σ.set i e) ∧ Same HB H', ct := fun σ' H' => (∃ e, σ' = σ.set i e) ∧ Same HB H', bk := D.nx } (σ.set i (some v)) H')
    (hd : ∀ e H', Same H H' → D.nx (σ.set i e) H') : tFor (iList K (tLst tl)) (gName i) tb D σ H := by
  refine sfor (sils (sli (hmk H (Same.refl H) _ fun vs H1 s1 hl hvs => ⟨Nat.le_of_lt (small1000 (by omega)), fun a ha => ⟨a, rfl, ⟨vs, SqL.of upd_same⟩, ?_⟩⟩)))
  have s2 : Same H1 (upd H1 a (.lst vs)) := same_new ha
  have e2 : (upd H1 a (.lst vs)) a = some (.lst vs) := upd_same
  generalize upd H1 a (.lst vs) = H2 at s2 e2 ⊢
  refine for_list (fun j σ' H' => (∃ e, σ' = σ.set i e) ∧ Same H2 H') ⟨h0, Same.refl _⟩ (fun j σ' H' _ h => SqL.of (h.2 _ _ e2)) ?_ ?_
  · rintro j v σ' H' hj ⟨⟨e, rfl⟩, s3⟩
    refine sgn ?_
    rw [List.set_set]
    exact ht H2 v H' (s1.trans s2) s3 (st (s2.trans s3) (hvs v (List.mem_of_getElem? hj)))
  · rintro σ' H' ⟨⟨e, rfl⟩, s3⟩
    exact hd e H' ((s1.trans s2).trans s3)
end
end Lk

namespace L2
open PySem PySem.Spec PyProof.Rows MeetsSeq MeetsSeq2 MeetsSeq3 SeqRoads2
open AutoSeq1 (wpAny_loadPart')
theorem tuple_mul0 (l : Addr) (items : Array Value) (n : Nat) (dd : Option Addr) (sl : Array (Option Value)) (x : Int) (u : Tok) (c0 : (decide (x < -(2 ^ 63)) || decide (x ≥ 2 ^ 63)) = false) (c1 : (items.isEmpty || x == 1) = false) (c2 : (decide (x ≤ 0) || items.isEmpty) = true) :
    Meets (Builtin.«tuple.__mul__» ⟨[.ref l, .int x u], []⟩) (fun _ R s => s.heap.get? l = some { cls := .type "tuple", dict := dd, data := .seq items n, slots := sl } ∧
      R (.ok (.ret (Value.ref s.heap.objs.size))) { s with heap := s.heap.push { cls := Value.type "tuple", data := Data.seq #[] }, toks := s.toks }) :=
  .of_wp fun prog w A R s h => by
    obtain ⟨hp, g, d, tk, os⟩ := s
    obtain ⟨hl, h⟩ := h
    have f1 := AutoSeq1.idx_int
    wp_walk using wpAny_loadPart' hl
    repeat (first
      | (refine wpAny_ite_false (decide_eq_false (by rw [c0]; exact Bool.false_ne_true)) ?_; wp_walk using wpAny_loadPart' hl)
      | (refine wpAny_ite_false (decide_eq_false (by rw [c1]; exact Bool.false_ne_true)) ?_; wp_walk using wpAny_loadPart' hl)
      | (refine wpAny_ite_true (decide_eq_true c2) ?_; wp_walk using wpAny_loadPart' hl))
    exact ⟨_, rfl, h⟩
/-- t * k, k at least 0 -/
def rRepZ (K : PySem.W.Frag) : R2 := fun x y H Q => ∃ l k xs, x = .ref l ∧ y = .int k ∧ SqT K H l xs ∧ xs ≠ [] ∧ 0 ≤ k ∧ k ≤ 1000 ∧ xs.length ≤ 1000 ∧ (k = 0 → ∀ p, H p = none → Q (.ref p) (upd H p (.tup []))) ∧ (k = 1 → Q (.ref l) H) ∧ (2 ≤ k → ∀ p, H p = none → Q (.ref p) (upd H p (.tup (List.replicate k.toNat xs).flatten)))
theorem op_repZ {X : Cx} : OpR X (binaryOp .Mult) (rRepZ X.K) := by
  intro pins s σ H x y v u Q I rx ry h
  obtain ⟨l, k, xs, rfl, rfl, hT, hne, h1, h2, hz, q0, q1, q2⟩ := h
  by_cases hk : k = 0
  · subst hk
    cases rx
    obtain ⟨t, rfl⟩ := ry
    obtain ⟨its, r, ⟨⟨cls, dd, data, sl⟩, ho, hc, n, hd⟩, hs⟩ := I.tuple hT
    simp only at hc hd
    subst hc hd
    have hle : its.length = xs.length := r.length.symm
    have hn : its ≠ [] := fun e => hne (by
      rw [e] at hle
      exact List.eq_nil_of_length_eq_zero hle.symm)
    have hi : its.toArray.isEmpty = false := by
      cases its with
      | nil => exact absurd rfl hn
      | cons a b => rfl
    have c0 : (decide ((0 : Int) < -(2 ^ 63)) || decide ((0 : Int) ≥ 2 ^ 63)) = false := by decide
    have c1 : (its.toArray.isEmpty || (0 : Int) == 1) = false := by
      rw [hi]
      rfl
    have c2 : (decide ((0 : Int) ≤ 0) || its.toArray.isEmpty) = true := by
      rw [show decide ((0 : Int) ≤ 0) = true from rfl, Bool.true_or]
    refine wpAny_binaryOp_repeat_ref (T := "tuple") (U := "int") (by decide) ⟨_, ho, rfl⟩ (fun s' => typeIs_int s' 0 t) noFill_tuple_mul F.fills_int_mul F.slot_int_rmul repeat_tuple F.slot_int_index.lookup
      (call_meets F.slot_int_rmul (typeIs_int s 0 t) F.entry_int_rmul (F.args_int_rmul_2 _ _) (int_rmul_tuple 0 t l its.toArray n dd sl)
        ⟨ho, rfl, ⟨_, ho, rfl⟩, call_meets F.slot_tuple_mul ⟨_, ho, rfl⟩ F.entry_tuple_mul (F.args_tuple_mul_2 _ _) (tuple_mul0 l its.toArray n dd sl 0 t c0 c1 c2) ⟨ho, ?_⟩⟩)
    refine ⟨.ref s.heap.objs.size, _, I.laid (t' := s.toks) (o := .tup []) (fun b ob q => Heap.get?_push_of_some _ q) (Nat.le_refl _) ?_, rfl, q0 rfl _ (I.hok.fresh (Nat.le_refl _))⟩
    exact ⟨Nat.zero_le _, _, .nil, IsTup.new _ _⟩
  · exact op_repN pins s σ H _ _ v u Q I rx ry ⟨l, k, xs, rfl, rfl, hT, hne, by omega, h2, hz, q1, q2⟩
end L2
namespace Lk
open PySem PySem.Spec PyProof.Rows L2
theorem s_repZ {K : PySem.W.Frag} {H : Hp} {l : Addr} {x : V} {n : Nat} {Q : VK} (h : H l = some (.tup [x])) (h2 : n ≤ 1000) (q : ∀ p H', Same H H' → H' p = some (.tup (List.replicate n x)) → Q (.ref p) H') : rRepZ K (.ref l) (.int (n : Int)) H Q :=
  ⟨l, n, [x], rfl, rfl, SqT.of h, by simp, by omega, by omega, by simp, fun e p hp => by
    have : n = 0 := by omega
    subst this
    exact q p _ (same_new hp) upd_same, fun e => q l H (Same.refl _) (by
    have : n = 1 := by omega
    subst this
    exact h), fun e p hp => q p _ (same_new hp) (by rw [upd_same, Int.toNat_natCast, flat_rep])⟩
end Lk

namespace Lk
open PySem PySem.Spec PyProof.Rows L2
/-! ### f(k = v, ..) of a def: keywords alone, in the reversed order -/
theorem kb_rev0 {K : PySem.W.Frag} {fd : FuncData} {ps ks : List Str} (h : ∀ ws : List Value, ws.length = ks.length → bindArgs fd ⟨[], ks.zip ws⟩ = pure (ps.zip ws.reverse)) :
    KBn K fd ps 0 ks (fun us ws => us ++ ws.reverse) (fun us ws => us ++ ws.reverse) :=
  ⟨fun s us ws _ h1 h2 => by
    obtain rfl := List.eq_nil_of_length_eq_zero h1
    exact .of_eq (h ws h2), fun r1 r2 => r1.append (vals_rev r2)⟩
def tCallK0 (sp : Sp) (gV : List V → List V → List V) (E : XK) (m : Nat) (tk : TA) : TE := fun σ H Q => tk σ H fun zs H2 => zs.length = m ∧ sp (gV [] zs) H2 Q E
theorem sck0 {sp : Sp} {gV : List V → List V → List V} {E : XK} {m : Nat} {tk : TA} {σ : L2.St} {H : Hp} {Q : VK} (q : tk σ H fun zs H2 => zs.length = m ∧ sp (gV [] zs) H2 Q E) : tCallK0 sp gV E m tk σ H Q := q
section
variable {X : Cx} {CX : CXT} {k : Nat} {f : Addr} {fd : FuncData} {ps ks : List Str} {sp : Sp} {E : XK} {x : Str} {p pos : Pos} {kws : List Keyword} {tk : TA} {g : List Value → List Value → List Value} {gV : List V → List V → List V}
theorem pe_callK0 (F : FnOk X.prog X.w X.K X.mg X.base CX k f fd ps sp) (hr : Room k X.A) (hg : Gl X x) (hm : X.mg x = some (.ref f)) (hk : PySem.W.keepIn X.K (.ref f) = true) (hb : KBn X.K fd ps 0 ks g gV) (hx : Passes CX X E) (hkw : PK X kws tk)
    (hall : (backToKw pos (keywordEach kws X.env)).all (·.1.isSome) = true := by rfl) (hks : (backToKw pos (keywordEach kws X.env)).filterMap (·.1) = ks := by rfl) (hdb : (x == ("__debug__" : Str)) = false := by decide)
    (hpl : ((backTo pos (starEach [] X.env)).any (·.1) || (backToKw pos (keywordEach kws X.env)).any (·.1.isNone)) = false := by rfl) :
    PE X (.Call (.Name x p) [] kws pos) (tCallK0 sp gV E ks.length tk) := by
  refine ⟨fun pins s σ H Q I h => ?_⟩
  refine wpAny_Call_Name_kw (ld_glob I hg hm ?_ hdb)
  refine PySem.W.callWith_KW0 (h₀ := X.base) I.ok.mod.kin hk hall ?_ hpl
  refine thn (hkw.run pos pins s σ H _ I h) fun ws s2 ⟨zs, H2, I2, rz, l2, q2⟩ => ⟨I2.kIn, ?_⟩
  rw [hks]
  have r2 := hb.rel .nil rz
  have hl : (g [] ws).length = ps.length := by rw [← r2.length]; exact F.len _ _ _ _ q2
  refine wpAny_call (codeAny_mono (F.run X.A X.stack s2 H2 ⟨[], ks.zip ws⟩ (g [] ws) (gV [] zs) Q E hr I2.env0 (hb.to s2 [] ws I2.kIn rfl (rz.length.symm.trans l2)) r2 q2) fun r s' hq => ?_)
  cases r with
  | error e => exact hx pins σ H2 s2 e s' I2 hq
  | ok fl =>
    cases fl with
    | ret u => exact I2.after hq
    | next => exact False.elim hq
    | brk => exact False.elim hq
    | cont => exact False.elim hq
end
/-- a def that is called with keywords alone -/
structure Cak (P : Program) (w : World) (K : PySem.W.Frag) (mg : Str → Option Value) (base : Heap) (k : Nat) (x : Str) (ps ks : List Str) (sp : Sp) : Prop where
  ex : ∃ f fd, mg x = some (.ref f) ∧ PySem.W.keepIn K (.ref f) = true ∧ KBn K fd ps 0 ks (fun us ws => us ++ ws.reverse) (fun us ws => us ++ ws.reverse) ∧ FnOk P w K mg base CX0 k f fd ps sp
theorem pcak {X : Cx} {k j : Nat} {x : Str} {ps ks : List Str} {sp : Sp} {kws : List Keyword} {tk : TA} {p pos : Pos} (c : Cak X.prog X.w X.K X.mg X.base k x ps ks sp) (hr : Room j X.A) (hk : k ≤ j) (ha : PK X kws tk) (hg : Gl X x := by rfl)
    (hall : (backToKw pos (keywordEach kws X.env)).all (·.1.isSome) = true := by rfl) (hks : (backToKw pos (keywordEach kws X.env)).filterMap (·.1) = ks := by rfl) (hdb : (x == ("__debug__" : Str)) = false := by decide)
    (hpl : ((backTo pos (starEach [] X.env)).any (·.1) || (backToKw pos (keywordEach kws X.env)).any (·.1.isNone)) = false := by rfl) :
    PE X (.Call (.Name x p) [] kws pos) (tCallK0 sp (fun us ws => us ++ ws.reverse) E0 ks.length tk) := by
  obtain ⟨f, fd, hm, kp, b, F⟩ := c.ex
  exact pe_callK0 F (hr.mono hk) hg hm kp b pass0 ha hall hks hdb hpl
end Lk

namespace K42
open PySem PySem.Spec PyProof.Rows L2 Lk
local macro_rules | `(tactic| walk_at "lk") => `(tactic| (repeat (first
  | with_reducible refine ssq ?_ | with_reducible refine sas ?_ | with_reducible refine sgn ?_ | ((with_reducible show tVar _ _ _ _); refine sv rfl ?_) | with_reducible refine sc ?_ | with_reducible refine sop ?_ | with_reducible refine sun ?_
  | with_reducible refine sI0 ?_ | with_reducible refine sU ?_ | with_reducible refine stt ?_ | with_reducible refine stB ?_ | with_reducible refine sbl ?_ | with_reducible refine snt ?_ | with_reducible refine sif ?_ | with_reducible refine scB ?_
  | with_reducible refine scn ?_ | with_reducible refine snl ?_ | with_reducible refine scl ?_ | with_reducible refine stu ?_ | with_reducible refine sli ?_ | with_reducible refine sdr ?_ | with_reducible refine srt ?_ | with_reducible refine snx ?_ | with_reducible refine sfor ?_ | with_reducible refine sils ?_ | with_reducible refine sien ?_ | with_reducible refine sor ?_ | with_reducible refine sfg ?_
  | with_reducible refine sav ?_ | with_reducible refine sov ?_ | with_reducible refine snv ?_ | with_reducible refine sch ?_ | with_reducible refine san ?_ | with_reducible refine ssll ?_ | with_reducible refine spt ?_ | with_reducible refine snp ?_ | with_reducible refine sin ?_ | with_reducible refine sfl ?_ | with_reducible refine sfd ?_
  | ((with_reducible show Or _ _); first | refine Or.inl ⟨_, rfl, ?_⟩ | refine Or.inr ⟨_, rfl, ?_⟩))))

def top (i : Nat) : Stmt := PySem.Challenge.pw_leastkeep_k42_runs_of_codes.main.body.getD i (.Pass ⟨0, 0, 0, 0⟩)
/-- the classes -/
structure Ad where
  KeepError : Addr
  NoRun : Addr
  NoCode : Addr
  Code : Addr
  NEXTS : Addr
  NoProgram : Addr
  NoRow : Addr
  Program : Addr
structure Txt (P : Program) (w : World) (K : PySem.W.Frag) (mg : Str → Option Value) (base : Heap) (A : Ad) : Prop where
  z_int : mg "int" = none
  z_bool : mg "bool" = none
  z_str : mg "str" = none
  z_list : mg "list" = none
  z_tuple : mg "tuple" = none
  z_len : mg "len" = none
  z_isinstance : mg "isinstance" = none
  z_range : mg "range" = none
  z_enumerate : mg "enumerate" = none
  z_all : mg "all" = none
  z_TypeError : mg "TypeError" = none
  g_NoProgram : mg "NoProgram" = some (.ref A.NoProgram)
  g_NoRow : mg "NoRow" = some (.ref A.NoRow)
  g_Program : mg "Program" = some (.ref A.Program)
  c_Program : Cls K A.Program
  i_cls : PySem.W.findIn K (.ref A.Program) "__class__" = some (some (.builtin "object.__class__"))
  i_get : PySem.W.specialIn K (.builtin "object.__class__") "__get__" = some (some (.builtin "getset_descriptor.__get__"))
  i_tk : PySem.W.takesIn K (.builtin "object.__class__") = some true
  i_mro : PySem.W.mroIn K A.Program (.type "object") = some true
  i_self : PySem.W.kitOne K (.ref A.Program) (.ref A.Program) = some true
  i_tup : PySem.W.kitOne K (.type "tuple") (.ref A.Program) = some false
  o_nf : PySem.W.notFirst K A.Program (.type "tuple") = true
  o_ne : PySem.W.findIn K (.ref A.Program) "__ne__" = some (some (.builtin "object.__ne__"))
  n_width : NoAttr K A.Program "width"
  n_variables : NoAttr K A.Program "variables"
  n_rows : NoAttr K A.Program "rows"
  g_WIDEST : ∃ t, mg "WIDEST" = some (.int 64 t)
  g_MOST_VARIABLES : ∃ t, mg "MOST_VARIABLES" = some (.int 6 t)
  g_MOST_ROWS_programs : ∃ t, mg "MOST_ROWS_programs" = some (.int 25 t)
  g_MOST_NEXTS : ∃ t, mg "MOST_NEXTS" = some (.int 6 t)
  g_LONGEST_NAME : ∃ t, mg "LONGEST_NAME" = some (.int 8 t)
  z_zip : mg "zip" = none
  z_sum : mg "sum" = none
  e_NoRun : Ec1 P w K mg base "NoRun" A.KeepError A.NoRun "index"
  z_dict : mg "dict" = none
  g_NoCode : mg "NoCode" = some (.ref A.NoCode)
  g_Code : mg "Code" = some (.ref A.Code)
  c_Code : Cls K A.Code
  m_width : NoAttr K A.Code "width"
  m_counts : NoAttr K A.Code "counts"
  m_rows : NoAttr K A.Code "rows"
  m_start : NoAttr K A.Code "start"
  g_MOST_ROWS_codes : ∃ t, mg "MOST_ROWS_codes" = some (.int 200 t)
  g_MOST_REGISTERS : ∃ t, mg "MOST_REGISTERS" = some (.int 64 t)
  g_NEXTS : mg "NEXTS" = some (.ref A.NEXTS)
  x_NEXTS : ∃ es n, KDict K w A.NEXTS es n
  v_NEXTS : ∀ z a b, ndLim z = some (a, b) → ∃ p, PySem.W.nsIn K A.NEXTS z = some (some (.ref p)) ∧ ∀ H, SqT K H p [.int a, .int b]
/-! ### promises of leastkeep.values, leastkeep.graphs -/
def spIsInt (K : PySem.W.Frag) : Sp := fun vs H Q _ => ∃ v d, vs = [v] ∧ Dp K H v d ∧ Q (.bl (isIntD d)) H
def spWithin (K : PySem.W.Frag) : Sp := fun vs H Q _ => ∃ v d a b, vs = [v, .int a, .int b] ∧ Dp K H v d ∧ Q (.bl (withinD d a b)) H
def spWidth (K : PySem.W.Frag) : Sp := fun vs H Q _ => ∃ v d, vs = [v] ∧ Dp K H v d ∧ Q (.bl (withinD d 1 64)) H
def spSeq (K : PySem.W.Frag) : Sp := fun vs H Q _ => ∃ v d a b, vs = [v, .int a, .int b] ∧ Dp K H v d ∧ ∀ H', Same H H' → Q (.bl (seqD d a b)) H'
def spAreInts (K : PySem.W.Frag) : Sp := fun vs H Q _ => ∃ v ds, vs = [v] ∧ Dp K H v (.tuple ds) ∧ ds.length ≤ 1000 ∧ ∀ H', Same H H' → Q (.bl (ds.all isIntD)) H'
def spForm (K : PySem.W.Frag) : Sp := fun vs H Q _ => ∃ v d n, vs = [v, .int n] ∧ Dp K H v d ∧ n ≤ 900 ∧ ∀ H', Same H H' → Q (.bl (formD d n)) H'
def spLow (K : PySem.W.Frag) : Sp := fun vs H Q _ => ∃ (a : Addr) (xs : List Int) (k : Nat), vs = [.ref a, .int (k : Int)] ∧ SqT K H a (xs.map V.int) ∧ xs.length ≤ 1000 ∧ k ≤ 64 ∧ ∀ p H', Same H H' → H p = none → H' p = some (.tup (xs.map fun x => V.int (x % 2 ^ k))) → Q (.ref p) H'
def spNexts (K : PySem.W.Frag) : Sp := fun vs H Q _ => ∃ v d a b m, vs = [v, .int a, .int b, .int m] ∧ Dp K H v d ∧ b ≤ 900 ∧ ∀ H', Same H H' → Q (.bl (nextsD d a b m)) H'
section
variable {P : Program} {w : World} {K : PySem.W.Frag} {mg : Str → Option Value} {base : Heap} {A : Ad}
abbrev s_is_integer : Stmt := top 8
theorem sc_is_integer : FnScope ["value"] ["value"] (defScope s_is_integer) := ⟨rfl, rfl, rfl, by decide +kernel, rfl, by decide +kernel, by decide +kernel⟩
theorem ok_is_integer {f : Addr} {fd : FuncData} (F : Fun K "is_integer" "is_integer" s_is_integer f fd) (T : Txt P w K mg base A) : FnOk P w K mg base CX0 1 f fd ["value"] (spIsInt K) := by
  refine F.ok sc_is_integer (fun vs H Q E h => ?_) (fun cdv Ar outer s H vs Q E hr h => ?_)
  · obtain ⟨v, d, rfl, _⟩ := h
    rfl
  · obtain ⟨v, d, rfl, hd, k⟩ := h
    refine ⟨_, (pss_one (ps_ret (pe_and (pe_callB call_isi (by rfl) T.z_isinstance (by decide +kernel) (pa_cons (pv 0) (pa_cons (pe_bltn (v := .ty "int") (by rfl) T.z_int (by first | exact PySem.boot_int | decide +kernel) rfl) pa_nil))) (pe_one (pe_not (pe_callB call_isi (by rfl) T.z_isinstance (by decide +kernel) (pa_cons (pv 0) (pa_cons (pe_bltn (v := .ty "bool") (by rfl) T.z_bool (by first | exact PySem.boot_bool | decide +kernel) rfl) pa_nil)))))))), ?_⟩
    walk_at "lk"
    refine s_isi hd (ki_int d) ?_
    walk_at "lk"
    cases d with
    | int i =>
      refine ite2 (fun _ => ?_) (fun z => absurd rfl z)
      walk_at "lk"
      refine s_isi hd (ki_bool _) ?_
      walk_at "lk"
      exact k
    | bool b =>
      refine ite2 (fun _ => ?_) (fun z => absurd rfl z)
      walk_at "lk"
      refine s_isi hd (ki_bool _) ?_
      walk_at "lk"
      exact k
    | _ => exact k
abbrev s_is_within : Stmt := top 9
theorem sc_is_within : FnScope ["value", "least", "most"] ["value", "least", "most"] (defScope s_is_within) := ⟨rfl, rfl, rfl, by decide +kernel, rfl, by decide +kernel, by decide +kernel⟩
theorem ok_is_within {f : Addr} {fd : FuncData} (F : Fun K "is_within" "is_within" s_is_within f fd) (T : Txt P w K mg base A) (c_is_integer : Cal P w K mg base 1 "is_integer" ["value"] (spIsInt K)) : FnOk P w K mg base CX0 2 f fd ["value", "least", "most"] (spWithin K) := by
  refine F.ok sc_is_within (fun vs H Q E h => ?_) (fun cdv Ar outer s H vs Q E hr h => ?_)
  · obtain ⟨v, d, a, b, rfl, _⟩ := h
    rfl
  · obtain ⟨v, d, a, b, rfl, hd, k⟩ := h
    refine ⟨_, (pss_one (ps_ret (pe_and (pcal c_is_integer hr (by decide) (pa_cons (pv 0) pa_nil)) (pe_one (pe_chain op_le op_le (pv 1) (pv 0) (pv 2)))))), ?_⟩
    walk_at "lk"
    refine ⟨v, d, rfl, hd, ?_⟩
    walk_at "lk"
    cases d with
    | int i =>
      cases hd
      refine ite2 (fun _ => ?_) (fun z => absurd rfl z)
      walk_at "lk"
      by_cases ha : a ≤ i
      · have e : withinD (.int i) a b = decide (i ≤ b) := by simp [withinD, ha]
        rw [e] at k
        rw [if_pos (decide_eq_true ha)]
        walk_at "lk"
        exact k
      · have e : withinD (.int i) a b = false := by simp [withinD, ha]
        rw [e] at k
        rw [if_neg (by simpa using ha)]
        exact k
    | _ => exact k
abbrev s_is_width : Stmt := top 10
theorem sc_is_width : FnScope ["value"] ["value"] (defScope s_is_width) := ⟨rfl, rfl, rfl, by decide +kernel, rfl, by decide +kernel, by decide +kernel⟩
theorem ok_is_width {f : Addr} {fd : FuncData} (F : Fun K "is_width" "is_width" s_is_width f fd) (T : Txt P w K mg base A) (c_is_within : Cal P w K mg base 2 "is_within" ["value", "least", "most"] (spWithin K)) : FnOk P w K mg base CX0 3 f fd ["value"] (spWidth K) := by
  refine F.ok sc_is_width (fun vs H Q E h => ?_) (fun cdv Ar outer s H vs Q E hr h => ?_)
  · obtain ⟨v, d, rfl, _⟩ := h
    rfl
  · obtain ⟨v, d, rfl, hd, k⟩ := h
    refine ⟨_, (pss_one (ps_ret (pcal c_is_within hr (by decide) (pa_cons (pv 0) (pa_cons pe_int (pa_cons (pe_gint (by rfl) T.g_WIDEST) pa_nil)))))), ?_⟩
    walk_at "lk"
    exact ⟨v, d, 1, 64, rfl, hd, k⟩
abbrev s_is_sequence : Stmt := top 11
theorem sc_is_sequence : FnScope ["value", "least", "most"] ["value", "least", "most"] (defScope s_is_sequence) := ⟨rfl, rfl, rfl, by decide +kernel, rfl, by decide +kernel, by decide +kernel⟩
theorem ok_is_sequence {f : Addr} {fd : FuncData} (F : Fun K "is_sequence" "is_sequence" s_is_sequence f fd) (T : Txt P w K mg base A) : FnOk P w K mg base CX0 1 f fd ["value", "least", "most"] (spSeq K) := by
  refine F.ok sc_is_sequence (fun vs H Q E h => ?_) (fun cdv Ar outer s H vs Q E hr h => ?_)
  · obtain ⟨v, d, a, b, rfl, _⟩ := h
    rfl
  · obtain ⟨v, d, a, b, rfl, hd, k⟩ := h
    refine ⟨_, (pss_one (ps_ret (pe_and (pe_callB call_isiT (by rfl) T.z_isinstance (by decide +kernel) (pa_cons (pv 0) (pa_cons (pe_tup (pa_cons (pe_bltn (v := .ty "list") (by rfl) T.z_list (by first | exact PySem.boot_list | decide +kernel) rfl) (pa_cons (pe_bltn (v := .ty "tuple") (by rfl) T.z_tuple (by first | exact PySem.boot_tuple | decide +kernel) rfl) pa_nil))) pa_nil))) (pe_one (pe_chain op_le op_le (pv 1) (pe_callB call_len_seq (by rfl) T.z_len PySem.boot_len (pa_cons (pv 0) pa_nil)) (pv 2)))))), ?_⟩
    walk_at "lk"
    refine snw (Nat.le_of_ble_eq_true rfl) fun t ht => ?_
    have s1 : Same H (upd H t (.tup [.ty "list", .ty "tuple"])) := same_new ht
    walk_at "lk"
    refine s_isiLT (dp_same s1 hd) upd_same ?_
    walk_at "lk"
    have hd1 := dp_same s1 hd
    have k1 := k _ s1
    generalize upd H t (.tup [.ty "list", .ty "tuple"]) = H1 at hd1 k1 ⊢
    cases d with
    | list ds =>
      refine ite2 (fun _ => ?_) (fun z => absurd rfl z)
      obtain ⟨p, xs, rfl, hx, hds⟩ := dp_listI hd1
      walk_at "lk"
      refine ⟨p, xs, rfl, .inl hx, ?_⟩
      rw [dpa_len hds]
      walk_at "lk"
      have k2 := two_le k1
      refine ite2 (fun e => ?_) (fun e => ?_)
      · rw [if_pos e] at k2
        walk_at "lk"
        exact k2
      · rw [if_neg e] at k2
        exact k2
    | tuple ds =>
      refine ite2 (fun _ => ?_) (fun z => absurd rfl z)
      obtain ⟨p, xs, rfl, hx, hds⟩ := dp_tupI hd1
      walk_at "lk"
      refine ⟨p, xs, rfl, .inr hx, ?_⟩
      rw [dpa_len hds]
      walk_at "lk"
      have k2 := two_le k1
      refine ite2 (fun e => ?_) (fun e => ?_)
      · rw [if_pos e] at k2
        walk_at "lk"
        exact k2
      · rw [if_neg e] at k2
        exact k2
    | _ => exact k1
abbrev s_are_integers : Stmt := top 12
theorem sc_are_integers : FnScope ["items", "item"] ["items"] (defScope s_are_integers) := ⟨rfl, rfl, rfl, by decide +kernel, rfl, by decide +kernel, by decide +kernel⟩
theorem ok_are_integers {f : Addr} {fd : FuncData} (F : Fun K "are_integers" "are_integers" s_are_integers f fd) (T : Txt P w K mg base A) (c_is_integer : Cal P w K mg base 1 "is_integer" ["value"] (spIsInt K)) : FnOk P w K mg base CX0 2 f fd ["items"] (spAreInts K) := by
  refine F.ok sc_are_integers (fun vs H Q E h => ?_) (fun cdv Ar outer s H vs Q E hr h => ?_)
  · obtain ⟨v, ds, rfl, _⟩ := h
    rfl
  · obtain ⟨v, ds, rfl, hd, hl, k⟩ := h
    refine ⟨_, (pss_one (ps_ret (pe_callB (cr_all rfl) (by rfl) T.z_all (by decide +kernel) (pa_cons (pe_lc (own := [("item", 1)]) (g := gName 1) (tt := tYes) rfl sc_are_integers.nd (pi_tup (pv 0)) (blkOk_by (own := [("item", 1)]) (N := ["items", "item"]) (sc := defScope s_are_integers) (by decide +kernel)) (fun _ _ _ _ _ => pg_name (i := 1) sc_are_integers.nd rfl (Or.inl rfl)) (fun _ _ _ _ _ => pts_nil) (fun _ _ _ _ _ => (pcal c_is_integer hr (by decide) (pa_cons (pv 1) pa_nil)))) pa_nil)))), ?_⟩
    obtain ⟨p, xs, rfl, hx, hds⟩ := dp_tupI hd
    walk_at "lk"
    refine tlc_mapT (ys := ds.map fun d => V.bl (isIntD d)) rfl hx (by rw [List.length_map, dpa_len hds]) (by rw [dpa_len hds]; exact hl) (fun _ => rfl) (fun i x y H' hi hy s' R q => ?_) (fun D H' s' hD hDl => ?_)
    · obtain ⟨d, e1, e2⟩ := dpa_at hds hi
      rw [List.getElem?_map, e1] at hy
      cases hy
      walk_at "lk"
      exact ⟨x, d, rfl, dp_same s' e2, q _ (Same.refl _)⟩
    · walk_at "lk"
      exact all_bls hDl (k _ s')
abbrev s_is_form : Stmt := top 14
theorem sc_is_form : FnScope ["value", "size"] ["value", "size"] (defScope s_is_form) := ⟨rfl, rfl, rfl, by decide +kernel, rfl, by decide +kernel, by decide +kernel⟩
theorem ok_is_form {f : Addr} {fd : FuncData} (F : Fun K "is_form" "is_form" s_is_form f fd) (T : Txt P w K mg base A) (c_are_integers : Cal P w K mg base 2 "are_integers" ["items"] (spAreInts K)) : FnOk P w K mg base CX0 3 f fd ["value", "size"] (spForm K) := by
  refine F.ok sc_is_form (fun vs H Q E h => ?_) (fun cdv Ar outer s H vs Q E hr h => ?_)
  · obtain ⟨v, d, n, rfl, _⟩ := h
    rfl
  · obtain ⟨v, d, n, rfl, hd, hn, k⟩ := h
    refine ⟨_, (pss_one (ps_ret (pe_and (pe_callB call_isi (by rfl) T.z_isinstance (by decide +kernel) (pa_cons (pv 0) (pa_cons (pe_bltn (v := .ty "tuple") (by rfl) T.z_tuple (by first | exact PySem.boot_tuple | decide +kernel) rfl) pa_nil))) (pe_and (pe_cmpR op_eq (pe_callB call_len_seq (by rfl) T.z_len PySem.boot_len (pa_cons (pv 0) pa_nil)) (pe_op op_add (pv 1) pe_int) (nomark _)) (pe_one (pcal c_are_integers hr (by decide) (pa_cons (pv 0) pa_nil))))))), ?_⟩
    walk_at "lk"
    refine s_isi hd (ki_tup d) ?_
    walk_at "lk"
    cases d with
    | tuple ds =>
      refine ite2 (fun _ => ?_) (fun z => absurd rfl z)
      obtain ⟨p, xs, rfl, hx, hds⟩ := dp_tupI hd
      walk_at "lk"
      refine ⟨p, xs, rfl, .inr hx, ?_⟩
      rw [dpa_len hds]
      walk_at "lk"
      refine sEq rfl ?_
      walk_at "lk"
      by_cases e : (ds.length : Int) = n + 1
      · rw [if_pos (by rw [e]; exact decide_eq_true rfl)]
        walk_at "lk"
        refine ⟨_, ds, rfl, hd, by omega, fun H' s' => ?_⟩
        have e2 : formD (.tuple ds) n = ds.all isIntD := by simp [formD, e]
        rw [← e2]
        exact k _ s'
      · rw [if_neg (fun z => e (V.int.inj (of_decide_eq_true z)))]
        have e2 : formD (.tuple ds) n = false := by simp [formD, e]
        have e3 : decide (V.int (ds.length : Int) = V.int (n + 1)) = false := decide_eq_false fun z => e (V.int.inj z)
        have k1 := k H (Same.refl H)
        rw [e2] at k1
        exact k1
    | _ => exact k _ (Same.refl H)
abbrev s_lowered : Stmt := top 15
theorem sc_lowered : FnScope ["numbers", "width", "mask", "number"] ["numbers", "width"] (defScope s_lowered) := ⟨rfl, rfl, rfl, by decide +kernel, rfl, by decide +kernel, by decide +kernel⟩
theorem ok_lowered {f : Addr} {fd : FuncData} (F : Fun K "lowered" "lowered" s_lowered f fd) (T : Txt P w K mg base A) : FnOk P w K mg base CX0 1 f fd ["numbers", "width"] (spLow K) := by
  refine F.ok sc_lowered (fun vs H Q E h => ?_) (fun cdv Ar outer s H vs Q E hr h => ?_)
  · obtain ⟨a, xs, k, rfl, _⟩ := h
    rfl
  · obtain ⟨a, xs, k, rfl, hx, hl, hk, q⟩ := h
    refine ⟨_, (pss_cons (ps_set (i := 2) sc_lowered.nd rfl (Or.inr rfl) (pe_op op_sub (pe_op op_oneShl pe_int (pv 1)) pe_int))
        (pss_one (ps_ret (pe_callTy call_tuple_of (by rfl) T.z_tuple (by decide +kernel) (pa_cons (pe_lc (own := [("number", 3)]) (g := gName 3) (tt := tYes) rfl sc_lowered.nd (pi_tup (pv 0)) (blkOk_by (own := [("number", 3)]) (N := ["numbers", "width", "mask", "number"]) (sc := defScope s_lowered) (by decide +kernel)) (fun _ _ _ _ _ => pg_name (i := 3) sc_lowered.nd rfl (Or.inl rfl)) (fun _ _ _ _ _ => pts_nil) (fun _ _ _ _ _ => (pe_op op_andM (pv 3) (pv 2)))) pa_nil))))), ?_⟩
    walk_at "lk"
    refine ⟨k, rfl, rfl, by omega, ?_⟩
    walk_at "lk"
    refine tlc_mapT (ys := xs.map fun x => V.int (x % 2 ^ k)) rfl hx (by rw [List.length_map, List.length_map]) (by rw [List.length_map]; exact hl) (fun _ => rfl) (fun i x y H' hi hy s' R r => ?_) (fun D H' s' hD hDl => ?_)
    · rw [List.getElem?_map] at hi hy
      cases e : xs[i]? with
      | none =>
        rw [e] at hi
        cases hi
      | some z =>
        rw [e] at hi hy
        cases hi
        cases hy
        walk_at "lk"
        exact ⟨z, k, rfl, rfl, r _ (Same.refl _)⟩
    · walk_at "lk"
      refine ⟨D, _, rfl, .inl ⟨SqL.of hDl, fun l hl => q _ _ (s'.trans (same_new hl)) (s'.free hl) upd_same⟩⟩
abbrev s_are_nexts : Stmt := top 19
theorem sc_are_nexts : FnScope ["value", "least", "most", "many", "row"] ["value", "least", "most", "many"] (defScope s_are_nexts) := ⟨rfl, rfl, rfl, by decide +kernel, rfl, by decide +kernel, by decide +kernel⟩
theorem ok_are_nexts {f : Addr} {fd : FuncData} (F : Fun K "are_nexts" "are_nexts" s_are_nexts f fd) (T : Txt P w K mg base A) (c_is_within : Cal P w K mg base 2 "is_within" ["value", "least", "most"] (spWithin K)) : FnOk P w K mg base CX0 3 f fd ["value", "least", "most", "many"] (spNexts K) := by
  refine F.ok sc_are_nexts (fun vs H Q E h => ?_) (fun cdv Ar outer s H vs Q E hr h => ?_)
  · obtain ⟨v, d, a, b, m, rfl, _⟩ := h
    rfl
  · obtain ⟨v, d, a, b, m, rfl, hd, hb, k⟩ := h
    refine ⟨_, (pss_one (ps_ret (pe_and (pe_callB call_isi (by rfl) T.z_isinstance (by decide +kernel) (pa_cons (pv 0) (pa_cons (pe_bltn (v := .ty "tuple") (by rfl) T.z_tuple (by first | exact PySem.boot_tuple | decide +kernel) rfl) pa_nil))) (pe_and (pe_chain op_le op_le (pv 1) (pe_callB call_len_seq (by rfl) T.z_len PySem.boot_len (pa_cons (pv 0) pa_nil)) (pv 2)) (pe_one (pe_callB (cr_all rfl) (by rfl) T.z_all (by decide +kernel) (pa_cons (pe_lc (own := [("row", 4)]) (g := gName 4) (tt := tYes) rfl sc_are_nexts.nd (pi_tup (pv 0)) (blkOk_by (own := [("row", 4)]) (N := ["value", "least", "most", "many", "row"]) (sc := defScope s_are_nexts) (by decide +kernel)) (fun _ _ _ _ _ => pg_name (i := 4) sc_are_nexts.nd rfl (Or.inl rfl)) (fun _ _ _ _ _ => pts_nil) (fun _ _ _ _ _ => (pcal c_is_within hr (by decide) (pa_cons (pv 4) (pa_cons pe_int (pa_cons (pe_op op_sub (pv 3) pe_int) pa_nil)))))) pa_nil))))))), ?_⟩
    walk_at "lk"
    refine s_isi hd (ki_tup d) ?_
    walk_at "lk"
    cases d with
    | tuple ds =>
      refine ite2 (fun _ => ?_) (fun z => absurd rfl z)
      obtain ⟨p, xs, rfl, hx, hds⟩ := dp_tupI hd
      walk_at "lk"
      refine ⟨p, xs, rfl, .inr hx, ?_⟩
      rw [dpa_len hds]
      walk_at "lk"
      by_cases e1 : a ≤ (ds.length : Int)
      · rw [if_pos (decide_eq_true e1)]
        walk_at "lk"
        by_cases e2 : (ds.length : Int) ≤ b
        · rw [if_pos (decide_eq_true e2)]
          walk_at "lk"
          have e3 : nextsD (.tuple ds) a b m = ds.all fun e => withinD e 0 (m - 1) := by simp [nextsD, e1, e2]
          rw [e3] at k
          refine tlc_mapT (ys := ds.map fun d => V.bl (withinD d 0 (m - 1))) rfl hx (by rw [List.length_map, dpa_len hds]) (by rw [dpa_len hds]; omega) (fun _ => rfl) (fun i x y H' hi hy s' R q => ?_) (fun D H' s' hD hDl => ?_)
          · obtain ⟨d, e1, e2⟩ := dpa_at hds hi
            rw [List.getElem?_map, e1] at hy
            cases hy
            walk_at "lk"
            exact ⟨x, d, 0, m - 1, rfl, dp_same s' e2, q _ (Same.refl _)⟩
          · walk_at "lk"
            exact all_bls hDl (k _ s')
        · rw [if_neg (by simpa using e2)]
          have e3 : nextsD (.tuple ds) a b m = false := by simp [nextsD, e1, e2]
          have e4 : decide ((ds.length : Int) ≤ b) = false := decide_eq_false e2
          have k1 := k H (Same.refl H)
          rw [e3] at k1
          exact k1
      · rw [if_neg (by simpa using e1)]
        have e3 : nextsD (.tuple ds) a b m = false := by simp [nextsD, e1]
        have k1 := k H (Same.refl H)
        rw [e3] at k1
        walk_at "lk"
        exact k1
    | _ => exact k _ (Same.refl H)
end
end K42

namespace K42
open PySem PySem.Spec PyProof.Rows L2 Lk
local macro_rules | `(tactic| walk_at "lk") => `(tactic| (repeat (first
  | with_reducible refine ssq ?_ | with_reducible refine sas ?_ | with_reducible refine sgn ?_ | ((with_reducible show tVar _ _ _ _); refine sv rfl ?_) | with_reducible refine sc ?_ | with_reducible refine sop ?_ | with_reducible refine sun ?_
  | with_reducible refine sI0 ?_ | with_reducible refine sU ?_ | with_reducible refine stt ?_ | with_reducible refine stB ?_ | with_reducible refine sbl ?_ | with_reducible refine snt ?_ | with_reducible refine sif ?_ | with_reducible refine scB ?_
  | with_reducible refine scn ?_ | with_reducible refine snl ?_ | with_reducible refine scl ?_ | with_reducible refine stu ?_ | with_reducible refine sli ?_ | with_reducible refine sdr ?_ | with_reducible refine srt ?_ | with_reducible refine snx ?_ | with_reducible refine sfor ?_ | with_reducible refine sils ?_ | with_reducible refine sien ?_ | with_reducible refine sor ?_ | with_reducible refine sfg ?_
  | with_reducible refine sav ?_ | with_reducible refine sov ?_ | with_reducible refine snv ?_ | with_reducible refine sch ?_ | with_reducible refine san ?_ | with_reducible refine ssll ?_ | with_reducible refine spt ?_ | with_reducible refine snp ?_ | with_reducible refine sin ?_ | with_reducible refine sfl ?_ | with_reducible refine sfd ?_
  | ((with_reducible show Or _ _); first | refine Or.inl ⟨_, rfl, ?_⟩ | refine Or.inr ⟨_, rfl, ?_⟩))))

def spIsName (K : PySem.W.Frag) : Sp := fun vs H Q _ => ∃ x, vs = [.str x] ∧ nameS x = true ∧ ∀ H', Same H H' → Q (.bl true) H'
def spIsVar (K : PySem.W.Frag) : Sp := fun vs H Q _ => ∃ (x : Str) (l : Addr) (ns : List Str), vs = [.str x, .ref l] ∧ SqE K H l (ns.map V.str) ∧ x ∈ ns ∧ Q (.bl true) H
def spIsRow (K : PySem.W.Frag) : Sp := fun vs H Q _ => ∃ (v : V) (l : Addr) (m : Int) (ns : List Str) (r : LRow), vs = [v, .ref l, .int m] ∧ SqE K H l (ns.map V.str) ∧ ns.length ≤ 6 ∧ RowH H v r ∧ RowOk ns m r ∧ ∀ H', Same H H' → Q (.bl true) H'
def spLowRow (K : PySem.W.Frag) : Sp := fun vs H Q _ => ∃ (v : V) (k : Nat) (r : LRow), vs = [v, .int (k : Int)] ∧ k ≤ 64 ∧ RowH H v r ∧ (∃ ns m, RowOk ns m r ∧ ns.length ≤ 6) ∧ ∀ u H', Same H H' → RowH H' u (r.low k) → Q u H'
section
variable {P : Program} {w : World} {K : PySem.W.Frag} {mg : Str → Option Value} {base : Heap} {A : Ad}
abbrev s_is_name : Stmt := top 54
theorem sc_is_name : FnScope ["value", "letter"] ["value"] (defScope s_is_name) := ⟨rfl, rfl, rfl, by decide +kernel, rfl, by decide +kernel, by decide +kernel⟩
theorem ok_is_name {f : Addr} {fd : FuncData} (F : Fun K "is_name" "is_name" s_is_name f fd) (T : Txt P w K mg base A) : FnOk P w K mg base CX0 1 f fd ["value"] (spIsName K) := by
  refine F.ok sc_is_name (fun vs H Q E h => ?_) (fun cdv Ar outer s H vs Q E hr h => ?_)
  · obtain ⟨x, rfl, _⟩ := h
    rfl
  · obtain ⟨x, rfl, hx, k⟩ := h
    refine ⟨_, (pss_one (ps_ret (pe_and (pe_callB call_isi (by rfl) T.z_isinstance (by decide +kernel) (pa_cons (pv 0) (pa_cons (pe_bltn (v := .ty "str") (by rfl) T.z_str (by first | exact PySem.boot_str | decide +kernel) rfl) pa_nil))) (pe_and (pe_chain op_le op_le pe_int (pe_callB call_len_str (by rfl) T.z_len PySem.boot_len (pa_cons (pv 0) pa_nil)) (pe_gint (by rfl) T.g_LONGEST_NAME)) (pe_one (pe_callB (cr_all rfl) (by rfl) T.z_all (by decide +kernel) (pa_cons (pe_lc (own := [("letter", 1)]) (g := gName 1) (tt := tYes) rfl sc_is_name.nd (pi_str (pv 0)) (blkOk_by (own := [("letter", 1)]) (N := ["value", "letter"]) (sc := defScope s_is_name) (by decide +kernel)) (fun _ _ _ _ _ => pg_name (i := 1) sc_is_name.nd rfl (Or.inl rfl)) (fun _ _ _ _ _ => pts_nil) (fun _ _ _ _ _ => (pe_chain op_le_str op_le_str pe_str (pv 1) pe_str))) pa_nil))))))), ?_⟩
    have h1 := hx
    unfold nameS at h1
    rw [Bool.and_eq_true, Bool.and_eq_true] at h1
    obtain ⟨⟨h1, h2⟩, h3⟩ := h1
    have h2' := of_decide_eq_true h2
    walk_at "lk"
    refine s_isi (d := .str x) (.str x) (ki_str _) ?_
    walk_at "lk"
    refine ite2 (fun _ => ?_) (fun z => absurd rfl z)
    walk_at "lk"
    refine ⟨x, rfl, Nat.le_of_lt (small1000 (by omega)), ?_⟩
    walk_at "lk"
    rw [if_pos (decide_eq_true (by have := of_decide_eq_true h1; omega))]
    walk_at "lk"
    rw [if_pos (decide_eq_true (by omega))]
    walk_at "lk"
    refine tlc_mapS (ys := x.cps.toList.map fun c => V.bl (letD c)) rfl (by rw [List.length_map]; rfl) (by have : x.cps.size = x.length := rfl; omega) (fun _ => rfl) (fun i c y H' hi hy s' R q => ?_) (fun D H' s' hD hDl => ?_)
    · rw [List.getElem?_map, Array.getElem?_toList, hi] at hy
      cases hy
      walk_at "lk"
      refine ⟨_, _, rfl, rfl, ?_⟩
      have e1 : (!decide ((⟨#[c]⟩ : Str).cps.toList < ("a" : Str).cps.toList)) = decide (97 ≤ c) := by
        show (!decide ([c] < [97])) = _
        rw [lex1, ← decide_not]
        exact decide_eq_decide.mpr Nat.not_lt
      have e2 : (!decide (("z" : Str).cps.toList < (⟨#[c]⟩ : Str).cps.toList)) = decide (c ≤ 122) := by
        show (!decide ([122] < [c])) = _
        rw [lex1, ← decide_not]
        exact decide_eq_decide.mpr Nat.not_lt
      rw [e1]
      walk_at "lk"
      have q0 : R (.bl (decide (97 ≤ c) && decide (c ≤ 122))) H' := q _ (Same.refl H')
      by_cases e : 97 ≤ c
      · rw [if_pos (decide_eq_true e)]
        rw [decide_eq_true e, Bool.true_and] at q0
        walk_at "lk"
        refine ⟨_, _, rfl, rfl, ?_⟩
        rw [e2]
        exact q0
      · rw [if_neg (by simpa using e)]
        rw [decide_eq_false e, Bool.false_and] at q0
        exact q0
    · walk_at "lk"
      refine ⟨D, x.cps.toList.map letD, rfl, .inl (.inl (by rw [hDl, List.map_map]; rfl)), ?_⟩
      rw [List.all_map]
      show (_ : VK) (.bl (x.cps.toList.all letD)) H'
      rw [h3]
      exact k _ s'
abbrev s_is_variable : Stmt := top 57
theorem sc_is_variable : FnScope ["value", "variables"] ["value", "variables"] (defScope s_is_variable) := ⟨rfl, rfl, rfl, by decide +kernel, rfl, by decide +kernel, by decide +kernel⟩
theorem ok_is_variable {f : Addr} {fd : FuncData} (F : Fun K "is_variable" "is_variable" s_is_variable f fd) (T : Txt P w K mg base A) : FnOk P w K mg base CX0 1 f fd ["value", "variables"] (spIsVar K) := by
  refine F.ok sc_is_variable (fun vs H Q E h => ?_) (fun cdv Ar outer s H vs Q E hr h => ?_)
  · obtain ⟨x, l, ns, rfl, _⟩ := h
    rfl
  · obtain ⟨x, l, ns, rfl, hl, hx, k⟩ := h
    refine ⟨_, (pss_one (ps_ret (pe_and (pe_callB call_isi (by rfl) T.z_isinstance (by decide +kernel) (pa_cons (pv 0) (pa_cons (pe_bltn (v := .ty "str") (by rfl) T.z_str (by first | exact PySem.boot_str | decide +kernel) rfl) pa_nil))) (pe_one (pe_cmpR op_in_seq (pv 0) (pv 1) (by rfl)))))), ?_⟩
    walk_at "lk"
    refine s_isi (d := .str x) (.str x) (ki_str _) ?_
    walk_at "lk"
    refine ite2 (fun _ => ?_) (fun z => absurd rfl z)
    walk_at "lk"
    refine ⟨l, ns.map V.str, rfl, hl, rfl, Lk.flat_strs ns, ?_⟩
    show (_ : VK) (.bl (inV (.str x) (ns.map V.str))) H
    rw [inV_str hx]
    exact k
abbrev s_lowered_row : Stmt := top 58
theorem sc_lowered_row : FnScope ["item", "width"] ["item", "width"] (defScope s_lowered_row) := ⟨rfl, rfl, rfl, by decide +kernel, rfl, by decide +kernel, by decide +kernel⟩
theorem ok_lowered_row {f : Addr} {fd : FuncData} (F : Fun K "lowered_row" "lowered_row" s_lowered_row f fd) (T : Txt P w K mg base A) (c_lowered : Cal P w K mg base 1 "lowered" ["numbers", "width"] (spLow K)) : FnOk P w K mg base CX0 2 f fd ["item", "width"] (spLowRow K) := by
  refine F.ok sc_lowered_row (fun vs H Q E h => ?_) (fun cdv Ar outer s H vs Q E hr h => ?_)
  · obtain ⟨v, k, r, rfl, _⟩ := h
    rfl
  · obtain ⟨v, k, r, rfl, hk, hr0, hok, q⟩ := h
    refine ⟨_, (pss_cons (ps_if (pt_cmpR op_eq (pe_ix ix_tup (pv 0) pe_int (fun _ _ => rfl)) pe_str (nomark _)) (pss_one (ps_ret (pe_tup (pa_cons pe_str (pa_cons (pe_ix ix_tup (pv 0) pe_int (fun _ _ => rfl)) (pa_cons (pcal c_lowered hr (by decide) (pa_cons (pe_ix ix_tup (pv 0) pe_int (fun _ _ => rfl)) (pa_cons (pv 1) pa_nil))) (pa_cons (pe_ix ix_tup (pv 0) pe_int (fun _ _ => rfl)) pa_nil))))))) pss_nil)
        (pss_cons (ps_if (pt_cmpR op_eq (pe_ix ix_tup (pv 0) pe_int (fun _ _ => rfl)) pe_str (nomark _)) (pss_one (ps_ret (pe_tup (pa_cons pe_str (pa_cons (pcal c_lowered hr (by decide) (pa_cons (pe_ix ix_tup (pv 0) pe_int (fun _ _ => rfl)) (pa_cons (pv 1) pa_nil))) (pa_cons (pe_ix ix_tup (pv 0) pe_int (fun _ _ => rfl)) pa_nil)))))) pss_nil)
        (pss_one (ps_ret (pv 0))))), ?_⟩
    obtain ⟨ns, m, hok, hn⟩ := hok
    cases r with
    | set n f j =>
      obtain ⟨a, b, rfl, ha, hb⟩ := hr0
      obtain ⟨_, hf, _⟩ := hok
      walk_at "lk"
      refine sft (SqT.of ha) (by rfl) ?_
      walk_at "lk"
      refine sEq rfl ?_
      walk_at "lk"
      rw [if_pos (decide_eq_true rfl)]
      walk_at "lk"
      refine sft (SqT.of ha) (by rfl) ?_
      walk_at "lk"
      refine sft (SqT.of ha) (by rfl) ?_
      walk_at "lk"
      refine ⟨b, f, k, rfl, SqT.of hb, by omega, hk, fun p H1 s1 hp1 h1 => ?_⟩
      walk_at "lk"
      refine sft (SqT.of (s1 _ _ ha)) (by rfl) ?_
      walk_at "lk"
      refine snw (Nat.le_of_ble_eq_true rfl) fun t ht => ?_
      refine q _ _ (s1.trans (same_new ht)) ⟨t, p, rfl, upd_same, ?_⟩
      rw [same_new ht _ _ h1, List.map_map]
      rfl
    | say f j =>
      obtain ⟨a, b, rfl, ha, hb⟩ := hr0
      obtain ⟨hf, _⟩ := hok
      walk_at "lk"
      refine sft (SqT.of ha) (by rfl) ?_
      walk_at "lk"
      refine sEq rfl ?_
      walk_at "lk"
      rw [if_neg (by decide +kernel)]
      walk_at "lk"
      refine sft (SqT.of ha) (by rfl) ?_
      walk_at "lk"
      refine sEq rfl ?_
      walk_at "lk"
      rw [if_pos (decide_eq_true rfl)]
      walk_at "lk"
      refine sft (SqT.of ha) (by rfl) ?_
      walk_at "lk"
      refine ⟨b, f, k, rfl, SqT.of hb, by omega, hk, fun p H1 s1 hp1 h1 => ?_⟩
      walk_at "lk"
      refine sft (SqT.of (s1 _ _ ha)) (by rfl) ?_
      walk_at "lk"
      refine snw (Nat.le_of_ble_eq_true rfl) fun t ht => ?_
      refine q _ _ (s1.trans (same_new ht)) ⟨t, p, rfl, upd_same, ?_⟩
      rw [same_new ht _ _ h1, List.map_map]
      rfl
    | ask n j =>
      obtain ⟨a, rfl, ha⟩ := hr0
      walk_at "lk"
      refine sft (SqT.of ha) (by rfl) ?_
      walk_at "lk"
      refine sEq rfl ?_
      walk_at "lk"
      rw [if_neg (by decide +kernel)]
      walk_at "lk"
      refine sft (SqT.of ha) (by rfl) ?_
      walk_at "lk"
      refine sEq rfl ?_
      walk_at "lk"
      rw [if_neg (by decide +kernel)]
      walk_at "lk"
      exact q _ _ (Same.refl _) ⟨a, rfl, ha⟩
    | choose ks =>
      obtain ⟨a, b, rfl, ha, hb⟩ := hr0
      walk_at "lk"
      refine sft (SqT.of ha) (by rfl) ?_
      walk_at "lk"
      refine sEq rfl ?_
      walk_at "lk"
      rw [if_neg (by decide +kernel)]
      walk_at "lk"
      refine sft (SqT.of ha) (by rfl) ?_
      walk_at "lk"
      refine sEq rfl ?_
      walk_at "lk"
      rw [if_neg (by decide +kernel)]
      walk_at "lk"
      exact q _ _ (Same.refl _) ⟨a, b, rfl, ha, hb⟩
    | look j =>
      obtain ⟨a, rfl, ha⟩ := hr0
      walk_at "lk"
      refine sft (SqT.of ha) (by rfl) ?_
      walk_at "lk"
      refine sEq rfl ?_
      walk_at "lk"
      rw [if_neg (by decide +kernel)]
      walk_at "lk"
      refine sft (SqT.of ha) (by rfl) ?_
      walk_at "lk"
      refine sEq rfl ?_
      walk_at "lk"
      rw [if_neg (by decide +kernel)]
      walk_at "lk"
      exact q _ _ (Same.refl _) ⟨a, rfl, ha⟩
    | stop =>
      obtain ⟨a, rfl, ha⟩ := hr0
      walk_at "lk"
      refine sft (SqT.of ha) (by rfl) ?_
      walk_at "lk"
      refine sEq rfl ?_
      walk_at "lk"
      rw [if_neg (by decide +kernel)]
      walk_at "lk"
      refine sft (SqT.of ha) (by rfl) ?_
      walk_at "lk"
      refine sEq rfl ?_
      walk_at "lk"
      rw [if_neg (by decide +kernel)]
      walk_at "lk"
      exact q _ _ (Same.refl _) ⟨a, rfl, ha⟩
end
end K42

namespace K42
open PySem PySem.Spec PyProof.Rows L2 Lk
local macro_rules | `(tactic| walk_at "lk") => `(tactic| (repeat (first
  | with_reducible refine ssq ?_ | with_reducible refine sas ?_ | with_reducible refine sgn ?_ | ((with_reducible show tVar _ _ _ _); refine sv rfl ?_) | with_reducible refine sc ?_ | with_reducible refine sop ?_ | with_reducible refine sun ?_
  | with_reducible refine sI0 ?_ | with_reducible refine sU ?_ | with_reducible refine stt ?_ | with_reducible refine stB ?_ | with_reducible refine sbl ?_ | with_reducible refine snt ?_ | with_reducible refine sif ?_ | with_reducible refine scB ?_
  | with_reducible refine scn ?_ | with_reducible refine snl ?_ | with_reducible refine scl ?_ | with_reducible refine stu ?_ | with_reducible refine sli ?_ | with_reducible refine sdr ?_ | with_reducible refine srt ?_ | with_reducible refine snx ?_ | with_reducible refine sfor ?_ | with_reducible refine sils ?_ | with_reducible refine sien ?_ | with_reducible refine sor ?_ | with_reducible refine sfg ?_
  | with_reducible refine sav ?_ | with_reducible refine sov ?_ | with_reducible refine snv ?_ | with_reducible refine sch ?_ | with_reducible refine san ?_ | with_reducible refine ssll ?_ | with_reducible refine spt ?_ | with_reducible refine snp ?_ | with_reducible refine sin ?_ | with_reducible refine sfl ?_ | with_reducible refine sfd ?_
  | ((with_reducible show Or _ _); first | refine Or.inl ⟨_, rfl, ?_⟩ | refine Or.inr ⟨_, rfl, ?_⟩))))

section
variable {P : Program} {w : World} {K : PySem.W.Frag} {mg : Str → Option Value} {base : Heap} {A : Ad}
abbrev s_is_row : Stmt := top 56
theorem sc_is_row : FnScope ["item", "variables", "many", "kind", "rest"] ["item", "variables", "many"] (defScope s_is_row) := ⟨rfl, rfl, rfl, by decide +kernel, rfl, by decide +kernel, by decide +kernel⟩
theorem ok_is_row {f : Addr} {fd : FuncData} (F : Fun K "is_row" "is_row" s_is_row f fd) (T : Txt P w K mg base A) (c_is_variable : Cal P w K mg base 1 "is_variable" ["value", "variables"] (spIsVar K)) (c_is_form : Cal P w K mg base 3 "is_form" ["value", "size"] (spForm K)) (c_is_within : Cal P w K mg base 2 "is_within" ["value", "least", "most"] (spWithin K)) (c_are_nexts : Cal P w K mg base 3 "are_nexts" ["value", "least", "most", "many"] (spNexts K)) : FnOk P w K mg base CX0 4 f fd ["item", "variables", "many"] (spIsRow K) := by
  refine F.ok sc_is_row (fun vs H Q E h => ?_) (fun cdv Ar outer s H vs Q E hr h => ?_)
  · obtain ⟨v, l, m, ns, r, rfl, _⟩ := h
    rfl
  · obtain ⟨v, l, m, ns, r, rfl, hl, hn, hr0, hok, q⟩ := h
    refine ⟨_, (pss_cons (ps_if (PW.pt (pw_or (pt_not (pt_val (pe_callB call_isi (by rfl) T.z_isinstance (by decide +kernel) (pa_cons (pv 0) (pa_cons (pe_bltn (v := .ty "tuple") (by rfl) T.z_tuple (by first | exact PySem.boot_tuple | decide +kernel) rfl) pa_nil))))) (pw_or (pt_not (pt_truth (pv 0) (fun _ => rfl))) (pw_or1 (pt_not (pt_val (pe_callB call_isi (by rfl) T.z_isinstance (by decide +kernel) (pa_cons (pe_ix ix_tup (pv 0) pe_int (fun _ _ => rfl)) (pa_cons (pe_bltn (v := .ty "str") (by rfl) T.z_str (by first | exact PySem.boot_str | decide +kernel) rfl) pa_nil))))))))) (pss_one (ps_ret pe_bl)) pss_nil)
        (pss_cons (ps_set (i := 3) sc_is_row.nd rfl (Or.inl rfl) (pe_ix ix_tup (pv 0) pe_int (fun _ _ => rfl)))
        (pss_cons (ps_set (i := 4) sc_is_row.nd rfl (Or.inl rfl) (pe_slice sl_tupA (pv 0) (po_some pe_int) po_none))
        (pss_cons (ps_if (PW.pt (pw_and (pt_cmpR op_eq (pv 3) pe_str (nomark _)) (pw_and1 (pt_cmpR op_eq (pe_callB call_len_seq (by rfl) T.z_len PySem.boot_len (pa_cons (pv 4) pa_nil)) pe_int (nomark _))))) (pss_one (ps_ret (pe_and (pcal c_is_variable hr (by decide) (pa_cons (pe_ix ix_tup (pv 4) pe_int (fun _ _ => rfl)) (pa_cons (pv 1) pa_nil))) (pe_and (pcal c_is_form hr (by decide) (pa_cons (pe_ix ix_tup (pv 4) pe_int (fun _ _ => rfl)) (pa_cons (pe_callB call_len_seq (by rfl) T.z_len PySem.boot_len (pa_cons (pv 1) pa_nil)) pa_nil))) (pe_one (pcal c_is_within hr (by decide) (pa_cons (pe_ix ix_tup (pv 4) pe_int (fun _ _ => rfl)) (pa_cons pe_int (pa_cons (pe_op op_sub (pv 2) pe_int) pa_nil))))))))) pss_nil)
        (pss_cons (ps_if (PW.pt (pw_and (pt_cmpR op_eq (pv 3) pe_str (nomark _)) (pw_and1 (pt_cmpR op_eq (pe_callB call_len_seq (by rfl) T.z_len PySem.boot_len (pa_cons (pv 4) pa_nil)) pe_int (nomark _))))) (pss_one (ps_ret (pe_and (pcal c_is_variable hr (by decide) (pa_cons (pe_ix ix_tup (pv 4) pe_int (fun _ _ => rfl)) (pa_cons (pv 1) pa_nil))) (pe_one (pcal c_is_within hr (by decide) (pa_cons (pe_ix ix_tup (pv 4) pe_int (fun _ _ => rfl)) (pa_cons pe_int (pa_cons (pe_op op_sub (pv 2) pe_int) pa_nil)))))))) pss_nil)
        (pss_cons (ps_if (PW.pt (pw_and (pt_cmpR op_eq (pv 3) pe_str (nomark _)) (pw_and1 (pt_cmpR op_eq (pe_callB call_len_seq (by rfl) T.z_len PySem.boot_len (pa_cons (pv 4) pa_nil)) pe_int (nomark _))))) (pss_one (ps_ret (pe_and (pcal c_is_form hr (by decide) (pa_cons (pe_ix ix_tup (pv 4) pe_int (fun _ _ => rfl)) (pa_cons (pe_callB call_len_seq (by rfl) T.z_len PySem.boot_len (pa_cons (pv 1) pa_nil)) pa_nil))) (pe_one (pcal c_is_within hr (by decide) (pa_cons (pe_ix ix_tup (pv 4) pe_int (fun _ _ => rfl)) (pa_cons pe_int (pa_cons (pe_op op_sub (pv 2) pe_int) pa_nil)))))))) pss_nil)
        (pss_cons (ps_if (PW.pt (pw_and (pt_cmpR op_eq (pv 3) pe_str (nomark _)) (pw_and1 (pt_cmpR op_eq (pe_callB call_len_seq (by rfl) T.z_len PySem.boot_len (pa_cons (pv 4) pa_nil)) pe_int (nomark _))))) (pss_one (ps_ret (pcal c_is_within hr (by decide) (pa_cons (pe_ix ix_tup (pv 4) pe_int (fun _ _ => rfl)) (pa_cons pe_int (pa_cons (pe_op op_sub (pv 2) pe_int) pa_nil)))))) pss_nil)
        (pss_cons (ps_if (PW.pt (pw_and (pt_cmpR op_eq (pv 3) pe_str (nomark _)) (pw_and1 (pt_cmpR op_eq (pe_callB call_len_seq (by rfl) T.z_len PySem.boot_len (pa_cons (pv 4) pa_nil)) pe_int (nomark _))))) (pss_one (ps_ret (pcal c_are_nexts hr (by decide) (pa_cons (pe_ix ix_tup (pv 4) pe_int (fun _ _ => rfl)) (pa_cons pe_int (pa_cons (pe_gint (by rfl) T.g_MOST_NEXTS) (pa_cons (pv 2) pa_nil))))))) pss_nil)
        (pss_one (ps_ret (pe_and (pe_cmpR op_eq (pv 3) pe_str (nomark _)) (pe_one (pe_notT (pv 4)))))))))))))), ?_⟩
    cases r with
    | set n f j =>
      have hD : Dt H v (LRow.set n f j).d := hr0.dt
      obtain ⟨a, b, rfl, ha, hb⟩ := hr0
      obtain ⟨h1, h2, h3, h4⟩ := hok
      walk_at "lk"
      refine s_isi hD.dp (ki_tup _) ?_
      walk_at "lk"
      refine iff_ rfl ?_
      refine ⟨_, rfl, true, .inr (.inl ⟨_, SqT.of ha, rfl⟩), ?_⟩
      walk_at "lk"
      refine iff_ rfl ?_
      walk_at "lk"
      refine sft (SqT.of ha) (by rfl) ?_
      walk_at "lk"
      refine s_isi (d := .str "set") (.str _) (ki_str _) ?_
      walk_at "lk"
      refine iff_ rfl ?_
      walk_at "lk"
      refine sft (SqT.of ha) (by rfl) ?_
      walk_at "lk"
      refine s_cut (SqT.of ha) fun p hp => ?_
      walk_at "lk"
      have s1 : Same H (upd H p (.tup [.str n, .ref b, .int j])) := same_new hp
      have e1 : (upd H p (.tup [.str n, .ref b, .int j])) p = some (.tup [.str n, .ref b, .int j]) := upd_same
      have hD1 := hD.ts (Ts.of s1)
      have hb1 := s1 _ _ hb
      generalize upd H p (.tup [.str n, .ref b, .int j]) = H1 at s1 e1 hD1 hb1 ⊢
      refine sEq rfl ?_
      walk_at "lk"
      refine itt_ (by decide +kernel) ?_
      walk_at "lk"
      refine ⟨p, _, rfl, .inr (SqT.of e1), ?_⟩
      walk_at "lk"
      refine sEq rfl ?_
      walk_at "lk"
      refine itt_ (by rfl) ?_
      walk_at "lk"
      refine sft (SqT.of e1) (by rfl) ?_
      walk_at "lk"
      refine ⟨n, l, ns, rfl, hl.same s1, h1, ?_⟩
      walk_at "lk"
      refine itt_ rfl ?_
      walk_at "lk"
      refine sft (SqT.of ((Same.refl H1) _ _ e1)) (by rfl) ?_
      walk_at "lk"
      refine ⟨l, _, rfl, hl.same s1, ?_⟩
      rw [List.length_map]
      walk_at "lk"
      refine ⟨.ref b, intsD f, ns.length, rfl, (dt_intsT ((Same.refl H1) _ _ hb1)).dp, by omega, fun H2 s2 => ?_⟩
      have ef : formD (intsD f) ns.length = true := by
        show (decide (((f.map PyData.int).length : Int) = ns.length + 1) && (f.map PyData.int).all isIntD) = true
        rw [List.length_map, List.all_map, Bool.and_eq_true]
        exact ⟨decide_eq_true (by omega), List.all_eq_true.mpr fun _ _ => rfl⟩
      rw [ef]
      walk_at "lk"
      refine itt_ rfl ?_
      walk_at "lk"
      refine sft (SqT.of (s2 _ _ e1)) (by rfl) ?_
      walk_at "lk"
      refine ⟨_, .int j, 0, m - 1, rfl, .int j, ?_⟩
      have ew : withinD (.int j) 0 (m - 1) = true := by
        show (decide (0 ≤ j) && decide (j ≤ m - 1)) = true
        rw [Bool.and_eq_true]
        exact ⟨decide_eq_true h3, decide_eq_true (by omega)⟩
      rw [ew]
      exact q _ (s1.trans s2)
    | say f j =>
      have hD : Dt H v (LRow.say f j).d := hr0.dt
      obtain ⟨a, b, rfl, ha, hb⟩ := hr0
      obtain ⟨h2, h3, h4⟩ := hok
      walk_at "lk"
      refine s_isi hD.dp (ki_tup _) ?_
      walk_at "lk"
      refine iff_ rfl ?_
      refine ⟨_, rfl, true, .inr (.inl ⟨_, SqT.of ha, rfl⟩), ?_⟩
      walk_at "lk"
      refine iff_ rfl ?_
      walk_at "lk"
      refine sft (SqT.of ha) (by rfl) ?_
      walk_at "lk"
      refine s_isi (d := .str "say") (.str _) (ki_str _) ?_
      walk_at "lk"
      refine iff_ rfl ?_
      walk_at "lk"
      refine sft (SqT.of ha) (by rfl) ?_
      walk_at "lk"
      refine s_cut (SqT.of ha) fun p hp => ?_
      walk_at "lk"
      have s1 : Same H (upd H p (.tup [.ref b, .int j])) := same_new hp
      have e1 : (upd H p (.tup [.ref b, .int j])) p = some (.tup [.ref b, .int j]) := upd_same
      have hD1 := hD.ts (Ts.of s1)
      have hb1 := s1 _ _ hb
      generalize upd H p (.tup [.ref b, .int j]) = H1 at s1 e1 hD1 hb1 ⊢
      refine sEq rfl ?_
      walk_at "lk"
      refine iff_ (by decide +kernel) ?_
      walk_at "lk"
      refine iff_ rfl ?_
      walk_at "lk"
      refine sEq rfl ?_
      walk_at "lk"
      refine iff_ (by decide +kernel) ?_
      walk_at "lk"
      refine iff_ rfl ?_
      walk_at "lk"
      refine sEq rfl ?_
      walk_at "lk"
      refine itt_ (by decide +kernel) ?_
      walk_at "lk"
      refine ⟨p, _, rfl, .inr (SqT.of e1), ?_⟩
      walk_at "lk"
      refine sEq rfl ?_
      walk_at "lk"
      refine itt_ (by rfl) ?_
      walk_at "lk"
      refine sft (SqT.of ((Same.refl H1) _ _ e1)) (by rfl) ?_
      walk_at "lk"
      refine ⟨l, _, rfl, hl.same s1, ?_⟩
      rw [List.length_map]
      walk_at "lk"
      refine ⟨.ref b, intsD f, ns.length, rfl, (dt_intsT ((Same.refl H1) _ _ hb1)).dp, by omega, fun H2 s2 => ?_⟩
      have ef : formD (intsD f) ns.length = true := by
        show (decide (((f.map PyData.int).length : Int) = ns.length + 1) && (f.map PyData.int).all isIntD) = true
        rw [List.length_map, List.all_map, Bool.and_eq_true]
        exact ⟨decide_eq_true (by omega), List.all_eq_true.mpr fun _ _ => rfl⟩
      rw [ef]
      walk_at "lk"
      refine itt_ rfl ?_
      walk_at "lk"
      refine sft (SqT.of (s2 _ _ e1)) (by rfl) ?_
      walk_at "lk"
      refine ⟨_, .int j, 0, m - 1, rfl, .int j, ?_⟩
      have ew : withinD (.int j) 0 (m - 1) = true := by
        show (decide (0 ≤ j) && decide (j ≤ m - 1)) = true
        rw [Bool.and_eq_true]
        exact ⟨decide_eq_true h3, decide_eq_true (by omega)⟩
      rw [ew]
      exact q _ (s1.trans s2)
    | ask n j =>
      have hD : Dt H v (LRow.ask n j).d := hr0.dt
      obtain ⟨a, rfl, ha⟩ := hr0
      obtain ⟨h1, h3, h4⟩ := hok
      walk_at "lk"
      refine s_isi hD.dp (ki_tup _) ?_
      walk_at "lk"
      refine iff_ rfl ?_
      refine ⟨_, rfl, true, .inr (.inl ⟨_, SqT.of ha, rfl⟩), ?_⟩
      walk_at "lk"
      refine iff_ rfl ?_
      walk_at "lk"
      refine sft (SqT.of ha) (by rfl) ?_
      walk_at "lk"
      refine s_isi (d := .str "ask") (.str _) (ki_str _) ?_
      walk_at "lk"
      refine iff_ rfl ?_
      walk_at "lk"
      refine sft (SqT.of ha) (by rfl) ?_
      walk_at "lk"
      refine s_cut (SqT.of ha) fun p hp => ?_
      walk_at "lk"
      have s1 : Same H (upd H p (.tup [.str n, .int j])) := same_new hp
      have e1 : (upd H p (.tup [.str n, .int j])) p = some (.tup [.str n, .int j]) := upd_same
      have hD1 := hD.ts (Ts.of s1)
      generalize upd H p (.tup [.str n, .int j]) = H1 at s1 e1 hD1 ⊢
      refine sEq rfl ?_
      walk_at "lk"
      refine iff_ (by decide +kernel) ?_
      walk_at "lk"
      refine iff_ rfl ?_
      walk_at "lk"
      refine sEq rfl ?_
      walk_at "lk"
      refine itt_ (by decide +kernel) ?_
      walk_at "lk"
      refine ⟨p, _, rfl, .inr (SqT.of e1), ?_⟩
      walk_at "lk"
      refine sEq rfl ?_
      walk_at "lk"
      refine itt_ (by rfl) ?_
      walk_at "lk"
      refine sft (SqT.of e1) (by rfl) ?_
      walk_at "lk"
      refine ⟨n, l, ns, rfl, hl.same s1, h1, ?_⟩
      walk_at "lk"
      refine itt_ rfl ?_
      walk_at "lk"
      refine sft (SqT.of ((Same.refl H1) _ _ e1)) (by rfl) ?_
      walk_at "lk"
      refine ⟨_, .int j, 0, m - 1, rfl, .int j, ?_⟩
      have ew : withinD (.int j) 0 (m - 1) = true := by
        show (decide (0 ≤ j) && decide (j ≤ m - 1)) = true
        rw [Bool.and_eq_true]
        exact ⟨decide_eq_true h3, decide_eq_true (by omega)⟩
      rw [ew]
      exact q _ (s1)
    | choose ks =>
      have hD : Dt H v (LRow.choose ks).d := hr0.dt
      obtain ⟨a, b, rfl, ha, hb⟩ := hr0
      obtain ⟨h2, h3, h4⟩ := hok
      walk_at "lk"
      refine s_isi hD.dp (ki_tup _) ?_
      walk_at "lk"
      refine iff_ rfl ?_
      refine ⟨_, rfl, true, .inr (.inl ⟨_, SqT.of ha, rfl⟩), ?_⟩
      walk_at "lk"
      refine iff_ rfl ?_
      walk_at "lk"
      refine sft (SqT.of ha) (by rfl) ?_
      walk_at "lk"
      refine s_isi (d := .str "choose") (.str _) (ki_str _) ?_
      walk_at "lk"
      refine iff_ rfl ?_
      walk_at "lk"
      refine sft (SqT.of ha) (by rfl) ?_
      walk_at "lk"
      refine s_cut (SqT.of ha) fun p hp => ?_
      walk_at "lk"
      have s1 : Same H (upd H p (.tup [.ref b])) := same_new hp
      have e1 : (upd H p (.tup [.ref b])) p = some (.tup [.ref b]) := upd_same
      have hD1 := hD.ts (Ts.of s1)
      have hb1 := s1 _ _ hb
      generalize upd H p (.tup [.ref b]) = H1 at s1 e1 hD1 hb1 ⊢
      refine sEq rfl ?_
      walk_at "lk"
      refine iff_ (by decide +kernel) ?_
      walk_at "lk"
      refine iff_ rfl ?_
      walk_at "lk"
      refine sEq rfl ?_
      walk_at "lk"
      refine iff_ (by decide +kernel) ?_
      walk_at "lk"
      refine iff_ rfl ?_
      walk_at "lk"
      refine sEq rfl ?_
      walk_at "lk"
      refine iff_ (by decide +kernel) ?_
      walk_at "lk"
      refine iff_ rfl ?_
      walk_at "lk"
      refine sEq rfl ?_
      walk_at "lk"
      refine iff_ (by decide +kernel) ?_
      walk_at "lk"
      refine iff_ rfl ?_
      walk_at "lk"
      refine sEq rfl ?_
      walk_at "lk"
      refine itt_ (by decide +kernel) ?_
      walk_at "lk"
      refine ⟨p, _, rfl, .inr (SqT.of e1), ?_⟩
      walk_at "lk"
      refine sEq rfl ?_
      walk_at "lk"
      refine itt_ (by rfl) ?_
      walk_at "lk"
      refine sft (SqT.of e1) (by rfl) ?_
      walk_at "lk"
      refine ⟨.ref b, intsD ks, 1, 6, m, rfl, (dt_intsT hb1).dp, by decide, fun H2 s2 => ?_⟩
      have en : nextsD (intsD ks) 1 6 m = true := by
        show (decide ((1 : Int) ≤ (ks.map PyData.int).length) && decide (((ks.map PyData.int).length : Int) ≤ 6) && (ks.map PyData.int).all fun e => withinD e 0 (m - 1)) = true
        rw [List.length_map, List.all_map, Bool.and_eq_true, Bool.and_eq_true]
        refine ⟨⟨decide_eq_true (by omega), decide_eq_true (by omega)⟩, List.all_eq_true.mpr fun k hk => ?_⟩
        show (decide (0 ≤ k) && decide (k ≤ m - 1)) = true
        rw [Bool.and_eq_true]
        exact ⟨decide_eq_true (h4 k hk).1, decide_eq_true (by have := (h4 k hk).2; omega)⟩
      rw [en]
      exact q _ (s1.trans s2)
    | look j =>
      have hD : Dt H v (LRow.look j).d := hr0.dt
      obtain ⟨a, rfl, ha⟩ := hr0
      obtain ⟨h3, h4⟩ := hok
      walk_at "lk"
      refine s_isi hD.dp (ki_tup _) ?_
      walk_at "lk"
      refine iff_ rfl ?_
      refine ⟨_, rfl, true, .inr (.inl ⟨_, SqT.of ha, rfl⟩), ?_⟩
      walk_at "lk"
      refine iff_ rfl ?_
      walk_at "lk"
      refine sft (SqT.of ha) (by rfl) ?_
      walk_at "lk"
      refine s_isi (d := .str "look") (.str _) (ki_str _) ?_
      walk_at "lk"
      refine iff_ rfl ?_
      walk_at "lk"
      refine sft (SqT.of ha) (by rfl) ?_
      walk_at "lk"
      refine s_cut (SqT.of ha) fun p hp => ?_
      walk_at "lk"
      have s1 : Same H (upd H p (.tup [.int j])) := same_new hp
      have e1 : (upd H p (.tup [.int j])) p = some (.tup [.int j]) := upd_same
      have hD1 := hD.ts (Ts.of s1)
      generalize upd H p (.tup [.int j]) = H1 at s1 e1 hD1 ⊢
      refine sEq rfl ?_
      walk_at "lk"
      refine iff_ (by decide +kernel) ?_
      walk_at "lk"
      refine iff_ rfl ?_
      walk_at "lk"
      refine sEq rfl ?_
      walk_at "lk"
      refine iff_ (by decide +kernel) ?_
      walk_at "lk"
      refine iff_ rfl ?_
      walk_at "lk"
      refine sEq rfl ?_
      walk_at "lk"
      refine iff_ (by decide +kernel) ?_
      walk_at "lk"
      refine iff_ rfl ?_
      walk_at "lk"
      refine sEq rfl ?_
      walk_at "lk"
      refine itt_ (by decide +kernel) ?_
      walk_at "lk"
      refine ⟨p, _, rfl, .inr (SqT.of e1), ?_⟩
      walk_at "lk"
      refine sEq rfl ?_
      walk_at "lk"
      refine itt_ (by rfl) ?_
      walk_at "lk"
      refine sft (SqT.of ((Same.refl H1) _ _ e1)) (by rfl) ?_
      walk_at "lk"
      refine ⟨_, .int j, 0, m - 1, rfl, .int j, ?_⟩
      have ew : withinD (.int j) 0 (m - 1) = true := by
        show (decide (0 ≤ j) && decide (j ≤ m - 1)) = true
        rw [Bool.and_eq_true]
        exact ⟨decide_eq_true h3, decide_eq_true (by omega)⟩
      rw [ew]
      exact q _ (s1)
    | stop =>
      have hD : Dt H v (LRow.stop).d := hr0.dt
      obtain ⟨a, rfl, ha⟩ := hr0
      
      walk_at "lk"
      refine s_isi hD.dp (ki_tup _) ?_
      walk_at "lk"
      refine iff_ rfl ?_
      refine ⟨_, rfl, true, .inr (.inl ⟨_, SqT.of ha, rfl⟩), ?_⟩
      walk_at "lk"
      refine iff_ rfl ?_
      walk_at "lk"
      refine sft (SqT.of ha) (by rfl) ?_
      walk_at "lk"
      refine s_isi (d := .str "stop") (.str _) (ki_str _) ?_
      walk_at "lk"
      refine iff_ rfl ?_
      walk_at "lk"
      refine sft (SqT.of ha) (by rfl) ?_
      walk_at "lk"
      refine s_cut (SqT.of ha) fun p hp => ?_
      walk_at "lk"
      have s1 : Same H (upd H p (.tup [])) := same_new hp
      have e1 : (upd H p (.tup [])) p = some (.tup []) := upd_same
      have hD1 := hD.ts (Ts.of s1)
      generalize upd H p (.tup []) = H1 at s1 e1 hD1 ⊢
      refine sEq rfl ?_
      walk_at "lk"
      refine iff_ (by decide +kernel) ?_
      walk_at "lk"
      refine iff_ rfl ?_
      walk_at "lk"
      refine sEq rfl ?_
      walk_at "lk"
      refine iff_ (by decide +kernel) ?_
      walk_at "lk"
      refine iff_ rfl ?_
      walk_at "lk"
      refine sEq rfl ?_
      walk_at "lk"
      refine iff_ (by decide +kernel) ?_
      walk_at "lk"
      refine iff_ rfl ?_
      walk_at "lk"
      refine sEq rfl ?_
      walk_at "lk"
      refine iff_ (by decide +kernel) ?_
      walk_at "lk"
      refine iff_ rfl ?_
      walk_at "lk"
      refine sEq rfl ?_
      walk_at "lk"
      refine iff_ (by decide +kernel) ?_
      walk_at "lk"
      refine iff_ rfl ?_
      walk_at "lk"
      refine sEq rfl ?_
      walk_at "lk"
      refine itt_ (by decide +kernel) ?_
      walk_at "lk"
      refine ⟨_, rfl, false, .inr (.inl ⟨_, SqT.of e1, rfl⟩), ?_⟩
      exact q _ s1
end
end K42

namespace K42
open PySem PySem.Spec PyProof.Rows L2 Lk
local macro_rules | `(tactic| walk_at "lk") => `(tactic| (repeat (first
  | with_reducible refine ssq ?_ | with_reducible refine sas ?_ | with_reducible refine sgn ?_ | ((with_reducible show tVar _ _ _ _); refine sv rfl ?_) | with_reducible refine sc ?_ | with_reducible refine sop ?_ | with_reducible refine sun ?_
  | with_reducible refine sI0 ?_ | with_reducible refine sU ?_ | with_reducible refine stt ?_ | with_reducible refine stB ?_ | with_reducible refine sbl ?_ | with_reducible refine snt ?_ | with_reducible refine sif ?_ | with_reducible refine scB ?_
  | with_reducible refine scn ?_ | with_reducible refine snl ?_ | with_reducible refine scl ?_ | with_reducible refine stu ?_ | with_reducible refine sli ?_ | with_reducible refine sdr ?_ | with_reducible refine srt ?_ | with_reducible refine snx ?_ | with_reducible refine sfor ?_ | with_reducible refine sils ?_ | with_reducible refine sien ?_ | with_reducible refine sor ?_ | with_reducible refine sfg ?_
  | with_reducible refine sav ?_ | with_reducible refine sov ?_ | with_reducible refine snv ?_ | with_reducible refine sch ?_ | with_reducible refine san ?_ | with_reducible refine ssll ?_ | with_reducible refine spt ?_ | with_reducible refine snp ?_ | with_reducible refine sin ?_ | with_reducible refine sfl ?_ | with_reducible refine sfd ?_
  | ((with_reducible show Or _ _); first | refine Or.inl ⟨_, rfl, ?_⟩ | refine Or.inr ⟨_, rfl, ?_⟩))))

def NamesOk (ns : List Str) : Prop := 1 ≤ ns.length ∧ ns.length ≤ 6 ∧ (∀ x ∈ ns, nameS x = true) ∧ ns.Nodup
def RowsOk (ns : List Str) (rs : List LRow) : Prop := 1 ≤ rs.length ∧ rs.length ≤ 25 ∧ ∀ r ∈ rs, RowOk ns rs.length r
def spCheckVars (K : PySem.W.Frag) : Sp := fun vs H Q _ => ∃ (l : Addr) (ns : List Str), vs = [.ref l] ∧ SqE K H l (ns.map V.str) ∧ NamesOk ns ∧ ∀ H', Same H H' → Q .non H'
def spCheckRows (K : PySem.W.Frag) : Sp := fun vs H Q _ => ∃ (l t : Addr) (ns : List Str) (us : List V) (rs : List LRow), vs = [.ref l, .ref t] ∧ SqE K H l (ns.map V.str) ∧ NamesOk ns ∧ SqE K H t us ∧ RowsH H us rs ∧ RowsOk ns rs ∧ ∀ H', Same H H' → Q .non H'
def spInit (K : PySem.W.Frag) (A : Ad) : Sp := fun vs H Q _ => ∃ (x dx l t : Addr) (k : Nat) (ns : List Str) (us : List V) (rs : List LRow), vs = [.ref x, .int (k : Int), .ref l, .ref t] ∧ H x = some (.ins A.Program dx []) ∧ 1 ≤ k ∧ k ≤ 64 ∧ SqL K H l (ns.map V.str) ∧ NamesOk ns ∧ SqE K H t us ∧ RowsH H us rs ∧ RowsOk ns rs ∧
  ∀ H', Bar x H H' → ProgO K A.Program H' x k ns (rs.map (·.low k)) → VzH H' x → Q .non H'
def spCheckRow (K : PySem.W.Frag) (A : Ad) : Sp := fun vs H Q _ => ∃ (x : Addr) (i : Int) (k : Nat) (ns : List Str) (rs : List LRow), vs = [.ref x, .int i] ∧ ProgO K A.Program H x k ns rs ∧ 0 ≤ i ∧ i < rs.length ∧ Q .non H
def spItem (K : PySem.W.Frag) (A : Ad) : Sp := fun vs H Q _ => ∃ (x : Addr) (i k : Nat) (ns : List Str) (rs : List LRow) (r : LRow), vs = [.ref x, .int (i : Int)] ∧ ProgO K A.Program H x k ns rs ∧ rs[i]? = some r ∧ ∀ v, RowH H v r → Q v H
def spLen (K : PySem.W.Frag) (A : Ad) : Sp := fun vs H Q _ => ∃ (x : Addr) (k : Nat) (ns : List Str) (rs : List LRow), vs = [.ref x] ∧ ProgO K A.Program H x k ns rs ∧ Q (.int rs.length) H
section
variable {P : Program} {w : World} {K : PySem.W.Frag} {mg : Str → Option Value} {base : Heap} {A : Ad}
abbrev s__check_variables : Stmt := top 53
theorem sc__check_variables : FnScope ["variables", "index", "name"] ["variables"] (defScope s__check_variables) := ⟨rfl, rfl, rfl, by decide +kernel, rfl, by decide +kernel, by decide +kernel⟩
theorem ok_check_variables {f : Addr} {fd : FuncData} (F : Fun K "_check_variables" "_check_variables" s__check_variables f fd) (T : Txt P w K mg base A) (c_is_sequence : Cal P w K mg base 1 "is_sequence" ["value", "least", "most"] (spSeq K)) (c_is_name : Cal P w K mg base 1 "is_name" ["value"] (spIsName K)) : FnOk P w K mg base CX0 2 f fd ["variables"] (spCheckVars K) := by
  refine F.ok sc__check_variables (fun vs H Q E h => ?_) (fun cdv Ar outer s H vs Q E hr h => ?_)
  · obtain ⟨l, ns, rfl, _⟩ := h
    rfl
  · obtain ⟨l, ns, rfl, hl, hok, q⟩ := h
    refine ⟨_, (pss_cons (ps_if (pt_not (pt_val (pcal c_is_sequence hr (by decide) (pa_cons (pv 0) (pa_cons pe_int (pa_cons (pe_gint (by rfl) T.g_MOST_VARIABLES) pa_nil)))))) (pss_one ps_never) pss_nil)
        (pss_one (ps_for PassesOwn.never rfl (pi_enumE (by rfl) T.z_enumerate (pa_cons (pv 0) pa_nil)) (pg_tup rfl (pgs_cons (pg_name (i := 1) sc__check_variables.nd rfl (Or.inl rfl)) (pgs_cons (pg_name (i := 2) sc__check_variables.nd rfl (Or.inl rfl)) pgs_nil))) (pss_one (ps_if (PW.pt (pw_or (pt_not (pt_val (pcal c_is_name hr (by decide) (pa_cons (pv 2) pa_nil)))) (pw_or1 (pt_cmpR op_in_seq (pv 2) (pe_slice sl_either (pv 0) po_none (po_some (pv 1))) (by rfl))))) (pss_one ps_never) pss_nil))))), ?_⟩
    obtain ⟨n1, n2, n3, nd⟩ := hok
    obtain ⟨d, hd, hs⟩ := sqe_seq hl (dp_strs ns)
    walk_at "lk"
    refine ⟨.ref l, d, 1, 6, rfl, hd, fun H1 s1 => ?_⟩
    rw [hs 1 6 (by rw [List.length_map]; omega) (by rw [List.length_map]; omega)]
    walk_at "lk"
    refine iff_ rfl ?_
    walk_at "lk"
    refine for_enE (xs := ns.map V.str) (fun i σ' H' => (∃ e1 e2, σ' = [some (.ref l), e1, e2]) ∧ Same H1 H') rfl (hl.same s1) ⟨⟨_, _, rfl⟩, Same.refl _⟩ (fun i σ' H' h => h.2) ?_ ?_
    · rintro i v p σ' H' hi ⟨⟨e1, e2, rfl⟩, s2⟩ hp
      have s3 : Same H1 (upd H' p (.tup [.int (i : Nat), v])) := s2.trans (same_new hp)
      refine g_pair (SqT.of upd_same) ?_
      generalize upd H' p (.tup [.int (i : Nat), v]) = H3 at s3 ⊢
      have hlt : i < ns.length := by
        have := (List.getElem?_eq_some_iff.mp hi).1
        rwa [List.length_map] at this
      rw [List.getElem?_map, List.getElem?_eq_getElem hlt] at hi
      cases hi
      walk_at "lk"
      refine ⟨ns[i], rfl, n3 _ (List.getElem_mem hlt), fun H4 s4 => ?_⟩
      walk_at "lk"
      refine iff_ rfl ?_
      walk_at "lk"
      refine s_take (hl.same (s1.trans (s3.trans s4))) (by rw [List.length_map]; exact hlt) fun t H5 s5 h5 => ?_
      rw [← List.map_take] at h5
      refine ⟨t, _, rfl, h5, rfl, Lk.flat_strs _, ?_⟩
      show (∃ k, V.bl (inV (.str ns[i]) ((ns.take i).map V.str)) = .bl k ∧ _)
      rw [inV_not (nodup_take nd (List.getElem?_eq_getElem hlt))]
      walk_at "lk"
      refine iff_ rfl ?_
      exact ⟨⟨_, _, rfl⟩, s3.trans (s4.trans s5)⟩
    · rintro σ' H' ⟨_, s2⟩
      exact q _ (s1.trans s2)
abbrev s__check_rows : Stmt := top 55
theorem sc__check_rows : FnScope ["variables", "rows", "index", "item"] ["variables", "rows"] (defScope s__check_rows) := ⟨rfl, rfl, rfl, by decide +kernel, rfl, by decide +kernel, by decide +kernel⟩
theorem ok_check_rows {f : Addr} {fd : FuncData} (F : Fun K "_check_rows" "_check_rows" s__check_rows f fd) (T : Txt P w K mg base A) (c_is_sequence : Cal P w K mg base 1 "is_sequence" ["value", "least", "most"] (spSeq K)) (c_is_row : Cal P w K mg base 4 "is_row" ["item", "variables", "many"] (spIsRow K)) : FnOk P w K mg base CX0 5 f fd ["variables", "rows"] (spCheckRows K) := by
  refine F.ok sc__check_rows (fun vs H Q E h => ?_) (fun cdv Ar outer s H vs Q E hr h => ?_)
  · obtain ⟨l, t, ns, us, rs, rfl, _⟩ := h
    rfl
  · obtain ⟨l, t, ns, us, rs, rfl, hl, hok, ht, hr0, hrs, q⟩ := h
    refine ⟨_, (pss_cons (ps_if (pt_not (pt_val (pcal c_is_sequence hr (by decide) (pa_cons (pv 1) (pa_cons pe_int (pa_cons (pe_gint (by rfl) T.g_MOST_ROWS_programs) pa_nil)))))) (pss_one ps_never) pss_nil)
        (pss_one (ps_for PassesOwn.never rfl (pi_enumE (by rfl) T.z_enumerate (pa_cons (pv 1) pa_nil)) (pg_tup rfl (pgs_cons (pg_name (i := 2) sc__check_rows.nd rfl (Or.inl rfl)) (pgs_cons (pg_name (i := 3) sc__check_rows.nd rfl (Or.inl rfl)) pgs_nil))) (pss_one (ps_if (pt_not (pt_val (pcal c_is_row hr (by decide) (pa_cons (pv 3) (pa_cons (pv 0) (pa_cons (pe_callB call_len_seq (by rfl) T.z_len PySem.boot_len (pa_cons (pv 1) pa_nil)) pa_nil)))))) (pss_one ps_never) pss_nil))))), ?_⟩
    obtain ⟨n1, n2, n3, nd⟩ := hok
    obtain ⟨r1, r2, r3⟩ := hrs
    obtain ⟨d, hd, hs⟩ := sqe_seq ht hr0.dt.dp
    have hlen := hr0.len
    walk_at "lk"
    refine ⟨.ref t, d, 1, 25, rfl, hd, fun H1 s1 => ?_⟩
    rw [hs 1 25 (by rw [List.length_map]; omega) (by rw [List.length_map]; omega)]
    walk_at "lk"
    refine iff_ rfl ?_
    walk_at "lk"
    refine for_enE (xs := us) (fun i σ' H' => (∃ e1 e2, σ' = [some (.ref l), some (.ref t), e1, e2]) ∧ Same H1 H') rfl (ht.same s1) ⟨⟨_, _, rfl⟩, Same.refl _⟩ (fun i σ' H' h => h.2) ?_ ?_
    · rintro i v p σ' H' hi ⟨⟨e1, e2, rfl⟩, s2⟩ hp
      have s3 : Same H1 (upd H' p (.tup [.int (i : Nat), v])) := s2.trans (same_new hp)
      refine g_pair (SqT.of upd_same) ?_
      generalize upd H' p (.tup [.int (i : Nat), v]) = H3 at s3 ⊢
      obtain ⟨r, hri, hrv⟩ := hr0.at hi
      have s13 := s1.trans s3
      walk_at "lk"
      refine ⟨t, us, rfl, ht.same s13, ?_⟩
      walk_at "lk"
      refine ⟨v, l, us.length, ns, r, rfl, hl.same s13, by omega, hrv.ts (Ts.of s13), by rw [hlen]; exact r3 r (List.mem_of_getElem? hri), fun H4 s4 => ?_⟩
      walk_at "lk"
      refine iff_ rfl ?_
      exact ⟨⟨_, _, rfl⟩, s3.trans s4⟩
    · rintro σ' H' ⟨_, s2⟩
      exact q _ (s1.trans s2)
abbrev s_Program___len__ : Stmt := inClass (top 45) 2
theorem sc_Program___len__ : FnScope ["self"] ["self"] (defScope s_Program___len__) := ⟨rfl, rfl, rfl, by decide +kernel, rfl, by decide +kernel, by decide +kernel⟩
theorem ok_len {f : Addr} {fd : FuncData} (F : Fun K "__len__" "Program.__len__" s_Program___len__ f fd) (T : Txt P w K mg base A) : FnOk P w K mg base CX0 1 f fd ["self"] (spLen K A) := by
  refine F.ok sc_Program___len__ (fun vs H Q E h => ?_) (fun cdv Ar outer s H vs Q E hr h => ?_)
  · obtain ⟨x, k, ns, rs, rfl, _⟩ := h
    rfl
  · obtain ⟨x, k, ns, rs, rfl, hp, q⟩ := h
    refine ⟨_, (pss_one (ps_ret (pe_callB call_len_seq (by rfl) T.z_len PySem.boot_len (pa_cons (pe_fld (pv 0) rfl) pa_nil)))), ?_⟩
    obtain ⟨dx, tv, tr, vs, hx, h1, h2, h3⟩ := hp
    walk_at "lk"
    refine ⟨x, A.Program, dx, _, _, rfl, hx, T.c_Program, T.n_rows, rfl, ?_⟩
    walk_at "lk"
    
    refine ⟨tr, vs, rfl, .inr h2, ?_⟩
    rw [h3.len]
    exact q
abbrev s_check_row : Stmt := top 46
theorem sc_check_row : FnScope ["program", "row"] ["program", "row"] (defScope s_check_row) := ⟨rfl, rfl, rfl, by decide +kernel, rfl, by decide +kernel, by decide +kernel⟩
theorem ok_check_row {f : Addr} {fd : FuncData} (F : Fun K "check_row" "check_row" s_check_row f fd) (T : Txt P w K mg base A) (c_is_within : Cal P w K mg base 2 "is_within" ["value", "least", "most"] (spWithin K)) : FnOk P w K mg base CX0 3 f fd ["program", "row"] (spCheckRow K A) := by
  refine F.ok sc_check_row (fun vs H Q E h => ?_) (fun cdv Ar outer s H vs Q E hr h => ?_)
  · obtain ⟨x, i, k, ns, rs, rfl, _⟩ := h
    rfl
  · obtain ⟨x, i, k, ns, rs, rfl, hp, i0, i1, q⟩ := h
    refine ⟨_, (pss_one (ps_if (pt_not (pt_val (pcal c_is_within hr (by decide) (pa_cons (pv 1) (pa_cons pe_int (pa_cons (pe_op op_sub (pe_callB call_len_seq (by rfl) T.z_len PySem.boot_len (pa_cons (pe_fld (pv 0) rfl) pa_nil)) pe_int) pa_nil)))))) (pss_one ps_never) pss_nil)), ?_⟩
    obtain ⟨dx, tv, tr, vs, hx, h1, h2, h3⟩ := hp
    walk_at "lk"
    refine ⟨x, A.Program, dx, _, _, rfl, hx, T.c_Program, T.n_rows, rfl, ?_⟩
    walk_at "lk"
    
    refine ⟨tr, vs, rfl, .inr h2, ?_⟩
    walk_at "lk"
    refine ⟨.int i, .int i, 0, _, rfl, .int i, ?_⟩
    have e : withinD (.int i) 0 ((vs.length : Int) - 1) = true := by
      show (decide (0 ≤ i) && decide (i ≤ (vs.length : Int) - 1)) = true
      have := h3.len
      rw [Bool.and_eq_true]
      exact ⟨decide_eq_true i0, decide_eq_true (by omega)⟩
    rw [e]
    walk_at "lk"
    refine iff_ rfl ?_
    exact q
abbrev s_Program___getitem__ : Stmt := inClass (top 45) 3
theorem sc_Program___getitem__ : FnScope ["self", "at"] ["self", "at"] (defScope s_Program___getitem__) := ⟨rfl, rfl, rfl, by decide +kernel, rfl, by decide +kernel, by decide +kernel⟩
theorem ok_item {f : Addr} {fd : FuncData} (F : Fun K "__getitem__" "Program.__getitem__" s_Program___getitem__ f fd) (T : Txt P w K mg base A) (c_check_row : Cal P w K mg base 3 "check_row" ["program", "row"] (spCheckRow K A)) : FnOk P w K mg base CX0 4 f fd ["self", "at"] (spItem K A) := by
  refine F.ok sc_Program___getitem__ (fun vs H Q E h => ?_) (fun cdv Ar outer s H vs Q E hr h => ?_)
  · obtain ⟨x, i, k, ns, rs, r, rfl, _⟩ := h
    rfl
  · obtain ⟨x, i, k, ns, rs, r, rfl, hp, hi, q⟩ := h
    refine ⟨_, (pss_cons (ps_expr (pcal c_check_row hr (by decide) (pa_cons (pv 0) (pa_cons (pv 1) pa_nil))))
        (pss_one (ps_ret (pe_ix ix_tup (pe_fld (pv 0) rfl) (pv 1) (fun _ _ => rfl))))), ?_⟩
    have hlt := (List.getElem?_eq_some_iff.mp hi).1
    walk_at "lk"
    refine ⟨x, i, k, ns, rs, rfl, hp, by omega, by omega, ?_⟩
    obtain ⟨dx, tv, tr, vs, hx, h1, h2, h3⟩ := hp
    walk_at "lk"
    refine ⟨x, A.Program, dx, _, _, rfl, hx, T.c_Program, T.n_rows, rfl, ?_⟩
    walk_at "lk"
    
    obtain ⟨v, e1, e2⟩ := h3.get hi
    refine sft h2 (Lk.atI_nat e1) ?_
    exact q v e2
abbrev s_Program___init__ : Stmt := inClass (top 45) 0
theorem sc_Program___init__ : FnScope ["self", "width", "variables", "rows", "item"] ["self", "width", "variables", "rows"] (defScope s_Program___init__) := ⟨rfl, rfl, rfl, by decide +kernel, rfl, by decide +kernel, by decide +kernel⟩
theorem ok_init {f : Addr} {fd : FuncData} (F : Fun K "__init__" "Program.__init__" s_Program___init__ f fd) (T : Txt P w K mg base A) (c_is_width : Cal P w K mg base 3 "is_width" ["value"] (spWidth K)) (c__check_variables : Cal P w K mg base 2 "_check_variables" ["variables"] (spCheckVars K)) (c__check_rows : Cal P w K mg base 5 "_check_rows" ["variables", "rows"] (spCheckRows K)) (c_lowered_row : Cal P w K mg base 2 "lowered_row" ["item", "width"] (spLowRow K)) : FnOk P w K mg base CX0 6 f fd ["self", "width", "variables", "rows"] (spInit K A) := by
  refine F.ok sc_Program___init__ (fun vs H Q E h => ?_) (fun cdv Ar outer s H vs Q E hr h => ?_)
  · obtain ⟨x, dx, l, t, k, ns, us, rs, rfl, _⟩ := h
    rfl
  · obtain ⟨x, dx, l, t, k, ns, us, rs, rfl, hx, k1, k2, hl, hns, ht, hr0, hrs, q⟩ := h
    refine ⟨_, (pss_cons (ps_if (pt_not (pt_val (pcal c_is_width hr (by decide) (pa_cons (pv 1) pa_nil)))) (pss_one ps_never) pss_nil)
        (pss_cons (ps_expr (pcal c__check_variables hr (by decide) (pa_cons (pv 2) pa_nil)))
        (pss_cons (ps_expr (pcal c__check_rows hr (by decide) (pa_cons (pv 2) (pa_cons (pv 3) pa_nil))))
        (pss_cons (ps_fld (pv 0) (pv 1) (by rfl))
        (pss_cons (ps_fld (pv 0) (pe_callTy call_tupFz (by rfl) T.z_tuple (by decide +kernel) (pa_cons (pv 2) pa_nil)) (by rfl))
        (pss_one (ps_fld (pv 0) (pe_callTy call_tupOf (by rfl) T.z_tuple (by decide +kernel) (pa_cons (pe_lc (own := [("item", 4)]) (g := gName 4) (tt := tYes) rfl sc_Program___init__.nd (pi_either (pv 3)) (blkOk_by (own := [("item", 4)]) (N := ["self", "width", "variables", "rows", "item"]) (sc := defScope s_Program___init__) (by decide +kernel)) (fun _ _ _ _ _ => pg_name (i := 4) sc_Program___init__.nd rfl (Or.inl rfl)) (fun _ _ _ _ _ => pts_nil) (fun _ _ _ _ _ => (pcal c_lowered_row hr (by decide) (pa_cons (pv 4) (pa_cons (pv 1) pa_nil))))) pa_nil)) (by rfl)))))))), ?_⟩
    have hl0 := hl
    replace hl : SqE K H l (ns.map V.str) := .inl hl
    obtain ⟨hr1, hr2, hr3⟩ := hrs
    have hlen := hr0.len
    walk_at "lk"
    refine ⟨_, .int (k : Int), rfl, .int _, ?_⟩
    have e : withinD (.int (k : Int)) 1 64 = true := by
      show (decide ((1 : Int) ≤ k) && decide ((k : Int) ≤ 64)) = true
      rw [Bool.and_eq_true]
      exact ⟨decide_eq_true (by omega), decide_eq_true (by omega)⟩
    rw [e]
    walk_at "lk"
    refine iff_ rfl ?_
    walk_at "lk"
    refine ⟨l, ns, rfl, hl, hns, fun H1 s1 => ?_⟩
    walk_at "lk"
    refine ⟨l, t, ns, us, rs, rfl, hl.same s1, hns, ht.same s1, hr0.ts (Ts.of s1), ⟨hr1, hr2, hr3⟩, fun H2 s2 => ?_⟩
    have s12 := s1.trans s2
    walk_at "lk"
    refine ⟨x, A.Program, dx, [], rfl, s12 _ _ hx, T.c_Program, T.n_width, by decide, ?_⟩
    have b3 : Bar x H (upd H2 x (.ins A.Program dx (putF "width" (.int (k : Int)) []))) := (Bar.of s12).trans Bar.upd
    have x3 : (upd H2 x (.ins A.Program dx (putF "width" (.int (k : Int)) []))) x = some (.ins A.Program dx [("width", .int (k : Int))]) := upd_same
    generalize upd H2 x (.ins A.Program dx (putF "width" (.int (k : Int)) [])) = H3 at b3 x3 ⊢
    walk_at "lk"
    refine s_tupFz (b3.sqL hx hl0) fun tv H4 s4 h4 hz4 => ?_
    walk_at "lk"
    refine ⟨x, A.Program, dx, _, rfl, s4 _ _ x3, T.c_Program, T.n_variables, Nat.le_of_ble_eq_true rfl, ?_⟩
    have b5' : Bar x H4 (upd H4 x (.ins A.Program dx (putF "variables" (.ref tv) [("width", .int (k : Int))]))) := Bar.upd
    have x5 : (upd H4 x (.ins A.Program dx (putF "variables" (.ref tv) [("width", .int (k : Int))]))) x = some (.ins A.Program dx [("width", .int (k : Int)), ("variables", .ref tv)]) := upd_same
    generalize upd H4 x (.ins A.Program dx (putF "variables" (.ref tv) [("width", .int (k : Int))])) = H5 at b5' x5 ⊢
    have b5 : Bar x H H5 := (b3.trans (Bar.of s4)).trans b5'
    have h5 := b5'.sqT (s4 _ _ x3) h4
    have hz5 := hz4.bar b5' (s4 _ _ x3)
    walk_at "lk"
    refine tlc_rowsE (LRow.low k) rfl (b5.sqE hx ht) (hr0.ts (b5.ts hx)) (by omega) (fun _ => rfl) (fun i v r H' hri hv s' R qr => ?_) (fun D ys H6 s6 hD hDl hys => ?_)
    · walk_at "lk"
      exact ⟨v, k, r, rfl, k2, hv, ⟨ns, rs.length, hr3 r (List.mem_of_getElem? hri), hns.2.1⟩, qr⟩
    · walk_at "lk"
      refine s_tupE (.inl (SqL.of hDl)) fun tr H7 s7 h7 => ?_
      walk_at "lk"
      refine ⟨x, A.Program, dx, _, rfl, s7 _ _ (s6 _ _ x5), T.c_Program, T.n_rows, Nat.le_of_ble_eq_true rfl, ?_⟩
      have b8 : Bar x H7 (upd H7 x (.ins A.Program dx (putF "rows" (.ref tr) [("width", .int (k : Int)), ("variables", .ref tv)]))) := Bar.upd
      have x8 : (upd H7 x (.ins A.Program dx (putF "rows" (.ref tr) [("width", .int (k : Int)), ("variables", .ref tv)]))) x = some (.ins A.Program dx (prF k tv tr)) := upd_same
      have x7 := s7 _ _ (s6 _ _ x5)
      refine q _ ((b5.trans (Bar.of (s6.trans s7))).trans b8) ⟨dx, tv, tr, ys, x8, b8.sqT x7 (same_sqT s7 (same_sqT s6 h5)), b8.sqT x7 h7, (hys.ts (Ts.of s7)).ts (b8.ts x7)⟩ ⟨_, _, _, _, _, tv, x8, rfl, ((hz5.same s6).same s7).bar b8 x7⟩
end
end K42

namespace K42
open PySem PySem.Spec PyProof.Rows L2 Lk
local macro_rules | `(tactic| walk_at "lk") => `(tactic| (repeat (first
  | with_reducible refine ssq ?_ | with_reducible refine sas ?_ | with_reducible refine sgn ?_ | ((with_reducible show tVar _ _ _ _); refine sv rfl ?_) | with_reducible refine sc ?_ | with_reducible refine sop ?_ | with_reducible refine sun ?_
  | with_reducible refine sI0 ?_ | with_reducible refine sU ?_ | with_reducible refine stt ?_ | with_reducible refine stB ?_ | with_reducible refine sbl ?_ | with_reducible refine snt ?_ | with_reducible refine sif ?_ | with_reducible refine scB ?_
  | with_reducible refine scn ?_ | with_reducible refine snl ?_ | with_reducible refine scl ?_ | with_reducible refine stu ?_ | with_reducible refine sli ?_ | with_reducible refine sdr ?_ | with_reducible refine srt ?_ | with_reducible refine snx ?_ | with_reducible refine sfor ?_ | with_reducible refine sils ?_ | with_reducible refine sien ?_ | with_reducible refine sor ?_ | with_reducible refine sfg ?_
  | with_reducible refine sav ?_ | with_reducible refine sov ?_ | with_reducible refine snv ?_ | with_reducible refine sch ?_ | with_reducible refine san ?_ | with_reducible refine ssll ?_ | with_reducible refine spt ?_ | with_reducible refine snp ?_ | with_reducible refine sin ?_ | with_reducible refine sfl ?_ | with_reducible refine sfd ?_
  | ((with_reducible show Or _ _); first | refine Or.inl ⟨_, rfl, ?_⟩ | refine Or.inr ⟨_, rfl, ?_⟩))))

/-- two programs, or a program and a tuple -/
def spEqP (K : PySem.W.Frag) (A : Ad) : Sp := fun vs H Q _ => ∃ (x : Addr) (y : V) (k : Nat) (ns : List Str) (rs : List LRow), vs = [.ref x, y] ∧ ProgO K A.Program H x k ns rs ∧ (∀ n ∈ ns, nameS n = true) ∧ (∀ r ∈ rs, RowNm r) ∧
  ((∃ (z : Addr) (k2 : Nat) (ns2 : List Str) (rs2 : List LRow), y = .ref z ∧ ProgO K A.Program H z k2 ns2 rs2 ∧ (∀ n ∈ ns2, nameS n = true) ∧ (∀ r ∈ rs2, RowNm r) ∧ Q (.bl (prEq k ns rs k2 ns2 rs2)) H) ∨ ∃ (t : Addr) (xs : List V), y = .ref t ∧ H t = some (.tup xs) ∧ Q (.bl false) H)
section
variable {P : Program} {w : World} {K : PySem.W.Frag} {mg : Str → Option Value} {base : Heap} {A : Ad}
abbrev s_Program___eq__ : Stmt := inClass (top 45) 1
theorem sc_Program___eq__ : FnScope ["self", "other"] ["self", "other"] (defScope s_Program___eq__) := ⟨rfl, rfl, rfl, by decide +kernel, rfl, by decide +kernel, by decide +kernel⟩
theorem ok_eq {f : Addr} {fd : FuncData} (F : Fun K "__eq__" "Program.__eq__" s_Program___eq__ f fd) (T : Txt P w K mg base A) : FnOk P w K mg base CX0 1 f fd ["self", "other"] (spEqP K A) := by
  refine F.ok sc_Program___eq__ (fun vs H Q E h => ?_) (fun cdv Ar outer s H vs Q E hr h => ?_)
  · obtain ⟨x, y, k, ns, rs, rfl, _⟩ := h
    rfl
  · obtain ⟨x, y, k, ns, rs, rfl, hp, hn, hr1, h⟩ := h
    refine ⟨_, (pss_one (ps_ret (pe_and (pe_callB call_isi (by rfl) T.z_isinstance (by decide +kernel) (pa_cons (pv 1) (pa_cons (pe_glob (v := .ref A.Program) (by rfl) T.g_Program rfl) pa_nil))) (pe_and (pe_cmpR op_eq (pe_fld (pv 0) rfl) (pe_fld (pv 1) rfl) (nomark _)) (pe_and (pe_cmpR (op_eqD hr.units) (pe_fld (pv 0) rfl) (pe_fld (pv 1) rfl) (nomark _)) (pe_one (pe_cmpR (op_eqD hr.units) (pe_fld (pv 0) rfl) (pe_fld (pv 1) rfl) (nomark _)))))))), ?_⟩
    obtain ⟨dx, tv, tr, vs, hx, h1, h2, h3⟩ := hp
    rcases h with ⟨z, k2, ns2, rs2, rfl, hp2, hn2, hr2, q⟩ | ⟨t, xs, rfl, ht, q⟩
    · obtain ⟨dy, tv2, tr2, vs2, hz, g1, g2, g3⟩ := hp2
      walk_at "lk"
      refine ⟨_, _, .ref A.Program, .ref A.Program, true, rfl, .own _, .base (.ins hz T.c_Program T.i_cls T.i_get T.i_tk T.i_mro), T.i_self, ?_⟩
      walk_at "lk"
      refine itt_ rfl ?_
      walk_at "lk"
      refine ⟨x, A.Program, dx, _, _, rfl, hx, T.c_Program, T.n_width, rfl, ?_⟩
      walk_at "lk"
      refine ⟨z, A.Program, dy, _, _, rfl, hz, T.c_Program, T.n_width, rfl, ?_⟩
      refine sEq rfl ?_
      walk_at "lk"
      have ek : decide (V.int (k : Int) = V.int (k2 : Int)) = decide (k = k2) := decide_eq_decide.mpr ⟨fun e => by have := V.int.inj e; omega, fun e => by rw [e]⟩
      rw [ek]
      by_cases e : k = k2
      · refine itt_ (decide_eq_true e) ?_
        walk_at "lk"
        refine ⟨x, A.Program, dx, _, _, rfl, hx, T.c_Program, T.n_variables, rfl, ?_⟩
        walk_at "lk"
        refine ⟨z, A.Program, dy, _, _, rfl, hz, T.c_Program, T.n_variables, rfl, ?_⟩
        refine ⟨namesD ns, namesD ns2, .tup h1 (dp_strs ns), .tup g1 (dp_strs ns2), shaped_names hn, shaped_names hn2, ?_⟩
        walk_at "lk"
        have q1 : Q (.bl (PyData.eqv (namesD ns) (namesD ns2) && PyData.eqv (rowsD rs) (rowsD rs2))) H := by
          have e2 : prEq k ns rs k2 ns2 rs2 = (PyData.eqv (namesD ns) (namesD ns2) && PyData.eqv (rowsD rs) (rowsD rs2)) := by
            unfold prEq
            rw [decide_eq_true e, Bool.true_and]
          rw [← e2]
          exact q
        cases ev : PyData.eqv (namesD ns) (namesD ns2) with
        | true =>
          rw [ev, Bool.true_and] at q1
          refine itt_ rfl ?_
          walk_at "lk"
          refine ⟨x, A.Program, dx, _, _, rfl, hx, T.c_Program, T.n_rows, rfl, ?_⟩
          walk_at "lk"
          refine ⟨z, A.Program, dy, _, _, rfl, hz, T.c_Program, T.n_rows, rfl, ?_⟩
          exact ⟨rowsD rs, rowsD rs2, .tup h2 h3.dt.dp, .tup g2 g3.dt.dp, shaped_rows hr1, shaped_rows hr2, q1⟩
        | false =>
          rw [ev, Bool.false_and] at q1
          refine iff_ rfl ?_
          exact q1
      · refine iff_ (decide_eq_false e) ?_
        have e2 : prEq k ns rs k2 ns2 rs2 = false := by
          unfold prEq
          rw [decide_eq_false e, Bool.false_and, Bool.false_and]
        rw [e2] at q
        exact q
    · walk_at "lk"
      refine ⟨_, _, .type "tuple", .ref A.Program, false, rfl, .own _, .base (.tup ht), T.i_tup, ?_⟩
      walk_at "lk"
      refine iff_ rfl ?_
      exact q
end
end K42

namespace K42
open PySem PySem.Spec PyProof.Rows L2 Lk
local macro_rules | `(tactic| walk_at "lk") => `(tactic| (repeat (first
  | with_reducible refine ssq ?_ | with_reducible refine sas ?_ | with_reducible refine sgn ?_ | ((with_reducible show tVar _ _ _ _); refine sv rfl ?_) | with_reducible refine sc ?_ | with_reducible refine sop ?_ | with_reducible refine sun ?_
  | with_reducible refine sI0 ?_ | with_reducible refine sU ?_ | with_reducible refine stt ?_ | with_reducible refine stB ?_ | with_reducible refine sbl ?_ | with_reducible refine snt ?_ | with_reducible refine sif ?_ | with_reducible refine scB ?_
  | with_reducible refine scn ?_ | with_reducible refine snl ?_ | with_reducible refine scl ?_ | with_reducible refine stu ?_ | with_reducible refine sli ?_ | with_reducible refine sdr ?_ | with_reducible refine srt ?_ | with_reducible refine snx ?_ | with_reducible refine sfor ?_ | with_reducible refine sils ?_ | with_reducible refine sien ?_ | with_reducible refine sor ?_ | with_reducible refine sfg ?_
  | with_reducible refine sav ?_ | with_reducible refine sov ?_ | with_reducible refine snv ?_ | with_reducible refine sch ?_ | with_reducible refine san ?_ | with_reducible refine ssll ?_ | with_reducible refine spt ?_ | with_reducible refine snp ?_ | with_reducible refine sin ?_ | with_reducible refine sfl ?_ | with_reducible refine sfd ?_ | with_reducible refine sbm ?_ | with_reducible refine sifx ?_
  | ((with_reducible show Or _ _); first | refine Or.inl ⟨_, rfl, ?_⟩ | refine Or.inr ⟨_, rfl, ?_⟩))))

/-- the law's own draws -/
def spDraw : Sp := fun vs H Q _ => ∃ (p : Addr) (m : Int), vs = [.ref p, .int m] ∧ 0 < m ∧ m.natAbs < 2 ^ 100 ∧ Wl H p ∧ ∀ (r : Int) (H' : Hp), 0 ≤ r → r < m → Wk p H H' → Q (.int r) H'
def spOne : Sp := fun vs H Q _ => ∃ (p l : Addr) (xs : List V), vs = [.ref p, .ref l] ∧ Wl H p ∧ l ≠ p ∧ H l = some (.lst xs) ∧ 0 < xs.length ∧ xs.length ≤ 1000 ∧ ∀ (v : V) (H' : Hp), v ∈ xs → Wk p H H' → Q v H'
def spNumber : Sp := fun vs H Q _ => ∃ (p : Addr) (k : Nat), vs = [.ref p, .int (k : Int)] ∧ k ≤ 64 ∧ Wl H p ∧ ∀ (r : Int) (H' : Hp), 0 ≤ r → r < 2 ^ k → Wk p H H' → Q (.int r) H'
def spForm0 : Sp := fun vs H Q _ => ∃ (p : Addr) (k m : Nat), vs = [.ref p, .int (k : Int), .int (m : Int)] ∧ k ≤ 64 ∧ m ≤ 6 ∧ Wl H p ∧ ∀ (b : Addr) (f : List Int) (H' : Hp), Wk p H H' → H' b = some (.tup (f.map .int)) → f.length = m + 1 → (∀ x ∈ f, 0 ≤ x ∧ x < 2 ^ k) → Q (.ref b) H'

section
variable {P : Program} {w : World} {K : PySem.W.Frag} {mg : Str → Option Value} {base : Heap} {A : Ad}
abbrev s__law_draw : Stmt := top 63
theorem sc__law_draw : FnScope ["_law_well", "_law_many", "_law_number_here", "_law_found"] ["_law_well", "_law_many"] (defScope s__law_draw) := ⟨rfl, rfl, rfl, by decide +kernel, rfl, by decide +kernel, by decide +kernel⟩
theorem ok_draw {f : Addr} {fd : FuncData} (F : Fun K "_law_draw" "_law_draw" s__law_draw f fd) (T : Txt P w K mg base A) : FnOk P w K mg base CX0 1 f fd ["_law_well", "_law_many"] spDraw := by
  refine F.ok sc__law_draw (fun vs H Q E h => ?_) (fun cdv Ar outer s H vs Q E hr h => ?_)
  · obtain ⟨p, m, rfl, _⟩ := h
    rfl
  · obtain ⟨p, m, rfl, m0, m1, hw, k⟩ := h
    refine ⟨_, (pss_cons (ps_if (pt_cmpR op_gt (pe_ix ix_list (pv 0) pe_int (fun _ _ => rfl)) pe_int (nomark _)) (pss_cons (ps_set (i := 3) sc__law_draw.nd rfl (Or.inl rfl) (pe_op op_mod (pe_callTy call_int1 (by rfl) T.z_int (by decide +kernel) (pa_cons (pe_ix ix_list (pv 0) pe_int (fun _ _ => rfl)) pa_nil)) (pv 1)))
        (pss_cons (ps_asg (pe_op op_fdivW (pe_ix ix_list (pv 0) pe_int (fun _ _ => rfl)) (pv 1)) (pg_sub (pv 0) pe_int set_list))
        (pss_one (ps_ret (pv 3))))) pss_nil)
        (pss_cons (ps_asg (pe_op op_add (pe_ix ix_list (pv 0) pe_int (fun _ _ => rfl)) pe_int) (pg_sub (pv 0) pe_int set_list))
        (pss_cons (ps_set (i := 2) sc__law_draw.nd rfl (Or.inl rfl) (pe_op op_mod (pe_callTy call_int1 (by rfl) T.z_int (by decide +kernel) (pa_cons (pe_op op_mul (pe_op op_add (pe_op op_add (pe_ix ix_list (pv 0) pe_int (fun _ _ => rfl)) (pe_op op_mul pe_int (pe_ix ix_list (pv 0) pe_int (fun _ _ => rfl)))) pe_int) pe_int) pa_nil)) pe_int))
        (pss_cons (ps_set (i := 2) sc__law_draw.nd rfl (Or.inl rfl) (pe_op op_mod (pe_callTy call_int1 (by rfl) T.z_int (by decide +kernel) (pa_cons (pe_op op_mul (pv 2) (pe_op op_add (pe_op op_fdiv (pv 2) pe_int) pe_int)) pa_nil)) pe_int))
        (pss_one (ps_ret (pe_op op_mod (pe_callTy call_int1 (by rfl) T.z_int (by decide +kernel) (pa_cons (pe_op op_mod (pe_callTy call_int1 (by rfl) T.z_int (by decide +kernel) (pa_cons (pe_op op_mul (pv 2) (pe_op op_add (pe_op op_fdiv (pv 2) pe_int) pe_int)) pa_nil)) pe_int) pa_nil)) (pv 1)))))))), ?_⟩
    obtain ⟨a, b, c, hp⟩ := hw
    walk_at "lk"
    refine sfr (SqL.of hp) (by rfl) ?_
    walk_at "lk"
    refine ite2 (fun z => ?_) (fun z => ?_)
    · walk_at "lk"
      refine sfr (SqL.of hp) (by rfl) ?_
      walk_at "lk"
      refine sI m0 ?_
      walk_at "lk"
      refine sfr (SqL.of hp) (by rfl) ?_
      walk_at "lk"
      refine sI (wide_div m0 m1 (by decide) (by decide)) ?_
      walk_at "lk"
      refine ssl hp (by rfl) ?_
      walk_at "lk"
      exact k _ _ (Int.emod_nonneg _ (by omega)) (Int.emod_lt_of_pos _ m0) Wk.upd
    · walk_at "lk"
      refine sfr (SqL.of hp) (by rfl) ?_
      walk_at "lk"
      refine ssl hp (by rfl) ?_
      walk_at "lk"
      refine sfr (SqL.of upd_same) (by rfl) ?_
      walk_at "lk"
      refine sfr (SqL.of upd_same) (by rfl) ?_
      refine sI (.inl ⟨by decide, by decide⟩) ?_
      walk_at "lk"
      refine sI (.inr ⟨by decide, by decide⟩) ?_
      walk_at "lk"
      refine sI (by decide) ?_
      walk_at "lk"
      refine sI ⟨by decide, by decide⟩ ?_
      walk_at "lk"
      refine sI (.inl ⟨by omega, by omega⟩) ?_
      walk_at "lk"
      refine sI (by decide) ?_
      walk_at "lk"
      refine sI ⟨by decide, by decide⟩ ?_
      walk_at "lk"
      refine sI (.inl ⟨by omega, by omega⟩) ?_
      walk_at "lk"
      refine sI (by decide) ?_
      walk_at "lk"
      refine sI m0 ?_
      exact k _ _ (Int.emod_nonneg _ (by omega)) (Int.emod_lt_of_pos _ m0) Wk.upd
abbrev s__law_one : Stmt := top 64
theorem sc__law_one : FnScope ["_law_well", "_law_some"] ["_law_well", "_law_some"] (defScope s__law_one) := ⟨rfl, rfl, rfl, by decide +kernel, rfl, by decide +kernel, by decide +kernel⟩
theorem ok_one {f : Addr} {fd : FuncData} (F : Fun K "_law_one" "_law_one" s__law_one f fd) (T : Txt P w K mg base A) (c__law_draw : Cal P w K mg base 1 "_law_draw" ["_law_well", "_law_many"] spDraw) : FnOk P w K mg base CX0 2 f fd ["_law_well", "_law_some"] spOne := by
  refine F.ok sc__law_one (fun vs H Q E h => ?_) (fun cdv Ar outer s H vs Q E hr h => ?_)
  · obtain ⟨p, l, xs, rfl, _⟩ := h
    rfl
  · obtain ⟨p, l, xs, rfl, hw, hlp, hl, h0, h1, k⟩ := h
    refine ⟨_, (pss_one (ps_ret (pe_ix ix_list (pv 1) (pcal c__law_draw hr (by decide) (pa_cons (pv 0) (pa_cons (pe_callB call_len_seq (by rfl) T.z_len PySem.boot_len (pa_cons (pv 1) pa_nil)) pa_nil))) (fun _ _ => rfl)))), ?_⟩
    walk_at "lk"
    refine ⟨l, xs, rfl, .inl (SqL.of hl), ?_⟩
    walk_at "lk"
    refine ⟨p, xs.length, rfl, by omega, Nat.lt_of_le_of_lt (show (xs.length : Int).natAbs ≤ 1000 by omega) (by decide), hw, fun r H' r0 r1 wk => ?_⟩
    obtain ⟨j, rfl⟩ : ∃ j : Nat, r = (j : Int) := ⟨r.toNat, by omega⟩
    have hj : j < xs.length := by omega
    refine sfr (SqL.of (wk.at hlp hl)) (Lk.atI_nat (List.getElem?_eq_getElem hj)) ?_
    exact k _ _ (List.getElem_mem hj) wk
abbrev s__law_number : Stmt := top 65
theorem sc__law_number : FnScope ["_law_well", "_law_width", "_law_half", "_law_all_bits", "_law_some"] ["_law_well", "_law_width"] (defScope s__law_number) := ⟨rfl, rfl, rfl, by decide +kernel, rfl, by decide +kernel, by decide +kernel⟩
theorem ok_number {f : Addr} {fd : FuncData} (F : Fun K "_law_number" "_law_number" s__law_number f fd) (T : Txt P w K mg base A) (c__law_draw : Cal P w K mg base 1 "_law_draw" ["_law_well", "_law_many"] spDraw) : FnOk P w K mg base CX0 2 f fd ["_law_well", "_law_width"] spNumber := by
  refine F.ok sc__law_number (fun vs H Q E h => ?_) (fun cdv Ar outer s H vs Q E hr h => ?_)
  · obtain ⟨p, k, rfl, _⟩ := h
    rfl
  · obtain ⟨p, k, rfl, hk, hw, q⟩ := h
    refine ⟨_, (pss_cons (ps_par (i := 2) (j := 3) (by rfl) sc__law_number.nd rfl rfl (by decide) rfl rfl (pa_cons (pe_op op_fdiv (pe_op op_oneShl pe_int (pv 1)) pe_int) (pa_cons (pe_op op_oneShl pe_int (pv 1)) pa_nil)) (by rfl))
        (pss_cons (ps_set (i := 4) sc__law_number.nd rfl (Or.inl rfl) (pe_lst (pa_cons pe_int (pa_cons pe_int (pa_cons pe_int (pa_cons pe_int (pa_cons pe_int (pa_cons (pe_op op_sub (pv 3) pe_int) (pa_cons (pv 2) (pa_cons (pe_op op_add (pe_op op_mulW (pcal c__law_draw hr (by decide) (pa_cons (pv 0) (pa_cons (pe_op op_pow pe_int pe_int) pa_nil))) (pe_op op_pow pe_int pe_int)) (pcal c__law_draw hr (by decide) (pa_cons (pv 0) (pa_cons (pe_op op_pow pe_int pe_int) pa_nil)))) pa_nil))))))))))
        (pss_one (ps_ret (pe_op op_mod (pe_callTy call_int1 (by rfl) T.z_int (by decide +kernel) (pa_cons (pe_ix ix_list (pv 4) (pcal c__law_draw hr (by decide) (pa_cons (pv 0) (pa_cons pe_int pa_nil))) (fun _ _ => rfl)) pa_nil)) (pv 3)))))), ?_⟩
    have p0 : (0 : Int) < 2 ^ k := Int.pow_pos (by decide)
    refine spr ?_
    walk_at "lk"
    refine ⟨k, rfl, rfl, by omega, ?_⟩
    walk_at "lk"
    refine sI ⟨by decide, by decide⟩ ?_
    walk_at "lk"
    refine ⟨k, rfl, rfl, by omega, ?_⟩
    walk_at "lk"
    refine ⟨_, _, rfl, ?_⟩
    walk_at "lk"
    refine sI ⟨by decide, by decide, by decide⟩ ?_
    walk_at "lk"
    
    refine ⟨p, _, rfl, by decide, by decide, hw, fun r1 H1 a0 a1 w1 => ?_⟩
    walk_at "lk"
    refine sI ⟨by decide, by decide, by decide⟩ ?_
    walk_at "lk"
    
    refine sI (wide_mul (a := 40) (b := 40) (lt31 a0 a1) (by decide) (by decide) (by decide) (by decide)) ?_
    walk_at "lk"
    refine sI ⟨by decide, by decide, by decide⟩ ?_
    walk_at "lk"
    
    refine ⟨p, _, rfl, by decide, by decide, w1.2, fun r2 H2 b0 b1 w2 => ?_⟩
    walk_at "lk"
    refine snw (Nat.le_of_ble_eq_true rfl) fun l hl => ?_
    have w12 := w1.trans w2
    have s3 : Same H2 (upd H2 l (.lst ([0, 1, 1, 2, 3, 2 ^ k - 1, 2 ^ k / 2, r1 * 2 ^ (33 : Int).toNat + r2].map V.int))) := same_new hl
    have e3 : (upd H2 l (.lst ([0, 1, 1, 2, 3, 2 ^ k - 1, 2 ^ k / 2, r1 * 2 ^ (33 : Int).toNat + r2].map V.int))) l = some (.lst ([0, 1, 1, 2, 3, 2 ^ k - 1, 2 ^ k / 2, r1 * 2 ^ (33 : Int).toNat + r2].map V.int)) := upd_same
    have nl : l ≠ p := ne_new w12.2 hl
    show gName 4 (.ref l) _ (upd H2 l (.lst ([0, 1, 1, 2, 3, 2 ^ k - 1, 2 ^ k / 2, r1 * 2 ^ (33 : Int).toNat + r2].map V.int))) _
    generalize upd H2 l (.lst ([0, 1, 1, 2, 3, 2 ^ k - 1, 2 ^ k / 2, r1 * 2 ^ (33 : Int).toNat + r2].map V.int)) = H3 at s3 e3 ⊢
    have hlen : ([0, 1, 1, 2, 3, 2 ^ k - 1, 2 ^ k / 2, r1 * 2 ^ (33 : Int).toNat + r2] : List Int).length = 8 := rfl
    generalize ([0, 1, 1, 2, 3, 2 ^ k - 1, 2 ^ k / 2, r1 * 2 ^ (33 : Int).toNat + r2] : List Int) = zs at e3 hlen
    have w3 := w12.st s3
    walk_at "lk"
    refine ⟨p, 8, rfl, by decide, by decide, w3.2, fun j H4 j0 j1 w4 => ?_⟩
    obtain ⟨i, rfl⟩ : ∃ i : Nat, j = (i : Int) := ⟨j.toNat, by omega⟩
    have hi : i < zs.length := by omega
    refine sfr (v := .int zs[i]) (SqL.of (w4.at nl e3)) (Lk.atI_nat (by rw [List.getElem?_map, List.getElem?_eq_getElem hi]; rfl)) ?_
    walk_at "lk"
    refine sI p0 ?_
    exact q _ _ (Int.emod_nonneg _ (by omega)) (Int.emod_lt_of_pos _ p0) (w3.trans w4)
abbrev s__law_form : Stmt := top 66
theorem sc__law_form : FnScope ["_law_well", "_law_width", "_law_many", "_law_found", "_law_k"] ["_law_well", "_law_width", "_law_many"] (defScope s__law_form) := ⟨rfl, rfl, rfl, by decide +kernel, rfl, by decide +kernel, by decide +kernel⟩
theorem ok_form {f : Addr} {fd : FuncData} (F : Fun K "_law_form" "_law_form" s__law_form f fd) (T : Txt P w K mg base A) (c__law_draw : Cal P w K mg base 1 "_law_draw" ["_law_well", "_law_many"] spDraw) (c__law_number : Cal P w K mg base 2 "_law_number" ["_law_well", "_law_width"] spNumber) : FnOk P w K mg base CX0 3 f fd ["_law_well", "_law_width", "_law_many"] spForm0 := by
  refine F.ok sc__law_form (fun vs H Q E h => ?_) (fun cdv Ar outer s H vs Q E hr h => ?_)
  · obtain ⟨p, k, m, rfl, _⟩ := h
    rfl
  · obtain ⟨p, k, m, rfl, hk, hm, hw, q⟩ := h
    refine ⟨_, (pss_cons (ps_set (i := 3) sc__law_form.nd rfl (Or.inl rfl) (pe_lst (pa_cons (pe_op op_mul (pcal c__law_number hr (by decide) (pa_cons (pv 0) (pa_cons (pv 1) pa_nil))) (pe_callTy call_int1 (by rfl) T.z_int (by decide +kernel) (pa_cons (pe_cmpR op_eq (pcal c__law_draw hr (by decide) (pa_cons (pv 0) (pa_cons pe_int pa_nil))) pe_int (nomark _)) pa_nil))) pa_nil)))
        (pss_cons (ps_for PassesOwn.never rfl (pi_range1 (by rfl) T.z_range (pa_cons (pv 2) pa_nil)) (pg_name (i := 4) sc__law_form.nd rfl (Or.inl rfl)) (pss_one (ps_expr (pe_bm PySem.F.plainAttrs_list PySem.F.slot_list_append PySem.F.type_list_append mt_append (pv 3) (pa_cons (pe_op op_mul (pcal c__law_number hr (by decide) (pa_cons (pv 0) (pa_cons (pv 1) pa_nil))) (pe_callTy call_int1 (by rfl) T.z_int (by decide +kernel) (pa_cons (pe_cmpR op_gt (pcal c__law_draw hr (by decide) (pa_cons (pv 0) (pa_cons pe_int pa_nil))) pe_int (nomark _)) pa_nil))) pa_nil)))))
        (pss_one (ps_ret (pe_callTy call_tuple_of (by rfl) T.z_tuple (by decide +kernel) (pa_cons (pv 3) pa_nil)))))), ?_⟩
    walk_at "lk"
    refine ⟨p, k, rfl, hk, hw, fun r1 H1 a0 a1 w1 => ?_⟩
    walk_at "lk"
    refine ⟨p, 3, rfl, by decide, by decide, w1.2, fun r2 H2 b0 b1 w2 => ?_⟩
    walk_at "lk"
    refine sEq rfl ?_
    walk_at "lk"
    refine sI (cmul01 _) ?_
    walk_at "lk"
    obtain ⟨c0, c1⟩ := mul01 (decide (V.int r2 = V.int 0)) a0 a1
    generalize r1 * (if decide (V.int r2 = V.int 0) = true then 1 else 0) = z at c0 c1 ⊢
    refine snw (Nat.le_of_ble_eq_true rfl) fun D hD => ?_
    have w12 := w1.trans w2
    have nD : D ≠ p := ne_new w12.2 hD
    have w3 : Wk p H (upd H2 D (.lst [.int z])) := w12.st (same_new hD)
    have e3 : (upd H2 D (.lst [.int z])) D = some (.lst ([z].map V.int)) := upd_same
    have hfree : H D = none := w12.none hw hD
    generalize upd H2 D (.lst [.int z]) = H3 at w3 e3 ⊢
    walk_at "lk"
    refine ⟨_, rfl, (m : Int), rfl, by omega, by omega, ?_⟩
    rw [Int.toNat_natCast]
    refine for_range (fun i σ' H' => (∃ e, σ' = [some (.ref p), some (.int (k : Int)), some (.int (m : Int)), some (.ref D), e]) ∧ Wk p H H' ∧ ∃ f : List Int, H' D = some (.lst (f.map V.int)) ∧ f.length = i + 1 ∧ ∀ x ∈ f, 0 ≤ x ∧ x < 2 ^ k) ⟨⟨_, rfl⟩, w3, [z], e3, rfl, fun x hx => by rw [List.mem_singleton.mp hx]; exact ⟨c0, c1⟩⟩ ?_ ?_
    · rintro i σ' H' hi ⟨⟨e, rfl⟩, wk, f, hf, hl, hb⟩
      walk_at "lk"
      refine ⟨.inl ⟨rfl, _, SqL.of hf⟩, ?_⟩
      walk_at "lk"
      refine ⟨p, k, rfl, hk, wk.2, fun r3 H4 d0 d1 w4 => ?_⟩
      walk_at "lk"
      refine ⟨p, 3, rfl, by decide, by decide, w4.2, fun r4 H5 g0 g1 w5 => ?_⟩
      walk_at "lk"
      refine sI (cmul01 _) ?_
      walk_at "lk"
      obtain ⟨c0, c1⟩ := mul01 (decide (0 < r4)) d0 d1
      generalize r3 * (if decide (0 < r4) = true then 1 else 0) = z2 at c0 c1 ⊢
      have w45 := w4.trans w5
      have hf5 := w45.at nD hf
      refine ⟨D, f.map V.int, .int z2, rfl, rfl, hf5, by rw [List.length_map, hl]; exact small1000 (by omega), ?_⟩
      refine ⟨⟨_, rfl⟩, (wk.trans w45).updD hfree nD, f ++ [z2], by rw [upd_same, List.map_append]; rfl, by rw [List.length_append, hl]; rfl, fun x hx => ?_⟩
      · rcases List.mem_append.mp hx with h | h
        · exact hb x h
        · rw [List.mem_singleton.mp h]
          exact ⟨c0, c1⟩
    · rintro σ' H' ⟨⟨e, rfl⟩, wk, f, hf, hl, hb⟩
      walk_at "lk"
      refine ⟨D, _, rfl, .inl ⟨SqL.of hf, fun b hb' => q b f _ (wk.st (same_new hb')) upd_same hl hb⟩⟩
end
end K42

namespace K42
open PySem PySem.Spec PyProof.Rows L2 Lk
local macro_rules | `(tactic| walk_at "lk") => `(tactic| (repeat (first
  | with_reducible refine ssq ?_ | with_reducible refine sas ?_ | with_reducible refine sgn ?_ | ((with_reducible show tVar _ _ _ _); refine sv rfl ?_) | with_reducible refine sc ?_ | with_reducible refine sop ?_ | with_reducible refine sun ?_
  | with_reducible refine sI0 ?_ | with_reducible refine sU ?_ | with_reducible refine stt ?_ | with_reducible refine stB ?_ | with_reducible refine sbl ?_ | with_reducible refine snt ?_ | with_reducible refine sif ?_ | with_reducible refine scB ?_
  | with_reducible refine scn ?_ | with_reducible refine snl ?_ | with_reducible refine scl ?_ | with_reducible refine stu ?_ | with_reducible refine sli ?_ | with_reducible refine sdr ?_ | with_reducible refine srt ?_ | with_reducible refine snx ?_ | with_reducible refine sfor ?_ | with_reducible refine sils ?_ | with_reducible refine sien ?_ | with_reducible refine sor ?_ | with_reducible refine sfg ?_
  | with_reducible refine sav ?_ | with_reducible refine sov ?_ | with_reducible refine snv ?_ | with_reducible refine sch ?_ | with_reducible refine san ?_ | with_reducible refine ssll ?_ | with_reducible refine spt ?_ | with_reducible refine snp ?_ | with_reducible refine sin ?_ | with_reducible refine sfl ?_ | with_reducible refine sfd ?_ | with_reducible refine sbm ?_ | with_reducible refine sifx ?_
  | ((with_reducible show Or _ _); first | refine Or.inl ⟨_, rfl, ?_⟩ | refine Or.inr ⟨_, rfl, ?_⟩))))

/-- a drawn row: good, its numbers reduced -/
def spRow : Sp := fun vs H Q _ => ∃ (p l : Addr) (k : Nat) (m j : Int) (ns : List Str), vs = [.ref p, .int (k : Int), .ref l, .int m, .int j] ∧ 1 ≤ k ∧ k ≤ 64 ∧ 1 ≤ m ∧ m ≤ 25 ∧ 0 ≤ j ∧ Wl H p ∧ l ≠ p ∧ H l = some (.lst (ns.map V.str)) ∧ 1 ≤ ns.length ∧ ns.length ≤ 6 ∧
  ∀ (v : V) (r : LRow) (H' : Hp), Wk p H H' → RowH H' v r → RowOk ns m r → r.low k = r → Q v H'
theorem red_map {f : List Int} {k : Nat} (h : ∀ x ∈ f, 0 ≤ x ∧ x < 2 ^ k) : f.map (· % 2 ^ k) = f := by
  induction f with
  | nil => rfl
  | cons x f ih =>
    rw [List.map_cons, ih fun y hy => h y (List.mem_cons_of_mem _ hy)]
    have := h x (List.mem_cons_self ..)
    rw [Int.emod_eq_of_lt this.1 this.2]

section
variable {P : Program} {w : World} {K : PySem.W.Frag} {mg : Str → Option Value} {base : Heap} {A : Ad}
abbrev s__law_row : Stmt := top 67
theorem sc__law_row : FnScope ["_law_well", "_law_width", "_law_names", "_law_total", "_law_k", "_law_ahead", "_law_kind", "_law_turn"] ["_law_well", "_law_width", "_law_names", "_law_total", "_law_k"] (defScope s__law_row) := ⟨rfl, rfl, rfl, by decide +kernel, rfl, by decide +kernel, by decide +kernel⟩
theorem ok_row {f : Addr} {fd : FuncData} (F : Fun K "_law_row" "_law_row" s__law_row f fd) (T : Txt P w K mg base A) (c__law_draw : Cal P w K mg base 1 "_law_draw" ["_law_well", "_law_many"] spDraw) (c__law_one : Cal P w K mg base 2 "_law_one" ["_law_well", "_law_some"] spOne) (c__law_form : Cal P w K mg base 3 "_law_form" ["_law_well", "_law_width", "_law_many"] spForm0) : FnOk P w K mg base CX0 4 f fd ["_law_well", "_law_width", "_law_names", "_law_total", "_law_k"] spRow := by
  refine F.ok sc__law_row (fun vs H Q E h => ?_) (fun cdv Ar outer s H vs Q E hr h => ?_)
  · obtain ⟨p, l, k, m, j, ns, rfl, _⟩ := h
    rfl
  · obtain ⟨p, l, k, m, j, ns, rfl, k1, k2, m1, m2, j0, hw, nl, hl, n1, n2, q⟩ := h
    refine ⟨_, (pss_cons (ps_set (i := 5) sc__law_row.nd rfl (Or.inl rfl) (pe_ix ix_list (pe_lst (pa_cons (pe_op op_mod (pe_callTy call_int1 (by rfl) T.z_int (by decide +kernel) (pa_cons (pe_op op_add (pv 4) pe_int) pa_nil)) (pv 3)) (pa_cons (pe_op op_mod (pe_callTy call_int1 (by rfl) T.z_int (by decide +kernel) (pa_cons (pe_op op_add (pv 4) pe_int) pa_nil)) (pv 3)) (pa_cons (pcal c__law_draw hr (by decide) (pa_cons (pv 0) (pa_cons (pv 3) pa_nil))) pa_nil)))) (pcal c__law_draw hr (by decide) (pa_cons (pv 0) (pa_cons pe_int pa_nil))) (fun _ _ => rfl)))
        (pss_cons (ps_set (i := 6) sc__law_row.nd rfl (Or.inl rfl) (pcal c__law_one hr (by decide) (pa_cons (pv 0) (pa_cons (pe_lst (pa_cons pe_str (pa_cons pe_str (pa_cons pe_str (pa_cons pe_str (pa_cons pe_str (pa_cons pe_str (pa_cons pe_str (pa_cons pe_str (pa_cons pe_str pa_nil)))))))))) pa_nil))))
        (pss_cons (ps_if (pt_cmpR op_eq (pv 6) pe_str (nomark _)) (pss_one (ps_ret (pe_tup (pa_cons pe_str (pa_cons (pcal c__law_one hr (by decide) (pa_cons (pv 0) (pa_cons (pv 2) pa_nil))) (pa_cons (pcal c__law_form hr (by decide) (pa_cons (pv 0) (pa_cons (pv 1) (pa_cons (pe_callB call_len_seq (by rfl) T.z_len PySem.boot_len (pa_cons (pv 2) pa_nil)) pa_nil)))) (pa_cons (pv 5) pa_nil))))))) pss_nil)
        (pss_cons (ps_if (pt_cmpR op_eq (pv 6) pe_str (nomark _)) (pss_one (ps_ret (pe_tup (pa_cons pe_str (pa_cons (pcal c__law_form hr (by decide) (pa_cons (pv 0) (pa_cons (pv 1) (pa_cons (pe_callB call_len_seq (by rfl) T.z_len PySem.boot_len (pa_cons (pv 2) pa_nil)) pa_nil)))) (pa_cons (pv 5) pa_nil)))))) pss_nil)
        (pss_cons (ps_if (pt_cmpR op_eq (pv 6) pe_str (nomark _)) (pss_one (ps_ret (pe_tup (pa_cons pe_str (pa_cons (pcal c__law_one hr (by decide) (pa_cons (pv 0) (pa_cons (pv 2) pa_nil))) (pa_cons (pv 5) pa_nil)))))) pss_nil)
        (pss_cons (ps_if (pt_cmpR op_eq (pv 6) pe_str (nomark _)) (pss_one (ps_ret (pe_tup (pa_cons pe_str (pa_cons (pe_callTy call_tupOf (by rfl) T.z_tuple (by decide +kernel) (pa_cons (pe_op op_cat (pe_lst (pa_cons (pv 5) pa_nil)) (pe_lc (own := [("_law_turn", 7)]) (g := gName 7) (tt := tYes) rfl sc__law_row.nd (pi_range1 (by rfl) T.z_range (pa_cons (pcal c__law_draw hr (by decide) (pa_cons (pv 0) (pa_cons pe_int pa_nil))) pa_nil)) (blkOk_by (own := [("_law_turn", 7)]) (N := ["_law_well", "_law_width", "_law_names", "_law_total", "_law_k", "_law_ahead", "_law_kind", "_law_turn"]) (sc := defScope s__law_row) (by decide +kernel)) (fun _ _ _ _ _ => pg_name (i := 7) sc__law_row.nd rfl (Or.inl rfl)) (fun _ _ _ _ _ => pts_nil) (fun _ _ _ _ _ => (pcal c__law_draw hr (by decide) (pa_cons (pv 0) (pa_cons (pv 3) pa_nil)))))) pa_nil)) pa_nil))))) pss_nil)
        (pss_cons (ps_if (PW.pt (pw_and (pt_cmpR op_eq (pv 6) pe_str (nomark _)) (pw_and1 (pt_cmpR op_eq (pcal c__law_draw hr (by decide) (pa_cons (pv 0) (pa_cons pe_int pa_nil))) pe_int (nomark _))))) (pss_one (ps_ret (pe_tup (pa_cons pe_str pa_nil)))) pss_nil)
        (pss_one (ps_ret (pe_ifExp (pt_cmpR op_eq (pcal c__law_draw hr (by decide) (pa_cons (pv 0) (pa_cons pe_int pa_nil))) pe_int (nomark _)) (pe_tup (pa_cons pe_str (pa_cons (pv 5) pa_nil))) (pe_tup (pa_cons pe_str (pa_cons (pe_op op_catA (pe_op op_repN (pe_tup (pa_cons pe_int pa_nil)) (pe_callB call_len_seq (by rfl) T.z_len PySem.boot_len (pa_cons (pv 2) pa_nil))) (pe_tup (pa_cons pe_int pa_nil))) (pa_cons (pv 5) pa_nil)))))))))))))), ?_⟩
    have m0 : 0 < m := by omega
    walk_at "lk"
    refine sI m0 ?_
    walk_at "lk"
    refine sI m0 ?_
    walk_at "lk"
    refine ⟨p, m, rfl, m0, Nat.lt_of_le_of_lt (show m.natAbs ≤ 25 by omega) (by decide), hw, fun r1 H1 r0 r1' w1 => ?_⟩
    walk_at "lk"
    refine snw (Nat.le_of_ble_eq_true rfl) fun d hd => ?_
    have w2 : Wk p H (upd H1 d (.lst ([(j + 1) % m, (j + 1) % m, r1].map V.int))) := w1.st (same_new hd)
    have e2 : (upd H1 d (.lst ([(j + 1) % m, (j + 1) % m, r1].map V.int))) d = some (.lst ([(j + 1) % m, (j + 1) % m, r1].map V.int)) := upd_same
    have nd : d ≠ p := ne_new w1.2 hd
    walk_at "lk"
    show spDraw _ (upd H1 d (.lst ([(j + 1) % m, (j + 1) % m, r1].map V.int))) _ _
    generalize upd H1 d (.lst ([(j + 1) % m, (j + 1) % m, r1].map V.int)) = H2 at w2 e2 ⊢
    have zb : ∀ z ∈ [(j + 1) % m, (j + 1) % m, r1], 0 ≤ z ∧ z < m := fun z hz => by
      have b0 := Int.emod_nonneg (j + 1) (show m ≠ 0 by omega)
      have b1 := Int.emod_lt_of_pos (j + 1) m0
      simp only [List.mem_cons, List.not_mem_nil, or_false] at hz
      rcases hz with rfl | rfl | rfl
      · exact ⟨b0, b1⟩
      · exact ⟨b0, b1⟩
      · exact ⟨r0, r1'⟩
    have zl : [(j + 1) % m, (j + 1) % m, r1].length = 3 := rfl
    generalize [(j + 1) % m, (j + 1) % m, r1] = zs at e2 zb zl
    refine ⟨p, 3, rfl, by decide, by decide, w2.2, fun i3 H3 i0 i1 w3 => ?_⟩
    obtain ⟨i, rfl⟩ : ∃ i : Nat, i3 = (i : Int) := ⟨i3.toNat, by omega⟩
    have hi : i < zs.length := by omega
    refine sfr (v := .int zs[i]) (SqL.of (w3.at nd e2)) (Lk.atI_nat (by rw [List.getElem?_map, List.getElem?_eq_getElem hi]; rfl)) ?_
    obtain ⟨a0, a1⟩ := zb _ (List.getElem_mem hi)
    generalize zs[i] = a at a0 a1 ⊢
    have w23 := w2.trans w3
    walk_at "lk"
    refine snw (Nat.le_of_ble_eq_true rfl) fun c hc => ?_
    have w4 := w23.st (same_new (o := .lst [.str "set", .str "set", .str "set", .str "say", .str "ask", .str "choose", .str "choose", .str "look", .str "stop"]) hc)
    have e4 : (upd H3 c (.lst [.str "set", .str "set", .str "set", .str "say", .str "ask", .str "choose", .str "choose", .str "look", .str "stop"])) c = some (.lst [.str "set", .str "set", .str "set", .str "say", .str "ask", .str "choose", .str "choose", .str "look", .str "stop"]) := upd_same
    have nc : c ≠ p := ne_new w23.2 hc
    walk_at "lk"
    generalize upd H3 c (.lst [.str "set", .str "set", .str "set", .str "say", .str "ask", .str "choose", .str "choose", .str "look", .str "stop"]) = H4 at w4 e4 ⊢
    refine ⟨p, c, _, rfl, w4.2, nc, e4, Nat.le_of_ble_eq_true rfl, Nat.le_of_ble_eq_true rfl, fun v H5 hv w5' => ?_⟩
    have w5 := w4.trans w5'
    have hv' : v = .str "set" ∨ v = .str "say" ∨ v = .str "ask" ∨ v = .str "choose" ∨ v = .str "look" ∨ v = .str "stop" := by
      simp only [List.mem_cons, List.not_mem_nil, or_false] at hv
      rcases hv with h | h | h | h | h | h | h | h | h <;> simp [h]
    clear hv w5' e4 w4 w3 w2 w1
    walk_at "lk"
    rcases hv' with rfl | rfl | rfl | rfl | rfl | rfl
    · refine sEq rfl ?_
      walk_at "lk"
      refine itt_ (by decide +kernel) ?_
      walk_at "lk"
      refine ⟨p, l, _, rfl, w5.2, nl, w5.at nl hl, by rw [List.length_map]; omega, by rw [List.length_map]; omega, fun v H6 hv w6 => ?_⟩
      obtain ⟨n, hn, rfl⟩ := List.mem_map.mp hv
      have w56 := w5.trans w6
      walk_at "lk"
      refine ⟨l, _, rfl, .inl (SqL.of (w56.at nl hl)), ?_⟩
      rw [List.length_map]
      walk_at "lk"
      refine ⟨p, k, ns.length, rfl, k2, n2, w56.2, fun b f HF wF hb fl fb => ?_⟩
      walk_at "lk"
      refine snw (Nat.le_of_ble_eq_true rfl) fun t ht => ?_
      refine q _ (.set n f a) _ ((w56.trans wF).st (same_new ht)) ⟨t, b, rfl, upd_same, same_new ht _ _ hb⟩ ⟨hn, by rw [fl], a0, a1⟩ ?_
      show LRow.set n (f.map (· % 2 ^ k)) a = LRow.set n f a
      rw [red_map fb]
    · refine sEq rfl ?_
      walk_at "lk"
      refine iff_ (by decide +kernel) ?_
      walk_at "lk"
      refine sEq rfl ?_
      walk_at "lk"
      refine itt_ (by decide +kernel) ?_
      walk_at "lk"
      refine ⟨l, _, rfl, .inl (SqL.of (w5.at nl hl)), ?_⟩
      rw [List.length_map]
      walk_at "lk"
      refine ⟨p, k, ns.length, rfl, k2, n2, w5.2, fun b f HF wF hb fl fb => ?_⟩
      walk_at "lk"
      refine snw (Nat.le_of_ble_eq_true rfl) fun t ht => ?_
      refine q _ (.say f a) _ ((w5.trans wF).st (same_new ht)) ⟨t, b, rfl, upd_same, same_new ht _ _ hb⟩ ⟨by rw [fl], a0, a1⟩ ?_
      show LRow.say (f.map (· % 2 ^ k)) a = LRow.say f a
      rw [red_map fb]
    · refine sEq rfl ?_
      walk_at "lk"
      refine iff_ (by decide +kernel) ?_
      walk_at "lk"
      refine sEq rfl ?_
      walk_at "lk"
      refine iff_ (by decide +kernel) ?_
      walk_at "lk"
      refine sEq rfl ?_
      walk_at "lk"
      refine itt_ (by decide +kernel) ?_
      walk_at "lk"
      refine ⟨p, l, _, rfl, w5.2, nl, w5.at nl hl, by rw [List.length_map]; omega, by rw [List.length_map]; omega, fun v H6 hv w6 => ?_⟩
      obtain ⟨n, hn, rfl⟩ := List.mem_map.mp hv
      have w56 := w5.trans w6
      walk_at "lk"
      refine snw (Nat.le_of_ble_eq_true rfl) fun t ht => ?_
      exact q _ (.ask n a) _ (w56.st (same_new ht)) ⟨t, rfl, upd_same⟩ ⟨hn, a0, a1⟩ rfl
    · refine sEq rfl ?_
      walk_at "lk"
      refine iff_ (by decide +kernel) ?_
      walk_at "lk"
      refine sEq rfl ?_
      walk_at "lk"
      refine iff_ (by decide +kernel) ?_
      walk_at "lk"
      refine sEq rfl ?_
      walk_at "lk"
      refine iff_ (by decide +kernel) ?_
      walk_at "lk"
      refine sEq rfl ?_
      walk_at "lk"
      refine itt_ (by decide +kernel) ?_
      walk_at "lk"
      refine snw (Nat.le_of_ble_eq_true rfl) fun d hd => ?_
      have w6 := w5.st (same_new (o := .lst [.int a]) hd)
      have ed : (upd H5 d (.lst [.int a])) d = some (.lst [.int a]) := upd_same
      have nd : d ≠ p := ne_new w5.2 hd
      generalize upd H5 d (.lst [.int a]) = H6 at w6 ed ⊢
      unfold tLc iRng1
      walk_at "lk"
      refine ⟨p, 3, rfl, by decide, by decide, w6.2, fun c H7 c0 c1 w7 => ?_⟩
      have ed7 := w7.at nd ed
      have w67 := w6.trans w7
      walk_at "lk"
      refine ⟨c, rfl, by omega, by omega, fun D hD => ?_⟩
      have nD : D ≠ p := ne_new w67.2 hD
      refine lc_range (lo := 0) (n := c.toNat) (fun i H' => Wk p H7 H' ∧ ∃ ks : List Int, H' D = some (.lst (ks.map V.int)) ∧ ks.length = i ∧ ∀ x ∈ ks, 0 ≤ x ∧ x < m) ⟨Wk.of w67.2 (same_new hD), [], upd_same, rfl, fun x hx => by cases hx⟩ ?_ ?_
      · rintro i H8 hi ⟨w8, ks, hks, hlk, hkb⟩
        refine ⟨rfl, ?_⟩
        unfold tYes
        simp only [if_true]
        walk_at "lk"
        refine ⟨p, m, rfl, by omega, Nat.lt_of_le_of_lt (show m.natAbs ≤ 25 by omega) (by decide), w8.2, fun y H9 y0 y1 w9 => ?_⟩
        refine ⟨_, w9.at nD hks, by rw [List.length_map, hlk]; exact small1000 (by omega), (w8.trans w9).updD hD nD, ks ++ [y], by rw [upd_same, List.map_append]; rfl, by rw [List.length_append, hlk]; rfl, fun x hx => ?_⟩
        rcases List.mem_append.mp hx with h | h
        · exact hkb x h
        · rw [List.mem_singleton.mp h]
          exact ⟨y0, y1⟩
      · rintro H8 ⟨w8, ks, hks, hlk, hkb⟩
        have w78 := w67.trans w8
        refine ⟨d, D, _, _, rfl, rfl, w8.at nd ed7, hks, by rw [List.length_map, hlk]; exact Nat.le_of_lt (small1000 (show 1 + c.toNat ≤ 1000 by omega)), fun g hg => ?_⟩
        walk_at "lk"
        have w9 := w78.st (same_new (o := .lst ([V.int a] ++ ks.map V.int)) hg)
        have eg : (upd H8 g (.lst ([V.int a] ++ ks.map V.int))) g = some (.lst ((a :: ks).map V.int)) := upd_same
        generalize upd H8 g (.lst ([V.int a] ++ ks.map V.int)) = H9 at w9 eg ⊢
        refine ⟨g, _, rfl, .inl ⟨SqL.of eg, fun u hu => ?_⟩⟩
        walk_at "lk"
        refine snw (Nat.le_of_ble_eq_true rfl) fun t ht => ?_
        refine q _ (.choose (a :: ks)) _ ((w9.st (same_new hu)).st (same_new ht)) ⟨t, u, rfl, upd_same, same_new ht _ _ upd_same⟩ ⟨by rw [List.length_cons]; omega, by rw [List.length_cons]; omega, fun x hx => ?_⟩ rfl
        rcases List.mem_cons.mp hx with rfl | h
        · exact ⟨a0, a1⟩
        · exact hkb x h
    · refine sEq rfl ?_
      walk_at "lk"
      refine iff_ (by decide +kernel) ?_
      walk_at "lk"
      refine sEq rfl ?_
      walk_at "lk"
      refine iff_ (by decide +kernel) ?_
      walk_at "lk"
      refine sEq rfl ?_
      walk_at "lk"
      refine iff_ (by decide +kernel) ?_
      walk_at "lk"
      refine sEq rfl ?_
      walk_at "lk"
      refine iff_ (by decide +kernel) ?_
      walk_at "lk"
      refine sEq rfl ?_
      walk_at "lk"
      refine iff_ (by decide +kernel) ?_
      refine iff_ rfl ?_
      walk_at "lk"
      refine ⟨p, 3, rfl, by decide, by decide, w5.2, fun r8 H8 _ _ w8' => ?_⟩
      have w8 := w5.trans w8'
      walk_at "lk"
      refine sEq rfl ?_
      walk_at "lk"
      refine ite2 (fun _ => ?_) (fun _ => ?_)
      · walk_at "lk"
        refine snw (Nat.le_of_ble_eq_true rfl) fun t ht => ?_
        exact q _ (.look a) _ (w8.st (same_new ht)) ⟨t, rfl, upd_same⟩ ⟨a0, a1⟩ rfl
      · walk_at "lk"
        refine snw (Nat.le_of_ble_eq_true rfl) fun t0 ht0 => ?_
        have sA : Same H8 (upd H8 t0 (.tup [.int 0])) := same_new ht0
        have eA : (upd H8 t0 (.tup [.int 0])) t0 = some (.tup [.int 0]) := upd_same
        generalize upd H8 t0 (.tup [.int 0]) = HA at sA eA ⊢
        have wA := w8.st sA
        walk_at "lk"
        refine ⟨l, _, rfl, .inl (SqL.of (wA.at nl hl)), ?_⟩
        rw [List.length_map]
        refine s_repN (SqT.of eA) n1 (by omega) fun tb HB sB eB => ?_
        walk_at "lk"
        refine snw (Nat.le_of_ble_eq_true rfl) fun t1 ht1 => ?_
        have sC : Same HB (upd HB t1 (.tup [.int 1])) := same_new ht1
        have eC : (upd HB t1 (.tup [.int 1])) t1 = some (.tup [.int 1]) := upd_same
        generalize upd HB t1 (.tup [.int 1]) = HC at sC eC ⊢
        refine s_catA (same_sqT sC eB) (SqT.of eC) (by cases hz : ns.length with
          | zero => omega
          | succ z => simp [List.replicate_succ]) (by simp) (by rw [List.length_replicate]; simp; omega) fun td htd => ?_
        have sD : Same HC (upd HC td (.tup (List.replicate ns.length (.int 0) ++ [.int 1]))) := same_new htd
        have eD : (upd HC td (.tup (List.replicate ns.length (.int 0) ++ [.int 1]))) td = some (.tup ((List.replicate ns.length (0 : Int) ++ [1]).map V.int)) := by rw [upd_same, List.map_append, List.map_replicate]; rfl
        generalize upd HC td (.tup (List.replicate ns.length (.int 0) ++ [.int 1])) = HD at sD eD ⊢
        walk_at "lk"
        refine snw (Nat.le_of_ble_eq_true rfl) fun t ht => ?_
        have pk : (1 : Int) < 2 ^ k := Lk.one_lt_pow k1
        have fb : ∀ x ∈ (List.replicate ns.length 0 ++ [1] : List Int), 0 ≤ x ∧ x < 2 ^ k := fun x hx => by
          rcases List.mem_append.mp hx with h | h
          · rw [List.eq_of_mem_replicate h]
            exact ⟨by decide, by omega⟩
          · rw [List.mem_singleton.mp h]
            exact ⟨by decide, pk⟩
        refine q _ (.say (List.replicate ns.length 0 ++ [1]) a) _ ((((wA.st sB).st sC).st sD).st (same_new ht)) ⟨t, td, rfl, upd_same, same_new ht _ _ eD⟩ ⟨by rw [List.length_append, List.length_replicate]; rfl, a0, a1⟩ ?_
        show LRow.say (List.map (· % 2 ^ k) _) a = _
        rw [red_map fb]
    · refine sEq rfl ?_
      walk_at "lk"
      refine iff_ (by decide +kernel) ?_
      walk_at "lk"
      refine sEq rfl ?_
      walk_at "lk"
      refine iff_ (by decide +kernel) ?_
      walk_at "lk"
      refine sEq rfl ?_
      walk_at "lk"
      refine iff_ (by decide +kernel) ?_
      walk_at "lk"
      refine sEq rfl ?_
      walk_at "lk"
      refine iff_ (by decide +kernel) ?_
      walk_at "lk"
      refine sEq rfl ?_
      walk_at "lk"
      refine itt_ (by decide +kernel) ?_
      walk_at "lk"
      refine ⟨p, 2, rfl, by decide, by decide, w5.2, fun r6 H6 _ _ w6' => ?_⟩
      have w6 := w5.trans w6'
      walk_at "lk"
      refine sEq rfl ?_
      walk_at "lk"
      refine ite2 (fun _ => ?_) (fun _ => ?_)
      · walk_at "lk"
        refine snw (Nat.le_of_ble_eq_true rfl) fun t ht => ?_
        exact q _ .stop _ (w6.st (same_new ht)) ⟨t, rfl, upd_same⟩ trivial rfl
      · walk_at "lk"
        refine ⟨p, 3, rfl, by decide, by decide, w6.2, fun r8 H8 _ _ w8' => ?_⟩
        have w8 := w6.trans w8'
        walk_at "lk"
        refine sEq rfl ?_
        walk_at "lk"
        refine ite2 (fun _ => ?_) (fun _ => ?_)
        · walk_at "lk"
          refine snw (Nat.le_of_ble_eq_true rfl) fun t ht => ?_
          exact q _ (.look a) _ (w8.st (same_new ht)) ⟨t, rfl, upd_same⟩ ⟨a0, a1⟩ rfl
        · walk_at "lk"
          refine snw (Nat.le_of_ble_eq_true rfl) fun t0 ht0 => ?_
          have sA : Same H8 (upd H8 t0 (.tup [.int 0])) := same_new ht0
          have eA : (upd H8 t0 (.tup [.int 0])) t0 = some (.tup [.int 0]) := upd_same
          generalize upd H8 t0 (.tup [.int 0]) = HA at sA eA ⊢
          have wA := w8.st sA
          walk_at "lk"
          refine ⟨l, _, rfl, .inl (SqL.of (wA.at nl hl)), ?_⟩
          rw [List.length_map]
          refine s_repN (SqT.of eA) n1 (by omega) fun tb HB sB eB => ?_
          walk_at "lk"
          refine snw (Nat.le_of_ble_eq_true rfl) fun t1 ht1 => ?_
          have sC : Same HB (upd HB t1 (.tup [.int 1])) := same_new ht1
          have eC : (upd HB t1 (.tup [.int 1])) t1 = some (.tup [.int 1]) := upd_same
          generalize upd HB t1 (.tup [.int 1]) = HC at sC eC ⊢
          refine s_catA (same_sqT sC eB) (SqT.of eC) (by cases hz : ns.length with
            | zero => omega
            | succ z => simp [List.replicate_succ]) (by simp) (by rw [List.length_replicate]; simp; omega) fun td htd => ?_
          have sD : Same HC (upd HC td (.tup (List.replicate ns.length (.int 0) ++ [.int 1]))) := same_new htd
          have eD : (upd HC td (.tup (List.replicate ns.length (.int 0) ++ [.int 1]))) td = some (.tup ((List.replicate ns.length (0 : Int) ++ [1]).map V.int)) := by rw [upd_same, List.map_append, List.map_replicate]; rfl
          generalize upd HC td (.tup (List.replicate ns.length (.int 0) ++ [.int 1])) = HD at sD eD ⊢
          walk_at "lk"
          refine snw (Nat.le_of_ble_eq_true rfl) fun t ht => ?_
          have pk : (1 : Int) < 2 ^ k := Lk.one_lt_pow k1
          have fb : ∀ x ∈ (List.replicate ns.length 0 ++ [1] : List Int), 0 ≤ x ∧ x < 2 ^ k := fun x hx => by
            rcases List.mem_append.mp hx with h | h
            · rw [List.eq_of_mem_replicate h]
              exact ⟨by decide, by omega⟩
            · rw [List.mem_singleton.mp h]
              exact ⟨by decide, pk⟩
          refine q _ (.say (List.replicate ns.length 0 ++ [1]) a) _ ((((wA.st sB).st sC).st sD).st (same_new ht)) ⟨t, td, rfl, upd_same, same_new ht _ _ eD⟩ ⟨by rw [List.length_append, List.length_replicate]; rfl, a0, a1⟩ ?_
          show LRow.say (List.map (· % 2 ^ k) _) a = _
          rw [red_map fb]
end
end K42

namespace K42
open PySem PySem.Spec PyProof.Rows L2 Lk
local macro_rules | `(tactic| walk_at "lk") => `(tactic| (repeat (first
  | with_reducible refine ssq ?_ | with_reducible refine sas ?_ | with_reducible refine sgn ?_ | ((with_reducible show tVar _ _ _ _); refine sv rfl ?_) | with_reducible refine sc ?_ | with_reducible refine sop ?_ | with_reducible refine sun ?_
  | with_reducible refine sI0 ?_ | with_reducible refine sU ?_ | with_reducible refine stt ?_ | with_reducible refine stB ?_ | with_reducible refine sbl ?_ | with_reducible refine snt ?_ | with_reducible refine sif ?_ | with_reducible refine scB ?_
  | with_reducible refine scn ?_ | with_reducible refine snl ?_ | with_reducible refine scl ?_ | with_reducible refine stu ?_ | with_reducible refine sli ?_ | with_reducible refine sdr ?_ | with_reducible refine srt ?_ | with_reducible refine snx ?_ | with_reducible refine sfor ?_ | with_reducible refine sils ?_ | with_reducible refine sien ?_ | with_reducible refine sor ?_ | with_reducible refine sfg ?_
  | with_reducible refine sav ?_ | with_reducible refine sov ?_ | with_reducible refine snv ?_ | with_reducible refine sch ?_ | with_reducible refine san ?_ | with_reducible refine ssll ?_ | with_reducible refine spt ?_ | with_reducible refine snp ?_ | with_reducible refine sin ?_ | with_reducible refine sfl ?_ | with_reducible refine sfd ?_ | with_reducible refine sbm ?_ | with_reducible refine sifx ?_
  | ((with_reducible show Or _ _); first | refine Or.inl ⟨_, rfl, ?_⟩ | refine Or.inr ⟨_, rfl, ?_⟩))))

def GoodR (ns : List Str) (m : Int) (k : Nat) (rs : List LRow) : Prop := ∀ r ∈ rs, RowOk ns m r ∧ r.low k = r
def spRows : Sp := fun vs H Q _ => ∃ (p l : Addr) (k m : Nat) (ns : List Str), vs = [.ref p, .int (k : Int), .ref l, .int (m : Int)] ∧ 1 ≤ k ∧ k ≤ 64 ∧ 1 ≤ m ∧ m ≤ 25 ∧ Wl H p ∧ l ≠ p ∧ H l = some (.lst (ns.map V.str)) ∧ 1 ≤ ns.length ∧ ns.length ≤ 6 ∧
  ∀ (D : Addr) (us : List V) (rs : List LRow) (H' : Hp), Wk p H H' → H D = none → H' D = some (.lst us) → RowsH H' us rs → rs.length = m → GoodR ns m k rs → Q (.ref D) H'
def spGrown : Sp := fun vs H Q _ => ∃ (p b : Addr) (k : Nat) (f : List Int), vs = [.ref p, .ref b, .int (2 ^ k)] ∧ k ≤ 64 ∧ Wl H p ∧ H b = some (.tup (f.map V.int)) ∧ f.length ≤ 100 ∧
  ∀ (t : Addr) (g : List Int) (H' : Hp), Wk p H H' → H' t = some (.tup (g.map V.int)) → g.length = f.length → g.map (· % 2 ^ k) = f.map (· % 2 ^ k) → Q (.ref t) H'
def spGrownRow : Sp := fun vs H Q _ => ∃ (p : Addr) (v : V) (k : Nat) (r : LRow) (ns : List Str) (m : Int), vs = [.ref p, v, .int (2 ^ k)] ∧ k ≤ 64 ∧ Wl H p ∧ RowH H v r ∧ RowOk ns m r ∧ ns.length ≤ 6 ∧
  ∀ (u : V) (r' : LRow) (H' : Hp), Wk p H H' → RowH H' u r' → r'.low k = r.low k → RowOk ns m r' → Q u H'

section
variable {P : Program} {w : World} {K : PySem.W.Frag} {mg : Str → Option Value} {base : Heap} {A : Ad}
abbrev s__law_rows : Stmt := top 68
theorem sc__law_rows : FnScope ["_law_well", "_law_width", "_law_names", "_law_total", "_law_k"] ["_law_well", "_law_width", "_law_names", "_law_total"] (defScope s__law_rows) := ⟨rfl, rfl, rfl, by decide +kernel, rfl, by decide +kernel, by decide +kernel⟩
theorem ok_rows {f : Addr} {fd : FuncData} (F : Fun K "_law_rows" "_law_rows" s__law_rows f fd) (T : Txt P w K mg base A) (c__law_row : Cal P w K mg base 4 "_law_row" ["_law_well", "_law_width", "_law_names", "_law_total", "_law_k"] spRow) : FnOk P w K mg base CX0 5 f fd ["_law_well", "_law_width", "_law_names", "_law_total"] spRows := by
  refine F.ok sc__law_rows (fun vs H Q E h => ?_) (fun cdv Ar outer s H vs Q E hr h => ?_)
  · obtain ⟨p, l, k, m, ns, rfl, _⟩ := h
    rfl
  · obtain ⟨p, l, k, m, ns, rfl, k1, k2, m1, m2, hw, nl, hl, n1, n2, q⟩ := h
    refine ⟨_, (pss_one (ps_ret (pe_lc (own := [("_law_k", 4)]) (g := gName 4) (tt := tYes) rfl sc__law_rows.nd (pi_range1 (by rfl) T.z_range (pa_cons (pv 3) pa_nil)) (blkOk_by (own := [("_law_k", 4)]) (N := ["_law_well", "_law_width", "_law_names", "_law_total", "_law_k"]) (sc := defScope s__law_rows) (by decide +kernel)) (fun _ _ _ _ _ => pg_name (i := 4) sc__law_rows.nd rfl (Or.inl rfl)) (fun _ _ _ _ _ => pts_nil) (fun _ _ _ _ _ => (pcal c__law_row hr (by decide) (pa_cons (pv 0) (pa_cons (pv 1) (pa_cons (pv 2) (pa_cons (pv 3) (pa_cons (pv 4) pa_nil)))))))))), ?_⟩
    walk_at "lk"
    unfold tLc iRng1
    walk_at "lk"
    refine ⟨(m : Int), rfl, by omega, by omega, fun D hD => ?_⟩
    have nD : D ≠ p := ne_new hw hD
    rw [Int.toNat_natCast]
    refine lc_range (lo := 0) (n := m) (fun i H' => Wk p H H' ∧ ∃ us rs, H' D = some (.lst us) ∧ RowsH H' us rs ∧ rs.length = i ∧ GoodR ns m k rs) ⟨Wk.of hw (same_new hD), [], [], upd_same, .nil, rfl, fun r hr => by cases hr⟩ ?_ ?_
    · rintro i H1 hi ⟨w1, us, rs, h1, h2, h3, h4⟩
      refine ⟨rfl, ?_⟩
      unfold tYes
      simp only [if_true]
      walk_at "lk"
      refine ⟨p, l, k, m, 0 + (i : Int), ns, rfl, k1, k2, by omega, by omega, by omega, w1.2, nl, w1.at nl hl, n1, n2, fun v r H2 w2 hv hok hlow => ?_⟩
      have e2 := w2.at nD h1
      have t2 : Ts H2 (upd H2 D (.lst (us ++ [v]))) := Ts.lst e2
      refine ⟨us, e2, by rw [h2.len, h3]; exact small1000 (by omega), (w1.trans w2).updD hD nD, us ++ [v], rs ++ [r], upd_same, ((h2.ts (w2.ts w1.2)).ts t2).append (.cons (hv.ts t2) .nil), by rw [List.length_append, h3]; rfl, fun x hx => ?_⟩
      rcases List.mem_append.mp hx with h | h
      · exact h4 x h
      · rw [List.mem_singleton.mp h]
        exact ⟨hok, hlow⟩
    · rintro H1 ⟨w1, us, rs, h1, h2, h3, h4⟩
      exact q D us rs H1 w1 hD h1 h2 h3 h4
end
end K42

namespace K42
open PySem PySem.Spec PyProof.Rows L2 Lk
local macro_rules | `(tactic| walk_at "lk") => `(tactic| (repeat (first
  | with_reducible refine ssq ?_ | with_reducible refine sas ?_ | with_reducible refine sgn ?_ | ((with_reducible show tVar _ _ _ _); refine sv rfl ?_) | with_reducible refine sc ?_ | with_reducible refine sop ?_ | with_reducible refine sun ?_
  | with_reducible refine sI0 ?_ | with_reducible refine sU ?_ | with_reducible refine stt ?_ | with_reducible refine stB ?_ | with_reducible refine sbl ?_ | with_reducible refine snt ?_ | with_reducible refine sif ?_ | with_reducible refine scB ?_
  | with_reducible refine scn ?_ | with_reducible refine snl ?_ | with_reducible refine scl ?_ | with_reducible refine stu ?_ | with_reducible refine sli ?_ | with_reducible refine sdr ?_ | with_reducible refine srt ?_ | with_reducible refine snx ?_ | with_reducible refine sfor ?_ | with_reducible refine sils ?_ | with_reducible refine sien ?_ | with_reducible refine sor ?_ | with_reducible refine sfg ?_
  | with_reducible refine sav ?_ | with_reducible refine sov ?_ | with_reducible refine snv ?_ | with_reducible refine sch ?_ | with_reducible refine san ?_ | with_reducible refine ssll ?_ | with_reducible refine spt ?_ | with_reducible refine snp ?_ | with_reducible refine sin ?_ | with_reducible refine sfl ?_ | with_reducible refine sfd ?_ | with_reducible refine sbm ?_ | with_reducible refine sifx ?_
  | ((with_reducible show Or _ _); first | refine Or.inl ⟨_, rfl, ?_⟩ | refine Or.inr ⟨_, rfl, ?_⟩))))

abbrev psI : List Str := ["self", "width", "variables", "rows"]
/-- the class Program, as the top has left it -/
structure Prg (P : Program) (w : World) (K : PySem.W.Frag) (mg : Str → Option Value) (base : Heap) (A : Ad) : Prop where
  init : ∃ f fd, Mk K A.Program f ∧ FnOk P w K mg base CX0 6 f fd psI (spInit K A) ∧ Binds K fd psI [] ∧ KBn K fd psI 1 ["rows", "variables", "width"] (fun us ws => us ++ ws.reverse) (fun us ws => us ++ ws.reverse)
  eq : ∃ f fd, PySem.W.findIn K (.ref A.Program) "__eq__" = some (some (.ref f)) ∧ PySem.W.isFn K (.ref f) = true ∧ FnOk P w K mg base CX0 1 f fd ["self", "other"] (spEqP K A) ∧ Binds K fd ["self", "other"] []
  len : ∃ f fd, PySem.W.findIn K (.ref A.Program) "__len__" = some (some (.ref f)) ∧ PySem.W.isFn K (.ref f) = true ∧ FnOk P w K mg base CX0 1 f fd ["self"] (spLen K A) ∧ Binds K fd ["self"] []
  item : ∃ f fd, PySem.W.findIn K (.ref A.Program) "__getitem__" = some (some (.ref f)) ∧ PySem.W.fnIn K f = true ∧ PySem.W.isFn K (.ref f) = true ∧ FnOk P w K mg base CX0 4 f fd ["self", "at"] (spItem K A) ∧ Binds K fd ["self", "at"] []
theorem same_own {H H' : Hp} {x dx C : Addr} (h1 : H x = none) (h2 : H dx = none) (s : Bar x (upd (upd H dx (.own x)) x (.ins C dx [])) H') : Same H H' := fun b o e => by
  have n1 := ne_of_none e h1
  have n2 := ne_of_none e h2
  refine s b o n1 ?_
  rw [upd_ne n1, upd_ne n2]
  exact e
theorem bar_mk {H : Hp} {x dx C : Addr} (h1 : H x = none) (h2 : H dx = none) : Same H (upd (upd H dx (.own x)) x (.ins C dx [])) := same_own h1 h2 Bar.refl
def newP (C : Addr) (sp : Sp) (dvs : List V) (E : XK) (vs : List V) (H : Hp) (Q : VK) : Prop := ∀ x dx, H x = none → H dx = none → dx ≠ x → sp (.ref x :: (vs ++ dvs)) (upd (upd H dx (.own x)) x (.ins C dx [])) (fun v H2 => v = .non ∧ Q (.ref x) H2) E
def newK (C : Addr) (sp : Sp) (gV : List V → List V → List V) (E : XK) (vs zs : List V) (H : Hp) (Q : VK) : Prop := ∀ x dx, H x = none → H dx = none → dx ≠ x → sp (gV (.ref x :: vs) zs) (upd (upd H dx (.own x)) x (.ins C dx [])) (fun v H2 => v = .non ∧ Q (.ref x) H2) E
/-- Program(..): what the new program is -/
theorem s_newP {K : PySem.W.Frag} {A : Ad} {H : Hp} {l t : Addr} {k : Nat} {ns : List Str} {us : List V} {rs : List LRow} {Q : VK} {E : XK} (k1 : 1 ≤ k) (k2 : k ≤ 64) (hl : SqL K H l (ns.map V.str)) (hn : NamesOk ns) (ht : SqE K H t us) (hr : RowsH H us rs) (hok : RowsOk ns rs)
    (q : ∀ x H', Same H H' → ProgO K A.Program H' x k ns (rs.map (·.low k)) → VzH H' x → Q (.ref x) H') : newP A.Program (spInit K A) [] E [.int (k : Int), .ref l, .ref t] H Q := fun x dx h1 h2 _ => by
  have s := bar_mk (C := A.Program) h1 h2
  exact ⟨x, dx, l, t, k, ns, us, rs, rfl, upd_same, k1, k2, s.seq hl, hn, ht.same s, hr.ts (Ts.of s), hok, fun H' b hp hz => ⟨rfl, q x H' (same_own h1 h2 b) hp hz⟩⟩
theorem s_newK {K : PySem.W.Frag} {A : Ad} {H : Hp} {l t : Addr} {k : Nat} {ns : List Str} {us : List V} {rs : List LRow} {Q : VK} {E : XK} (k1 : 1 ≤ k) (k2 : k ≤ 64) (hl : SqL K H l (ns.map V.str)) (hn : NamesOk ns) (ht : SqE K H t us) (hr : RowsH H us rs) (hok : RowsOk ns rs)
    (q : ∀ x H', Same H H' → ProgO K A.Program H' x k ns (rs.map (·.low k)) → VzH H' x → Q (.ref x) H') : newK A.Program (spInit K A) (fun us ws => us ++ ws.reverse) E [] [.ref t, .ref l, .int (k : Int)] H Q := fun x dx h1 h2 _ => by
  have s := bar_mk (C := A.Program) h1 h2
  exact ⟨x, dx, l, t, k, ns, us, rs, rfl, upd_same, k1, k2, s.seq hl, hn, ht.same s, hr.ts (Ts.of s), hok, fun H' b hp hz => ⟨rfl, q x H' (same_own h1 h2 b) hp hz⟩⟩
section
variable {X : Cx} {A : Ad} {j : Nat} {e : Expr} {es : List Expr} {kws : List Keyword} {t tk ta tb : TE} {p pos : Pos}
theorem Prg.pe {t : TA} (G : Prg X.prog X.w X.K X.mg X.base A) (hr : Room j X.A) (hj : 7 ≤ j) (hm : X.mg "Program" = some (.ref A.Program)) (ha : PA X (e :: es) t) (hg : Gl X "Program" := by rfl)
    (he : starEach (e :: es) X.env = (false, eval e X.env) :: starEach es X.env := by rfl) (hpl : (backTo pos (starEach es X.env)).any (·.1) = false := by rfl) : PE X (.Call (.Name "Program" p) (e :: es) [] pos) (tMake A.Program (spInit X.K A) [] E0 t) := by
  obtain ⟨f, fd, M, F, b, _⟩ := G.init
  exact pe_make M F (hr.mono hj) hg hm b .nil pass0 ha (by decide) he hpl
theorem Prg.pk {t : TA} (G : Prg X.prog X.w X.K X.mg X.base A) (hr : Room j X.A) (hj : 7 ≤ j) (hm : X.mg "Program" = some (.ref A.Program)) (ha : PK X kws t) (hg : Gl X "Program" := by rfl) (hall : (backToKw pos (keywordEach kws X.env)).all (·.1.isSome) = true := by rfl)
    (hks : (backToKw pos (keywordEach kws X.env)).filterMap (·.1) = (["rows", "variables", "width"] : List Str) := by rfl) (hpl : ((backTo pos (starEach [] X.env)).any (·.1) || (backToKw pos (keywordEach kws X.env)).any (·.1.isNone)) = false := by rfl) :
    PE X (.Call (.Name "Program" p) [] kws pos) (tMakeK A.Program 0 3 (spInit X.K A) (fun us ws => us ++ ws.reverse) E0 tNil t) := by
  obtain ⟨f, fd, M, F, _, kb⟩ := G.init
  exact pe_makeK0 M F (hr.mono hj) hg hm kb pass0 ha hall hks (by decide) hpl
theorem Prg.oeq (G : Prg X.prog X.w X.K X.mg X.base A) (hr : Room j X.A) (hj : 1 ≤ j) (hn : PySem.W.notFirst X.K A.Program (.type "tuple") = true) : OpR X (compareOp .Eq) (rEqO X.K A.Program (spEqP X.K A) E0) := by
  obtain ⟨f, fd, h1, h2, F, b⟩ := G.eq
  exact op_eqO F h1 h2 b pass0 hn (hr.mono hj)
theorem Prg.one (G : Prg X.prog X.w X.K X.mg X.base A) (hr : Room j X.A) (hj : 2 ≤ j) (hne : PySem.W.findIn X.K (.ref A.Program) "__ne__" = some (some (.builtin "object.__ne__"))) (hm : PySem.W.mroIn X.K A.Program (.type "object") = some true) : OpR X (compareOp .NotEq) (rNeO A.Program (spEqP X.K A) E0) := by
  obtain ⟨f, fd, h1, h2, F, b⟩ := G.eq
  exact op_neO F h1 hne hm h2 b pass0 (hr.mono hj)
theorem Prg.clen (G : Prg X.prog X.w X.K X.mg X.base A) (hr : Room j X.A) (hj : 2 ≤ j) : CallR X (.builtin "len") (rLenO A.Program (spLen X.K A) E0) := by
  obtain ⟨f, fd, h1, h2, F, b⟩ := G.len
  exact call_lenO F h1 h2 b pass0 (hr.mono hj)
theorem Prg.pix {P : Program} {w : World} {K : PySem.W.Frag} {mg : Str → Option Value} {base : Heap} {a b : Expr} {ta tb : TE} (G : Prg P w K mg base A) (h1 : X.prog = P) (h2 : X.w = w) (h3 : X.K = K) (h4 : X.mg = mg) (h5 : X.base = base) (hr : Room j X.A) (hj : 5 ≤ j) (ha : PE X a ta) (hb : PE X b tb) (hsl : ∀ v u, subscripted b true v u = runValue (.builtin "lifetime.subscript" ⟨[v, u], []⟩) := by intros; with_unfolding_all rfl) :
    PE X (.Subscript a b pos) (tOp (rIxO A.Program (spItem K A) E0) ta tb) := by
  subst h1 h2 h3 h4 h5
  obtain ⟨f, fd, h1, h2, h3, F, bb⟩ := G.item
  exact pe_ixO F h1 h2 h3 bb pass0 (hr.mono hj) ha hb hsl
theorem smk {C : Addr} {sp : Sp} {dvs : List V} {E : XK} {t : TA} {σ : L2.St} {H : Hp} {Q : VK} (q : t σ H fun vs H1 => newP C sp dvs E vs H1 Q) : tMake C sp dvs E t σ H Q := q
theorem smkk {C : Addr} {n m : Nat} {sp : Sp} {gV : List V → List V → List V} {E : XK} {t tk : TA} {σ : L2.St} {H : Hp} {Q : VK} (q : t σ H fun vs H1 => tk σ H1 fun zs H2 => vs.length = n ∧ zs.length = m ∧ newK C sp gV E vs zs H2 Q) : tMakeK C n m sp gV E t tk σ H Q := q
end

section
variable {P : Program} {w : World} {K : PySem.W.Frag} {mg : Str → Option Value} {base : Heap} {A : Ad}
end
end K42

namespace K42
open PySem PySem.Spec PyProof.Rows L2 RZ Lk
local macro_rules | `(tactic| walk_at "lk") => `(tactic| (repeat (first
  | with_reducible refine ssq ?_ | with_reducible refine sas ?_ | with_reducible refine sgn ?_ | ((with_reducible show tVar _ _ _ _); refine sv rfl ?_) | with_reducible refine sc ?_ | with_reducible refine sop ?_ | with_reducible refine sun ?_
  | with_reducible refine sI0 ?_ | with_reducible refine sU ?_ | with_reducible refine stt ?_ | with_reducible refine stB ?_ | with_reducible refine sbl ?_ | with_reducible refine snt ?_ | with_reducible refine sif ?_ | with_reducible refine scB ?_
  | with_reducible refine scn ?_ | with_reducible refine snl ?_ | with_reducible refine scl ?_ | with_reducible refine stu ?_ | with_reducible refine sli ?_ | with_reducible refine sdr ?_ | with_reducible refine srt ?_ | with_reducible refine snx ?_ | with_reducible refine sfor ?_ | with_reducible refine sils ?_ | with_reducible refine sien ?_ | with_reducible refine sor ?_ | with_reducible refine sfg ?_
  | with_reducible refine sav ?_ | with_reducible refine sov ?_ | with_reducible refine snv ?_ | with_reducible refine sch ?_ | with_reducible refine san ?_ | with_reducible refine ssll ?_ | with_reducible refine spt ?_ | with_reducible refine snp ?_ | with_reducible refine sin ?_ | with_reducible refine sfl ?_ | with_reducible refine sfd ?_ | with_reducible refine sbm ?_ | with_reducible refine sifx ?_ | with_reducible refine smk ?_ | with_reducible refine ssli ?_ | with_reducible refine sbz ?_
  | ((with_reducible show Or _ _); first | refine Or.inl ⟨_, rfl, ?_⟩ | refine Or.inr ⟨_, rfl, ?_⟩))))

def spProd (K : PySem.W.Frag) : Sp := fun vs H Q _ => ∃ (a b : Addr) (f v : List Int) (k : Nat), vs = [.ref a, .ref b, .int (k : Int)] ∧ SqT K H a (f.map V.int) ∧ SqT K H b (v.map V.int) ∧ f.length = v.length ∧ f.length ≤ 100 ∧ (∀ x ∈ f, 0 ≤ x ∧ x < 2 ^ 64) ∧ k ≤ 64 ∧ ∀ H', Same H H' → Q (.int (dot f v % 2 ^ k)) H'
def unitL (p n : Nat) : List Int := (List.range n).map fun i => if i = p then 1 else 0
def spUnit : Sp := fun vs H Q _ => ∃ (p n : Nat), vs = [.int (p : Int), .int (n : Int)] ∧ n ≤ 100 ∧ ∀ b H', Same H H' → H' b = some (.tup ((unitL p n).map V.int)) → Q (.ref b) H'
def spKN : Sp := fun vs H Q _ => ∃ (v : V) (r : LRow), vs = [v] ∧ RowH H v r ∧ ∀ u H', Same H H' → ExH H' u (exR r) → Q u H'
def spGraph (K : PySem.W.Frag) (A : Ad) : Sp := fun vs H Q _ => ∃ (x : Addr) (k : Nat) (ns : List Str) (rs : List LRow), vs = [.ref x] ∧ ProgO K A.Program H x k ns rs ∧ rs.length ≤ 25 ∧ ∀ D us H', Same H H' → H' D = some (.lst us) → F2 (ExH H') us (rs.map exR) → Q (.ref D) H'
def spFits : Sp := fun vs H Q _ => ∃ (v : V) (r : LRow) (x : Int), vs = [v, .int x] ∧ ExH H v (exR r) ∧ fitM r x ∧ Q (.bl true) H
def spNext : Sp := fun vs H Q _ => ∃ (D : Addr) (us : List V) (rs : List LRow) (i x : Int) (r : LRow), vs = [.ref D, .int i, .int x] ∧ H D = some (.lst us) ∧ F2 (ExH H) us (rs.map exR) ∧ 0 ≤ i ∧ rs[i.toNat]? = some r ∧ fitM r x ∧ Q (.int (nxM r x)) H

section
variable {P : Program} {w : World} {K : PySem.W.Frag} {mg : Str → Option Value} {base : Heap} {A : Ad}
abbrev s_product_of : Stmt := top 17
theorem sc_product_of : FnScope ["row", "other", "width", "one", "two"] ["row", "other", "width"] (defScope s_product_of) := ⟨rfl, rfl, rfl, by decide +kernel, rfl, by decide +kernel, by decide +kernel⟩
theorem ok_product {f : Addr} {fd : FuncData} (F : Fun K "product_of" "product_of" s_product_of f fd) (T : Txt P w K mg base A) : FnOk P w K mg base CX0 1 f fd ["row", "other", "width"] (spProd K) := by
  refine F.ok sc_product_of (fun vs H Q E h => ?_) (fun cdv Ar outer s H vs Q E hr h => ?_)
  · obtain ⟨a, b, f, v, k, rfl, _⟩ := h
    rfl
  · obtain ⟨a, b, f, v, k, rfl, ha, hb, hl, h3, hf, hk, q⟩ := h
    refine ⟨_, (pss_one (ps_ret (pe_op op_andM (pe_callB (cr_sum rfl) (by rfl) T.z_sum (by decide +kernel) (pa_cons (pe_lc (own := [("one", 3), ("two", 4)]) (g := gTup K 2 (gCons (gName 3) (gCons (gName 4) gNil))) (tt := tYes) rfl sc_product_of.nd (pi_zipA (by rfl) T.z_zip (pa_cons (pv 0) (pa_cons (pv 1) pa_nil))) (blkOk_by (own := [("one", 3), ("two", 4)]) (N := ["row", "other", "width", "one", "two"]) (sc := defScope s_product_of) (by decide +kernel)) (fun _ _ _ _ _ => pg_tup rfl (pgs_cons (pg_name (i := 3) sc_product_of.nd rfl (Or.inl rfl)) (pgs_cons (pg_name (i := 4) sc_product_of.nd rfl (Or.inl rfl)) pgs_nil))) (fun _ _ _ _ _ => pts_nil) (fun _ _ _ _ _ => (pe_op op_mul (pv 3) (pv 4)))) pa_nil)) (pe_op op_sub (pe_op op_oneShl pe_int (pv 2)) pe_int)))), ?_⟩
    walk_at "lk"
    refine tlc_zipT (f := fun x y => x * y) rfl rfl ha hb hl (by omega) (fun _ _ => rfl) (fun x y H' R hx r => ?_) (fun D H' s hD => ?_)
    · have := hf x hx
      walk_at "lk"
      refine sI (.inl ⟨by omega, this.2⟩) ?_
      exact r
    · walk_at "lk"
      refine ⟨D, _, rfl, SqL.of hD, ?_⟩
      walk_at "lk"
      refine ⟨k, rfl, rfl, by omega, ?_⟩
      walk_at "lk"
      exact ⟨_, k, rfl, rfl, q _ s⟩
abbrev s_unit_row : Stmt := top 16
theorem sc_unit_row : FnScope ["place", "size", "at"] ["place", "size"] (defScope s_unit_row) := ⟨rfl, rfl, rfl, by decide +kernel, rfl, by decide +kernel, by decide +kernel⟩
theorem ok_unit {f : Addr} {fd : FuncData} (F : Fun K "unit_row" "unit_row" s_unit_row f fd) (T : Txt P w K mg base A) : FnOk P w K mg base CX0 1 f fd ["place", "size"] spUnit := by
  refine F.ok sc_unit_row (fun vs H Q E h => ?_) (fun cdv Ar outer s H vs Q E hr h => ?_)
  · obtain ⟨p, n, rfl, _⟩ := h
    rfl
  · obtain ⟨p, n, rfl, hn, q⟩ := h
    refine ⟨_, (pss_one (ps_ret (pe_callTy call_tupOf (by rfl) T.z_tuple (by decide +kernel) (pa_cons (pe_lc (own := [("at", 2)]) (g := gName 2) (tt := tYes) rfl sc_unit_row.nd (pi_range1 (by rfl) T.z_range (pa_cons (pv 1) pa_nil)) (blkOk_by (own := [("at", 2)]) (N := ["place", "size", "at"]) (sc := defScope s_unit_row) (by decide +kernel)) (fun _ _ _ _ _ => pg_name (i := 2) sc_unit_row.nd rfl (Or.inl rfl)) (fun _ _ _ _ _ => pts_nil) (fun _ _ _ _ _ => (pe_ifExp (pt_cmpR op_eq (pv 2) (pv 0) (nomark _)) pe_int pe_int))) pa_nil)))), ?_⟩
    walk_at "lk"
    unfold tLc iRng1
    walk_at "lk"
    refine ⟨(n : Int), rfl, by omega, by omega, fun D hD => ?_⟩
    rw [Int.toNat_natCast]
    refine tlc_rangeC (fun _ v (x : Int) => v = .int x) (fun i => if i = p then 1 else 0) (fun _ h => h) hD (by omega) (fun _ => rfl) (fun i H' hi s R r => ?_) (fun ys H' s e h => ?_)
    · walk_at "lk"
      refine sEq rfl ?_
      walk_at "lk"
      rw [decI]
      by_cases c : i = p
      · refine itt_ (decide_eq_true (by omega)) ?_
        exact r _ _ (Same.refl _) (by rw [if_pos c])
      · refine iff_ (decide_eq_false (by omega)) ?_
        exact r _ _ (Same.refl _) (by rw [if_neg c])
    · walk_at "lk"
      refine s_tupL e fun b H2 s2 _ hb => ?_
      rw [f2_ints_of h] at hb
      exact q b _ (s.trans s2) hb
abbrev s_kind_and_nexts : Stmt := top 47
theorem sc_kind_and_nexts : FnScope ["item", "kind"] ["item"] (defScope s_kind_and_nexts) := ⟨rfl, rfl, rfl, by decide +kernel, rfl, by decide +kernel, by decide +kernel⟩
theorem ok_kn {f : Addr} {fd : FuncData} (F : Fun K "kind_and_nexts" "kind_and_nexts" s_kind_and_nexts f fd) (T : Txt P w K mg base A) : FnOk P w K mg base CX0 1 f fd ["item"] spKN := by
  refine F.ok sc_kind_and_nexts (fun vs H Q E h => ?_) (fun cdv Ar outer s H vs Q E hr h => ?_)
  · obtain ⟨v, r, rfl, _⟩ := h
    rfl
  · obtain ⟨v, r, rfl, h, q⟩ := h
    refine ⟨_, (pss_cons (ps_set (i := 1) sc_kind_and_nexts.nd rfl (Or.inl rfl) (pe_ix ix_tup (pv 0) pe_int (fun _ _ => rfl)))
        (pss_cons (ps_if (pt_cmpR op_eq (pv 1) pe_str (nomark _)) (pss_one (ps_ret (pe_tup (pa_cons (pv 1) (pa_cons (pe_tup pa_nil) pa_nil))))) pss_nil)
        (pss_cons (ps_if (pt_cmpR op_eq (pv 1) pe_str (nomark _)) (pss_one (ps_ret (pe_tup (pa_cons (pv 1) (pa_cons (pe_ix ix_tup (pv 0) pe_int (fun _ _ => rfl)) pa_nil))))) pss_nil)
        (pss_cons (ps_if (pt_cmpR op_eq (pv 1) pe_str (nomark _)) (pss_one (ps_ret (pe_tup (pa_cons (pv 1) (pa_cons (pe_tup (pa_cons (pe_ix ix_tup (pv 0) pe_int (fun _ _ => rfl)) pa_nil)) pa_nil))))) pss_nil)
        (pss_one (ps_ret (pe_tup (pa_cons pe_str (pa_cons (pe_tup (pa_cons (pe_ix ix_tup (pv 0) (pe_un un_neg pe_int) (fun _ _ => rfl)) pa_nil)) pa_nil))))))))), ?_⟩
    cases r with
    | set n f j =>
      obtain ⟨a, b, rfl, ha, hb⟩ := h
      walk_at "lk"
      refine sft (SqT.of ha) (by rfl) ?_
      walk_at "lk"
      refine sEq rfl ?_
      walk_at "lk"
      refine iff_ (by decide +kernel) ?_
      walk_at "lk"
      refine sEq rfl ?_
      walk_at "lk"
      refine iff_ (by decide +kernel) ?_
      walk_at "lk"
      refine sEq rfl ?_
      walk_at "lk"
      refine iff_ (by decide +kernel) ?_
      walk_at "lk"
      refine sft (SqT.of ha) (by rfl) ?_
      walk_at "lk"
      refine snw (Nat.le_of_ble_eq_true rfl) fun b0 hb0 => ?_
      walk_at "lk"
      refine snw (Nat.le_of_ble_eq_true rfl) fun a0 ha0 => ?_
      exact q _ _ ((same_new hb0).trans (same_new ha0)) ⟨a0, b0, rfl, upd_same, same_new ha0 _ _ upd_same⟩
    | say f j =>
      obtain ⟨a, b, rfl, ha, hb⟩ := h
      walk_at "lk"
      refine sft (SqT.of ha) (by rfl) ?_
      walk_at "lk"
      refine sEq rfl ?_
      walk_at "lk"
      refine iff_ (by decide +kernel) ?_
      walk_at "lk"
      refine sEq rfl ?_
      walk_at "lk"
      refine iff_ (by decide +kernel) ?_
      walk_at "lk"
      refine sEq rfl ?_
      walk_at "lk"
      refine iff_ (by decide +kernel) ?_
      walk_at "lk"
      refine sft (SqT.of ha) (by rfl) ?_
      walk_at "lk"
      refine snw (Nat.le_of_ble_eq_true rfl) fun b0 hb0 => ?_
      walk_at "lk"
      refine snw (Nat.le_of_ble_eq_true rfl) fun a0 ha0 => ?_
      exact q _ _ ((same_new hb0).trans (same_new ha0)) ⟨a0, b0, rfl, upd_same, same_new ha0 _ _ upd_same⟩
    | ask n j =>
      obtain ⟨a, rfl, ha⟩ := h
      walk_at "lk"
      refine sft (SqT.of ha) (by rfl) ?_
      walk_at "lk"
      refine sEq rfl ?_
      walk_at "lk"
      refine iff_ (by decide +kernel) ?_
      walk_at "lk"
      refine sEq rfl ?_
      walk_at "lk"
      refine iff_ (by decide +kernel) ?_
      walk_at "lk"
      refine sEq rfl ?_
      walk_at "lk"
      refine itt_ (by decide +kernel) ?_
      walk_at "lk"
      refine sft (SqT.of ha) (by rfl) ?_
      walk_at "lk"
      refine snw (Nat.le_of_ble_eq_true rfl) fun b0 hb0 => ?_
      walk_at "lk"
      refine snw (Nat.le_of_ble_eq_true rfl) fun a0 ha0 => ?_
      exact q _ _ ((same_new hb0).trans (same_new ha0)) ⟨a0, b0, rfl, upd_same, same_new ha0 _ _ upd_same⟩
    | choose ks =>
      obtain ⟨a, b, rfl, ha, hb⟩ := h
      walk_at "lk"
      refine sft (SqT.of ha) (by rfl) ?_
      walk_at "lk"
      refine sEq rfl ?_
      walk_at "lk"
      refine iff_ (by decide +kernel) ?_
      walk_at "lk"
      refine sEq rfl ?_
      walk_at "lk"
      refine itt_ (by decide +kernel) ?_
      walk_at "lk"
      refine sft (SqT.of ha) (by rfl) ?_
      walk_at "lk"
      refine snw (Nat.le_of_ble_eq_true rfl) fun a0 ha0 => ?_
      exact q _ _ (same_new ha0) ⟨a0, b, rfl, upd_same, same_new ha0 _ _ hb⟩
    | look j =>
      obtain ⟨a, rfl, ha⟩ := h
      walk_at "lk"
      refine sft (SqT.of ha) (by rfl) ?_
      walk_at "lk"
      refine sEq rfl ?_
      walk_at "lk"
      refine iff_ (by decide +kernel) ?_
      walk_at "lk"
      refine sEq rfl ?_
      walk_at "lk"
      refine iff_ (by decide +kernel) ?_
      walk_at "lk"
      refine sEq rfl ?_
      walk_at "lk"
      refine iff_ (by decide +kernel) ?_
      walk_at "lk"
      refine sft (SqT.of ha) (by rfl) ?_
      walk_at "lk"
      refine snw (Nat.le_of_ble_eq_true rfl) fun b0 hb0 => ?_
      walk_at "lk"
      refine snw (Nat.le_of_ble_eq_true rfl) fun a0 ha0 => ?_
      exact q _ _ ((same_new hb0).trans (same_new ha0)) ⟨a0, b0, rfl, upd_same, same_new ha0 _ _ upd_same⟩
    | stop =>
      obtain ⟨a, rfl, ha⟩ := h
      walk_at "lk"
      refine sft (SqT.of ha) (by rfl) ?_
      walk_at "lk"
      refine sEq rfl ?_
      walk_at "lk"
      refine itt_ (by decide +kernel) ?_
      walk_at "lk"
      refine snw (Nat.le_of_ble_eq_true rfl) fun b0 hb0 => ?_
      walk_at "lk"
      refine snw (Nat.le_of_ble_eq_true rfl) fun a0 ha0 => ?_
      exact q _ _ ((same_new hb0).trans (same_new ha0)) ⟨a0, b0, rfl, upd_same, same_new ha0 _ _ upd_same⟩
abbrev s_graph_of : Stmt := top 48
theorem sc_graph_of : FnScope ["program", "item"] ["program"] (defScope s_graph_of) := ⟨rfl, rfl, rfl, by decide +kernel, rfl, by decide +kernel, by decide +kernel⟩
theorem ok_graph {f : Addr} {fd : FuncData} (F : Fun K "graph_of" "graph_of" s_graph_of f fd) (T : Txt P w K mg base A) (c_kind_and_nexts : Cal P w K mg base 1 "kind_and_nexts" ["item"] spKN) : FnOk P w K mg base CX0 2 f fd ["program"] (spGraph K A) := by
  refine F.ok sc_graph_of (fun vs H Q E h => ?_) (fun cdv Ar outer s H vs Q E hr h => ?_)
  · obtain ⟨x, k, ns, rs, rfl, _⟩ := h
    rfl
  · obtain ⟨x, k, ns, rs, rfl, hx, hlen, q⟩ := h
    refine ⟨_, (pss_one (ps_ret (pe_lc (own := [("item", 1)]) (g := gName 1) (tt := tYes) rfl sc_graph_of.nd (pi_tup (pe_fld (pv 0) rfl)) (blkOk_by (own := [("item", 1)]) (N := ["program", "item"]) (sc := defScope s_graph_of) (by decide +kernel)) (fun _ _ _ _ _ => pg_name (i := 1) sc_graph_of.nd rfl (Or.inl rfl)) (fun _ _ _ _ _ => pts_nil) (fun _ _ _ _ _ => (pcal c_kind_and_nexts hr (by decide) (pa_cons (pv 1) pa_nil)))))), ?_⟩
    obtain ⟨dx, tv, tr, vs, hx0, hx1, hx2, hx3⟩ := hx
    walk_at "lk"
    refine ⟨_, rfl, x, A.Program, dx, _, _, rfl, hx0, T.c_Program, T.n_rows, rfl, tr, rfl, ⟨vs, hx2⟩, fun D hD => ?_⟩
    refine tlc_core (J := Itt _ tr) (D := D) (fun H v r => RowH H v r) ExH exR (fun s h => h.ts (Ts.of s)) (fun t h => h.ts t) (f2_rows hx3) (by have := hx3.len; omega) hD (fun _ => rfl) (fun i v r H' hri hv s R qr => ?_) (fun Pv p0 pS ht hd => lc_tup Pv p0 (fun i H' _ h => same_sqT (pS i H' h) hx2) ht hd) (fun ys H' s e h => ?_)
    · walk_at "lk"
      exact ⟨v, r, rfl, hv, qr⟩
    · exact q D ys H' s e h
end
end K42

namespace K42
open PySem PySem.Spec PyProof.Rows L2 RZ Lk
local macro_rules | `(tactic| walk_at "lk") => `(tactic| (repeat (first
  | with_reducible refine ssq ?_ | with_reducible refine sas ?_ | with_reducible refine sgn ?_ | ((with_reducible show tVar _ _ _ _); refine sv rfl ?_) | with_reducible refine sc ?_ | with_reducible refine sop ?_ | with_reducible refine sun ?_
  | with_reducible refine sI0 ?_ | with_reducible refine sU ?_ | with_reducible refine stt ?_ | with_reducible refine stB ?_ | with_reducible refine sbl ?_ | with_reducible refine snt ?_ | with_reducible refine sif ?_ | with_reducible refine scB ?_
  | with_reducible refine scn ?_ | with_reducible refine snl ?_ | with_reducible refine scl ?_ | with_reducible refine stu ?_ | with_reducible refine sli ?_ | with_reducible refine sdr ?_ | with_reducible refine srt ?_ | with_reducible refine snx ?_ | with_reducible refine sfor ?_ | with_reducible refine sils ?_ | with_reducible refine sien ?_ | with_reducible refine sor ?_ | with_reducible refine sfg ?_
  | with_reducible refine sav ?_ | with_reducible refine sov ?_ | with_reducible refine snv ?_ | with_reducible refine sch ?_ | with_reducible refine san ?_ | with_reducible refine ssll ?_ | with_reducible refine spt ?_ | with_reducible refine snp ?_ | with_reducible refine sin ?_ | with_reducible refine sfl ?_ | with_reducible refine sfd ?_ | with_reducible refine sbm ?_ | with_reducible refine sifx ?_ | with_reducible refine smk ?_ | with_reducible refine ssli ?_ | with_reducible refine sbz ?_
  | ((with_reducible show Or _ _); first | refine Or.inl ⟨_, rfl, ?_⟩ | refine Or.inr ⟨_, rfl, ?_⟩))))

def fsM (r : LRow) (n : Nat) : List (List Int) := match r with
  | .say f _ => [f]
  | .look _ => (List.range n).map fun i => unitL (i + 1) (n + 1)
  | _ => []
def FmH (H : Hp) (v : V) (f : List Int) : Prop := ∃ b, v = .ref b ∧ H b = some (.tup (f.map .int))
theorem FmH.ts {H H' : Hp} (s : Ts H H') {v : V} {f : List Int} (h : FmH H v f) : FmH H' v f := by
  obtain ⟨b, e, h⟩ := h
  exact ⟨b, e, s _ _ h⟩
def spPlace (K : PySem.W.Frag) (A : Ad) : Sp := fun vs H Q _ => ∃ (x : Addr) (v : V) (k : Nat) (ns : List Str) (rs : List LRow) (n : Str) (r : LRow), vs = [.ref x, v] ∧ ProgO K A.Program H x k ns rs ∧ VzH H x ∧ RowH H v r ∧ ((∃ f j, r = .set n f j) ∨ ∃ j, r = .ask n j) ∧ n ∈ ns ∧ Q (.int ((ns.idxOf n : Int) + 1)) H
def spForms (K : PySem.W.Frag) (A : Ad) : Sp := fun vs H Q _ => ∃ (x : Addr) (i : Int) (k : Nat) (ns : List Str) (rs : List LRow) (r : LRow), vs = [.ref x, .int i] ∧ ProgO K A.Program H x k ns rs ∧ 0 ≤ i ∧ rs[i.toNat]? = some r ∧ ns.length ≤ 6 ∧ ∀ D us H', Same H H' → H' D = some (.lst us) → F2 (FmH H') us (fsM r ns.length) → Q (.ref D) H'
def spSaid (K : PySem.W.Frag) (A : Ad) : Sp := fun vs H Q _ => ∃ (x : Addr) (i : Int) (b : Addr) (k : Nat) (ns : List Str) (rs : List LRow) (r : LRow) (st : List Int), vs = [.ref x, .int i, .ref b] ∧ ProgO K A.Program H x k ns rs ∧ 0 ≤ i ∧ rs[i.toNat]? = some r ∧ RowOk ns rs.length r ∧ r.low k = r ∧ ns.length ≤ 6 ∧ k ≤ 64 ∧ st.length = ns.length ∧ InR k st ∧ H b = some (.tup ((1 :: st).map V.int)) ∧
  ∀ D H', Same H H' → H' D = some (.lst ((sdM k r st).map V.int)) → Q (.ref D) H'
def spStep (K : PySem.W.Frag) (A : Ad) : Sp := fun vs H Q _ => ∃ (x : Addr) (i y : Int) (b : Addr) (k : Nat) (ns : List Str) (rs : List LRow) (r : LRow) (st : List Int), vs = [.ref x, .int i, .ref b, .int y] ∧ ProgO K A.Program H x k ns rs ∧ VzH H x ∧ 0 ≤ i ∧ rs[i.toNat]? = some r ∧ RowOk ns rs.length r ∧ r.low k = r ∧ ns.length ≤ 6 ∧ k ≤ 64 ∧ st.length = ns.length ∧ H b = some (.tup ((1 :: st).map V.int)) ∧
  ∀ u H', Same H H' → H' u = some (.tup ((1 :: stM k ns r st y).map V.int)) → Q (.ref u) H'
theorem low_form {k : Nat} {f : List Int} (h : f.map (· % 2 ^ k) = f) (hk : k ≤ 64) : ∀ x ∈ f, 0 ≤ x ∧ x < 2 ^ 64 := fun x hx => by
  have p0 : (0 : Int) < 2 ^ k := Int.pow_pos (by decide)
  have p1 : (2 : Int) ^ k ≤ 2 ^ 64 := by
    have := Nat.pow_le_pow_right (n := 2) (by decide) hk
    exact_mod_cast this
  rw [← h] at hx
  obtain ⟨y, _, rfl⟩ := List.mem_map.mp hx
  have := Int.emod_nonneg y (show (2 : Int) ^ k ≠ 0 by omega)
  have := Int.emod_lt_of_pos y p0
  omega
theorem row_at {K : PySem.W.Frag} {C x : Addr} {H : Hp} {k : Nat} {ns : List Str} {rs : List LRow} {i : Int} {r : LRow} (h : ProgO K C H x k ns rs) (i0 : 0 ≤ i) (hr : rs[i.toNat]? = some r) : ∃ dx tv tr vs v, H x = some (.ins C dx (prF k tv tr)) ∧ SqT K H tv (ns.map V.str) ∧ SqT K H tr vs ∧ atI vs i = some v ∧ RowH H v r := by
  obtain ⟨dx, tv, tr, vs, h0, h1, h2, h3⟩ := h
  obtain ⟨v, e1, e2⟩ := h3.get hr
  refine ⟨dx, tv, tr, vs, v, h0, h1, h2, ?_, e2⟩
  have := Lk.atI_nat e1
  rwa [Int.toNat_of_nonneg i0] at this
theorem idx_at {ns : List Str} {n : Str} (h : n ∈ ns) : ns.idxOf n < ns.length ∧ ns[ns.idxOf n]? = some n ∧ ∀ m, m < ns.idxOf n → ns[m]? ≠ some n := by
  have h1 : ns.idxOf n < ns.length := List.idxOf_lt_length_iff.mpr h
  refine ⟨h1, by rw [List.getElem?_eq_getElem h1, List.getElem_idxOf], fun m hm e => ?_⟩
  have h2 := (List.getElem?_eq_some_iff.mp e)
  obtain ⟨h3, h4⟩ := h2
  have := List.not_of_lt_findIdx (p := (· == n)) (xs := ns) (i := m) (by simpa [List.idxOf] using hm)
  simp [h4] at this

section
variable {P : Program} {w : World} {K : PySem.W.Frag} {mg : Str → Option Value} {base : Heap} {A : Ad}
abbrev s_next_row : Stmt := top 23
theorem sc_next_row : FnScope ["graph", "row", "number", "kind", "nexts"] ["graph", "row", "number"] (defScope s_next_row) := ⟨rfl, rfl, rfl, by decide +kernel, rfl, by decide +kernel, by decide +kernel⟩
theorem ok_next {f : Addr} {fd : FuncData} (F : Fun K "next_row" "next_row" s_next_row f fd) (T : Txt P w K mg base A) : FnOk P w K mg base CX0 1 f fd ["graph", "row", "number"] spNext := by
  refine F.ok sc_next_row (fun vs H Q E h => ?_) (fun cdv Ar outer s H vs Q E hr h => ?_)
  · obtain ⟨D, us, rs, i, x, r, rfl, _⟩ := h
    rfl
  · obtain ⟨D, us, rs, i, x, r, rfl, hD, hus, i0, hr0, hx, k0⟩ := h
    refine ⟨_, (pss_cons (ps_asg (pe_ix ix_list (pv 0) (pv 1) (fun _ _ => rfl)) (pg_tup rfl (pgs_cons (pg_name (i := 3) sc_next_row.nd rfl (Or.inl rfl)) (pgs_cons (pg_name (i := 4) sc_next_row.nd rfl (Or.inl rfl)) pgs_nil))))
        (pss_cons (ps_if (pt_cmpR op_eq (pv 3) pe_str (nomark _)) (pss_one (ps_ret (pe_ix ix_tup (pv 4) (pv 2) (fun _ _ => rfl)))) pss_nil)
        (pss_one (ps_ret (pe_ix ix_tup (pv 4) pe_int (fun _ _ => rfl)))))), ?_⟩
    obtain ⟨u, hu, a, b, rfl, ha, hb⟩ := hus.get (show (rs.map exR)[i.toNat]? = some (exR r) by rw [List.getElem?_map, hr0]; rfl)
    walk_at "lk"
    refine sfr (SqL.of hD) (by have z := Lk.atI_nat hu; rwa [Int.toNat_of_nonneg i0] at z) ?_
    refine g_pair (SqT.of ha) ?_
    dsimp only
    walk_at "lk"
    refine sEq rfl ?_
    walk_at "lk"
    cases r with
    | set n f j =>
      dsimp only [exR] at ha hb ⊢
      refine iff_ (decide_eq_false (by decide +kernel)) ?_
      walk_at "lk"
      exact sft (SqT.of hb) (by rfl) k0
    | say f j =>
      dsimp only [exR] at ha hb ⊢
      refine iff_ (decide_eq_false (by decide +kernel)) ?_
      walk_at "lk"
      exact sft (SqT.of hb) (by rfl) k0
    | ask n j =>
      dsimp only [exR] at ha hb ⊢
      refine iff_ (decide_eq_false (by decide +kernel)) ?_
      walk_at "lk"
      exact sft (SqT.of hb) (by rfl) k0
    | choose ks =>
      dsimp only [exR] at ha hb ⊢
      refine itt_ (decide_eq_true rfl) ?_
      walk_at "lk"
      obtain ⟨x0, x1⟩ := hx
      refine sft (v := .int (ks.getD x.toNat 0)) (SqT.of hb) ?_ k0
      have hlt : x.toNat < ks.length := by omega
      have z := Lk.atI_nat (xs := ks.map V.int) (i := x.toNat) (x := .int (ks.getD x.toNat 0)) (by rw [List.getElem?_map, List.getElem?_eq_getElem hlt, List.getD_eq_getElem?_getD, List.getElem?_eq_getElem hlt]; rfl)
      rwa [Int.toNat_of_nonneg x0] at z
    | look j =>
      dsimp only [exR] at ha hb ⊢
      refine iff_ (decide_eq_false (by decide +kernel)) ?_
      walk_at "lk"
      exact sft (SqT.of hb) (by rfl) k0
    | stop => exact hx.elim
abbrev s_fits : Stmt := top 22
theorem sc_fits : FnScope ["exits", "number", "kind", "nexts"] ["exits", "number"] (defScope s_fits) := ⟨rfl, rfl, rfl, by decide +kernel, rfl, by decide +kernel, by decide +kernel⟩
theorem ok_fits {f : Addr} {fd : FuncData} (F : Fun K "fits" "fits" s_fits f fd) (T : Txt P w K mg base A) (c_is_integer : Cal P w K mg base 1 "is_integer" ["value"] (spIsInt K)) (c_is_within : Cal P w K mg base 2 "is_within" ["value", "least", "most"] (spWithin K)) : FnOk P w K mg base CX0 3 f fd ["exits", "number"] spFits := by
  refine F.ok sc_fits (fun vs H Q E h => ?_) (fun cdv Ar outer s H vs Q E hr h => ?_)
  · obtain ⟨v, r, x, rfl, _⟩ := h
    rfl
  · obtain ⟨v, r, x, rfl, hv, hx, k0⟩ := h
    refine ⟨_, (pss_cons (ps_asg (pv 0) (pg_tup rfl (pgs_cons (pg_name (i := 2) sc_fits.nd rfl (Or.inl rfl)) (pgs_cons (pg_name (i := 3) sc_fits.nd rfl (Or.inl rfl)) pgs_nil))))
        (pss_cons (ps_if (pt_cmpR op_eq (pv 2) pe_str (nomark _)) (pss_one (ps_ret (pcal c_is_integer hr (by decide) (pa_cons (pv 1) pa_nil)))) pss_nil)
        (pss_one (ps_ret (pcal c_is_within hr (by decide) (pa_cons (pv 1) (pa_cons pe_int (pa_cons (pe_op op_sub (pe_callB call_len_seq (by rfl) T.z_len PySem.boot_len (pa_cons (pv 3) pa_nil)) pe_int) pa_nil)))))))), ?_⟩
    obtain ⟨a, b, rfl, ha, hb⟩ := hv
    walk_at "lk"
    refine g_pair (SqT.of ha) ?_
    dsimp only
    walk_at "lk"
    refine sEq rfl ?_
    walk_at "lk"
    cases r with
    | set n f j =>
      dsimp only [exR] at ha hb ⊢
      refine iff_ (decide_eq_false (by decide +kernel)) ?_
      walk_at "lk"
      refine ⟨b, _, rfl, .inr (SqT.of hb), ?_⟩
      walk_at "lk"
      refine ⟨.int x, .int x, 0, _, rfl, .int x, ?_⟩
      rw [show withinD (.int x) 0 (((([j] : List Int).map V.int).length : Int) - 1) = true from by
        show (decide (0 ≤ x) && decide (x ≤ ((([j] : List Int).map V.int).length : Int) - 1)) = true
        rw [List.length_map, Bool.and_eq_true]
        have hx0 : x = 0 := hx
        subst hx0
        exact ⟨rfl, rfl⟩]
      exact k0
    | say f j =>
      dsimp only [exR] at ha hb ⊢
      refine iff_ (decide_eq_false (by decide +kernel)) ?_
      walk_at "lk"
      refine ⟨b, _, rfl, .inr (SqT.of hb), ?_⟩
      walk_at "lk"
      refine ⟨.int x, .int x, 0, _, rfl, .int x, ?_⟩
      rw [show withinD (.int x) 0 (((([j] : List Int).map V.int).length : Int) - 1) = true from by
        show (decide (0 ≤ x) && decide (x ≤ ((([j] : List Int).map V.int).length : Int) - 1)) = true
        rw [List.length_map, Bool.and_eq_true]
        have hx0 : x = 0 := hx
        subst hx0
        exact ⟨rfl, rfl⟩]
      exact k0
    | ask n j =>
      dsimp only [exR] at ha hb ⊢
      refine itt_ (decide_eq_true rfl) ?_
      walk_at "lk"
      exact ⟨.int x, .int x, rfl, .int x, k0⟩
    | choose ks =>
      dsimp only [exR] at ha hb ⊢
      refine iff_ (decide_eq_false (by decide +kernel)) ?_
      walk_at "lk"
      refine ⟨b, _, rfl, .inr (SqT.of hb), ?_⟩
      walk_at "lk"
      refine ⟨.int x, .int x, 0, _, rfl, .int x, ?_⟩
      rw [show withinD (.int x) 0 (((ks.map V.int).length : Int) - 1) = true from by
        show (decide (0 ≤ x) && decide (x ≤ ((ks.map V.int).length : Int) - 1)) = true
        rw [List.length_map, Bool.and_eq_true]
        exact ⟨decide_eq_true hx.1, decide_eq_true (by have := hx.2; omega)⟩]
      exact k0
    | look j =>
      dsimp only [exR] at ha hb ⊢
      refine iff_ (decide_eq_false (by decide +kernel)) ?_
      walk_at "lk"
      refine ⟨b, _, rfl, .inr (SqT.of hb), ?_⟩
      walk_at "lk"
      refine ⟨.int x, .int x, 0, _, rfl, .int x, ?_⟩
      rw [show withinD (.int x) 0 (((([j] : List Int).map V.int).length : Int) - 1) = true from by
        show (decide (0 ≤ x) && decide (x ≤ ((([j] : List Int).map V.int).length : Int) - 1)) = true
        rw [List.length_map, Bool.and_eq_true]
        have hx0 : x = 0 := hx
        subst hx0
        exact ⟨rfl, rfl⟩]
      exact k0
    | stop => exact hx.elim
abbrev s_place_of : Stmt := top 49
theorem sc_place_of : FnScope ["program", "item"] ["program", "item"] (defScope s_place_of) := ⟨rfl, rfl, rfl, by decide +kernel, rfl, by decide +kernel, by decide +kernel⟩
theorem ok_place {f : Addr} {fd : FuncData} (F : Fun K "place_of" "place_of" s_place_of f fd) (T : Txt P w K mg base A) : FnOk P w K mg base CX0 1 f fd ["program", "item"] (spPlace K A) := by
  refine F.ok sc_place_of (fun vs H Q E h => ?_) (fun cdv Ar outer s H vs Q E hr h => ?_)
  · obtain ⟨x, v, k, ns, rs, n, r, rfl, _⟩ := h
    rfl
  · obtain ⟨x, v, k, ns, rs, n, r, rfl, hx, hz, hv, hk, hn, q⟩ := h
    refine ⟨_, (pss_one (ps_ret (pe_op op_add (pe_bmz PySem.F.plainAttrs_tuple PySem.F.slot_tuple_index PySem.F.type_tuple_index mt_tup_index (pe_fld (pv 0) rfl) (pa_cons (pe_ix ix_tup (pv 1) pe_int (fun _ _ => rfl)) pa_nil)) pe_int))), ?_⟩
    obtain ⟨dx, tv, tr, us, h0, h1, h2, h3⟩ := hx
    obtain ⟨i1, i2, i3⟩ := idx_at hn
    have hit : ∃ a xs, v = .ref a ∧ H a = some (.tup xs) ∧ atI xs 1 = some (.str n) := by
      rcases hk with ⟨f, j, rfl⟩ | ⟨j, rfl⟩
      · obtain ⟨a, b, e, ha, hb⟩ := hv
        exact ⟨a, _, e, ha, rfl⟩
      · obtain ⟨a, e, ha⟩ := hv
        exact ⟨a, _, e, ha, rfl⟩
    obtain ⟨a, xs, rfl, ha, hat⟩ := hit
    walk_at "lk"
    refine ⟨x, A.Program, dx, _, _, rfl, h0, T.c_Program, T.n_variables, rfl, ?_⟩
    refine ⟨⟨tv, rfl, ?_⟩, ?_⟩
    · obtain ⟨C', dx', w', tv', tr', z, e1, e2, e3⟩ := hz
      rw [h0] at e1
      cases e1
      cases e2
      exact e3
    walk_at "lk"
    refine sft (SqT.of ha) hat ?_
    refine ⟨tv, ns, n, ns.idxOf n, rfl, rfl, h1, i2, i3, ?_⟩
    walk_at "lk"
    exact q
abbrev s_forms_said : Stmt := top 50
theorem sc_forms_said : FnScope ["program", "row", "item", "size", "place"] ["program", "row"] (defScope s_forms_said) := ⟨rfl, rfl, rfl, by decide +kernel, rfl, by decide +kernel, by decide +kernel⟩
theorem ok_forms {f : Addr} {fd : FuncData} (F : Fun K "forms_said" "forms_said" s_forms_said f fd) (T : Txt P w K mg base A) (c_unit_row : Cal P w K mg base 1 "unit_row" ["place", "size"] spUnit) : FnOk P w K mg base CX0 2 f fd ["program", "row"] (spForms K A) := by
  refine F.ok sc_forms_said (fun vs H Q E h => ?_) (fun cdv Ar outer s H vs Q E hr h => ?_)
  · obtain ⟨x, i, k, ns, rs, r, rfl, _⟩ := h
    rfl
  · obtain ⟨x, i, k, ns, rs, r, rfl, hx, i0, hr0, hn, q⟩ := h
    refine ⟨_, (pss_cons (ps_set (i := 2) sc_forms_said.nd rfl (Or.inl rfl) (pe_ix ix_tup (pe_fld (pv 0) rfl) (pv 1) (fun _ _ => rfl)))
        (pss_cons (ps_set (i := 3) sc_forms_said.nd rfl (Or.inr rfl) (pe_callB call_len_seq (by rfl) T.z_len PySem.boot_len (pa_cons (pe_fld (pv 0) rfl) pa_nil)))
        (pss_cons (ps_if (pt_cmpR op_eq (pe_ix ix_tup (pv 2) pe_int (fun _ _ => rfl)) pe_str (nomark _)) (pss_one (ps_ret (pe_lst (pa_cons (pe_ix ix_tup (pv 2) pe_int (fun _ _ => rfl)) pa_nil)))) pss_nil)
        (pss_cons (ps_if (pt_cmpR op_eq (pe_ix ix_tup (pv 2) pe_int (fun _ _ => rfl)) pe_str (nomark _)) (pss_one (ps_ret (pe_lc (own := [("place", 4)]) (g := gName 4) (tt := tYes) rfl sc_forms_said.nd (pi_range2 (by rfl) T.z_range (pa_cons pe_int (pa_cons (pe_op op_add (pv 3) pe_int) pa_nil))) (blkOk_by (own := [("place", 4)]) (N := ["program", "row", "item", "size", "place"]) (sc := defScope s_forms_said) (by decide +kernel)) (fun _ _ _ _ _ => pg_name (i := 4) sc_forms_said.nd rfl (Or.inl rfl)) (fun _ _ _ _ _ => pts_nil) (fun _ _ _ _ _ => (pcal c_unit_row hr (by decide) (pa_cons (pv 4) (pa_cons (pe_op op_add (pv 3) pe_int) pa_nil))))))) pss_nil)
        (pss_one (ps_ret (pe_lst pa_nil))))))), ?_⟩
    obtain ⟨dx, tv, tr, us, v, h0, h1, h2, h3, hv⟩ := row_at hx i0 hr0
    walk_at "lk"
    refine ⟨x, A.Program, dx, _, _, rfl, h0, T.c_Program, T.n_rows, rfl, ?_⟩
    walk_at "lk"
    refine sft h2 h3 ?_
    cases r with
    | set n f j =>
      obtain ⟨a, b, rfl, ha, hb⟩ := hv
      walk_at "lk"
      refine ⟨x, A.Program, dx, _, _, rfl, h0, T.c_Program, T.n_variables, rfl, ?_⟩
      walk_at "lk"
      refine ⟨tv, _, rfl, .inr h1, ?_⟩
      walk_at "lk"
      refine sft (SqT.of ha) (by rfl) ?_
      walk_at "lk"
      refine sEq rfl ?_
      walk_at "lk"
      refine iff_ (decide_eq_false (by decide +kernel)) ?_
      walk_at "lk"
      refine sft (SqT.of ha) (by rfl) ?_
      walk_at "lk"
      refine sEq rfl ?_
      walk_at "lk"
      refine iff_ (decide_eq_false (by decide +kernel)) ?_
      walk_at "lk"
      refine snw (Nat.le_of_ble_eq_true rfl) fun D hD => ?_
      exact q D _ _ (same_new hD) upd_same .nil
    | say f j =>
      obtain ⟨a, b, rfl, ha, hb⟩ := hv
      walk_at "lk"
      refine ⟨x, A.Program, dx, _, _, rfl, h0, T.c_Program, T.n_variables, rfl, ?_⟩
      walk_at "lk"
      refine ⟨tv, _, rfl, .inr h1, ?_⟩
      walk_at "lk"
      refine sft (SqT.of ha) (by rfl) ?_
      walk_at "lk"
      refine sEq rfl ?_
      walk_at "lk"
      refine itt_ (decide_eq_true rfl) ?_
      walk_at "lk"
      refine sft (SqT.of ha) (by rfl) ?_
      walk_at "lk"
      refine snw (Nat.le_of_ble_eq_true rfl) fun D hD => ?_
      exact q D _ _ (same_new hD) upd_same (.cons ⟨b, rfl, same_new hD _ _ hb⟩ .nil)
    | ask n j =>
      obtain ⟨a, rfl, ha⟩ := hv
      walk_at "lk"
      refine ⟨x, A.Program, dx, _, _, rfl, h0, T.c_Program, T.n_variables, rfl, ?_⟩
      walk_at "lk"
      refine ⟨tv, _, rfl, .inr h1, ?_⟩
      walk_at "lk"
      refine sft (SqT.of ha) (by rfl) ?_
      walk_at "lk"
      refine sEq rfl ?_
      walk_at "lk"
      refine iff_ (decide_eq_false (by decide +kernel)) ?_
      walk_at "lk"
      refine sft (SqT.of ha) (by rfl) ?_
      walk_at "lk"
      refine sEq rfl ?_
      walk_at "lk"
      refine iff_ (decide_eq_false (by decide +kernel)) ?_
      walk_at "lk"
      refine snw (Nat.le_of_ble_eq_true rfl) fun D hD => ?_
      exact q D _ _ (same_new hD) upd_same .nil
    | choose ks =>
      obtain ⟨a, b, rfl, ha, hb⟩ := hv
      walk_at "lk"
      refine ⟨x, A.Program, dx, _, _, rfl, h0, T.c_Program, T.n_variables, rfl, ?_⟩
      walk_at "lk"
      refine ⟨tv, _, rfl, .inr h1, ?_⟩
      walk_at "lk"
      refine sft (SqT.of ha) (by rfl) ?_
      walk_at "lk"
      refine sEq rfl ?_
      walk_at "lk"
      refine iff_ (decide_eq_false (by decide +kernel)) ?_
      walk_at "lk"
      refine sft (SqT.of ha) (by rfl) ?_
      walk_at "lk"
      refine sEq rfl ?_
      walk_at "lk"
      refine iff_ (decide_eq_false (by decide +kernel)) ?_
      walk_at "lk"
      refine snw (Nat.le_of_ble_eq_true rfl) fun D hD => ?_
      exact q D _ _ (same_new hD) upd_same .nil
    | look j =>
      obtain ⟨a, rfl, ha⟩ := hv
      walk_at "lk"
      refine ⟨x, A.Program, dx, _, _, rfl, h0, T.c_Program, T.n_variables, rfl, ?_⟩
      walk_at "lk"
      refine ⟨tv, _, rfl, .inr h1, ?_⟩
      walk_at "lk"
      refine sft (SqT.of ha) (by rfl) ?_
      walk_at "lk"
      refine sEq rfl ?_
      walk_at "lk"
      refine iff_ (decide_eq_false (by decide +kernel)) ?_
      walk_at "lk"
      refine sft (SqT.of ha) (by rfl) ?_
      walk_at "lk"
      refine sEq rfl ?_
      walk_at "lk"
      refine itt_ (decide_eq_true rfl) ?_
      walk_at "lk"
      unfold tLc iRng2
      walk_at "lk"
      refine ⟨1, ((ns.map V.str).length : Int) + 1, rfl, ⟨by decide, by decide, by omega, by rw [List.length_map]; omega⟩, fun D hD => ?_⟩
      rw [show ((((ns.map V.str).length : Int) + 1) - 1).toNat = ns.length from by rw [List.length_map]; omega]
      refine tlc_rangeC (lo := 1) (n := ns.length) FmH (fun i => unitL (i + 1) (ns.length + 1)) (fun s h => h.ts s) hD (by omega) (fun _ => rfl) (fun c H1 hi s R r => ?_) (fun ys H1 s e h => q D ys H1 s e h)
      walk_at "lk"
      refine ⟨c + 1, ns.length + 1, ?_, by omega, fun b H2 s2 hb => r _ _ s2 ⟨b, rfl, hb⟩⟩
      show [V.int (1 + (c : Int)), V.int (((ns.map V.str).length : Int) + 1)] = [V.int ((c + 1 : Nat) : Int), V.int ((ns.length + 1 : Nat) : Int)]
      rw [List.length_map, show ((c + 1 : Nat) : Int) = 1 + (c : Int) by omega, show ((ns.length + 1 : Nat) : Int) = (ns.length : Int) + 1 by omega]
    | stop =>
      obtain ⟨a, rfl, ha⟩ := hv
      walk_at "lk"
      refine ⟨x, A.Program, dx, _, _, rfl, h0, T.c_Program, T.n_variables, rfl, ?_⟩
      walk_at "lk"
      refine ⟨tv, _, rfl, .inr h1, ?_⟩
      walk_at "lk"
      refine sft (SqT.of ha) (by rfl) ?_
      walk_at "lk"
      refine sEq rfl ?_
      walk_at "lk"
      refine iff_ (decide_eq_false (by decide +kernel)) ?_
      walk_at "lk"
      refine sft (SqT.of ha) (by rfl) ?_
      walk_at "lk"
      refine sEq rfl ?_
      walk_at "lk"
      refine iff_ (decide_eq_false (by decide +kernel)) ?_
      walk_at "lk"
      refine snw (Nat.le_of_ble_eq_true rfl) fun D hD => ?_
      exact q D _ _ (same_new hD) upd_same .nil
end
end K42

namespace K42
open PySem PySem.Spec PyProof.Rows L2 RZ Lk
local macro_rules | `(tactic| walk_at "lk") => `(tactic| (repeat (first
  | with_reducible refine ssq ?_ | with_reducible refine sas ?_ | with_reducible refine sgn ?_ | ((with_reducible show tVar _ _ _ _); refine sv rfl ?_) | with_reducible refine sc ?_ | with_reducible refine sop ?_ | with_reducible refine sun ?_
  | with_reducible refine sI0 ?_ | with_reducible refine sU ?_ | with_reducible refine stt ?_ | with_reducible refine stB ?_ | with_reducible refine sbl ?_ | with_reducible refine snt ?_ | with_reducible refine sif ?_ | with_reducible refine scB ?_
  | with_reducible refine scn ?_ | with_reducible refine snl ?_ | with_reducible refine scl ?_ | with_reducible refine stu ?_ | with_reducible refine sli ?_ | with_reducible refine sdr ?_ | with_reducible refine srt ?_ | with_reducible refine snx ?_ | with_reducible refine sfor ?_ | with_reducible refine sils ?_ | with_reducible refine sien ?_ | with_reducible refine sor ?_ | with_reducible refine sfg ?_
  | with_reducible refine sav ?_ | with_reducible refine sov ?_ | with_reducible refine snv ?_ | with_reducible refine sch ?_ | with_reducible refine san ?_ | with_reducible refine ssll ?_ | with_reducible refine spt ?_ | with_reducible refine snp ?_ | with_reducible refine sin ?_ | with_reducible refine sfl ?_ | with_reducible refine sfd ?_ | with_reducible refine sbm ?_ | with_reducible refine sifx ?_ | with_reducible refine smk ?_ | with_reducible refine ssli ?_ | with_reducible refine sbz ?_
  | ((with_reducible show Or _ _); first | refine Or.inl ⟨_, rfl, ?_⟩ | refine Or.inr ⟨_, rfl, ?_⟩))))

theorem dot_zero : ∀ (v : List Int) (o p : Nat), p < o → dot ((List.range' o v.length).map fun i => if i = p then 1 else 0) v = 0
  | [], _, _, _ => rfl
  | x :: v, o, p, h => by
    rw [List.length_cons, List.range'_succ, List.map_cons, if_neg (by omega)]
    show 0 * x + dot _ v = 0
    rw [dot_zero v (o + 1) p (by omega)]
    omega
theorem dot_at : ∀ (v : List Int) (o p : Nat), o ≤ p → dot ((List.range' o v.length).map fun i => if i = p then 1 else 0) v = v.getD (p - o) 0
  | [], _, _, _ => rfl
  | x :: v, o, p, h => by
    rw [List.length_cons, List.range'_succ, List.map_cons]
    by_cases e : o = p
    · subst e
      rw [if_pos rfl]
      show 1 * x + dot _ v = _
      rw [dot_zero v (o + 1) o (by omega), Nat.sub_self]
      show _ = x
      omega
    · rw [if_neg e]
      show 0 * x + dot _ v = _
      rw [dot_at v (o + 1) p (by omega), show p - o = (p - (o + 1)) + 1 by omega]
      show _ = v.getD (p - (o + 1)) 0
      omega
theorem dot_unit {v : List Int} {p n : Nat} (h : v.length = n) : dot (unitL p n) v = v.getD p 0 := by
  subst h
  unfold unitL
  rw [List.range_eq_range']
  exact dot_at v 0 p (Nat.zero_le _)
theorem unit_len {p n : Nat} : (unitL p n).length = n := by
  unfold unitL
  rw [List.length_map]
  rw [List.length_range]
theorem unit_in {p n : Nat} : ∀ x ∈ unitL p n, 0 ≤ x ∧ x < 2 ^ 64 := fun x hx => by
  obtain ⟨i, _, rfl⟩ := List.mem_map.mp hx
  by_cases e : i = p
  · simp only [if_pos e]
    decide
  · simp only [if_neg e]
    decide
theorem said_eq {k n : Nat} {r : LRow} {st : List Int} (hl : st.length = n) (hi : InR k st) : (fsM r n).map (fun f => dot f (1 :: st) % 2 ^ k) = sdM k r st := by
  cases r with
  | say f j => rfl
  | look j =>
    show ((List.range n).map fun i => unitL (i + 1) (n + 1)).map _ = st
    rw [List.map_map]
    refine List.ext_getElem (by rw [List.length_map, List.length_range, hl]) fun i h1 h2 => ?_
    rw [List.getElem_map, List.getElem_range]
    show dot (unitL (i + 1) (n + 1)) (1 :: st) % 2 ^ k = st[i]
    rw [dot_unit (by rw [List.length_cons, hl])]
    have := hi _ (List.getElem_mem h2)
    show (st.getD i 0) % 2 ^ k = st[i]
    rw [List.getD_eq_getElem?_getD, List.getElem?_eq_getElem h2]
    exact Int.emod_eq_of_lt this.1 this.2
  | _ => rfl
theorem fs_len {k n : Nat} {ns : List Str} {m : Int} {r : LRow} (hn : ns.length = n) (h : RowOk ns m r) : ∀ f ∈ fsM r n, f.length = n + 1 := fun f hf => by
  subst hn
  cases r with
  | say g j =>
    have : f = g := by simpa [fsM] using hf
    subst this
    exact h.1
  | look j =>
    obtain ⟨i, _, rfl⟩ := List.mem_map.mp (show f ∈ (List.range ns.length).map fun i => unitL (i + 1) (ns.length + 1) from hf)
    exact unit_len
  | _ => cases hf
theorem fs_in {k n : Nat} {r : LRow} (hk : k ≤ 64) (h : r.low k = r) : ∀ f ∈ fsM r n, ∀ x ∈ f, 0 ≤ x ∧ x < 2 ^ 64 := fun f hf => by
  cases r with
  | say g j =>
    have : f = g := by simpa [fsM] using hf
    subst this
    injection h with h1 h2
    exact low_form h1 hk
  | look j =>
    obtain ⟨i, _, rfl⟩ := List.mem_map.mp (show f ∈ (List.range n).map fun i => unitL (i + 1) (n + 1) from hf)
    exact unit_in
  | _ => cases hf
theorem set_cut {st : List Int} {i : Nat} {y : Int} (h : i < st.length) : 1 :: st.set i y = ((1 :: st).take (i + 1) ++ [y]) ++ (1 :: st).drop (i + 2) := by
  rw [List.take_succ_cons, List.drop_succ_cons, List.set_eq_take_append_cons_drop, if_pos h]
  simp

section
variable {P : Program} {w : World} {K : PySem.W.Frag} {mg : Str → Option Value} {base : Heap} {A : Ad}
abbrev s_said_at : Stmt := top 51
theorem sc_said_at : FnScope ["program", "row", "vector", "form"] ["program", "row", "vector"] (defScope s_said_at) := ⟨rfl, rfl, rfl, by decide +kernel, rfl, by decide +kernel, by decide +kernel⟩
theorem ok_said {f : Addr} {fd : FuncData} (F : Fun K "said_at" "said_at" s_said_at f fd) (T : Txt P w K mg base A) (c_product_of : Cal P w K mg base 1 "product_of" ["row", "other", "width"] (spProd K)) (c_forms_said : Cal P w K mg base 2 "forms_said" ["program", "row"] (spForms K A)) : FnOk P w K mg base CX0 3 f fd ["program", "row", "vector"] (spSaid K A) := by
  refine F.ok sc_said_at (fun vs H Q E h => ?_) (fun cdv Ar outer s H vs Q E hr h => ?_)
  · obtain ⟨x, i, b, k, ns, rs, r, st, rfl, _⟩ := h
    rfl
  · obtain ⟨x, i, b, k, ns, rs, r, st, rfl, hx, i0, hr0, hok, hlow, hn, hk, hst, hin, hb, q⟩ := h
    refine ⟨_, (pss_one (ps_ret (pe_lc (own := [("form", 3)]) (g := gName 3) (tt := tYes) rfl sc_said_at.nd (pi_list (pcal c_forms_said hr (by decide) (pa_cons (pv 0) (pa_cons (pv 1) pa_nil)))) (blkOk_by (own := [("form", 3)]) (N := ["program", "row", "vector", "form"]) (sc := defScope s_said_at) (by decide +kernel)) (fun _ _ _ _ _ => pg_name (i := 3) sc_said_at.nd rfl (Or.inl rfl)) (fun _ _ _ _ _ => pts_nil) (fun _ _ _ _ _ => (pcal c_product_of hr (by decide) (pa_cons (pv 3) (pa_cons (pv 2) (pa_cons (pe_fldB (K := K) (pv 0) rfl (by rfl)) pa_nil)))))))), ?_⟩
    walk_at "lk"
    unfold tLc iList
    walk_at "lk"
    refine ⟨x, i, k, ns, rs, r, rfl, hx, i0, hr0, hn, fun Df us H1 s1 hDf hus => ?_⟩
    have hb1 := s1 _ _ hb
    obtain ⟨dx, tv, tr, vs, hx0, hx1, hx2, hx3⟩ := hx
    have hx01 := s1 _ _ hx0
    refine ⟨Df, rfl, ⟨us, SqL.of hDf⟩, fun D hD => ?_⟩
    have hlen : us.length ≤ 6 := by
      rw [hus.len]
      cases r with
      | say f j => exact (by decide : 1 ≤ 6)
      | look j =>
        show ((List.range ns.length).map fun i => unitL (i + 1) (ns.length + 1)).length ≤ 6
        rw [List.length_map]
        rw [List.length_range]
        exact hn
      | _ => exact Nat.zero_le _
    refine tlc_core (J := Itl _ Df) (D := D) FmH (fun H v (x : Int) => v = .int x) (fun f => dot f (1 :: st) % 2 ^ k) (fun s h => h.ts (Ts.of s)) (fun t h => h) hus (by omega) hD (fun _ => rfl) (fun c v f H' hri hv s R qr => ?_) (fun Pv p0 pS ht hd => lc_list Pv p0 (fun i H' _ h => (pS i H' h).seq (SqL.of hDf)) ht hd) (fun ys H' s e h => ?_)
    · obtain ⟨bf, rfl, hbf⟩ := hv
      have hm := List.mem_of_getElem? hri
      walk_at "lk"
      refine ⟨x, A.Program, dx, _, _, rfl, s _ _ hx01, T.c_Program, T.n_width, rfl, ?_⟩
      walk_at "lk"
      have l1 := fs_len (k := k) rfl hok f hm
      exact ⟨bf, b, f, 1 :: st, k, rfl, SqT.of hbf, SqT.of (s _ _ hb1), by rw [l1, List.length_cons, hst], by omega, fs_in hk hlow f hm, hk, fun H2 s2 => qr _ _ s2 rfl⟩
    · rw [f2_ints_of h, said_eq hst hin] at e
      exact q D H' (s1.trans s) e
abbrev s_stepped : Stmt := top 52
theorem sc_stepped : FnScope ["program", "row", "vector", "number", "item", "place", "worth"] ["program", "row", "vector", "number"] (defScope s_stepped) := ⟨rfl, rfl, rfl, by decide +kernel, rfl, by decide +kernel, by decide +kernel⟩
theorem ok_step {f : Addr} {fd : FuncData} (F : Fun K "stepped" "stepped" s_stepped f fd) (T : Txt P w K mg base A) (c_product_of : Cal P w K mg base 1 "product_of" ["row", "other", "width"] (spProd K)) (c_place_of : Cal P w K mg base 1 "place_of" ["program", "item"] (spPlace K A)) : FnOk P w K mg base CX0 2 f fd ["program", "row", "vector", "number"] (spStep K A) := by
  refine F.ok sc_stepped (fun vs H Q E h => ?_) (fun cdv Ar outer s H vs Q E hr h => ?_)
  · obtain ⟨x, i, y, b, k, ns, rs, r, st, rfl, _⟩ := h
    rfl
  · obtain ⟨x, i, y, b, k, ns, rs, r, st, rfl, hx, hz, i0, hr0, hok, hlow, hn, hk, hst, hb, q⟩ := h
    refine ⟨_, (pss_cons (ps_set (i := 4) sc_stepped.nd rfl (Or.inl rfl) (pe_ix ix_tup (pe_fld (pv 0) rfl) (pv 1) (fun _ _ => rfl)))
        (pss_cons (ps_if (pt_cmpR op_eq (pe_ix ix_tup (pv 4) pe_int (fun _ _ => rfl)) pe_str (nomark _)) (pss_one (ps_set (i := 6) sc_stepped.nd rfl (Or.inl rfl) (pcal c_product_of hr (by decide) (pa_cons (pe_ix ix_tup (pv 4) pe_int (fun _ _ => rfl)) (pa_cons (pv 2) (pa_cons (pe_fld (pv 0) rfl) pa_nil)))))) (pss_one (ps_if (pt_cmpR op_eq (pe_ix ix_tup (pv 4) pe_int (fun _ _ => rfl)) pe_str (nomark _)) (pss_one (ps_set (i := 6) sc_stepped.nd rfl (Or.inl rfl) (pe_op op_andM (pv 3) (pe_op op_sub (pe_op op_oneShl pe_int (pe_fld (pv 0) rfl)) pe_int)))) (pss_one (ps_ret (pv 2))))))
        (pss_cons (ps_set (i := 5) sc_stepped.nd rfl (Or.inl rfl) (pcal c_place_of hr (by decide) (pa_cons (pv 0) (pa_cons (pv 4) pa_nil))))
        (pss_one (ps_ret (pe_op op_catA (pe_op op_catA (pe_slice sl_tupA (pv 2) po_none (po_some (pv 5))) (pe_tup (pa_cons (pv 6) pa_nil))) (pe_slice sl_tupA (pv 2) (po_some (pe_op op_add (pv 5) pe_int)) po_none))))))), ?_⟩
    obtain ⟨dx, tv, tr, us, v, h0, h1, h2, h3, hv⟩ := row_at hx i0 hr0
    walk_at "lk"
    refine ⟨x, A.Program, dx, _, _, rfl, h0, T.c_Program, T.n_rows, rfl, ?_⟩
    walk_at "lk"
    refine sft h2 h3 ?_
    walk_at "lk"
    cases r with
    | set n f j =>
      obtain ⟨a, c, rfl, ha, hc⟩ := hv
      refine sft (SqT.of ha) (by rfl) ?_
      walk_at "lk"
      refine sEq rfl ?_
      walk_at "lk"
      refine itt_ (decide_eq_true rfl) ?_
      walk_at "lk"
      refine sft (SqT.of ha) (by rfl) ?_
      walk_at "lk"
      refine ⟨x, A.Program, dx, _, _, rfl, h0, T.c_Program, T.n_width, rfl, ?_⟩
      walk_at "lk"
      refine ⟨c, b, f, 1 :: st, k, rfl, SqT.of hc, SqT.of hb, by rw [hok.2.1, List.length_cons, hst], by have := hok.2.1; omega, low_form (by injection hlow) hk, hk, fun H1 s1 => ?_⟩
      walk_at "lk"
      refine ⟨x, .ref a, k, ns, rs, n, .set n f j, rfl, hx.lc (Lc.of s1), hz.same s1, ⟨a, c, rfl, s1 _ _ ha, s1 _ _ hc⟩, .inl ⟨f, j, rfl⟩, hok.1, ?_⟩
      rw [show ((ns.idxOf n : Int) + 1) = ((ns.idxOf n + 1 : Nat) : Int) by omega]
      have hi := (idx_at hok.1).1
      walk_at "lk"
      refine s_takeT (SqT.of (s1 _ _ hb)) (by rw [List.length_map, List.length_cons, hst]; omega) fun p hp => ?_
      walk_at "lk"
      refine ⟨Nat.le_of_ble_eq_true rfl, fun p1 hp1 => ?_⟩
      have e0 : SqT K (upd H1 p (.tup (List.take (ns.idxOf n + 1) (List.map V.int (1 :: st))))) p (List.take (ns.idxOf n + 1) (List.map V.int (1 :: st))) := SqT.of upd_same
      have s2 : Same H1 (upd H1 p (.tup (List.take (ns.idxOf n + 1) (List.map V.int (1 :: st))))) := same_new hp
      generalize upd H1 p (.tup (List.take (ns.idxOf n + 1) (List.map V.int (1 :: st)))) = H2 at e0 s2 hp1 ⊢
      have s3 := s2.trans (same_new (o := .tup [V.int (dot f (1 :: st) % 2 ^ k)]) hp1)
      have e1 := same_sqT (same_new (o := .tup [V.int (dot f (1 :: st) % 2 ^ k)]) hp1) e0
      have e2 : SqT K (upd H2 p1 (.tup [V.int (dot f (1 :: st) % 2 ^ k)])) p1 [V.int (dot f (1 :: st) % 2 ^ k)] := SqT.of upd_same
      generalize upd H2 p1 (.tup [V.int (dot f (1 :: st) % 2 ^ k)]) = H3 at s3 e1 e2 ⊢
      refine s_cat2 e1 e2 (by simp) (by rw [List.length_take, List.length_map, List.length_cons, hst]; simp; omega) (fun z => by cases z) fun p2 H4 s4 h4 => ?_
      walk_at "lk"
      rw [show (((ns.idxOf n + 1 : Nat) : Int) + 1) = ((ns.idxOf n + 2 : Nat) : Int) by omega]
      refine s_dropT (SqT.of (s4 _ _ (s3 _ _ (s1 _ _ hb)))) (by omega) (by rw [List.length_map, List.length_cons, hst]; omega) (by simp) fun p3 hp3 => ?_
      walk_at "lk"
      refine s_cat2 (SqT.of (same_new hp3 _ _ h4)) (SqT.of upd_same) (by simp) (by rw [List.length_append, List.length_take, List.length_drop, List.length_map, List.length_cons, hst]; simp; omega) (fun _ Q hQ => hQ (same_new hp3 _ _ h4)) fun p4 H5 s5 h5 => ?_
      refine q p4 H5 (s1.trans (s3.trans (s4.trans ((same_new hp3).trans s5)))) ?_
      rw [h5]
      show _ = some (HO.tup (List.map V.int (1 :: st.set (ns.idxOf n) (dot f (1 :: st) % 2 ^ k))))
      rw [set_cut (by omega)]
      simp only [List.map_append, List.map_take, List.map_drop, List.map_cons, List.map_nil]
    | say f j =>
      obtain ⟨a, c, rfl, ha, hc⟩ := hv
      refine sft (SqT.of ha) (by rfl) ?_
      walk_at "lk"
      refine sEq rfl ?_
      walk_at "lk"
      refine iff_ (decide_eq_false (by decide +kernel)) ?_
      walk_at "lk"
      refine sft (SqT.of ha) (by rfl) ?_
      walk_at "lk"
      refine sEq rfl ?_
      walk_at "lk"
      refine iff_ (decide_eq_false (by decide +kernel)) ?_
      walk_at "lk"
      exact q b H (Same.refl _) hb
    | ask n j =>
      obtain ⟨a, rfl, ha⟩ := hv
      refine sft (SqT.of ha) (by rfl) ?_
      walk_at "lk"
      refine sEq rfl ?_
      walk_at "lk"
      refine iff_ (decide_eq_false (by decide +kernel)) ?_
      walk_at "lk"
      refine sft (SqT.of ha) (by rfl) ?_
      walk_at "lk"
      refine sEq rfl ?_
      walk_at "lk"
      refine itt_ (decide_eq_true rfl) ?_
      walk_at "lk"
      refine ⟨x, A.Program, dx, _, _, rfl, h0, T.c_Program, T.n_width, rfl, ?_⟩
      walk_at "lk"
      refine ⟨k, rfl, rfl, by omega, ?_⟩
      walk_at "lk"
      refine ⟨_, k, rfl, rfl, ?_⟩
      have s1 : Same H H := Same.refl _
      walk_at "lk"
      refine ⟨x, .ref a, k, ns, rs, n, .ask n j, rfl, hx.lc (Lc.of s1), hz.same s1, ⟨a, rfl, ha⟩, .inr ⟨j, rfl⟩, hok.1, ?_⟩
      rw [show ((ns.idxOf n : Int) + 1) = ((ns.idxOf n + 1 : Nat) : Int) by omega]
      have hi := (idx_at hok.1).1
      walk_at "lk"
      refine s_takeT (SqT.of (s1 _ _ hb)) (by rw [List.length_map, List.length_cons, hst]; omega) fun p hp => ?_
      walk_at "lk"
      refine ⟨Nat.le_of_ble_eq_true rfl, fun p1 hp1 => ?_⟩
      have e0 : SqT K (upd H p (.tup (List.take (ns.idxOf n + 1) (List.map V.int (1 :: st))))) p (List.take (ns.idxOf n + 1) (List.map V.int (1 :: st))) := SqT.of upd_same
      have s2 : Same H (upd H p (.tup (List.take (ns.idxOf n + 1) (List.map V.int (1 :: st))))) := same_new hp
      generalize upd H p (.tup (List.take (ns.idxOf n + 1) (List.map V.int (1 :: st)))) = H2 at e0 s2 hp1 ⊢
      have s3 := s2.trans (same_new (o := .tup [V.int (y % 2 ^ k)]) hp1)
      have e1 := same_sqT (same_new (o := .tup [V.int (y % 2 ^ k)]) hp1) e0
      have e2 : SqT K (upd H2 p1 (.tup [V.int (y % 2 ^ k)])) p1 [V.int (y % 2 ^ k)] := SqT.of upd_same
      generalize upd H2 p1 (.tup [V.int (y % 2 ^ k)]) = H3 at s3 e1 e2 ⊢
      refine s_cat2 e1 e2 (by simp) (by rw [List.length_take, List.length_map, List.length_cons, hst]; simp; omega) (fun z => by cases z) fun p2 H4 s4 h4 => ?_
      walk_at "lk"
      rw [show (((ns.idxOf n + 1 : Nat) : Int) + 1) = ((ns.idxOf n + 2 : Nat) : Int) by omega]
      refine s_dropT (SqT.of (s4 _ _ (s3 _ _ (s1 _ _ hb)))) (by omega) (by rw [List.length_map, List.length_cons, hst]; omega) (by simp) fun p3 hp3 => ?_
      walk_at "lk"
      refine s_cat2 (SqT.of (same_new hp3 _ _ h4)) (SqT.of upd_same) (by simp) (by rw [List.length_append, List.length_take, List.length_drop, List.length_map, List.length_cons, hst]; simp; omega) (fun _ Q hQ => hQ (same_new hp3 _ _ h4)) fun p4 H5 s5 h5 => ?_
      refine q p4 H5 (s1.trans (s3.trans (s4.trans ((same_new hp3).trans s5)))) ?_
      rw [h5]
      show _ = some (HO.tup (List.map V.int (1 :: st.set (ns.idxOf n) (y % 2 ^ k))))
      rw [set_cut (by omega)]
      simp only [List.map_append, List.map_take, List.map_drop, List.map_cons, List.map_nil]
    | choose ks =>
      obtain ⟨a, c, rfl, ha, hc⟩ := hv
      refine sft (SqT.of ha) (by rfl) ?_
      walk_at "lk"
      refine sEq rfl ?_
      walk_at "lk"
      refine iff_ (decide_eq_false (by decide +kernel)) ?_
      walk_at "lk"
      refine sft (SqT.of ha) (by rfl) ?_
      walk_at "lk"
      refine sEq rfl ?_
      walk_at "lk"
      refine iff_ (decide_eq_false (by decide +kernel)) ?_
      walk_at "lk"
      exact q b H (Same.refl _) hb
    | look j =>
      obtain ⟨a, rfl, ha⟩ := hv
      refine sft (SqT.of ha) (by rfl) ?_
      walk_at "lk"
      refine sEq rfl ?_
      walk_at "lk"
      refine iff_ (decide_eq_false (by decide +kernel)) ?_
      walk_at "lk"
      refine sft (SqT.of ha) (by rfl) ?_
      walk_at "lk"
      refine sEq rfl ?_
      walk_at "lk"
      refine iff_ (decide_eq_false (by decide +kernel)) ?_
      walk_at "lk"
      exact q b H (Same.refl _) hb
    | stop =>
      obtain ⟨a, rfl, ha⟩ := hv
      refine sft (SqT.of ha) (by rfl) ?_
      walk_at "lk"
      refine sEq rfl ?_
      walk_at "lk"
      refine iff_ (decide_eq_false (by decide +kernel)) ?_
      walk_at "lk"
      refine sft (SqT.of ha) (by rfl) ?_
      walk_at "lk"
      refine sEq rfl ?_
      walk_at "lk"
      refine iff_ (decide_eq_false (by decide +kernel)) ?_
      walk_at "lk"
      exact q b H (Same.refl _) hb
end
end K42

namespace K42
open PySem PySem.Spec PyProof.Rows L2 RZ Lk
local macro_rules | `(tactic| walk_at "lk") => `(tactic| (repeat (first
  | with_reducible refine ssq ?_ | with_reducible refine sas ?_ | with_reducible refine sgn ?_ | ((with_reducible show tVar _ _ _ _); refine sv rfl ?_) | with_reducible refine sc ?_ | with_reducible refine sop ?_ | with_reducible refine sun ?_
  | with_reducible refine sI0 ?_ | with_reducible refine sU ?_ | with_reducible refine stt ?_ | with_reducible refine stB ?_ | with_reducible refine sbl ?_ | with_reducible refine snt ?_ | with_reducible refine sif ?_ | with_reducible refine scB ?_
  | with_reducible refine scn ?_ | with_reducible refine snl ?_ | with_reducible refine scl ?_ | with_reducible refine stu ?_ | with_reducible refine sli ?_ | with_reducible refine sdr ?_ | with_reducible refine srt ?_ | with_reducible refine snx ?_ | with_reducible refine sfor ?_ | with_reducible refine sils ?_ | with_reducible refine sien ?_ | with_reducible refine sor ?_ | with_reducible refine sfg ?_
  | with_reducible refine sav ?_ | with_reducible refine sov ?_ | with_reducible refine snv ?_ | with_reducible refine sch ?_ | with_reducible refine san ?_ | with_reducible refine ssll ?_ | with_reducible refine spt ?_ | with_reducible refine snp ?_ | with_reducible refine sin ?_ | with_reducible refine sfl ?_ | with_reducible refine sfd ?_ | with_reducible refine sbm ?_ | with_reducible refine sifx ?_ | with_reducible refine smk ?_ | with_reducible refine ssli ?_ | with_reducible refine sbz ?_
  | ((with_reducible show Or _ _); first | refine Or.inl ⟨_, rfl, ?_⟩ | refine Or.inr ⟨_, rfl, ?_⟩))))

def spLowE (K : PySem.W.Frag) : Sp := fun vs H Q _ => ∃ (a : Addr) (xs : List Int) (k : Nat), vs = [.ref a, .int (k : Int)] ∧ SqE K H a (xs.map V.int) ∧ xs.length ≤ 1000 ∧ k ≤ 64 ∧ ∀ p H', Same H H' → H' p = some (.tup ((xs.map (· % 2 ^ k)).map V.int)) → Q (.ref p) H'
def spWrInt (K : PySem.W.Frag) : Sp := fun vs H Q _ => ∃ (a : Addr) (xs : List Int), vs = [.ref a, .int (xs.length : Int)] ∧ SqE K H a (xs.map V.int) ∧ ∀ H', Same H H' → Q .non H'
/-- the way of a run is of these rows -/
structure Way (k : Nat) (ns : List Str) (rs : List LRow) (q : Q3) (nums : List Int) : Prop where
  ok : ∀ r ∈ rs, RowOk ns rs.length r
  good : Good3 k ns.length rs.length q
  fits : Fits k ns rs q nums
def spWrNum (K : PySem.W.Frag) : Sp := fun vs H Q _ => ∃ (D t : Addr) (us : List V) (k : Nat) (ns : List Str) (rs : List LRow) (q : Q3) (nums : List Int), vs = [.ref D, .int q.1, .ref t] ∧ H D = some (.lst us) ∧ F2 (ExH H) us (rs.map exR) ∧ SqE K H t (nums.map V.int) ∧ Way k ns rs q nums ∧ ∀ H', Same H H' → Q .non H'
theorem Way.step {k : Nat} {ns : List Str} {rs : List LRow} {q : Q3} {nums : List Int} (h : Way k ns rs q nums) {i : Nat} {z : Int} (hz : nums[i]? = some z) : ∃ r, rs[(runF k ns rs q (nums.take i)).1.toNat]? = some r ∧ fitM r z ∧ Good3 k ns.length rs.length (runF k ns rs q (nums.take i)) ∧
    runF k ns rs q (nums.take (i + 1)) = (nxM r z, stM k ns r (runF k ns rs q (nums.take i)).2.1 z, (runF k ns rs q (nums.take i)).2.2 ++ sdM k r (runF k ns rs q (nums.take i)).2.1) := by
  obtain ⟨r, h1, h2⟩ := h.fits i z hz
  refine ⟨r, h1, h2, good_run h.ok h.good h.fits i (Nat.le_of_lt (List.getElem?_eq_some_iff.mp hz).1), ?_⟩
  rw [runF_take hz]
  show stp k ns rs _ z = _
  unfold stp
  rw [h1]
theorem sqe_lt {K : PySem.W.Frag} {H : Hp} {t : Addr} {xs : List V} {ds : List PyData} (h : SqE K H t xs) (hd : DpAll K H xs ds) : ∃ d, Dp K H (.ref t) d ∧ (isListD d || isTupD d) = true := by
  rcases h with h | h
  · exact ⟨_, .lst h hd, rfl⟩
  · exact ⟨_, .tup h hd, rfl⟩
def spChState (K : PySem.W.Frag) (A : Ad) : Sp := fun vs H Q _ => ∃ (x a : Addr) (xs : List Int) (k : Nat) (ns : List Str) (rs : List LRow), vs = [.ref x, .ref a] ∧ ProgO K A.Program H x k ns rs ∧ SqE K H a (xs.map V.int) ∧ xs.length = ns.length ∧ ∀ H', Same H H' → Q .non H'
/-- what a run or a way on returns -/
def Told (H0 H : Hp) (u : Addr) (q : Q3) : Prop := ∃ b D, H0 D = none ∧ H u = some (.tup [.int q.1, .ref b, .ref D]) ∧ H b = some (.tup (q.2.1.map V.int)) ∧ H D = some (.lst (q.2.2.map V.int))
theorem Told.of {H H1 H2 : Hp} (s : Same H H1) {u : Addr} {q : Q3} (h : Told H1 H2 u q) : Told H H2 u q := by
  obtain ⟨b, D, h0, h⟩ := h
  exact ⟨b, D, s.free h0, h⟩
def spBehind (K : PySem.W.Frag) (A : Ad) : Sp := fun vs H Q _ => ∃ (x b t : Addr) (i : Int) (st : List Int) (k : Nat) (ns : List Str) (rs : List LRow) (nums : List Int), vs = [.ref x, .int i, .ref b, .ref t] ∧ ProgO K A.Program H x k ns rs ∧ VzH H x ∧ (∀ r ∈ rs, r.low k = r) ∧ rs.length ≤ 25 ∧ 1 ≤ ns.length ∧ ns.length ≤ 6 ∧ k ≤ 64 ∧ SqE K H b (st.map V.int) ∧ SqE K H t (nums.map V.int) ∧ nums.length ≤ 100 ∧ Way k ns rs (i, st.map (· % 2 ^ k), []) nums ∧
  ∀ u H', Same H H' → Told H H' u (runF k ns rs (i, st.map (· % 2 ^ k), []) nums) → Q (.ref u) H'
def spRun (K : PySem.W.Frag) (A : Ad) : Sp := fun vs H Q _ => ∃ (x t : Addr) (k : Nat) (ns : List Str) (rs : List LRow) (nums : List Int), vs = [.ref x, .ref t] ∧ ProgO K A.Program H x k ns rs ∧ VzH H x ∧ (∀ r ∈ rs, r.low k = r) ∧ rs.length ≤ 25 ∧ 1 ≤ ns.length ∧ ns.length ≤ 6 ∧ k ≤ 64 ∧ SqE K H t (nums.map V.int) ∧ nums.length ≤ 100 ∧ Way k ns rs (0, List.replicate ns.length 0, []) nums ∧
  ∀ u H', Same H H' → Told H H' u (runF k ns rs (0, List.replicate ns.length 0, []) nums) → Q (.ref u) H'
def spGoOn (K : PySem.W.Frag) (A : Ad) : Sp := spBehind K A
theorem dp_ints {K : PySem.W.Frag} {H : Hp} : ∀ xs : List Int, DpAll K H (xs.map V.int) (xs.map PyData.int)
  | [] => .nil
  | n :: ns => .cons (.int n) (dp_ints ns)
theorem said_len {k : Nat} {ns : List Str} {rs : List LRow} {q : Q3} {nums : List Int} (hn : ns.length ≤ 6) (h : Way k ns rs q nums) : ∀ i, i ≤ nums.length → (runF k ns rs q (nums.take i)).2.2.length ≤ q.2.2.length + 6 * i
  | 0, _ => Nat.le_refl _
  | i + 1, hi => by
    have hlt : i < nums.length := hi
    obtain ⟨r, h1, h2⟩ := h.fits i _ (List.getElem?_eq_getElem hlt)
    have h3 := said_len hn h i (Nat.le_of_lt hlt)
    have h4 := (good_run h.ok h.good h.fits i (Nat.le_of_lt hlt)).len
    rw [runF_take (List.getElem?_eq_getElem hlt)]
    unfold stp
    rw [h1]
    show (_ ++ sdM k r _).length ≤ _
    rw [List.length_append]
    have : (sdM k r (runF k ns rs q (nums.take i)).2.1).length ≤ 6 := by
      cases r with
      | look j => show (runF k ns rs q (nums.take i)).2.1.length ≤ 6; omega
      | say f j => exact (by decide : 1 ≤ 6)
      | _ => exact Nat.zero_le _
    omega
theorem same_updN {H H1 : Hp} {D : Addr} {o : HO} (s : Same H H1) (h : H D = none) : Same H (upd H1 D o) := fun b u e => by
  rw [upd_ne (ne_of_none e h)]
  exact s _ _ e
section
variable {K : PySem.W.Frag} {a : Addr} {xs : List V} {σ : L2.St} {H : Hp}
theorem for_E {g : TG} {tb : TS} {D : Ends} {j : Nat} {H0 : Hp} (I : Nat → L2.St → Hp → Prop) (hj : σ[j]? = some (some (.ref a))) (hx : SqE K H0 a xs) (h0 : I 0 σ H) (hS : ∀ i σ' H', I i σ' H' → Same H0 H')
    (ht : ∀ (i : Nat) (x : V) σ' H', xs[i]? = some x → I i σ' H' → g x σ' H' fun σ2 H2 => tb { D with nx := I (i + 1), ct := I (i + 1), bk := D.nx } σ2 H2)
    (hd : ∀ σ' H', I xs.length σ' H' → D.nx σ' H') : tFor (iEither K (tVar j)) g tb D σ H := by
  rcases hx with hx | hx
  · exact .inl ⟨_, hj, a, rfl, ⟨xs, (hS _ _ _ h0).seq hx⟩, for_list I h0 (fun i σ H' _ h => (hS i σ H' h).seq hx) ht hd⟩
  · exact .inr ⟨_, hj, a, rfl, ⟨xs, same_sqT (hS _ _ _ h0) hx⟩, for_tup I h0 (fun i σ H' _ h => same_sqT (hS i σ H' h) hx) ht hd⟩
end

section
variable {P : Program} {w : World} {K : PySem.W.Frag} {mg : Str → Option Value} {base : Heap} {A : Ad}
theorem ok_loweredE {f : Addr} {fd : FuncData} (F : Fun K "lowered" "lowered" s_lowered f fd) (T : Txt P w K mg base A) : FnOk P w K mg base CX0 1 f fd ["numbers", "width"] (spLowE K) := by
  refine F.ok sc_lowered (fun vs H Q E h => ?_) (fun cdv Ar outer s H vs Q E hr h => ?_)
  · obtain ⟨a, xs, k, rfl, _⟩ := h
    rfl
  · obtain ⟨a, xs, k, rfl, hx, hl, hk, q⟩ := h
    refine ⟨_, (pss_cons (ps_set (i := 2) sc_lowered.nd rfl (Or.inr rfl) (pe_op op_sub (pe_op op_oneShl pe_int (pv 1)) pe_int))
        (pss_one (ps_ret (pe_callTy call_tupOf (by rfl) T.z_tuple (by decide +kernel) (pa_cons (pe_lc (own := [("number", 3)]) (g := gName 3) (tt := tYes) rfl sc_lowered.nd (pi_either (pv 0)) (blkOk_by (own := [("number", 3)]) (N := ["numbers", "width", "mask", "number"]) (sc := defScope s_lowered) (by decide +kernel)) (fun _ _ _ _ _ => pg_name (i := 3) sc_lowered.nd rfl (Or.inl rfl)) (fun _ _ _ _ _ => pts_nil) (fun _ _ _ _ _ => (pe_op op_andM (pv 3) (pv 2)))) pa_nil))))), ?_⟩
    walk_at "lk"
    refine ⟨k, rfl, rfl, by omega, ?_⟩
    walk_at "lk"
    refine tlc_mapE (ys := (xs.map (· % 2 ^ k)).map V.int) rfl hx (by simp only [List.length_map]) (by rw [List.length_map]; exact hl) (fun _ => rfl) (fun i x y H' hi hy s' R r => ?_) (fun D H' s' hD hDl => ?_)
    · rw [List.getElem?_map] at hi hy
      rw [List.getElem?_map] at hy
      cases e : xs[i]? with
      | none =>
        rw [e] at hi
        cases hi
      | some z =>
        rw [e] at hi hy
        cases hi
        cases hy
        walk_at "lk"
        exact ⟨z, k, rfl, rfl, r _ (Same.refl _)⟩
    · walk_at "lk"
      exact s_tupL hDl fun p H2 s2 _ hp => q p H2 (s'.trans s2) hp
abbrev s_wrong_integer : Stmt := top 13
theorem sc_wrong_integer : FnScope ["value", "size", "index", "item"] ["value", "size"] (defScope s_wrong_integer) := ⟨rfl, rfl, rfl, by decide +kernel, rfl, by decide +kernel, by decide +kernel⟩
theorem ok_wrong_integer {f : Addr} {fd : FuncData} (F : Fun K "wrong_integer" "wrong_integer" s_wrong_integer f fd) (T : Txt P w K mg base A) (c_is_sequence : Cal P w K mg base 1 "is_sequence" ["value", "least", "most"] (spSeq K)) (c_is_integer : Cal P w K mg base 1 "is_integer" ["value"] (spIsInt K)) : FnOk P w K mg base CX0 2 f fd ["value", "size"] (spWrInt K) := by
  refine F.ok sc_wrong_integer (fun vs H Q E h => ?_) (fun cdv Ar outer s H vs Q E hr h => ?_)
  · obtain ⟨a, xs, rfl, _⟩ := h
    rfl
  · obtain ⟨a, xs, rfl, hx, q⟩ := h
    refine ⟨_, (pss_cons (ps_if (pt_not (pt_val (pcal c_is_sequence hr (by decide) (pa_cons (pv 0) (pa_cons (pv 1) (pa_cons (pv 1) pa_nil)))))) (pss_one (ps_ret (pe_un un_neg pe_int))) pss_nil)
        (pss_cons (ps_for PassesOwn.never rfl (pi_enumE (by rfl) T.z_enumerate (pa_cons (pv 0) pa_nil)) (pg_tup rfl (pgs_cons (pg_name (i := 2) sc_wrong_integer.nd rfl (Or.inl rfl)) (pgs_cons (pg_name (i := 3) sc_wrong_integer.nd rfl (Or.inl rfl)) pgs_nil))) (pss_one (ps_if (pt_not (pt_val (pcal c_is_integer hr (by decide) (pa_cons (pv 3) pa_nil)))) (pss_one (ps_ret (pv 2))) pss_nil)))
        (pss_one (ps_ret pe_non)))), ?_⟩
    obtain ⟨d, hd, hs⟩ := sqe_seq hx (dp_ints xs)
    walk_at "lk"
    refine ⟨.ref a, d, (xs.length : Int), (xs.length : Int), rfl, hd, fun H1 s1 => ?_⟩
    rw [hs _ _ (by rw [List.length_map]; omega) (by rw [List.length_map]; omega)]
    walk_at "lk"
    refine iff_ rfl ?_
    walk_at "lk"
    refine for_enE (xs := xs.map V.int) (fun i σ' H' => (∃ e1 e2, σ' = [some (.ref a), some (.int (xs.length : Int)), e1, e2]) ∧ Same H1 H') rfl (hx.same s1) ⟨⟨_, _, rfl⟩, Same.refl _⟩ (fun i σ' H' h => h.2) ?_ ?_
    · rintro i v p σ' H' hi ⟨⟨e1, e2, rfl⟩, s2⟩ hp
      have s3 : Same H1 (upd H' p (.tup [.int (i : Nat), v])) := s2.trans (same_new hp)
      refine g_pair (SqT.of upd_same) ?_
      generalize upd H' p (.tup [.int (i : Nat), v]) = H3 at s3 ⊢
      rw [List.getElem?_map] at hi
      obtain ⟨z, hz, rfl⟩ := Option.map_eq_some_iff.mp hi
      walk_at "lk"
      refine ⟨.int z, .int z, rfl, .int z, ?_⟩
      walk_at "lk"
      refine iff_ rfl ?_
      exact ⟨⟨_, _, rfl⟩, s3⟩
    · rintro σ' H' ⟨⟨e1, e2, rfl⟩, s2⟩
      walk_at "lk"
      exact q _ (s1.trans s2)
abbrev s_wrong_number : Stmt := top 21
theorem sc_wrong_number : FnScope ["graph", "row", "numbers", "index", "number"] ["graph", "row", "numbers"] (defScope s_wrong_number) := ⟨rfl, rfl, rfl, by decide +kernel, rfl, by decide +kernel, by decide +kernel⟩
theorem ok_wrong_number {f : Addr} {fd : FuncData} (F : Fun K "wrong_number" "wrong_number" s_wrong_number f fd) (T : Txt P w K mg base A) (c_fits : Cal P w K mg base 3 "fits" ["exits", "number"] spFits) (c_next_row : Cal P w K mg base 1 "next_row" ["graph", "row", "number"] spNext) : FnOk P w K mg base CX0 4 f fd ["graph", "row", "numbers"] (spWrNum K) := by
  refine F.ok sc_wrong_number (fun vs H Q E h => ?_) (fun cdv Ar outer s H vs Q E hr h => ?_)
  · obtain ⟨D, t, us, k, ns, rs, q0, nums, rfl, _⟩ := h
    rfl
  · obtain ⟨D, t, us, k, ns, rs, q0, nums, rfl, hD, hus, ht, hw, q⟩ := h
    refine ⟨_, (pss_cons (ps_if (pt_not (pt_val (pe_callB call_isiT (by rfl) T.z_isinstance (by decide +kernel) (pa_cons (pv 2) (pa_cons (pe_tup (pa_cons (pe_bltn (v := .ty "list") (by rfl) T.z_list (by first | exact PySem.boot_list | decide +kernel) rfl) (pa_cons (pe_bltn (v := .ty "tuple") (by rfl) T.z_tuple (by first | exact PySem.boot_tuple | decide +kernel) rfl) pa_nil))) pa_nil))))) (pss_one (ps_ret (pe_un un_neg pe_int))) pss_nil)
        (pss_cons (ps_for PassesOwn.never rfl (pi_enumE (by rfl) T.z_enumerate (pa_cons (pv 2) pa_nil)) (pg_tup rfl (pgs_cons (pg_name (i := 3) sc_wrong_number.nd rfl (Or.inl rfl)) (pgs_cons (pg_name (i := 4) sc_wrong_number.nd rfl (Or.inl rfl)) pgs_nil))) (pss_cons (ps_if (pt_not (pt_val (pcal c_fits hr (by decide) (pa_cons (pe_ix ix_list (pv 0) (pv 1) (fun _ _ => rfl)) (pa_cons (pv 4) pa_nil))))) (pss_one (ps_ret (pv 3))) pss_nil)
        (pss_one (ps_set (i := 1) sc_wrong_number.nd rfl (Or.inl rfl) (pcal c_next_row hr (by decide) (pa_cons (pv 0) (pa_cons (pv 1) (pa_cons (pv 4) pa_nil))))))))
        (pss_one (ps_ret pe_non)))), ?_⟩
    obtain ⟨d, hd, hs⟩ := sqe_lt ht (dp_ints nums)
    walk_at "lk"
    refine snw (Nat.le_of_ble_eq_true rfl) fun p0 hp0 => ?_
    have s1 : Same H (upd H p0 (.tup [.ty "list", .ty "tuple"])) := same_new hp0
    have e0 : (upd H p0 (.tup [.ty "list", .ty "tuple"])) p0 = some (.tup [.ty "list", .ty "tuple"]) := upd_same
    generalize upd H p0 (.tup [.ty "list", .ty "tuple"]) = H1 at s1 e0 ⊢
    walk_at "lk"
    refine s_isiLT (dp_same s1 hd) e0 ?_
    rw [hs]
    walk_at "lk"
    refine iff_ rfl ?_
    walk_at "lk"
    refine for_enE (xs := nums.map V.int) (fun i σ' H' => (∃ e0 e1 e2, σ' = [some (.ref D), some (.int e0), some (.ref t), e1, e2] ∧ e0 = (runF k ns rs q0 (nums.take i)).1) ∧ Same H1 H') rfl (ht.same s1) ⟨⟨_, _, _, rfl, rfl⟩, Same.refl _⟩ (fun i σ' H' h => h.2) ?_ ?_
    · rintro i v p σ' H' hi ⟨⟨e0, e1, e2, rfl, he⟩, s2⟩ hp
      have s3 : Same H1 (upd H' p (.tup [.int (i : Nat), v])) := s2.trans (same_new hp)
      refine g_pair (SqT.of upd_same) ?_
      generalize upd H' p (.tup [.int (i : Nat), v]) = H3 at s3 ⊢
      rw [List.getElem?_map] at hi
      obtain ⟨z, hz, rfl⟩ := Option.map_eq_some_iff.mp hi
      obtain ⟨r, hr0, hf, hg, hstep⟩ := hw.step hz
      subst he
      have s13 := s1.trans s3
      have hus3 := hus.mono (fun v a h => ExH.ts (Ts.of s13) h)
      have hD3 := s13 _ _ hD
      obtain ⟨u, hu, hu2⟩ := hus3.get (show (rs.map exR)[(runF k ns rs q0 (nums.take i)).1.toNat]? = some (exR r) by rw [List.getElem?_map, hr0]; rfl)
      walk_at "lk"
      refine sfr (SqL.of hD3) (by have y := Lk.atI_nat hu; rwa [Int.toNat_of_nonneg hg.r0] at y) ?_
      walk_at "lk"
      refine ⟨u, r, z, rfl, hu2, hf, ?_⟩
      walk_at "lk"
      refine iff_ rfl ?_
      walk_at "lk"
      refine ⟨D, us, rs, _, z, r, rfl, hD3, hus3, hg.r0, hr0, hf, ?_⟩
      exact ⟨⟨_, _, _, rfl, by rw [hstep]⟩, s3⟩
    · rintro σ' H' ⟨⟨e0, e1, e2, rfl, _⟩, s2⟩
      walk_at "lk"
      exact q _ (s1.trans s2)
abbrev s_check_numbers : Stmt := top 20
theorem sc_check_numbers : FnScope ["graph", "row", "numbers", "index"] ["graph", "row", "numbers"] (defScope s_check_numbers) := ⟨rfl, rfl, rfl, by decide +kernel, rfl, by decide +kernel, by decide +kernel⟩
theorem ok_check_numbers {f : Addr} {fd : FuncData} (F : Fun K "check_numbers" "check_numbers" s_check_numbers f fd) (T : Txt P w K mg base A) (c_wrong_number : Cal P w K mg base 4 "wrong_number" ["graph", "row", "numbers"] (spWrNum K)) : FnOk P w K mg base CX0 5 f fd ["graph", "row", "numbers"] (spWrNum K) := by
  refine F.ok sc_check_numbers (fun vs H Q E h => ?_) (fun cdv Ar outer s H vs Q E hr h => ?_)
  · obtain ⟨D, t, us, k, ns, rs, q0, nums, rfl, _⟩ := h
    rfl
  · obtain ⟨D, t, us, k, ns, rs, q0, nums, rfl, hD, hus, ht, hw, q⟩ := h
    refine ⟨_, (pss_cons (ps_set (i := 3) sc_check_numbers.nd rfl (Or.inl rfl) (pcal c_wrong_number hr (by decide) (pa_cons (pv 0) (pa_cons (pv 1) (pa_cons (pv 2) pa_nil)))))
        (pss_one (ps_if (pt_cmpR op_notN (pv 3) pe_non (nomark _)) (pss_one ps_never) pss_nil))), ?_⟩
    walk_at "lk"
    refine ⟨D, t, us, k, ns, rs, q0, nums, rfl, hD, hus, ht, hw, fun H1 s1 => ?_⟩
    walk_at "lk"
    refine ⟨rfl, ?_⟩
    walk_at "lk"
    refine iff_ rfl ?_
    exact q H1 s1
abbrev s__behind : Stmt := top 61
theorem sc__behind : FnScope ["program", "row", "state", "numbers", "graph", "vector", "said", "number"] ["program", "row", "state", "numbers"] (defScope s__behind) := ⟨rfl, rfl, rfl, by decide +kernel, rfl, by decide +kernel, by decide +kernel⟩
theorem ok_behind {f : Addr} {fd : FuncData} (F : Fun K "_behind" "_behind" s__behind f fd) (T : Txt P w K mg base A) (c_graph_of : Cal P w K mg base 2 "graph_of" ["program"] (spGraph K A)) (c_check_numbers : Cal P w K mg base 5 "check_numbers" ["graph", "row", "numbers"] (spWrNum K)) (c_lowered : Cal P w K mg base 1 "lowered" ["numbers", "width"] (spLowE K)) (c_said_at : Cal P w K mg base 3 "said_at" ["program", "row", "vector"] (spSaid K A)) (c_stepped : Cal P w K mg base 2 "stepped" ["program", "row", "vector", "number"] (spStep K A)) (c_next_row : Cal P w K mg base 1 "next_row" ["graph", "row", "number"] spNext) : FnOk P w K mg base CX0 6 f fd ["program", "row", "state", "numbers"] (spBehind K A) := by
  refine F.ok sc__behind (fun vs H Q E h => ?_) (fun cdv Ar outer s H vs Q E hr h => ?_)
  · obtain ⟨x, b, t, i, st, k, ns, rs, nums, rfl, _⟩ := h
    rfl
  · obtain ⟨x, b, t, i, st, k, ns, rs, nums, rfl, hx, hvz, hlow, hl, n1, n6, hk, hb, ht, hnl, hw, q⟩ := h
    refine ⟨_, (pss_cons (ps_set (i := 4) sc__behind.nd rfl (Or.inl rfl) (pcal c_graph_of hr (by decide) (pa_cons (pv 0) pa_nil)))
        (pss_cons (ps_expr (pcal c_check_numbers hr (by decide) (pa_cons (pv 4) (pa_cons (pv 1) (pa_cons (pv 3) pa_nil)))))
        (pss_cons (ps_set (i := 5) sc__behind.nd rfl (Or.inl rfl) (pe_op op_catA (pe_tup (pa_cons pe_int pa_nil)) (pcal c_lowered hr (by decide) (pa_cons (pv 2) (pa_cons (pe_fld (pv 0) rfl) pa_nil)))))
        (pss_cons (ps_set (i := 6) sc__behind.nd rfl (Or.inl rfl) (pe_lst pa_nil))
        (pss_cons (ps_for PassesOwn.never rfl (pi_either (pv 3)) (pg_name (i := 7) sc__behind.nd rfl (Or.inl rfl)) (pss_cons (ps_expr (pe_bm PySem.F.plainAttrs_list PySem.F.slot_list_extend PySem.F.type_list_extend mt_extend (pv 6) (pa_cons (pcal c_said_at hr (by decide) (pa_cons (pv 0) (pa_cons (pv 1) (pa_cons (pv 5) pa_nil)))) pa_nil)))
        (pss_cons (ps_set (i := 5) sc__behind.nd rfl (Or.inl rfl) (pcal c_stepped hr (by decide) (pa_cons (pv 0) (pa_cons (pv 1) (pa_cons (pv 5) (pa_cons (pv 7) pa_nil))))))
        (pss_one (ps_set (i := 1) sc__behind.nd rfl (Or.inl rfl) (pcal c_next_row hr (by decide) (pa_cons (pv 4) (pa_cons (pv 1) (pa_cons (pv 7) pa_nil)))))))))
        (pss_one (ps_ret (pe_tup (pa_cons (pv 1) (pa_cons (pe_slice sl_tupA (pv 5) (po_some pe_int) po_none) (pa_cons (pv 6) pa_nil))))))))))), ?_⟩
    walk_at "lk"
    refine ⟨x, k, ns, rs, rfl, hx, hl, fun Dg us H1 s1 hDg hus => ?_⟩
    walk_at "lk"
    refine ⟨Dg, t, us, k, ns, rs, (i, st.map (· % 2 ^ k), []), nums, rfl, hDg, hus, ht.same s1, hw, fun H2 s2 => ?_⟩
    walk_at "lk"
    have S2 := s1.trans s2
    refine snw (Nat.le_of_ble_eq_true rfl) fun p1 hp1 => ?_
    have s3 : Same H2 (upd H2 p1 (.tup [.int 1])) := same_new hp1
    have e1 : (upd H2 p1 (.tup [.int 1])) p1 = some (.tup [.int 1]) := upd_same
    generalize upd H2 p1 (.tup [.int 1]) = H3 at s3 e1 ⊢
    have S3 := S2.trans s3
    have hx' := hx
    obtain ⟨dx, tv, tr, us0, h0, h1, h2, h3⟩ := hx'
    walk_at "lk"
    refine ⟨x, A.Program, dx, _, _, rfl, S3 _ _ h0, T.c_Program, T.n_width, rfl, ?_⟩
    walk_at "lk"
    have hlen : (st.map (· % 2 ^ k)).length = ns.length := hw.good.len
    have hne : (st.map (· % 2 ^ k)).map V.int ≠ [] := fun z => by
      have y := congrArg List.length z
      rw [List.length_map, hlen] at y
      have : ns.length = 0 := y
      omega
    refine ⟨b, st, k, rfl, hb.same S3, by rw [List.length_map] at hlen; omega, hk, fun p2 H4 s4 hp2 => ?_⟩
    refine s_cat2 (SqT.of (s4 _ _ e1)) (SqT.of hp2) (by simp) (by rw [List.length_map, hlen]; simp; omega) (fun z => absurd z hne) fun vb H5 s5 h5 => ?_
    have S5 := S3.trans (s4.trans s5)
    have h5' : H5 vb = some (.tup ((1 :: st.map (· % 2 ^ k)).map V.int)) := h5
    walk_at "lk"
    refine snw (Nat.le_of_ble_eq_true rfl) fun Ds hDs => ?_
    have h6 : (upd H5 Ds (.lst [])) Ds = some (.lst []) := upd_same
    have s6 : Same H5 (upd H5 Ds (.lst [])) := same_new hDs
    have h6v := s6 _ _ h5'
    generalize upd H5 Ds (.lst []) = H6 at h6 s6 h6v ⊢
    walk_at "lk"
    refine for_E (xs := nums.map V.int) (fun c σ' H' => ∃ (r0 : Int) (v0 : Addr) (e : Option V), σ' = [some (.ref x), some (.int r0), some (.ref b), some (.ref t), some (.ref Dg), some (.ref v0), some (.ref Ds), e] ∧ r0 = (runF k ns rs (i, st.map (· % 2 ^ k), []) (nums.take c)).1 ∧ H' v0 = some (.tup ((1 :: (runF k ns rs (i, st.map (· % 2 ^ k), []) (nums.take c)).2.1).map V.int)) ∧ H' Ds = some (.lst ((runF k ns rs (i, st.map (· % 2 ^ k), []) (nums.take c)).2.2.map V.int)) ∧ Same H5 H') rfl (ht.same S5) ?_ ?_ ?_ ?_
    · exact ⟨i, vb, none, rfl, rfl, h6v, h6, s6⟩
    · rintro c σ' H' ⟨_, _, _, _, _, _, _, s7⟩
      exact s7
    · rintro c v σ' H' hi ⟨r0, v0, e, rfl, rfl, hv0, hD0, s7⟩
      rw [List.getElem?_map] at hi
      obtain ⟨z, hz, rfl⟩ := Option.map_eq_some_iff.mp hi
      obtain ⟨r, hr0, hf, hg, hstep⟩ := hw.step hz
      have hsl := said_len n6 hw c (Nat.le_of_lt (List.getElem?_eq_some_iff.mp hz).1)
      have hcl := (List.getElem?_eq_some_iff.mp hz).1
      rw [hstep]
      generalize runF k ns rs (i, st.map (· % 2 ^ k), []) (nums.take c) = qc at hr0 hg hstep hsl hv0 hD0 ⊢
      have hm := List.mem_of_getElem? hr0
      have S7 := S5.trans s7
      have hnD : H5 Ds = none := hDs
      walk_at "lk"
      refine ⟨.inl ⟨rfl, _, SqL.of hD0⟩, ?_⟩
      walk_at "lk"
      refine ⟨x, _, v0, k, ns, rs, r, qc.2.1, rfl, hx.lc (Lc.of S7), hg.r0, hr0, hw.ok r hm, hlow r hm, n6, hk, hg.len, hg.inr, hv0, fun D2 H8 s8 h8 => ?_⟩
      walk_at "lk"
      refine ⟨Ds, D2, _, _, rfl, rfl, s8 _ _ hD0, h8, ?_, ?_⟩
      · rw [List.length_map, List.length_map]
        have h6l : (sdM k r qc.2.1).length ≤ 6 := by
          cases r with
          | look j => show qc.2.1.length ≤ 6; have := hg.len; omega
          | say f j => exact (by decide : 1 ≤ 6)
          | _ => exact Nat.zero_le _
        have hsl' : qc.2.2.length ≤ 0 + 6 * c := hsl
        exact Nat.le_of_lt (small1000 (by omega))
      · walk_at "lk"
        have S9 : Same H5 (upd H8 Ds (.lst (qc.2.2.map V.int ++ (sdM k r qc.2.1).map V.int))) := same_updN (s7.trans s8) hDs
        have nv : v0 ≠ Ds := fun y => by
          rw [y, hD0] at hv0
          cases hv0
        have hv9 : (upd H8 Ds (.lst (qc.2.2.map V.int ++ (sdM k r qc.2.1).map V.int))) v0 = some (.tup ((1 :: qc.2.1).map V.int)) := by
          rw [upd_ne nv]
          exact s8 _ _ hv0
        have hD9 : (upd H8 Ds (.lst (qc.2.2.map V.int ++ (sdM k r qc.2.1).map V.int))) Ds = some (.lst ((qc.2.2 ++ sdM k r qc.2.1).map V.int)) := by
          rw [upd_same, List.map_append]
        generalize upd H8 Ds (.lst (qc.2.2.map V.int ++ (sdM k r qc.2.1).map V.int)) = H9 at S9 hv9 hD9 ⊢
        have S59 := S5.trans S9
        refine ⟨x, _, z, v0, k, ns, rs, r, qc.2.1, rfl, hx.lc (Lc.of S59), hvz.same S59, hg.r0, hr0, hw.ok r hm, hlow r hm, n6, hk, hg.len, hv9, fun u H10 s10 hu => ?_⟩
        have S1 : Same H1 H10 := s2.trans (s3.trans (s4.trans (s5.trans (S9.trans s10))))
        walk_at "lk"
        refine ⟨Dg, us, rs, _, z, r, rfl, S1 _ _ hDg, hus.mono (fun v a h => ExH.ts (Ts.of S1) h), hg.r0, hr0, hf, ?_⟩
        exact ⟨_, _, _, rfl, rfl, hu, s10 _ _ hD9, S9.trans s10⟩
    · rintro σ' H' ⟨r0, v0, e, rfl, rfl, hv0, hD0, s7⟩
      rw [List.length_map, List.take_length] at hv0 hD0
      rw [List.length_map]
      rw [List.take_length]
      have hgl : (runF k ns rs (i, st.map (· % 2 ^ k), []) nums).2.1.length = ns.length := by
        have y := (good_run hw.ok hw.good hw.fits nums.length (Nat.le_refl _)).len
        rwa [List.take_length] at y
      generalize runF k ns rs (i, st.map (· % 2 ^ k), []) nums = qc at hv0 hD0 hgl q ⊢
      walk_at "lk"
      refine s_dropT (i := 1) (SqT.of hv0) (by omega) (by rw [List.length_map, List.length_cons]; omega) (by simp) fun p3 hp3 => ?_
      walk_at "lk"
      refine snw (Nat.le_of_ble_eq_true rfl) fun u hu => ?_
      refine q u _ (S5.trans (s7.trans ((same_new hp3).trans (same_new hu)))) ⟨p3, Ds, S5.free hDs, upd_same, ?_, ?_⟩
      · refine same_new hu _ _ ?_
        rw [upd_same]
        rfl
      · exact same_new hu _ _ (same_new hp3 _ _ hD0)
abbrev s_run : Stmt := top 60
theorem sc_run : FnScope ["program", "numbers"] ["program", "numbers"] (defScope s_run) := ⟨rfl, rfl, rfl, by decide +kernel, rfl, by decide +kernel, by decide +kernel⟩
theorem ok_run {f : Addr} {fd : FuncData} (F : Fun K "run" "run" s_run f fd) (T : Txt P w K mg base A) (c__behind : Cal P w K mg base 6 "_behind" ["program", "row", "state", "numbers"] (spBehind K A)) : FnOk P w K mg base CX0 7 f fd ["program", "numbers"] (spRun K A) := by
  refine F.ok sc_run (fun vs H Q E h => ?_) (fun cdv Ar outer s H vs Q E hr h => ?_)
  · obtain ⟨x, t, k, ns, rs, nums, rfl, _⟩ := h
    rfl
  · obtain ⟨x, t, k, ns, rs, nums, rfl, hx, hvz, hlow, hl, n1, n6, hk, ht, hnl, hw, q⟩ := h
    refine ⟨_, (pss_one (ps_ret (pcal c__behind hr (by decide) (pa_cons (pv 0) (pa_cons pe_int (pa_cons (pe_op op_repN (pe_tup (pa_cons pe_int pa_nil)) (pe_callB call_len_seq (by rfl) T.z_len PySem.boot_len (pa_cons (pe_fld (pv 0) rfl) pa_nil))) (pa_cons (pv 1) pa_nil))))))), ?_⟩
    have hx' := hx
    obtain ⟨dx, tv, tr, us, h0, h1, h2, h3⟩ := hx'
    have z0 : (List.replicate ns.length (0 : Int)).map (· % 2 ^ k) = List.replicate ns.length 0 := by
      rw [List.map_replicate]
      rfl
    walk_at "lk"
    refine snw (Nat.le_of_ble_eq_true rfl) fun p1 hp1 => ?_
    have s1 : Same H (upd H p1 (.tup [.int 0])) := same_new hp1
    have e1 : (upd H p1 (.tup [.int 0])) p1 = some (.tup [.int 0]) := upd_same
    generalize upd H p1 (.tup [.int 0]) = H1 at s1 e1 ⊢
    walk_at "lk"
    refine ⟨x, A.Program, dx, _, _, rfl, s1 _ _ h0, T.c_Program, T.n_variables, rfl, ?_⟩
    walk_at "lk"
    refine ⟨tv, _, rfl, .inr (same_sqT s1 h1), ?_⟩
    rw [List.length_map]
    refine s_repN (n := ns.length) (SqT.of e1) n1 (by omega) fun p2 H2 s2 hp2 => ?_
    walk_at "lk"
    have S := s1.trans s2
    refine ⟨x, p2, t, 0, List.replicate ns.length 0, k, ns, rs, nums, rfl, hx.lc (Lc.of S), hvz.same S, hlow, hl, n1, n6, hk, .inr (by rw [List.map_replicate]; exact hp2), ht.same S, hnl, by rw [z0]; exact hw, fun u H3 s3 h => ?_⟩
    rw [z0] at h
    exact q u H3 (S.trans s3) (h.of S)
end
end K42

namespace K42
open PySem PySem.Spec PyProof.Rows L2 RZ Lk
local macro_rules | `(tactic| walk_at "lk") => `(tactic| (repeat (first
  | with_reducible refine ssq ?_ | with_reducible refine sas ?_ | with_reducible refine sgn ?_ | ((with_reducible show tVar _ _ _ _); refine sv rfl ?_) | with_reducible refine sc ?_ | with_reducible refine sop ?_ | with_reducible refine sun ?_
  | with_reducible refine sI0 ?_ | with_reducible refine sU ?_ | with_reducible refine stt ?_ | with_reducible refine stB ?_ | with_reducible refine sbl ?_ | with_reducible refine snt ?_ | with_reducible refine sif ?_ | with_reducible refine scB ?_
  | with_reducible refine scn ?_ | with_reducible refine snl ?_ | with_reducible refine scl ?_ | with_reducible refine stu ?_ | with_reducible refine sli ?_ | with_reducible refine sdr ?_ | with_reducible refine srt ?_ | with_reducible refine snx ?_ | with_reducible refine sfor ?_ | with_reducible refine sils ?_ | with_reducible refine sien ?_ | with_reducible refine sor ?_ | with_reducible refine sfg ?_
  | with_reducible refine sav ?_ | with_reducible refine sov ?_ | with_reducible refine snv ?_ | with_reducible refine sch ?_ | with_reducible refine san ?_ | with_reducible refine ssll ?_ | with_reducible refine spt ?_ | with_reducible refine snp ?_ | with_reducible refine sin ?_ | with_reducible refine sfl ?_ | with_reducible refine sfd ?_ | with_reducible refine sbm ?_ | with_reducible refine sifx ?_ | with_reducible refine smk ?_ | with_reducible refine ssli ?_ | with_reducible refine sbz ?_
  | ((with_reducible show Or _ _); first | refine Or.inl ⟨_, rfl, ?_⟩ | refine Or.inr ⟨_, rfl, ?_⟩))))

theorem ix_tupB {X : Cx} {K : PySem.W.Frag} (h : X.K = K) : IxR X (rIxT K) := by
  subst h
  exact ix_tup
theorem at_int {f : List Int} {i : Nat} {j : Int} (h : i < f.length) (e : j = (i : Int)) : atI (f.map V.int) j = some (.int (f.getD i 0)) := by
  subst e
  exact Lk.atI_nat (by rw [List.getElem?_map, List.getElem?_eq_getElem h, List.getD_eq_getElem?_getD, List.getElem?_eq_getElem h]; rfl)
theorem ix_nat {n j : Nat} (h : j < n) : ixN n (j : Int) = some j := by
  unfold ixN
  rw [if_pos (by omega), if_pos (by omega), Int.toNat_natCast]
theorem zip_range {f g : List Int} (h : f.length = g.length) : List.zipWith (· * ·) f g = (List.range g.length).map fun i => f.getD i 0 * g.getD i 0 := by
  refine List.ext_getElem (by simp [h]) fun i h1 h2 => ?_
  have a1 : i < f.length := by
    rw [List.length_zipWith] at h1
    omega
  have a2 : i < g.length := by omega
  rw [List.getElem_zipWith, List.getElem_map, List.getElem_range, List.getD_eq_getElem?_getD, List.getD_eq_getElem?_getD, List.getElem?_eq_getElem a1, List.getElem?_eq_getElem a2]
  rfl
theorem dot_sum {f st : List Int} (h : f.length = st.length + 1) : f.getD 0 0 + ((List.range st.length).map fun i => f.getD (i + 1) 0 * st.getD i 0).sum = dot f (1 :: st) := by
  cases f with
  | nil => cases h
  | cons x f =>
    have hl : f.length = st.length := by simpa using h
    show x + ((List.range st.length).map fun i => f.getD i 0 * st.getD i 0).sum = x * 1 + (List.zipWith (· * ·) f st).sum
    rw [zip_range hl, Int.mul_one]
def spVal (K : PySem.W.Frag) : Sp := fun vs H Q _ => ∃ (k : Nat) (a b : Addr) (f st : List Int), vs = [.int (k : Int), .ref a, .ref b] ∧ k ≤ 64 ∧ SqT K H a (f.map V.int) ∧ SqT K H b (st.map V.int) ∧ f.length = st.length + 1 ∧ st.length ≤ 6 ∧ (∀ x ∈ f, 0 ≤ x ∧ x < 2 ^ 64) ∧ ∀ H', Same H H' → Q (.int (valM k f st)) H'
/-- what one step of the law's own run returns -/
def TdS (H : Hp) (u : Addr) (q : Q3) : Prop := ∃ b D, H u = some (.tup [.int q.1, .ref b, .ref D]) ∧ H b = some (.tup (q.2.1.map V.int)) ∧ H D = some (.lst (q.2.2.map V.int))
def spStepL (K : PySem.W.Frag) : Sp := fun vs H Q _ => ∃ (k : Nat) (l b : Addr) (v : V) (ns : List Str) (m : Int) (r : LRow) (st : List Int) (y : Int), vs = [.int (k : Int), .ref l, v, .ref b, .int y] ∧ k ≤ 64 ∧ H l = some (.lst (ns.map V.str)) ∧ RowH H v r ∧ RowOk ns m r ∧ r.low k = r ∧ ns.length ≤ 6 ∧ SqT K H b (st.map V.int) ∧ st.length = ns.length ∧ fitM r y ∧
  ∀ u b' D' H', Same H H' → H' u = some (.tup [.int (nxM r y), .ref b', .ref D']) → H' b' = some (.tup ((stM k ns r st y).map V.int)) → H' D' = some (.lst ((sdM k r st).map V.int)) → Q (.ref u) H'
theorem s_index {K : PySem.W.Frag} {H : Hp} {l : Addr} {ns : List Str} {n : Str} {Q : VK} (hn : n ∈ ns) (hl : H l = some (.lst (ns.map V.str))) (q : Q (.int ((ns.idxOf n : Nat) : Int)) H) : rIndex K (.ref l) [.str n] H Q := by
  obtain ⟨i1, i2, i3⟩ := idx_at hn
  refine ⟨l, ns.map V.str, .str n, ns.idxOf n, .str n, rfl, rfl, SqL.of hl, rfl, Lk.flat_strs _, by rw [List.getElem?_map, i2]; rfl, ?_, fun m z hm hz => ?_, q⟩
  · show (n == n) = true
    exact beq_self_eq_true n
  · rw [List.getElem?_map] at hz
    obtain ⟨x, hx, rfl⟩ := Option.map_eq_some_iff.mp hz
    show (x == n) = false
    exact beq_eq_false_iff_ne.mpr fun e => i3 m hm (by rw [hx, e])
def spPick : Sp := fun vs H Q _ => ∃ (p : Addr) (v : V) (ns : List Str) (m : Int) (r : LRow), vs = [.ref p, v] ∧ Wl H p ∧ RowH H v r ∧ RowOk ns m r ∧ r ≠ .stop ∧ ∀ (y : Int) (H' : Hp), Wk p H H' → fitM r y → Q (.int y) H'

section
variable {P : Program} {w : World} {K : PySem.W.Frag} {mg : Str → Option Value} {base : Heap} {A : Ad}
abbrev s__law_value : Stmt := top 69
theorem sc__law_value : FnScope ["_law_width", "_law_form_here", "_law_state", "_law_k"] ["_law_width", "_law_form_here", "_law_state"] (defScope s__law_value) := ⟨rfl, rfl, rfl, by decide +kernel, rfl, by decide +kernel, by decide +kernel⟩
theorem ok_law_value {f : Addr} {fd : FuncData} (F : Fun K "_law_value" "_law_value" s__law_value f fd) (T : Txt P w K mg base A) : FnOk P w K mg base CX0 1 f fd ["_law_width", "_law_form_here", "_law_state"] (spVal K) := by
  refine F.ok sc__law_value (fun vs H Q E h => ?_) (fun cdv Ar outer s H vs Q E hr h => ?_)
  · obtain ⟨k, a, b, f, st, rfl, _⟩ := h
    rfl
  · obtain ⟨k, a, b, f, st, rfl, hk, ha, hb, hl, h6, hf, q⟩ := h
    refine ⟨_, (pss_one (ps_ret (pe_op op_mod (pe_callTy call_int1 (by rfl) T.z_int (by decide +kernel) (pa_cons (pe_op op_add (pe_ix ix_tup (pv 1) pe_int (fun _ _ => rfl)) (pe_callB (cr_sum rfl) (by rfl) T.z_sum (by decide +kernel) (pa_cons (pe_lc (own := [("_law_k", 3)]) (g := gName 3) (tt := tYes) rfl sc__law_value.nd (pi_range1 (by rfl) T.z_range (pa_cons (pe_callB call_len_seq (by rfl) T.z_len PySem.boot_len (pa_cons (pv 2) pa_nil)) pa_nil)) (blkOk_by (own := [("_law_k", 3)]) (N := ["_law_width", "_law_form_here", "_law_state", "_law_k"]) (sc := defScope s__law_value) (by decide +kernel)) (fun _ _ _ _ _ => pg_name (i := 3) sc__law_value.nd rfl (Or.inl rfl)) (fun _ _ _ _ _ => pts_nil) (fun _ _ _ _ _ => (pe_op op_mul (pe_ix (ix_tupB (K := K) (by rfl)) (pv 1) (pe_op op_add (pv 3) pe_int) (fun _ _ => rfl)) (pe_ix (ix_tupB (K := K) (by rfl)) (pv 2) (pv 3) (fun _ _ => rfl))))) pa_nil))) pa_nil)) (pe_op op_oneShl pe_int (pv 0))))), ?_⟩
    have p0 : (0 : Int) < 2 ^ k := Int.pow_pos (by decide)
    walk_at "lk"
    refine sft (v := .int (f.getD 0 0)) ha (at_int (i := 0) (by omega) rfl) ?_
    walk_at "lk"
    unfold tLc iRng1
    walk_at "lk"
    refine ⟨b, _, rfl, .inr hb, ?_⟩
    walk_at "lk"
    refine ⟨((st.map V.int).length : Int), rfl, by omega, by rw [List.length_map]; omega, fun D hD => ?_⟩
    rw [Int.toNat_natCast, List.length_map]
    refine tlc_rangeC (fun _ v (x : Int) => v = .int x) (fun i => f.getD (i + 1) 0 * st.getD i 0) (fun _ h => h) hD (by omega) (fun _ => rfl) (fun i H' hi s R r => ?_) (fun ys H' s e h => ?_)
    · have hx := hf (f.getD (i + 1) 0) (by rw [List.getD_eq_getElem?_getD, List.getElem?_eq_getElem (show i + 1 < f.length by omega)]; exact List.getElem_mem _)
      walk_at "lk"
      refine sft (v := .int (f.getD (i + 1) 0)) (same_sqT s ha) (at_int (i := i + 1) (by omega) (by omega)) ?_
      walk_at "lk"
      refine sft (v := .int (st.getD i 0)) (same_sqT s hb) (at_int (i := i) hi (by omega)) ?_
      walk_at "lk"
      refine sI (.inl ⟨by omega, hx.2⟩) ?_
      exact r _ _ (Same.refl _) rfl
    · rw [f2_ints_of h] at e
      walk_at "lk"
      refine ⟨D, _, rfl, SqL.of e, ?_⟩
      walk_at "lk"
      refine ⟨k, rfl, rfl, by omega, ?_⟩
      walk_at "lk"
      refine sI p0 ?_
      rw [dot_sum hl]
      exact q _ s
abbrev s__law_stepped : Stmt := top 70
theorem sc__law_stepped : FnScope ["_law_width", "_law_names", "_law_row_here", "_law_state", "_law_number_here", "_law_some", "_law_said"] ["_law_width", "_law_names", "_law_row_here", "_law_state", "_law_number_here"] (defScope s__law_stepped) := ⟨rfl, rfl, rfl, by decide +kernel, rfl, by decide +kernel, by decide +kernel⟩
theorem ok_law_stepped {f : Addr} {fd : FuncData} (F : Fun K "_law_stepped" "_law_stepped" s__law_stepped f fd) (T : Txt P w K mg base A) (c__law_value : Cal P w K mg base 1 "_law_value" ["_law_width", "_law_form_here", "_law_state"] (spVal K)) : FnOk P w K mg base CX0 2 f fd ["_law_width", "_law_names", "_law_row_here", "_law_state", "_law_number_here"] (spStepL K) := by
  refine F.ok sc__law_stepped (fun vs H Q E h => ?_) (fun cdv Ar outer s H vs Q E hr h => ?_)
  · obtain ⟨k, l, b, v, ns, m, r, st, y, rfl, _⟩ := h
    rfl
  · obtain ⟨k, l, b, v, ns, m, r, st, y, rfl, hk, hl, hv, hok, hlow, hn, hb, hst, hy, q⟩ := h
    refine ⟨_, (pss_cons (ps_par (i := 5) (j := 6) (by rfl) sc__law_stepped.nd rfl rfl (by decide) rfl rfl (pa_cons (pe_callTy call_list_of (by rfl) T.z_list (by decide +kernel) (pa_cons (pv 3) pa_nil)) (pa_cons (pe_lst pa_nil) pa_nil)) (by rfl))
        (pss_cons (ps_if (pt_cmpR op_eq (pe_ix ix_tup (pv 2) pe_int (fun _ _ => rfl)) pe_str (nomark _)) (pss_one (ps_asg (pcal c__law_value hr (by decide) (pa_cons (pv 0) (pa_cons (pe_ix ix_tup (pv 2) pe_int (fun _ _ => rfl)) (pa_cons (pv 3) pa_nil)))) (pg_sub (pv 5) (pe_bm PySem.F.plainAttrs_list PySem.F.slot_list_index PySem.F.type_list_index mt_index (pv 1) (pa_cons (pe_ix ix_tup (pv 2) pe_int (fun _ _ => rfl)) pa_nil)) set_list))) (pss_one (ps_if (pt_cmpR op_eq (pe_ix ix_tup (pv 2) pe_int (fun _ _ => rfl)) pe_str (nomark _)) (pss_one (ps_asg (pe_op op_mod (pe_callTy call_int1 (by rfl) T.z_int (by decide +kernel) (pa_cons (pv 4) pa_nil)) (pe_op op_oneShl pe_int (pv 0))) (pg_sub (pv 5) (pe_bm PySem.F.plainAttrs_list PySem.F.slot_list_index PySem.F.type_list_index mt_index (pv 1) (pa_cons (pe_ix ix_tup (pv 2) pe_int (fun _ _ => rfl)) pa_nil)) set_list))) (pss_one (ps_if (pt_cmpR op_eq (pe_ix ix_tup (pv 2) pe_int (fun _ _ => rfl)) pe_str (nomark _)) (pss_one (ps_set (i := 6) sc__law_stepped.nd rfl (Or.inl rfl) (pe_lst (pa_cons (pcal c__law_value hr (by decide) (pa_cons (pv 0) (pa_cons (pe_ix ix_tup (pv 2) pe_int (fun _ _ => rfl)) (pa_cons (pv 3) pa_nil)))) pa_nil)))) (pss_one (ps_if (pt_cmpR op_eq (pe_ix ix_tup (pv 2) pe_int (fun _ _ => rfl)) pe_str (nomark _)) (pss_one (ps_set (i := 6) sc__law_stepped.nd rfl (Or.inl rfl) (pe_callTy call_list_of (by rfl) T.z_list (by decide +kernel) (pa_cons (pv 3) pa_nil)))) pss_nil)))))))
        (pss_one (ps_ret (pe_tup (pa_cons (pe_ifExp (pt_cmpR op_eq (pe_ix ix_tup (pv 2) pe_int (fun _ _ => rfl)) pe_str (nomark _)) (pe_ix ix_tup (pe_ix ix_tup (pv 2) pe_int (fun _ _ => rfl)) (pv 4) (fun _ _ => rfl)) (pe_ix ix_tup (pv 2) (pe_un un_neg pe_int) (fun _ _ => rfl))) (pa_cons (pe_callTy call_tupOf (by rfl) T.z_tuple (by decide +kernel) (pa_cons (pv 5) pa_nil)) (pa_cons (pv 6) pa_nil)))))))), ?_⟩
    have p0 : (0 : Int) < 2 ^ k := Int.pow_pos (by decide)
    refine spr ?_
    walk_at "lk"
    refine ⟨b, _, rfl, .inr hb, fun L1 hL1 => ?_⟩
    have s1 : Same H (upd H L1 (.lst (st.map V.int))) := same_new hL1
    have e1 : (upd H L1 (.lst (st.map V.int))) L1 = some (.lst (st.map V.int)) := upd_same
    generalize upd H L1 (.lst (st.map V.int)) = H1 at s1 e1 ⊢
    walk_at "lk"
    refine snw (Nat.le_of_ble_eq_true rfl) fun L2 hL2 => ?_
    have s2 : Same H1 (upd H1 L2 (.lst [])) := same_new hL2
    have e2 : (upd H1 L2 (.lst [])) L2 = some (.lst []) := upd_same
    have e12 := s2 _ _ e1
    have n12 : L2 ≠ L1 := fun z => by
      rw [z, e1] at hL2
      cases hL2
    generalize upd H1 L2 (.lst []) = H2 at s2 e2 e12 ⊢
    have S := s1.trans s2
    replace hl := S _ _ hl
    replace hv := hv.ts (Ts.of S)
    replace hb := same_sqT S hb
    walk_at "lk"
    refine ⟨_, _, rfl, ?_⟩
    walk_at "lk"
    cases r with
    | set n f j =>
      obtain ⟨a, c, rfl, ha, hc⟩ := hv
      refine sft (SqT.of ha) (by rfl) ?_
      walk_at "lk"
      refine sEq rfl ?_
      walk_at "lk"
      refine itt_ (decide_eq_true rfl) ?_
      walk_at "lk"
      refine sft (SqT.of ha) (by rfl) ?_
      walk_at "lk"
      refine ⟨k, c, b, f, st, rfl, hk, SqT.of hc, hb, by rw [hok.2.1, hst], by omega, low_form (by injection hlow) hk, fun H3 s3 => ?_⟩
      walk_at "lk"
      refine ⟨.inl ⟨rfl, _, SqL.of (s3 _ _ hl)⟩, ?_⟩
      walk_at "lk"
      refine sft (SqT.of (s3 _ _ ha)) (by rfl) ?_
      walk_at "lk"
      refine s_index hok.1 (s3 _ _ hl) ?_
      have hi := (idx_at hok.1).1
      refine ssl (j := ns.idxOf n) (s3 _ _ e12) (ix_nat (by rw [List.length_map, hst]; exact hi)) ?_
      rw [show (st.map V.int).set (ns.idxOf n) (.int (valM k f st)) = (st.set (ns.idxOf n) (valM k f st)).map V.int from List.map_set.symm]
      have s4 : Same H (upd H3 L1 (.lst ((st.set (ns.idxOf n) (valM k f st)).map V.int))) := same_updN (S.trans s3) hL1
      have e4 : (upd H3 L1 (.lst ((st.set (ns.idxOf n) (valM k f st)).map V.int))) L1 = some (.lst ((st.set (ns.idxOf n) (valM k f st)).map V.int)) := upd_same
      have f4 : (upd H3 L1 (.lst ((st.set (ns.idxOf n) (valM k f st)).map V.int))) L2 = some (.lst []) := by
        rw [upd_ne n12]
        exact s3 _ _ e2
      have na : a ≠ L1 := fun z => by
        rw [z, e12] at ha
        cases ha
      replace ha : (upd H3 L1 (.lst ((st.set (ns.idxOf n) (valM k f st)).map V.int))) a = _ := (upd_ne na).trans (s3 _ _ ha)
      generalize upd H3 L1 (.lst ((st.set (ns.idxOf n) (valM k f st)).map V.int)) = H4 at s4 e4 f4 ha ⊢
      walk_at "lk"
      refine sft (SqT.of ha) (by rfl) ?_
      walk_at "lk"
      refine sEq rfl ?_
      walk_at "lk"
      refine iff_ (decide_eq_false (by decide +kernel)) ?_
      walk_at "lk"
      refine sft (SqT.of ha) (by rfl) ?_
      walk_at "lk"
      refine s_tupL e4 fun b9 H9 s9 _ hb9 => ?_
      walk_at "lk"
      refine snw (Nat.le_of_ble_eq_true rfl) fun u hu => ?_
      exact q u b9 L2 _ (s4.trans (s9.trans (same_new hu))) upd_same (same_new hu _ _ hb9) (same_new hu _ _ (s9 _ _ f4))
    | say f j =>
      obtain ⟨a, c, rfl, ha, hc⟩ := hv
      refine sft (SqT.of ha) (by rfl) ?_
      walk_at "lk"
      refine sEq rfl ?_
      walk_at "lk"
      refine iff_ (decide_eq_false (by decide +kernel)) ?_
      walk_at "lk"
      refine sft (SqT.of ha) (by rfl) ?_
      walk_at "lk"
      refine sEq rfl ?_
      walk_at "lk"
      refine iff_ (decide_eq_false (by decide +kernel)) ?_
      walk_at "lk"
      refine sft (SqT.of ha) (by rfl) ?_
      walk_at "lk"
      refine sEq rfl ?_
      walk_at "lk"
      refine itt_ (decide_eq_true rfl) ?_
      walk_at "lk"
      refine sft (SqT.of ha) (by rfl) ?_
      walk_at "lk"
      refine ⟨k, c, b, f, st, rfl, hk, SqT.of hc, hb, by rw [hok.1, hst], by omega, low_form (by injection hlow) hk, fun H3 s3 => ?_⟩
      walk_at "lk"
      refine snw (Nat.le_of_ble_eq_true rfl) fun L3 hL3 => ?_
      have s4 := same_new (o := .lst [V.int (valM k f st)]) hL3
      have e4 : (upd H3 L3 (.lst [V.int (valM k f st)])) L3 = some (.lst [V.int (valM k f st)]) := upd_same
      generalize upd H3 L3 (.lst [V.int (valM k f st)]) = H4 at s4 e4 ⊢
      walk_at "lk"
      replace ha := s4 _ _ (s3 _ _ ha)
      refine sft (SqT.of ha) (by rfl) ?_
      walk_at "lk"
      refine sEq rfl ?_
      walk_at "lk"
      refine iff_ (decide_eq_false (by decide +kernel)) ?_
      walk_at "lk"
      refine sft (SqT.of ha) (by rfl) ?_
      walk_at "lk"
      refine s_tupL (s4 _ _ (s3 _ _ e12)) fun b9 H9 s9 _ hb9 => ?_
      walk_at "lk"
      refine snw (Nat.le_of_ble_eq_true rfl) fun u hu => ?_
      exact q u b9 L3 _ ((S.trans (s3.trans s4)).trans (s9.trans (same_new hu))) upd_same (same_new hu _ _ hb9) (same_new hu _ _ (s9 _ _ e4))
    | ask n j =>
      obtain ⟨a, rfl, ha⟩ := hv
      refine sft (SqT.of ha) (by rfl) ?_
      walk_at "lk"
      refine sEq rfl ?_
      walk_at "lk"
      refine iff_ (decide_eq_false (by decide +kernel)) ?_
      walk_at "lk"
      refine sft (SqT.of ha) (by rfl) ?_
      walk_at "lk"
      refine sEq rfl ?_
      walk_at "lk"
      refine itt_ (decide_eq_true rfl) ?_
      walk_at "lk"
      refine ⟨k, rfl, rfl, by omega, ?_⟩
      walk_at "lk"
      refine sI p0 ?_
      walk_at "lk"
      obtain ⟨H3, hH3⟩ : ∃ H3, H3 = H2 := ⟨_, rfl⟩
      have s3 : Same H2 H3 := hH3 ▸ Same.refl _
      rw [← hH3]
      refine ⟨.inl ⟨rfl, _, SqL.of (s3 _ _ hl)⟩, ?_⟩
      walk_at "lk"
      refine sft (SqT.of (s3 _ _ ha)) (by rfl) ?_
      walk_at "lk"
      refine s_index hok.1 (s3 _ _ hl) ?_
      have hi := (idx_at hok.1).1
      refine ssl (j := ns.idxOf n) (s3 _ _ e12) (ix_nat (by rw [List.length_map, hst]; exact hi)) ?_
      rw [show (st.map V.int).set (ns.idxOf n) (.int (y % 2 ^ k)) = (st.set (ns.idxOf n) (y % 2 ^ k)).map V.int from List.map_set.symm]
      have s4 : Same H (upd H3 L1 (.lst ((st.set (ns.idxOf n) (y % 2 ^ k)).map V.int))) := same_updN (S.trans s3) hL1
      have e4 : (upd H3 L1 (.lst ((st.set (ns.idxOf n) (y % 2 ^ k)).map V.int))) L1 = some (.lst ((st.set (ns.idxOf n) (y % 2 ^ k)).map V.int)) := upd_same
      have f4 : (upd H3 L1 (.lst ((st.set (ns.idxOf n) (y % 2 ^ k)).map V.int))) L2 = some (.lst []) := by
        rw [upd_ne n12]
        exact s3 _ _ e2
      have na : a ≠ L1 := fun z => by
        rw [z, e12] at ha
        cases ha
      replace ha : (upd H3 L1 (.lst ((st.set (ns.idxOf n) (y % 2 ^ k)).map V.int))) a = _ := (upd_ne na).trans (s3 _ _ ha)
      generalize upd H3 L1 (.lst ((st.set (ns.idxOf n) (y % 2 ^ k)).map V.int)) = H4 at s4 e4 f4 ha ⊢
      walk_at "lk"
      refine sft (SqT.of ha) (by rfl) ?_
      walk_at "lk"
      refine sEq rfl ?_
      walk_at "lk"
      refine iff_ (decide_eq_false (by decide +kernel)) ?_
      walk_at "lk"
      refine sft (SqT.of ha) (by rfl) ?_
      walk_at "lk"
      refine s_tupL e4 fun b9 H9 s9 _ hb9 => ?_
      walk_at "lk"
      refine snw (Nat.le_of_ble_eq_true rfl) fun u hu => ?_
      exact q u b9 L2 _ (s4.trans (s9.trans (same_new hu))) upd_same (same_new hu _ _ hb9) (same_new hu _ _ (s9 _ _ f4))
    | look j =>
      obtain ⟨a, rfl, ha⟩ := hv
      refine sft (SqT.of ha) (by rfl) ?_
      walk_at "lk"
      refine sEq rfl ?_
      walk_at "lk"
      refine iff_ (decide_eq_false (by decide +kernel)) ?_
      walk_at "lk"
      refine sft (SqT.of ha) (by rfl) ?_
      walk_at "lk"
      refine sEq rfl ?_
      walk_at "lk"
      refine iff_ (decide_eq_false (by decide +kernel)) ?_
      walk_at "lk"
      refine sft (SqT.of ha) (by rfl) ?_
      walk_at "lk"
      refine sEq rfl ?_
      walk_at "lk"
      refine iff_ (decide_eq_false (by decide +kernel)) ?_
      walk_at "lk"
      refine sft (SqT.of ha) (by rfl) ?_
      walk_at "lk"
      refine sEq rfl ?_
      walk_at "lk"
      refine itt_ (decide_eq_true rfl) ?_
      walk_at "lk"
      refine ⟨b, _, rfl, .inr hb, fun L3 hL3 => ?_⟩
      have s4 := same_new (o := .lst (st.map V.int)) hL3
      have e4 : (upd H2 L3 (.lst (st.map V.int))) L3 = some (.lst (st.map V.int)) := upd_same
      generalize upd H2 L3 (.lst (st.map V.int)) = H4 at s4 e4 ⊢
      walk_at "lk"
      replace ha := s4 _ _ ha
      refine sft (SqT.of ha) (by rfl) ?_
      walk_at "lk"
      refine sEq rfl ?_
      walk_at "lk"
      refine iff_ (decide_eq_false (by decide +kernel)) ?_
      walk_at "lk"
      refine sft (SqT.of ha) (by rfl) ?_
      walk_at "lk"
      refine s_tupL (s4 _ _ e12) fun b9 H9 s9 _ hb9 => ?_
      walk_at "lk"
      refine snw (Nat.le_of_ble_eq_true rfl) fun u hu => ?_
      exact q u b9 L3 _ ((S.trans s4).trans (s9.trans (same_new hu))) upd_same (same_new hu _ _ hb9) (same_new hu _ _ (s9 _ _ e4))
    | choose ks =>
      obtain ⟨a, c, rfl, ha, hc⟩ := hv
      refine sft (SqT.of ha) (by rfl) ?_
      walk_at "lk"
      refine sEq rfl ?_
      walk_at "lk"
      refine iff_ (decide_eq_false (by decide +kernel)) ?_
      walk_at "lk"
      refine sft (SqT.of ha) (by rfl) ?_
      walk_at "lk"
      refine sEq rfl ?_
      walk_at "lk"
      refine iff_ (decide_eq_false (by decide +kernel)) ?_
      walk_at "lk"
      refine sft (SqT.of ha) (by rfl) ?_
      walk_at "lk"
      refine sEq rfl ?_
      walk_at "lk"
      refine iff_ (decide_eq_false (by decide +kernel)) ?_
      walk_at "lk"
      refine sft (SqT.of ha) (by rfl) ?_
      walk_at "lk"
      refine sEq rfl ?_
      walk_at "lk"
      refine iff_ (decide_eq_false (by decide +kernel)) ?_
      walk_at "lk"
      refine sft (SqT.of ha) (by rfl) ?_
      walk_at "lk"
      refine sEq rfl ?_
      walk_at "lk"
      refine itt_ (decide_eq_true rfl) ?_
      walk_at "lk"
      refine sft (SqT.of ha) (by rfl) ?_
      walk_at "lk"
      obtain ⟨y0, y1⟩ := hy
      refine sft (v := .int (ks.getD y.toNat 0)) (SqT.of hc) (at_int (by omega) (by omega)) ?_
      walk_at "lk"
      refine s_tupL e12 fun b9 H9 s9 _ hb9 => ?_
      walk_at "lk"
      refine snw (Nat.le_of_ble_eq_true rfl) fun u hu => ?_
      exact q u b9 L2 _ (S.trans (s9.trans (same_new hu))) upd_same (same_new hu _ _ hb9) (same_new hu _ _ (s9 _ _ e2))
    | stop => exact hy.elim
abbrev s__law_picked : Stmt := top 71
theorem sc__law_picked : FnScope ["_law_well", "_law_row_here"] ["_law_well", "_law_row_here"] (defScope s__law_picked) := ⟨rfl, rfl, rfl, by decide +kernel, rfl, by decide +kernel, by decide +kernel⟩
theorem ok_law_picked {f : Addr} {fd : FuncData} (F : Fun K "_law_picked" "_law_picked" s__law_picked f fd) (T : Txt P w K mg base A) (c__law_draw : Cal P w K mg base 1 "_law_draw" ["_law_well", "_law_many"] spDraw) (c__law_one : Cal P w K mg base 2 "_law_one" ["_law_well", "_law_some"] spOne) : FnOk P w K mg base CX0 3 f fd ["_law_well", "_law_row_here"] spPick := by
  refine F.ok sc__law_picked (fun vs H Q E h => ?_) (fun cdv Ar outer s H vs Q E hr h => ?_)
  · obtain ⟨p, v, ns, m, r, rfl, _⟩ := h
    rfl
  · obtain ⟨p, v, ns, m, r, rfl, hw, hv, hok, hs, q⟩ := h
    refine ⟨_, (pss_cons (ps_if (pt_cmpR op_eq (pe_ix ix_tup (pv 1) pe_int (fun _ _ => rfl)) pe_str (nomark _)) (pss_one (ps_ret (pcal c__law_draw hr (by decide) (pa_cons (pv 0) (pa_cons (pe_callB call_len_seq (by rfl) T.z_len PySem.boot_len (pa_cons (pe_ix ix_tup (pv 1) pe_int (fun _ _ => rfl)) pa_nil)) pa_nil))))) pss_nil)
        (pss_one (ps_ret (pe_ifExp (pt_cmpR op_eq (pe_ix ix_tup (pv 1) pe_int (fun _ _ => rfl)) pe_str (nomark _)) (pcal c__law_one hr (by decide) (pa_cons (pv 0) (pa_cons (pe_lst (pa_cons pe_int (pa_cons pe_int (pa_cons pe_int (pa_cons (pe_un un_neg pe_int) (pa_cons (pe_op op_add (pe_op op_pow pe_int pe_int) pe_int) (pa_cons (pcal c__law_draw hr (by decide) (pa_cons (pv 0) (pa_cons (pe_op op_pow pe_int pe_int) pa_nil))) pa_nil))))))) pa_nil))) pe_int)))), ?_⟩
    cases r with
    | stop => exact absurd rfl hs
    | choose ks =>
      obtain ⟨a, c, rfl, ha, hc⟩ := hv
      walk_at "lk"
      refine sft (SqT.of ha) (by rfl) ?_
      walk_at "lk"
      refine sEq rfl ?_
      walk_at "lk"
      refine itt_ (decide_eq_true rfl) ?_
      walk_at "lk"
      refine sft (SqT.of ha) (by rfl) ?_
      walk_at "lk"
      refine ⟨c, _, rfl, .inr (SqT.of hc), ?_⟩
      walk_at "lk"
      have h1 : 1 ≤ ks.length ∧ ks.length ≤ 6 := ⟨hok.1, hok.2.1⟩
      refine ⟨p, _, rfl, by rw [List.length_map]; omega, by rw [List.length_map]; exact Nat.lt_of_le_of_lt (show ((ks.length : Int)).natAbs ≤ 6 by omega) (by decide), hw, fun z H1 z0 z1 w1 => ?_⟩
      rw [List.length_map] at z1
      exact q z H1 w1 ⟨z0, z1⟩
    | ask n j =>
      obtain ⟨a, rfl, ha⟩ := hv
      walk_at "lk"
      refine sft (SqT.of ha) (by rfl) ?_
      walk_at "lk"
      refine sEq rfl ?_
      walk_at "lk"
      refine iff_ (decide_eq_false (by decide +kernel)) ?_
      walk_at "lk"
      refine sft (SqT.of ha) (by rfl) ?_
      walk_at "lk"
      refine sEq rfl ?_
      walk_at "lk"
      refine itt_ (decide_eq_true rfl) ?_
      walk_at "lk"
      refine sI ⟨by decide, by decide, by decide⟩ ?_
      walk_at "lk"
      refine sI ⟨by decide, by decide, by decide⟩ ?_
      walk_at "lk"
      refine ⟨p, _, rfl, by decide, by decide, hw, fun z H1 z0 z1 w1 => ?_⟩
      walk_at "lk"
      refine snw (Nat.le_of_ble_eq_true rfl) fun d hd => ?_
      have nd : d ≠ p := ne_new w1.2 hd
      refine ⟨p, d, _, rfl, (w1.st (same_new hd)).2, nd, upd_same, Nat.le_of_ble_eq_true rfl, Nat.le_of_ble_eq_true rfl, fun v H2 hv w2 => ?_⟩
      have hi : ∃ t, v = .int t := by
        simp only [List.mem_cons, List.not_mem_nil, or_false] at hv
        rcases hv with e | e | e | e | e | e
        all_goals exact ⟨_, e⟩
      obtain ⟨t, rfl⟩ := hi
      exact q t H2 ((w1.st (same_new hd)).trans w2) trivial
    | set n f j =>
      obtain ⟨a, c, rfl, ha, hc⟩ := hv
      walk_at "lk"
      refine sft (SqT.of ha) (by rfl) ?_
      walk_at "lk"
      refine sEq rfl ?_
      walk_at "lk"
      refine iff_ (decide_eq_false (by decide +kernel)) ?_
      walk_at "lk"
      refine sft (SqT.of ha) (by rfl) ?_
      walk_at "lk"
      refine sEq rfl ?_
      walk_at "lk"
      refine iff_ (decide_eq_false (by decide +kernel)) ?_
      walk_at "lk"
      exact q 0 H (Wk.refl hw) rfl
    | say f j =>
      obtain ⟨a, c, rfl, ha, hc⟩ := hv
      walk_at "lk"
      refine sft (SqT.of ha) (by rfl) ?_
      walk_at "lk"
      refine sEq rfl ?_
      walk_at "lk"
      refine iff_ (decide_eq_false (by decide +kernel)) ?_
      walk_at "lk"
      refine sft (SqT.of ha) (by rfl) ?_
      walk_at "lk"
      refine sEq rfl ?_
      walk_at "lk"
      refine iff_ (decide_eq_false (by decide +kernel)) ?_
      walk_at "lk"
      exact q 0 H (Wk.refl hw) rfl
    | look j =>
      obtain ⟨a, rfl, ha⟩ := hv
      walk_at "lk"
      refine sft (SqT.of ha) (by rfl) ?_
      walk_at "lk"
      refine sEq rfl ?_
      walk_at "lk"
      refine iff_ (decide_eq_false (by decide +kernel)) ?_
      walk_at "lk"
      refine sft (SqT.of ha) (by rfl) ?_
      walk_at "lk"
      refine sEq rfl ?_
      walk_at "lk"
      refine iff_ (decide_eq_false (by decide +kernel)) ?_
      walk_at "lk"
      exact q 0 H (Wk.refl hw) rfl
end
end K42

namespace K42
open PySem PySem.Spec PyProof.Rows L2 RZ Lk
local macro_rules | `(tactic| walk_at "lk") => `(tactic| (repeat (first
  | with_reducible refine ssq ?_ | with_reducible refine sas ?_ | with_reducible refine sgn ?_ | ((with_reducible show tVar _ _ _ _); refine sv rfl ?_) | with_reducible refine sc ?_ | with_reducible refine sop ?_ | with_reducible refine sun ?_
  | with_reducible refine sI0 ?_ | with_reducible refine sU ?_ | with_reducible refine stt ?_ | with_reducible refine stB ?_ | with_reducible refine sbl ?_ | with_reducible refine snt ?_ | with_reducible refine sif ?_ | with_reducible refine scB ?_
  | with_reducible refine scn ?_ | with_reducible refine snl ?_ | with_reducible refine scl ?_ | with_reducible refine stu ?_ | with_reducible refine sli ?_ | with_reducible refine sdr ?_ | with_reducible refine srt ?_ | with_reducible refine snx ?_ | with_reducible refine sfor ?_ | with_reducible refine sils ?_ | with_reducible refine sien ?_ | with_reducible refine sor ?_ | with_reducible refine sfg ?_
  | with_reducible refine sav ?_ | with_reducible refine sov ?_ | with_reducible refine snv ?_ | with_reducible refine sch ?_ | with_reducible refine san ?_ | with_reducible refine ssll ?_ | with_reducible refine spt ?_ | with_reducible refine snp ?_ | with_reducible refine sin ?_ | with_reducible refine sfl ?_ | with_reducible refine sfd ?_ | with_reducible refine sbm ?_ | with_reducible refine sifx ?_ | with_reducible refine smk ?_ | with_reducible refine ssli ?_ | with_reducible refine sbz ?_
  | ((with_reducible show Or _ _); first | refine Or.inl ⟨_, rfl, ?_⟩ | refine Or.inr ⟨_, rfl, ?_⟩))))

theorem g_trip {K : PySem.W.Frag} {H : Hp} {σ : L2.St} {i j k : Nat} {x y z : V} {p : Addr} {R : L2.St → Hp → Prop} (h : SqT K H p [x, y, z]) (q : R (((σ.set i (some x)).set j (some y)).set k (some z)) H) : gTup K 3 (gCons (gName i) (gCons (gName j) (gCons (gName k) gNil))) (.ref p) σ H R :=
  ⟨p, [x, y, z], rfl, h, rfl, x, [y, z], rfl, y, [z], rfl, z, [], rfl, rfl, q⟩
def kd : LRow → Str
  | .set _ _ _ => "set"
  | .say _ _ => "say"
  | .ask _ _ => "ask"
  | .choose _ => "choose"
  | .look _ => "look"
  | .stop => "stop"
theorem row_kd {H : Hp} {v : V} {r : LRow} (h : RowH H v r) : ∃ a xs, v = .ref a ∧ H a = some (.tup xs) ∧ atI xs 0 = some (.str (kd r)) := by
  cases r with
  | set n f j => obtain ⟨a, b, e, ha, hb⟩ := h; exact ⟨a, _, e, ha, rfl⟩
  | say f j => obtain ⟨a, b, e, ha, hb⟩ := h; exact ⟨a, _, e, ha, rfl⟩
  | choose ks => obtain ⟨a, b, e, ha, hb⟩ := h; exact ⟨a, _, e, ha, rfl⟩
  | ask n j => obtain ⟨a, e, ha⟩ := h; exact ⟨a, _, e, ha, rfl⟩
  | look j => obtain ⟨a, e, ha⟩ := h; exact ⟨a, _, e, ha, rfl⟩
  | stop => obtain ⟨a, e, ha⟩ := h; exact ⟨a, _, e, ha, rfl⟩
theorem kd_stop {r : LRow} : V.str (kd r) = V.str "stop" ↔ r = .stop := by
  cases r with
  | stop => exact ⟨fun _ => rfl, fun _ => rfl⟩
  | set n f j => exact ⟨fun e => absurd (show V.str "set" = V.str "stop" from e) (by decide +kernel), fun e => by cases e⟩
  | say f j => exact ⟨fun e => absurd (show V.str "say" = V.str "stop" from e) (by decide +kernel), fun e => by cases e⟩
  | ask n j => exact ⟨fun e => absurd (show V.str "ask" = V.str "stop" from e) (by decide +kernel), fun e => by cases e⟩
  | choose ks => exact ⟨fun e => absurd (show V.str "choose" = V.str "stop" from e) (by decide +kernel), fun e => by cases e⟩
  | look j => exact ⟨fun e => absurd (show V.str "look" = V.str "stop" from e) (by decide +kernel), fun e => by cases e⟩
def spWalk (K : PySem.W.Frag) : Sp := fun vs H Q _ => ∃ (p l Dr b : Addr) (k : Nat) (us : List V) (ns : List Str) (rs : List LRow) (i most : Int) (st : List Int), vs = [.ref p, .int (k : Int), .ref l, .ref Dr, .int i, .ref b, .int most] ∧ k ≤ 64 ∧ Wl H p ∧ l ≠ p ∧ H l = some (.lst (ns.map V.str)) ∧ Dr ≠ p ∧ H Dr = some (.lst us) ∧ RowsH H us rs ∧ (∀ r ∈ rs, RowOk ns rs.length r) ∧ (∀ r ∈ rs, r.low k = r) ∧ ns.length ≤ 6 ∧ SqT K H b (st.map V.int) ∧ Good3 k ns.length rs.length (i, st, []) ∧ most ≤ 40 ∧
  ∀ (u Dn b' Ds : Addr) (nums : List Int) (H' : Hp), Wk p H H' → nums.length ≤ 40 → Fits k ns rs (i, st, []) nums → H' u = some (.tup [.ref Dn, .int (runF k ns rs (i, st, []) nums).1, .ref b', .ref Ds]) → Dn ≠ p → H' Dn = some (.lst (nums.map V.int)) → SqT K H' b' ((runF k ns rs (i, st, []) nums).2.1.map V.int) → Ds ≠ p → H' Ds = some (.lst ((runF k ns rs (i, st, []) nums).2.2.map V.int)) → Q (.ref u) H'

section
variable {P : Program} {w : World} {K : PySem.W.Frag} {mg : Str → Option Value} {base : Heap} {A : Ad}
abbrev s__law_walked : Stmt := top 72
theorem sc__law_walked : FnScope ["_law_well", "_law_width", "_law_names", "_law_rows_here", "_law_spot", "_law_state", "_law_most", "_law_numbers_so", "_law_said", "_law_number_here", "_law_more"] ["_law_well", "_law_width", "_law_names", "_law_rows_here", "_law_spot", "_law_state", "_law_most"] (defScope s__law_walked) := ⟨rfl, rfl, rfl, by decide +kernel, rfl, by decide +kernel, by decide +kernel⟩
theorem ok_law_walked {f : Addr} {fd : FuncData} (F : Fun K "_law_walked" "_law_walked" s__law_walked f fd) (T : Txt P w K mg base A) (c__law_picked : Cal P w K mg base 3 "_law_picked" ["_law_well", "_law_row_here"] spPick) (c__law_stepped : Cal P w K mg base 2 "_law_stepped" ["_law_width", "_law_names", "_law_row_here", "_law_state", "_law_number_here"] (spStepL K)) : FnOk P w K mg base CX0 4 f fd ["_law_well", "_law_width", "_law_names", "_law_rows_here", "_law_spot", "_law_state", "_law_most"] (spWalk K) := by
  refine F.ok sc__law_walked (fun vs H Q E h => ?_) (fun cdv Ar outer s H vs Q E hr h => ?_)
  · obtain ⟨p, l, Dr, b, k, us, ns, rs, i, most, st, rfl, _⟩ := h
    rfl
  · obtain ⟨p, l, Dr, b, k, us, ns, rs, i, most, st, rfl, hk, hw, nl, hl, nDr, hDr, hus, hok, hlow, hn, hb, hg, hm, q⟩ := h
    refine ⟨_, (pss_cons (ps_par (i := 7) (j := 8) (by rfl) sc__law_walked.nd rfl rfl (by decide) rfl rfl (pa_cons (pe_lst pa_nil) (pa_cons (pe_lst pa_nil) pa_nil)) (by rfl))
        (pss_cons (ps_while PassesOwn.never (PW.pt (pw_and (pt_cmpR op_lt (pe_callB call_len_seq (by rfl) T.z_len PySem.boot_len (pa_cons (pv 7) pa_nil)) (pv 6) (nomark _)) (pw_and1 (pt_cmpR op_ne (pe_ix ix_tup (pe_ix ix_list (pv 3) (pv 4) (fun _ _ => rfl)) pe_int (fun _ _ => rfl)) pe_str (nomark _))))) (pss_cons (ps_set (i := 9) sc__law_walked.nd rfl (Or.inl rfl) (pcal c__law_picked hr (by decide) (pa_cons (pv 0) (pa_cons (pe_ix ix_list (pv 3) (pv 4) (fun _ _ => rfl)) pa_nil))))
        (pss_cons (ps_expr (pe_bm PySem.F.plainAttrs_list PySem.F.slot_list_append PySem.F.type_list_append mt_append (pv 7) (pa_cons (pv 9) pa_nil)))
        (pss_cons (ps_asg (pcal c__law_stepped hr (by decide) (pa_cons (pv 1) (pa_cons (pv 2) (pa_cons (pe_ix ix_list (pv 3) (pv 4) (fun _ _ => rfl)) (pa_cons (pv 5) (pa_cons (pv 9) pa_nil)))))) (pg_tup rfl (pgs_cons (pg_name (i := 4) sc__law_walked.nd rfl (Or.inl rfl)) (pgs_cons (pg_name (i := 5) sc__law_walked.nd rfl (Or.inl rfl)) (pgs_cons (pg_name (i := 10) sc__law_walked.nd rfl (Or.inl rfl)) pgs_nil)))))
        (pss_one (ps_set (i := 8) sc__law_walked.nd rfl (Or.inl rfl) (pe_op op_cat (pv 8) (pv 10))))))))
        (pss_one (ps_ret (pe_tup (pa_cons (pv 7) (pa_cons (pv 4) (pa_cons (pv 5) (pa_cons (pv 8) pa_nil))))))))), ?_⟩
    refine spr ?_
    walk_at "lk"
    refine snw (Nat.le_of_ble_eq_true rfl) fun Dn hDn => ?_
    have s1 : Same H (upd H Dn (.lst [])) := same_new hDn
    have e1 : (upd H Dn (.lst [])) Dn = some (.lst []) := upd_same
    have nDn : Dn ≠ p := ne_new hw hDn
    generalize upd H Dn (.lst []) = H1 at s1 e1 ⊢
    walk_at "lk"
    refine snw (Nat.le_of_ble_eq_true rfl) fun Dz hDz => ?_
    have s2 : Same H1 (upd H1 Dz (.lst [])) := same_new hDz
    have e2 : (upd H1 Dz (.lst [])) Dz = some (.lst []) := upd_same
    have e12 := s2 _ _ e1
    have nDz : Dz ≠ p := ne_new (hw.same s1) hDz
    have n12 : Dz ≠ Dn := fun z => by
      rw [z, e1] at hDz
      cases hDz
    generalize upd H1 Dz (.lst []) = H2 at s2 e2 e12 ⊢
    have w2 : Wk p H H2 := Wk.of hw (s1.trans s2)
    walk_at "lk"
    refine ⟨_, _, rfl, ?_⟩
    refine ⟨fun mm σ' H' => ∃ (nums : List Int) (v Ds : Addr) (e9 e10 : Option V), mm = (40 - nums.length : Nat) ∧ σ' = [some (.ref p), some (.int (k : Int)), some (.ref l), some (.ref Dr), some (.int (runF k ns rs (i, st, []) nums).1), some (.ref v), some (.int most), some (.ref Dn), some (.ref Ds), e9, e10] ∧ Wk p H H' ∧ nums.length ≤ 40 ∧ Fits k ns rs (i, st, []) nums ∧ H' Dn = some (.lst (nums.map V.int)) ∧ SqT K H' v ((runF k ns rs (i, st, []) nums).2.1.map V.int) ∧ Ds ≠ p ∧ Ds ≠ Dn ∧ H' Ds = some (.lst ((runF k ns rs (i, st, []) nums).2.2.map V.int)), ⟨40, [], b, Dz, none, none, rfl, rfl, w2, Nat.zero_le _, fits_nil, e12, w2.sqT hw hb, nDz, n12, e2⟩, ?_⟩
    rintro mm σ' H' ⟨nums, v, Ds, e9, e10, rfl, rfl, w3, hnl, hfit, hDn', hv, nDs, nDD, hDs'⟩
    clear e2 n12 nDz e12 w2 s2 hDz
    have hgq : Good3 k ns.length rs.length (runF k ns rs (i, st, []) nums) := by
      have y := good_run hok hg hfit nums.length (Nat.le_refl _)
      rwa [List.take_length] at y
    have hlt : (runF k ns rs (i, st, []) nums).1.toNat < rs.length := by
      have := hgq.r0
      have := hgq.r1
      omega
    obtain ⟨r, hr0⟩ : ∃ r, rs[(runF k ns rs (i, st, []) nums).1.toNat]? = some r := ⟨_, List.getElem?_eq_getElem hlt⟩
    have hm0 := List.mem_of_getElem? hr0
    obtain ⟨vr, hu0, hrv⟩ := (hus.ts (w3.ts hw)).get hr0
    have hat : atI us (runF k ns rs (i, st, []) nums).1 = some vr := by
      have y := Lk.atI_nat hu0
      rwa [Int.toNat_of_nonneg hgq.r0] at y
    walk_at "lk"
    refine ⟨Dn, _, rfl, .inl (SqL.of hDn'), ?_⟩
    walk_at "lk"
    rw [List.length_map]
    by_cases c1 : (nums.length : Int) < most
    · refine itt_ (decide_eq_true c1) ?_
      walk_at "lk"
      refine sfr (SqL.of (w3.at nDr hDr)) hat ?_
      walk_at "lk"
      obtain ⟨ar, xr, rfl, har, hkr⟩ := row_kd hrv
      refine sft (SqT.of har) hkr ?_
      walk_at "lk"
      refine sNe rfl ?_
      walk_at "lk"
      by_cases c2 : r = .stop
      · refine iff_ (by rw [decide_eq_true (kd_stop.mpr c2)]; rfl) ?_
        walk_at "lk"
        refine snw (Nat.le_of_ble_eq_true rfl) fun u hu => ?_
        exact q u Dn v Ds nums _ (w3.st (same_new hu)) hnl hfit upd_same nDn (same_new hu _ _ hDn') (same_sqT (same_new hu) hv) nDs (same_new hu _ _ hDs')
      refine itt_ (by rw [decide_eq_false (fun e => c2 (kd_stop.mp e))]; rfl) ?_
      refine ⟨_, fun σ' H' h => h, ?_⟩
      have hsl : (runF k ns rs (i, st, []) nums).2.2.length ≤ 0 + 6 * nums.length := by
        have y := said_len hn (Way.mk hok hg hfit) nums.length (Nat.le_refl _)
        rwa [List.take_length] at y
      walk_at "lk"
      refine sfr (SqL.of (w3.at nDr hDr)) hat ?_
      walk_at "lk"
      refine ⟨p, .ref ar, ns, rs.length, r, rfl, w3.2, hrv, hok r hm0, c2, fun y H4 w4 hy => ?_⟩
      walk_at "lk"
      refine ⟨.inl ⟨rfl, _, SqL.of (w4.at nDn hDn')⟩, ?_⟩
      walk_at "lk"
      refine ⟨Dn, nums.map V.int, .int y, rfl, rfl, w4.at nDn hDn', by rw [List.length_map]; exact small1000 (by omega), ?_⟩
      have w5 : Wk p H (upd H4 Dn (.lst (nums.map V.int ++ [.int y]))) := (w3.trans w4).updD hDn nDn
      have e5 : (upd H4 Dn (.lst (nums.map V.int ++ [.int y]))) Dn = some (.lst ((nums ++ [y]).map V.int)) := by
        rw [upd_same, List.map_append]
        rfl
      have t5 : Ts H4 (upd H4 Dn (.lst (nums.map V.int ++ [.int y]))) := Ts.lst (w4.at nDn hDn')
      have d5 : (upd H4 Dn (.lst (nums.map V.int ++ [.int y]))) Ds = some (.lst ((runF k ns rs (i, st, []) nums).2.2.map V.int)) := by
        rw [upd_ne nDD]
        exact w4.at nDs hDs'
      have hrv5 := (hrv.ts (w4.ts w3.2)).ts t5
      have hv5 : SqT K (upd H4 Dn (.lst (nums.map V.int ++ [.int y]))) v ((runF k ns rs (i, st, []) nums).2.1.map V.int) := by
        rcases w4.sqT w3.2 hv with (h | ⟨o, h⟩) | h
        · exact .inl (.inl ((upd_ne (fun z => by rw [z, w4.at nDn hDn'] at h; cases h)).trans h))
        · exact .inl (.inr ⟨o, (upd_ne (fun z => by rw [z, w4.at nDn hDn'] at h; cases h)).trans h⟩)
        · exact .inr h
      generalize upd H4 Dn (.lst (nums.map V.int ++ [.int y])) = H5 at w5 e5 t5 d5 hrv5 hv5 ⊢
      walk_at "lk"
      refine sfr (SqL.of (w5.at nDr hDr)) hat ?_
      walk_at "lk"
      refine ⟨k, l, v, .ref ar, ns, rs.length, r, (runF k ns rs (i, st, []) nums).2.1, y, rfl, hk, w5.at nl hl, hrv5, hok r hm0, hlow r hm0, hn, hv5, hgq.len, hy, fun u b' D' H6 s6 hu hb' hD' => ?_⟩
      walk_at "lk"
      refine g_trip (SqT.of hu) ?_
      walk_at "lk"
      have h6l : (sdM k r (runF k ns rs (i, st, []) nums).2.1).length ≤ 6 := by
        have := hgq.len
        cases r with
        | look j => show (runF k ns rs (i, st, []) nums).2.1.length ≤ 6; omega
        | say f j => exact (by decide : 1 ≤ 6)
        | _ => exact Nat.zero_le _
      have hst : runF k ns rs (i, st, []) (nums ++ [y]) = (nxM r y, stM k ns r (runF k ns rs (i, st, []) nums).2.1 y, (runF k ns rs (i, st, []) nums).2.2 ++ sdM k r (runF k ns rs (i, st, []) nums).2.1) := by
        rw [runF_snoc]
        unfold stp
        rw [hr0]
      refine ⟨Ds, D', _, _, rfl, rfl, s6 _ _ d5, hD', by rw [List.length_map, List.length_map]; exact Nat.le_of_lt (small1000 (by omega)), fun D8 hD8 => ?_⟩
      have w6 := w5.st s6
      refine ⟨40 - (nums ++ [y]).length, by rw [List.length_append, List.length_singleton]; omega, nums ++ [y], b', D8, _, _, rfl, by rw [hst]; rfl, w6.st (same_new hD8), by rw [List.length_append, List.length_singleton]; omega, fits_snoc hfit hr0 hy, same_new hD8 _ _ (s6 _ _ e5), ?_, ne_new w6.2 hD8, fun z => ?_, ?_⟩
      · rw [hst]
        exact SqT.of (same_new hD8 _ _ hb')
      · rw [z, s6 _ _ e5] at hD8
        cases hD8
      · rw [upd_same, hst, List.map_append]
    · refine iff_ (decide_eq_false c1) ?_
      walk_at "lk"
      refine iff_ rfl ?_
      walk_at "lk"
      refine snw (Nat.le_of_ble_eq_true rfl) fun u hu => ?_
      exact q u Dn v Ds nums _ (w3.st (same_new hu)) hnl hfit upd_same nDn (same_new hu _ _ hDn') (same_sqT (same_new hu) hv) nDs (same_new hu _ _ hDs')
end
end K42

namespace K42
open PySem PySem.Spec PyProof.Rows L2 RZ Lk
local macro_rules | `(tactic| walk_at "lk") => `(tactic| (repeat (first
  | with_reducible refine ssq ?_ | with_reducible refine sas ?_ | with_reducible refine sgn ?_ | ((with_reducible show tVar _ _ _ _); refine sv rfl ?_) | with_reducible refine sc ?_ | with_reducible refine sop ?_ | with_reducible refine sun ?_
  | with_reducible refine sI0 ?_ | with_reducible refine sU ?_ | with_reducible refine stt ?_ | with_reducible refine stB ?_ | with_reducible refine sbl ?_ | with_reducible refine snt ?_ | with_reducible refine sif ?_ | with_reducible refine scB ?_
  | with_reducible refine scn ?_ | with_reducible refine snl ?_ | with_reducible refine scl ?_ | with_reducible refine stu ?_ | with_reducible refine sli ?_ | with_reducible refine sdr ?_ | with_reducible refine srt ?_ | with_reducible refine snx ?_ | with_reducible refine sfor ?_ | with_reducible refine sils ?_ | with_reducible refine sien ?_ | with_reducible refine sor ?_ | with_reducible refine sfg ?_
  | with_reducible refine sav ?_ | with_reducible refine sov ?_ | with_reducible refine snv ?_ | with_reducible refine sch ?_ | with_reducible refine san ?_ | with_reducible refine ssll ?_ | with_reducible refine spt ?_ | with_reducible refine snp ?_ | with_reducible refine sin ?_ | with_reducible refine sfl ?_ | with_reducible refine sfd ?_ | with_reducible refine sbm ?_ | with_reducible refine sifx ?_ | with_reducible refine smk ?_ | with_reducible refine ssli ?_ | with_reducible refine sbz ?_
  | ((with_reducible show Or _ _); first | refine Or.inl ⟨_, rfl, ?_⟩ | refine Or.inr ⟨_, rfl, ?_⟩))))

/-- whether a number fits a row, and the first one of some that fits none -/
def fitD (r : LRow) (d : PyData) : Bool := if (exR r).1 = ("ask" : Str) then isIntD d else withinD d 0 (((exR r).2.length : Int) - 1)
def nxD (r : LRow) (d : PyData) : Int := match d with
  | .int x => nxM r x
  | _ => 0
def wrongL (rs : List LRow) : Int → List PyData → Nat → Option Int
  | _, [], _ => none
  | i, d :: ds, n => match rs[i.toNat]? with
    | some r => if fitD r d = true then wrongL rs (nxD r d) ds (n + 1) else some (n : Int)
    | none => none
def wrongO (rs : List LRow) (i : Int) : Option (List PyData) → Option Int
  | some ds => wrongL rs i ds 0
  | none => some (-1)
def optV : Option Int → V
  | none => .non
  | some x => .int x
theorem fitD_int {r : LRow} {d : PyData} (h : fitD r d = true) : ∃ x, d = .int x ∧ fitM r x := by
  unfold fitD at h
  have hint : isIntD d = true → ∃ x, d = .int x := fun e => by
    cases d <;> first | exact ⟨_, rfl⟩ | cases e
  have hwit : ∀ lo hi : Int, withinD d lo hi = true → ∃ x, d = .int x ∧ lo ≤ x ∧ x ≤ hi := fun lo hi e => by
    cases d with
    | int x =>
      have e2 : (decide (lo ≤ x) && decide (x ≤ hi)) = true := e
      rw [Bool.and_eq_true] at e2
      exact ⟨x, rfl, of_decide_eq_true e2.1, of_decide_eq_true e2.2⟩
    | _ => cases e
  cases r with
  | ask n j =>
    rw [if_pos (show (exR (.ask n j)).1 = ("ask" : Str) from rfl)] at h
    obtain ⟨x, e⟩ := hint h
    exact ⟨x, e, trivial⟩
  | choose ks =>
    rw [if_neg (show ¬ (exR (.choose ks)).1 = ("ask" : Str) from (by decide +kernel : ¬ ("choose" : Str) = ("ask" : Str)))] at h
    obtain ⟨x, e, h1, h2⟩ := hwit _ _ h
    exact ⟨x, e, h1, by have : x ≤ (ks.length : Int) - 1 := h2; show x < (ks.length : Int); omega⟩
  | stop =>
    rw [if_neg (show ¬ (exR .stop).1 = ("ask" : Str) from (by decide +kernel : ¬ ("stop" : Str) = ("ask" : Str)))] at h
    obtain ⟨x, e, h1, h2⟩ := hwit _ _ h
    have h3 : x ≤ (0 : Int) - 1 := h2
    omega
  | set n f j =>
    rw [if_neg (show ¬ (exR (.set n f j)).1 = ("ask" : Str) from (by decide +kernel : ¬ ("go" : Str) = ("ask" : Str)))] at h
    obtain ⟨x, e, h1, h2⟩ := hwit _ _ h
    exact ⟨x, e, by have : x ≤ (1 : Int) - 1 := h2; show x = 0; omega⟩
  | say f j =>
    rw [if_neg (show ¬ (exR (.say f j)).1 = ("ask" : Str) from (by decide +kernel : ¬ ("go" : Str) = ("ask" : Str)))] at h
    obtain ⟨x, e, h1, h2⟩ := hwit _ _ h
    exact ⟨x, e, by have : x ≤ (1 : Int) - 1 := h2; show x = 0; omega⟩
  | look j =>
    rw [if_neg (show ¬ (exR (.look j)).1 = ("ask" : Str) from (by decide +kernel : ¬ ("go" : Str) = ("ask" : Str)))] at h
    obtain ⟨x, e, h1, h2⟩ := hwit _ _ h
    exact ⟨x, e, by have : x ≤ (1 : Int) - 1 := h2; show x = 0; omega⟩
def spIntG (K : PySem.W.Frag) : Sp := fun vs H Q _ => ∃ v d, vs = [v] ∧ Dg K H v d ∧ Q (.bl (isIntD d)) H
def spWithG (K : PySem.W.Frag) : Sp := fun vs H Q _ => ∃ v d a b, vs = [v, .int a, .int b] ∧ Dg K H v d ∧ Q (.bl (withinD d a b)) H
def spFitsD (K : PySem.W.Frag) : Sp := fun vs H Q _ => ∃ (v x : V) (r : LRow) (d : PyData), vs = [v, x] ∧ ExH H v (exR r) ∧ Dg K H x d ∧ Q (.bl (fitD r d)) H
def spWrongD (K : PySem.W.Frag) : Sp := fun vs H Q _ => ∃ (D : Addr) (us : List V) (ns : List Str) (rs : List LRow) (i : Int) (v : V) (o : Option (List PyData)), vs = [.ref D, .int i, v] ∧ H D = some (.lst us) ∧ F2 (ExH H) us (rs.map exR) ∧ (∀ r ∈ rs, RowOk ns rs.length r) ∧ 0 ≤ i ∧ i < rs.length ∧ Nv K H v o ∧ ∀ H', Same H H' → Q (optV (wrongO rs i o)) H'

section
variable {P : Program} {w : World} {K : PySem.W.Frag} {mg : Str → Option Value} {base : Heap} {A : Ad}
theorem ok_is_integerG {f : Addr} {fd : FuncData} (F : Fun K "is_integer" "is_integer" s_is_integer f fd) (T : Txt P w K mg base A) : FnOk P w K mg base CX0 1 f fd ["value"] (spIntG K) := by
  refine F.ok sc_is_integer (fun vs H Q E h => ?_) (fun cdv Ar outer s H vs Q E hr h => ?_)
  · obtain ⟨v, d, rfl, _⟩ := h
    rfl
  · obtain ⟨v, d, rfl, hd, k⟩ := h
    refine ⟨_, (pss_one (ps_ret (pe_and (pe_callB call_isi (by rfl) T.z_isinstance (by decide +kernel) (pa_cons (pv 0) (pa_cons (pe_bltn (v := .ty "int") (by rfl) T.z_int (by first | exact PySem.boot_int | decide +kernel) rfl) pa_nil))) (pe_one (pe_not (pe_callB call_isi (by rfl) T.z_isinstance (by decide +kernel) (pa_cons (pv 0) (pa_cons (pe_bltn (v := .ty "bool") (by rfl) T.z_bool (by first | exact PySem.boot_bool | decide +kernel) rfl) pa_nil)))))))), ?_⟩
    walk_at "lk"
    refine s_isiG hd (ki_int d) ?_
    walk_at "lk"
    cases d with
    | int i =>
      refine ite2 (fun _ => ?_) (fun z => absurd rfl z)
      walk_at "lk"
      refine s_isiG hd (ki_bool _) ?_
      walk_at "lk"
      exact k
    | bool b =>
      refine ite2 (fun _ => ?_) (fun z => absurd rfl z)
      walk_at "lk"
      refine s_isiG hd (ki_bool _) ?_
      walk_at "lk"
      exact k
    | _ => exact k
theorem ok_is_withinG {f : Addr} {fd : FuncData} (F : Fun K "is_within" "is_within" s_is_within f fd) (T : Txt P w K mg base A) (c_is_integer : Cal P w K mg base 1 "is_integer" ["value"] (spIntG K)) : FnOk P w K mg base CX0 2 f fd ["value", "least", "most"] (spWithG K) := by
  refine F.ok sc_is_within (fun vs H Q E h => ?_) (fun cdv Ar outer s H vs Q E hr h => ?_)
  · obtain ⟨v, d, a, b, rfl, _⟩ := h
    rfl
  · obtain ⟨v, d, a, b, rfl, hd, k⟩ := h
    refine ⟨_, (pss_one (ps_ret (pe_and (pcal c_is_integer hr (by decide) (pa_cons (pv 0) pa_nil)) (pe_one (pe_chain op_le op_le (pv 1) (pv 0) (pv 2)))))), ?_⟩
    walk_at "lk"
    refine ⟨v, d, rfl, hd, ?_⟩
    walk_at "lk"
    cases d with
    | int i =>
      obtain rfl := hd.int
      refine ite2 (fun _ => ?_) (fun z => absurd rfl z)
      walk_at "lk"
      by_cases ha : a ≤ i
      · have e : withinD (.int i) a b = decide (i ≤ b) := by simp [withinD, ha]
        rw [e] at k
        rw [if_pos (decide_eq_true ha)]
        walk_at "lk"
        exact k
      · have e : withinD (.int i) a b = false := by simp [withinD, ha]
        rw [e] at k
        rw [if_neg (by simpa using ha)]
        exact k
    | _ => exact k
theorem ok_fitsD {f : Addr} {fd : FuncData} (F : Fun K "fits" "fits" s_fits f fd) (T : Txt P w K mg base A) (c_is_integer : Cal P w K mg base 1 "is_integer" ["value"] (spIntG K)) (c_is_within : Cal P w K mg base 2 "is_within" ["value", "least", "most"] (spWithG K)) : FnOk P w K mg base CX0 3 f fd ["exits", "number"] (spFitsD K) := by
  refine F.ok sc_fits (fun vs H Q E h => ?_) (fun cdv Ar outer s H vs Q E hr h => ?_)
  · obtain ⟨v, x, r, d, rfl, _⟩ := h
    rfl
  · obtain ⟨v, x, r, d, rfl, hv, hx, k0⟩ := h
    refine ⟨_, (pss_cons (ps_asg (pv 0) (pg_tup rfl (pgs_cons (pg_name (i := 2) sc_fits.nd rfl (Or.inl rfl)) (pgs_cons (pg_name (i := 3) sc_fits.nd rfl (Or.inl rfl)) pgs_nil))))
        (pss_cons (ps_if (pt_cmpR op_eq (pv 2) pe_str (nomark _)) (pss_one (ps_ret (pcal c_is_integer hr (by decide) (pa_cons (pv 1) pa_nil)))) pss_nil)
        (pss_one (ps_ret (pcal c_is_within hr (by decide) (pa_cons (pv 1) (pa_cons pe_int (pa_cons (pe_op op_sub (pe_callB call_len_seq (by rfl) T.z_len PySem.boot_len (pa_cons (pv 3) pa_nil)) pe_int) pa_nil)))))))), ?_⟩
    obtain ⟨a, b, rfl, ha, hb⟩ := hv
    walk_at "lk"
    refine g_pair (SqT.of ha) ?_
    dsimp only
    walk_at "lk"
    refine sEq rfl ?_
    walk_at "lk"
    unfold fitD at k0
    by_cases c : (exR r).1 = ("ask" : Str)
    · rw [if_pos c] at k0
      refine itt_ (decide_eq_true (by rw [c])) ?_
      walk_at "lk"
      exact ⟨x, d, rfl, hx, k0⟩
    · rw [if_neg c] at k0
      refine iff_ (decide_eq_false fun e => c (by injection e)) ?_
      walk_at "lk"
      refine ⟨b, _, rfl, .inr (SqT.of hb), ?_⟩
      walk_at "lk"
      refine ⟨x, d, 0, _, rfl, hx, ?_⟩
      rw [List.length_map]
      exact k0
theorem ok_wrongD {f : Addr} {fd : FuncData} (F : Fun K "wrong_number" "wrong_number" s_wrong_number f fd) (T : Txt P w K mg base A) (c_fits : Cal P w K mg base 3 "fits" ["exits", "number"] (spFitsD K)) (c_next_row : Cal P w K mg base 1 "next_row" ["graph", "row", "number"] spNext) : FnOk P w K mg base CX0 4 f fd ["graph", "row", "numbers"] (spWrongD K) := by
  refine F.ok sc_wrong_number (fun vs H Q E h => ?_) (fun cdv Ar outer s H vs Q E hr h => ?_)
  · obtain ⟨D, us, ns, rs, i, v, o, rfl, _⟩ := h
    rfl
  · obtain ⟨D, us, ns, rs, i, v, o, rfl, hD, hus, hok, i0, i1, hd, q⟩ := h
    refine ⟨_, (pss_cons (ps_if (pt_not (pt_val (pe_callB call_isiT (by rfl) T.z_isinstance (by decide +kernel) (pa_cons (pv 2) (pa_cons (pe_tup (pa_cons (pe_bltn (v := .ty "list") (by rfl) T.z_list (by first | exact PySem.boot_list | decide +kernel) rfl) (pa_cons (pe_bltn (v := .ty "tuple") (by rfl) T.z_tuple (by first | exact PySem.boot_tuple | decide +kernel) rfl) pa_nil))) pa_nil))))) (pss_one (ps_ret (pe_un un_neg pe_int))) pss_nil)
        (pss_cons (ps_for PassesOwn.never rfl (pi_enumE (by rfl) T.z_enumerate (pa_cons (pv 2) pa_nil)) (pg_tup rfl (pgs_cons (pg_name (i := 3) sc_wrong_number.nd rfl (Or.inl rfl)) (pgs_cons (pg_name (i := 4) sc_wrong_number.nd rfl (Or.inl rfl)) pgs_nil))) (pss_cons (ps_if (pt_not (pt_val (pcal c_fits hr (by decide) (pa_cons (pe_ix ix_list (pv 0) (pv 1) (fun _ _ => rfl)) (pa_cons (pv 4) pa_nil))))) (pss_one (ps_ret (pv 3))) pss_nil)
        (pss_one (ps_set (i := 1) sc_wrong_number.nd rfl (Or.inl rfl) (pcal c_next_row hr (by decide) (pa_cons (pv 0) (pa_cons (pv 1) (pa_cons (pv 4) pa_nil))))))))
        (pss_one (ps_ret pe_non)))), ?_⟩
    walk_at "lk"
    refine snw (Nat.le_of_ble_eq_true rfl) fun p0 hp0 => ?_
    have s1 : Same H (upd H p0 (.tup [.ty "list", .ty "tuple"])) := same_new hp0
    have e0 : (upd H p0 (.tup [.ty "list", .ty "tuple"])) p0 = some (.tup [.ty "list", .ty "tuple"]) := upd_same
    generalize upd H p0 (.tup [.ty "list", .ty "tuple"]) = H1 at s1 e0 ⊢
    walk_at "lk"
    refine s_isiNv (hd.same s1) e0 ?_
    have hd1 := hd.same s1
    cases hd1 with
    | seq hx hds =>
      rename_i p xs ds
      walk_at "lk"
      refine iff_ rfl ?_
      walk_at "lk"
      refine for_enE (xs := xs) (fun n σ' H' => (∃ (row : Int) (e1 e2 : Option V), σ' = [some (.ref D), some (.int row), some (.ref p), e1, e2] ∧ 0 ≤ row ∧ row < rs.length ∧ wrongL rs row (ds.drop n) n = wrongL rs i ds 0) ∧ Same H1 H') rfl hx ⟨⟨i, _, _, rfl, i0, i1, rfl⟩, Same.refl _⟩ (fun n σ' H' h => h.2) ?_ ?_
      · rintro n y pp σ' H' hi ⟨⟨row, e1, e2, rfl, r0, r1, hwr⟩, s2⟩ hpp
        have s3 : Same H1 (upd H' pp (.tup [.int (n : Nat), y])) := s2.trans (same_new hpp)
        refine g_pair (SqT.of upd_same) ?_
        generalize upd H' pp (.tup [.int (n : Nat), y]) = H3 at s3 ⊢
        obtain ⟨d', hd', hy⟩ := hds.at hi
        have hdr : ds.drop n = d' :: ds.drop (n + 1) := by
          obtain ⟨h1, h2⟩ := List.getElem?_eq_some_iff.mp hd'
          rw [List.drop_eq_getElem_cons h1, h2]
        rw [hdr] at hwr
        have hlt : row.toNat < rs.length := by omega
        obtain ⟨r, hr0⟩ : ∃ r, rs[row.toNat]? = some r := ⟨_, List.getElem?_eq_getElem hlt⟩
        have s13 := s1.trans s3
        have hus3 := hus.mono (fun v a h => ExH.ts (Ts.of s13) h)
        obtain ⟨u, hu, hu2⟩ := hus3.get (show (rs.map exR)[row.toNat]? = some (exR r) by rw [List.getElem?_map, hr0]; rfl)
        walk_at "lk"
        refine sfr (SqL.of (s13 _ _ hD)) (by have y := Lk.atI_nat hu; rwa [Int.toNat_of_nonneg r0] at y) ?_
        walk_at "lk"
        refine ⟨u, y, r, d', rfl, hu2, hy.same s3, ?_⟩
        walk_at "lk"
        cases hf : fitD r d' with
        | true =>
          refine iff_ rfl ?_
          obtain ⟨x, rfl, hfm⟩ := fitD_int hf
          obtain rfl := hy.int
          walk_at "lk"
          refine ⟨D, us, rs, row, x, r, rfl, s13 _ _ hD, hus3, r0, hr0, hfm, ?_⟩
          have hn := nx_ok (hok r (List.mem_of_getElem? hr0)) hfm
          refine ⟨⟨nxM r x, _, _, rfl, hn.1, hn.2, ?_⟩, s3⟩
          rw [← hwr]
          show _ = wrongL rs row (.int x :: ds.drop (n + 1)) n
          rw [wrongL, hr0]
          dsimp only
          rw [if_pos hf]
          rfl
        | false =>
          refine itt_ rfl ?_
          walk_at "lk"
          have e : wrongL rs i ds 0 = some (n : Int) := by
            rw [← hwr, wrongL, hr0]
            dsimp only
            rw [if_neg (by rw [hf]; exact Bool.false_ne_true)]
          have z := q _ s13
          rw [show wrongO rs i (some ds) = wrongL rs i ds 0 from rfl, e] at z
          exact z
      · rintro σ' H' ⟨⟨row, e1, e2, rfl, _, _, hwr⟩, s2⟩
        walk_at "lk"
        rw [List.drop_of_length_le (by rw [← hds.len]; exact Nat.le_refl _)] at hwr
        have z := q _ (s1.trans s2)
        rw [show wrongO rs i (some ds) = wrongL rs i ds 0 from rfl, ← hwr] at z
        exact z
    | no h h1 h2 =>
      walk_at "lk"
      refine itt_ rfl ?_
      walk_at "lk"
      exact q _ s1
end
end K42

namespace K42
open PySem PySem.Spec PyProof.Rows L2 RZ Lk
local macro_rules | `(tactic| walk_at "lk") => `(tactic| (repeat (first
  | with_reducible refine ssq ?_ | with_reducible refine sas ?_ | with_reducible refine sgn ?_ | ((with_reducible show tVar _ _ _ _); refine sv rfl ?_) | with_reducible refine sc ?_ | with_reducible refine sop ?_ | with_reducible refine sun ?_
  | with_reducible refine sI0 ?_ | with_reducible refine sU ?_ | with_reducible refine stt ?_ | with_reducible refine stB ?_ | with_reducible refine sbl ?_ | with_reducible refine snt ?_ | with_reducible refine sif ?_ | with_reducible refine scB ?_
  | with_reducible refine scn ?_ | with_reducible refine snl ?_ | with_reducible refine scl ?_ | with_reducible refine stu ?_ | with_reducible refine sli ?_ | with_reducible refine sdr ?_ | with_reducible refine srt ?_ | with_reducible refine snx ?_ | with_reducible refine sfor ?_ | with_reducible refine sils ?_ | with_reducible refine sien ?_ | with_reducible refine sor ?_ | with_reducible refine sfg ?_
  | with_reducible refine sav ?_ | with_reducible refine sov ?_ | with_reducible refine snv ?_ | with_reducible refine sch ?_ | with_reducible refine san ?_ | with_reducible refine ssll ?_ | with_reducible refine spt ?_ | with_reducible refine snp ?_ | with_reducible refine sin ?_ | with_reducible refine sfl ?_ | with_reducible refine sfd ?_ | with_reducible refine sbm ?_ | with_reducible refine sifx ?_ | with_reducible refine smk ?_ | with_reducible refine ssli ?_ | with_reducible refine srz1 ?_ | with_reducible refine scx ?_ | with_reducible refine sbz ?_
  | ((with_reducible show Or _ _); first | refine Or.inl ⟨_, rfl, ?_⟩ | refine Or.inr ⟨_, rfl, ?_⟩))))

/-- the error NoRun is wished for, with its index -/
def ErI (C : Addr) (i : Int) (E : XK) (H : Hp) : Prop := ∀ d H', Same H H' → H' d = some (.xd [("index", .int i)]) → E (.ref C) (some d) H'
theorem ErI.same {H H' : Hp} (s : Same H H') {C : Addr} {i : Int} {E : XK} (h : ErI C i E H) : ErI C i E H' := fun d H2 s2 e => h d H2 (s.trans s2) e
def spChX (K : PySem.W.Frag) (A : Ad) : Sp := fun vs H Q E => ∃ (D : Addr) (us : List V) (ns : List Str) (rs : List LRow) (i : Int) (v : V) (o : Option (List PyData)), vs = [.ref D, .int i, v] ∧ H D = some (.lst us) ∧ F2 (ExH H) us (rs.map exR) ∧ (∀ r ∈ rs, RowOk ns rs.length r) ∧ 0 ≤ i ∧ i < rs.length ∧ Nv K H v o ∧
  ((wrongO rs i o = none ∧ ∀ H', Same H H' → Q .non H') ∨ ∃ z, wrongO rs i o = some z ∧ ErI A.NoRun z E H)

section
variable {P : Program} {w : World} {K : PySem.W.Frag} {mg : Str → Option Value} {base : Heap} {A : Ad}
theorem ok_check_numbersX {f : Addr} {fd : FuncData} (F : Fun K "check_numbers" "check_numbers" s_check_numbers f fd) (T : Txt P w K mg base A) (c_wrong_number : Cal P w K mg base 4 "wrong_number" ["graph", "row", "numbers"] (spWrongD K)) : FnOk P w K mg base (L2.CX P w) 5 f fd ["graph", "row", "numbers"] (spChX K A) := by
  refine F.okX sc_check_numbers (fun vs H Q E h => ?_) (fun cdv Ar outer s H vs Q E hr h => ?_)
  · obtain ⟨D, us, ns, rs, i, v, o, rfl, _⟩ := h
    rfl
  · obtain ⟨D, us, ns, rs, i, v, o, rfl, hD, hus, hok, i0, i1, hd, hh⟩ := h
    refine ⟨_, (pss_cons (ps_set (i := 3) sc_check_numbers.nd rfl (Or.inl rfl) (pcal c_wrong_number hr (by decide) (pa_cons (pv 0) (pa_cons (pv 1) (pa_cons (pv 2) pa_nil)))))
        (pss_one (ps_if (pt_cmpR op_notN (pv 3) pe_non (nomark _)) (pss_one (ps_rz1 T.e_NoRun hr (by decide) (takes_of rfl rfl rfl rfl) (pa_cons (pv 3) pa_nil))) pss_nil))), ?_⟩
    walk_at "lk"
    refine ⟨D, us, ns, rs, i, v, o, rfl, hD, hus, hok, i0, i1, hd, fun H1 s1 => ?_⟩
    walk_at "lk"
    refine ⟨rfl, ?_⟩
    rcases hh with ⟨e, q⟩ | ⟨z, e, er⟩
    · rw [e]
      walk_at "lk"
      refine iff_ rfl ?_
      exact q H1 s1
    · rw [e]
      walk_at "lk"
      refine itt_ rfl ?_
      walk_at "lk"
      exact s_rz1 fun d H' s h => er d H' (s1.trans s) h
end
end K42

namespace K42
open PySem PySem.Spec PyProof.Rows L2 RZ Lk
local macro_rules | `(tactic| walk_at "lk") => `(tactic| (repeat (first
  | with_reducible refine ssq ?_ | with_reducible refine sas ?_ | with_reducible refine sgn ?_ | ((with_reducible show tVar _ _ _ _); refine sv rfl ?_) | with_reducible refine sc ?_ | with_reducible refine sop ?_ | with_reducible refine sun ?_
  | with_reducible refine sI0 ?_ | with_reducible refine sU ?_ | with_reducible refine stt ?_ | with_reducible refine stB ?_ | with_reducible refine sbl ?_ | with_reducible refine snt ?_ | with_reducible refine sif ?_ | with_reducible refine scB ?_
  | with_reducible refine scn ?_ | with_reducible refine snl ?_ | with_reducible refine scl ?_ | with_reducible refine stu ?_ | with_reducible refine sli ?_ | with_reducible refine sdr ?_ | with_reducible refine srt ?_ | with_reducible refine snx ?_ | with_reducible refine sfor ?_ | with_reducible refine sils ?_ | with_reducible refine sien ?_ | with_reducible refine sor ?_ | with_reducible refine sfg ?_
  | with_reducible refine sav ?_ | with_reducible refine sov ?_ | with_reducible refine snv ?_ | with_reducible refine sch ?_ | with_reducible refine san ?_ | with_reducible refine ssll ?_ | with_reducible refine spt ?_ | with_reducible refine snp ?_ | with_reducible refine sin ?_ | with_reducible refine sfl ?_ | with_reducible refine sfd ?_ | with_reducible refine sbm ?_ | with_reducible refine sifx ?_ | with_reducible refine smk ?_ | with_reducible refine ssli ?_ | with_reducible refine sbz ?_
  | ((with_reducible show Or _ _); first | refine Or.inl ⟨_, rfl, ?_⟩ | refine Or.inr ⟨_, rfl, ?_⟩))))

theorem within_int {x lo hi : Int} (h1 : lo ≤ x) (h2 : x ≤ hi) : withinD (.int x) lo hi = true := by
  show (decide (lo ≤ x) && decide (x ≤ hi)) = true
  rw [Bool.and_eq_true]
  exact ⟨decide_eq_true h1, decide_eq_true h2⟩
theorem fitM_D {r : LRow} {x : Int} (h : fitM r x) : fitD r (.int x) = true := by
  unfold fitD
  cases r with
  | ask n j => rw [if_pos (show (exR (.ask n j)).1 = ("ask" : Str) from rfl)]; rfl
  | choose ks =>
    rw [if_neg (show ¬ (exR (.choose ks)).1 = ("ask" : Str) from (by decide +kernel : ¬ ("choose" : Str) = ("ask" : Str)))]
    exact within_int h.1 (by have := h.2; show x ≤ (ks.length : Int) - 1; omega)
  | stop => exact h.elim
  | set n f j =>
    rw [if_neg (show ¬ (exR (.set n f j)).1 = ("ask" : Str) from (by decide +kernel : ¬ ("go" : Str) = ("ask" : Str)))]
    have e : x = 0 := h
    exact within_int (by omega) (by show x ≤ (1 : Int) - 1; omega)
  | say f j =>
    rw [if_neg (show ¬ (exR (.say f j)).1 = ("ask" : Str) from (by decide +kernel : ¬ ("go" : Str) = ("ask" : Str)))]
    have e : x = 0 := h
    exact within_int (by omega) (by show x ≤ (1 : Int) - 1; omega)
  | look j =>
    rw [if_neg (show ¬ (exR (.look j)).1 = ("ask" : Str) from (by decide +kernel : ¬ ("go" : Str) = ("ask" : Str)))]
    have e : x = 0 := h
    exact within_int (by omega) (by show x ≤ (1 : Int) - 1; omega)
theorem fits_wrongL {k : Nat} {ns : List Str} {rs : List LRow} : ∀ (nums : List Int) (q : Q3) (n : Nat), Fits k ns rs q nums → wrongL rs q.1 (nums.map PyData.int) n = none
  | [], _, _, _ => rfl
  | x :: nums, q, n, h => by
    obtain ⟨r, h1, h2⟩ := h 0 x rfl
    replace h1 : rs[q.1.toNat]? = some r := h1
    have h3 : Fits k ns rs (stp k ns rs q x) nums := fun i y hy => h (i + 1) y hy
    have e : (stp k ns rs q x).1 = nxM r x := by
      unfold stp
      rw [h1]
    have ih := fits_wrongL nums (stp k ns rs q x) (n + 1) h3
    rw [e] at ih
    show wrongL rs q.1 (.int x :: nums.map PyData.int) n = none
    rw [wrongL, h1]
    dsimp only
    rw [if_pos (fitM_D h2)]
    exact ih

section
variable {P : Program} {w : World} {K : PySem.W.Frag} {mg : Str → Option Value} {base : Heap} {A : Ad}
end
end K42

namespace K42
open PySem PySem.Spec PyProof.Rows L2 RZ Lk
local macro_rules | `(tactic| walk_at "lk") => `(tactic| (repeat (first
  | with_reducible refine ssq ?_ | with_reducible refine sas ?_ | with_reducible refine sgn ?_ | ((with_reducible show tVar _ _ _ _); refine sv rfl ?_) | with_reducible refine sc ?_ | with_reducible refine sop ?_ | with_reducible refine sun ?_
  | with_reducible refine sI0 ?_ | with_reducible refine sU ?_ | with_reducible refine stt ?_ | with_reducible refine stB ?_ | with_reducible refine sbl ?_ | with_reducible refine snt ?_ | with_reducible refine sif ?_ | with_reducible refine scB ?_
  | with_reducible refine scn ?_ | with_reducible refine snl ?_ | with_reducible refine scl ?_ | with_reducible refine stu ?_ | with_reducible refine sli ?_ | with_reducible refine sdr ?_ | with_reducible refine srt ?_ | with_reducible refine snx ?_ | with_reducible refine sfor ?_ | with_reducible refine sils ?_ | with_reducible refine sien ?_ | with_reducible refine sor ?_ | with_reducible refine sfg ?_
  | with_reducible refine sav ?_ | with_reducible refine sov ?_ | with_reducible refine snv ?_ | with_reducible refine sch ?_ | with_reducible refine san ?_ | with_reducible refine ssll ?_ | with_reducible refine spt ?_ | with_reducible refine snp ?_ | with_reducible refine sin ?_ | with_reducible refine sfl ?_ | with_reducible refine sfd ?_ | with_reducible refine sbm ?_ | with_reducible refine sifx ?_ | with_reducible refine smk ?_ | with_reducible refine ssli ?_ | with_reducible refine sbz ?_
  | ((with_reducible show Or _ _); first | refine Or.inl ⟨_, rfl, ?_⟩ | refine Or.inr ⟨_, rfl, ?_⟩))))

theorem ix_eitB {X : Cx} {K : PySem.W.Frag} (h : X.K = K) : IxR X (fun x y H Q => rIxL K x y H Q ∨ rIxT K x y H Q) := by
  subst h
  exact ix_list.or ix_tup
theorem g_quadC {K : PySem.W.Frag} {H : Hp} {σ : L2.St} {i j k m : Nat} {x y z t : V} {p : Addr} {R : L2.St → Hp → Prop} (h : SqT K H p [x, y, z, t]) (q : R ((((σ.set i (some x)).set j (some y)).set k (some z)).set m (some t)) H) : gTup K 4 (gCons (gName i) (gCons (gName j) (gCons (gName k) (gCons (gName m) gNil)))) (.ref p) σ H R :=
  ⟨p, [x, y, z, t], rfl, h, rfl, x, [y, z, t], rfl, y, [z, t], rfl, z, [t], rfl, t, [], rfl, rfl, q⟩
theorem sre {K : PySem.W.Frag} {H : Hp} {p : Addr} {xs : List V} {z : Int} {v : V} {Q : VK} (hp : SqE K H p xs) (hz : atI xs z = some v) (q : Q v H) : rIxL K (.ref p) (.int z) H Q ∨ rIxT K (.ref p) (.int z) H Q :=
  hp.elim (fun h => .inl (sfr h hz q)) fun h => .inr (sft h hz q)
def spWrongI (K : PySem.W.Frag) : Sp := fun vs H Q _ => ∃ (a : Addr) (xs : List Int) (n : Int), vs = [.ref a, .int n] ∧ SqE K H a (xs.map V.int) ∧ (xs.length : Int) = n ∧ ∀ H', Same H H' → Q .non H'
def spHead (K : PySem.W.Frag) : Sp := fun vs H Q _ => ∃ (k : Int) (l t a : Addr) (cts : List Int) (us : List V) (rs : List CRow) (st : List Int), vs = [.int k, .ref l, .ref t, .ref a] ∧ 1 ≤ k ∧ k ≤ 64 ∧ SqE K H l (cts.map V.int) ∧ SqE K H t us ∧ F2 (CRowH H) us rs ∧ SqT K H a (st.map V.int) ∧ CodeOk cts rs st ∧ ∀ H', Same H H' → Q .non H'
def spNxs (K : PySem.W.Frag) : Sp := fun vs H Q _ => ∃ (i : Int) (kd : Str) (v : V) (m : Int) (nx : List Int), vs = [.int i, .str kd, v, .int m] ∧ CfH H v nx ∧ nxOk kd nx.length ∧ (∀ j ∈ nx, 0 ≤ j ∧ j < m) ∧ ∀ H', Same H H' → Q .non H'
def spSays (K : PySem.W.Frag) : Sp := fun vs H Q _ => ∃ (i : Int) (v : V) (n : Int) (sy : List (List Int)), vs = [.int i, v, .int n] ∧ CfsH H v sy ∧ n ≤ 900 ∧ (∀ f ∈ sy, (f.length : Int) = n + 1) ∧ ∀ H', Same H H' → Q .non H'
def spFormsC (K : PySem.W.Frag) : Sp := fun vs H Q _ => ∃ (v : V) (m n : Int) (fs : List (List Int)), vs = [v, .int m, .int n] ∧ CfsH H v fs ∧ (fs.length : Int) = m ∧ m ≤ 900 ∧ n ≤ 900 ∧ (∀ f ∈ fs, (f.length : Int) = n + 1) ∧ ∀ H', Same H H' → Q (.bl true) H'
def spChanges (K : PySem.W.Frag) : Sp := fun vs H Q _ => ∃ (i : Int) (v : V) (l : Addr) (n : Int) (cs : List Int) (ch : List (List (List Int))), vs = [.int i, v, .ref l, .int n] ∧ CcsH H v ch ∧ H l = some (.lst (cs.map V.int)) ∧ ch.length = cs.length ∧ n ≤ 900 ∧ (∀ (m : Nat) (j : Int) (c : List (List Int)), cs[m]? = some j → ch[m]? = some c → (c.length : Int) = j ∧ j ≤ 900) ∧ (∀ c ∈ ch, ∀ f ∈ c, (f.length : Int) = n + 1) ∧ ∀ H', Same H H' → Q .non H'
def spCRow (K : PySem.W.Frag) : Sp := fun vs H Q _ => ∃ (l : Addr) (i : Nat) (v : V) (cts : List Int) (r : CRow), vs = [.ref l, .int (i : Int), v] ∧ SqE K H l (cts.map V.int) ∧ i < cts.length ∧ (∀ j, 0 ≤ cts.getD j 0 ∧ cts.getD j 0 ≤ 64) ∧ CRowH H v r ∧ CRowOk cts i r ∧ ∀ H', Same H H' → Q .non H'
theorem atI_ints {xs : List Int} {z x : Int} (h : xs[z.toNat]? = some x) (hz : 0 ≤ z) : atI (xs.map V.int) z = some (.int x) := by
  have h1 : (xs.map V.int)[z.toNat]? = some (.int x) := by rw [List.getElem?_map, h]; rfl
  have h2 := Lk.atI_nat h1
  rwa [Int.toNat_of_nonneg hz] at h2
theorem getD_at {xs : List Int} {i : Nat} (h : i < xs.length) : xs[i]? = some (xs.getD i 0) := by
  rw [List.getD_eq_getElem?_getD, List.getElem?_eq_getElem h]
  rfl
section
variable {P : Program} {w : World} {K : PySem.W.Frag} {mg : Str → Option Value} {base : Heap} {A : Ad}
theorem ok_wrong_integerC {f : Addr} {fd : FuncData} (F : Fun K "wrong_integer" "wrong_integer" s_wrong_integer f fd) (T : Txt P w K mg base A) (c_is_sequence : Cal P w K mg base 1 "is_sequence" ["value", "least", "most"] (spSeq K)) (c_is_integer : Cal P w K mg base 1 "is_integer" ["value"] (spIsInt K)) : FnOk P w K mg base CX0 2 f fd ["value", "size"] (spWrongI K) := by
  refine F.ok sc_wrong_integer (fun vs H Q E h => ?_) (fun cdv Ar outer s H vs Q E hr h => ?_)
  · obtain ⟨a, xs, n, rfl, _⟩ := h
    rfl
  · obtain ⟨a, xs, n, rfl, ha, hn, q⟩ := h
    refine ⟨_, (pss_cons (ps_if (pt_not (pt_val (pcal c_is_sequence hr (by decide) (pa_cons (pv 0) (pa_cons (pv 1) (pa_cons (pv 1) pa_nil)))))) (pss_one (ps_ret (pe_un un_neg pe_int))) pss_nil)
        (pss_cons (ps_for PassesOwn.never rfl (pi_enumE (by rfl) T.z_enumerate (pa_cons (pv 0) pa_nil)) (pg_tup rfl (pgs_cons (pg_name (i := 2) sc_wrong_integer.nd rfl (Or.inl rfl)) (pgs_cons (pg_name (i := 3) sc_wrong_integer.nd rfl (Or.inl rfl)) pgs_nil))) (pss_one (ps_if (pt_not (pt_val (pcal c_is_integer hr (by decide) (pa_cons (pv 3) pa_nil)))) (pss_one (ps_ret (pv 2))) pss_nil)))
        (pss_one (ps_ret pe_non)))), ?_⟩
    obtain ⟨d, hd, hs⟩ := sqe_seq ha (dt_ints xs).dp
    walk_at "lk"
    refine ⟨.ref a, d, n, n, rfl, hd, fun H1 s1 => ?_⟩
    rw [hs n n (by rw [List.length_map]; omega) (by rw [List.length_map]; omega)]
    walk_at "lk"
    refine iff_ rfl ?_
    walk_at "lk"
    refine for_enE (xs := xs.map V.int) (fun j σ' H' => (∃ e1 e2, σ' = [some (.ref a), some (.int n), e1, e2]) ∧ Same H1 H') rfl (ha.same s1) ⟨⟨_, _, rfl⟩, Same.refl _⟩ (fun j σ' H' h => h.2) ?_ ?_
    · rintro j v p σ' H' hi ⟨⟨e1, e2, rfl⟩, s2⟩ hp
      have s3 : Same H1 (upd H' p (.tup [.int (j : Nat), v])) := s2.trans (same_new hp)
      refine g_pair (SqT.of upd_same) ?_
      generalize upd H' p (.tup [.int (j : Nat), v]) = H3 at s3 ⊢
      have hlt : j < xs.length := by
        have := (List.getElem?_eq_some_iff.mp hi).1
        rwa [List.length_map] at this
      rw [List.getElem?_map, List.getElem?_eq_getElem hlt] at hi
      cases hi
      have s4 := Same.refl H3
      walk_at "lk"
      refine ⟨.int xs[j], .int xs[j], rfl, .int _, ?_⟩
      walk_at "lk"
      refine iff_ rfl ?_
      exact ⟨⟨_, _, rfl⟩, s3.trans s4⟩
    · rintro σ' H' ⟨⟨e1, e2, rfl⟩, s2⟩
      walk_at "lk"
      exact q _ (s1.trans s2)
abbrev s__check_says : Stmt := top 36
theorem sc__check_says : FnScope ["row", "says", "size", "index", "form"] ["row", "says", "size"] (defScope s__check_says) := ⟨rfl, rfl, rfl, by decide +kernel, rfl, by decide +kernel, by decide +kernel⟩
theorem ok_check_says {f : Addr} {fd : FuncData} (F : Fun K "_check_says" "_check_says" s__check_says f fd) (T : Txt P w K mg base A) (c_is_form : Cal P w K mg base 3 "is_form" ["value", "size"] (spForm K)) : FnOk P w K mg base CX0 4 f fd ["row", "says", "size"] (spSays K) := by
  refine F.ok sc__check_says (fun vs H Q E h => ?_) (fun cdv Ar outer s H vs Q E hr h => ?_)
  · obtain ⟨i, v, n, sy, rfl, _⟩ := h
    rfl
  · obtain ⟨i, v, n, sy, rfl, hv, hn, hf, q⟩ := h
    refine ⟨_, (pss_cons (ps_if (pt_not (pt_val (pe_callB call_isi (by rfl) T.z_isinstance (by decide +kernel) (pa_cons (pv 1) (pa_cons (pe_bltn (v := .ty "tuple") (by rfl) T.z_tuple (by first | exact PySem.boot_tuple | decide +kernel) rfl) pa_nil))))) (pss_one ps_never) pss_nil)
        (pss_one (ps_for PassesOwn.never rfl (pi_enumE (by rfl) T.z_enumerate (pa_cons (pv 1) pa_nil)) (pg_tup rfl (pgs_cons (pg_name (i := 3) sc__check_says.nd rfl (Or.inl rfl)) (pgs_cons (pg_name (i := 4) sc__check_says.nd rfl (Or.inl rfl)) pgs_nil))) (pss_one (ps_if (pt_not (pt_val (pcal c_is_form hr (by decide) (pa_cons (pv 4) (pa_cons (pv 2) pa_nil))))) (pss_one ps_never) pss_nil))))), ?_⟩
    walk_at "lk"
    refine s_isi hv.dt.dp (ki_tup _) ?_
    walk_at "lk"
    refine iff_ rfl ?_
    obtain ⟨a, us, rfl, ha, hus⟩ := hv
    walk_at "lk"
    refine for_enE (xs := us) (fun j σ' H' => (∃ e1 e2, σ' = [some (.int i), some (.ref a), some (.int n), e1, e2]) ∧ Same H H') rfl (.inr (SqT.of ha)) ⟨⟨_, _, rfl⟩, Same.refl _⟩ (fun j σ' H' h => h.2) ?_ ?_
    · rintro j v p σ' H' hi ⟨⟨e1, e2, rfl⟩, s2⟩ hp
      have s3 : Same H (upd H' p (.tup [.int (j : Nat), v])) := s2.trans (same_new hp)
      refine g_pair (SqT.of upd_same) ?_
      generalize upd H' p (.tup [.int (j : Nat), v]) = H3 at s3 ⊢
      obtain ⟨f, hfi, hfv⟩ := hus.at hi
      walk_at "lk"
      refine ⟨v, intsD f, n, rfl, (hfv.ts (Ts.of s3)).dt.dp, hn, fun H4 s4 => ?_⟩
      rw [form_ints (hf f (List.mem_of_getElem? hfi))]
      walk_at "lk"
      refine iff_ rfl ?_
      exact ⟨⟨_, _, rfl⟩, s3.trans s4⟩
    · rintro σ' H' ⟨⟨e1, e2, rfl⟩, s2⟩
      exact q _ s2
abbrev s_are_forms : Stmt := top 38
theorem sc_are_forms : FnScope ["forms", "many", "size", "form"] ["forms", "many", "size"] (defScope s_are_forms) := ⟨rfl, rfl, rfl, by decide +kernel, rfl, by decide +kernel, by decide +kernel⟩
theorem ok_are_forms {f : Addr} {fd : FuncData} (F : Fun K "are_forms" "are_forms" s_are_forms f fd) (T : Txt P w K mg base A) (c_is_form : Cal P w K mg base 3 "is_form" ["value", "size"] (spForm K)) : FnOk P w K mg base CX0 4 f fd ["forms", "many", "size"] (spFormsC K) := by
  refine F.ok sc_are_forms (fun vs H Q E h => ?_) (fun cdv Ar outer s H vs Q E hr h => ?_)
  · obtain ⟨v, m, n, fs, rfl, _⟩ := h
    rfl
  · obtain ⟨v, m, n, fs, rfl, hv, hm, hm9, hn, hf, q⟩ := h
    refine ⟨_, (pss_one (ps_ret (pe_and (pe_callB call_isi (by rfl) T.z_isinstance (by decide +kernel) (pa_cons (pv 0) (pa_cons (pe_bltn (v := .ty "tuple") (by rfl) T.z_tuple (by first | exact PySem.boot_tuple | decide +kernel) rfl) pa_nil))) (pe_and (pe_cmpR op_eq (pe_callB call_len_seq (by rfl) T.z_len PySem.boot_len (pa_cons (pv 0) pa_nil)) (pv 1) (nomark _)) (pe_one (pe_callB (cr_all rfl) (by rfl) T.z_all (by decide +kernel) (pa_cons (pe_lc (own := [("form", 3)]) (g := gName 3) (tt := tYes) rfl sc_are_forms.nd (pi_tup (pv 0)) (blkOk_by (own := [("form", 3)]) (N := ["forms", "many", "size", "form"]) (sc := defScope s_are_forms) (by decide +kernel)) (fun _ _ _ _ _ => pg_name (i := 3) sc_are_forms.nd rfl (Or.inl rfl)) (fun _ _ _ _ _ => pts_nil) (fun _ _ _ _ _ => (pcal c_is_form hr (by decide) (pa_cons (pv 3) (pa_cons (pv 2) pa_nil))))) pa_nil))))))), ?_⟩
    walk_at "lk"
    refine s_isi hv.dt.dp (ki_tup _) ?_
    walk_at "lk"
    refine itt_ rfl ?_
    obtain ⟨a, us, rfl, ha, hus⟩ := hv
    have hlen := hus.len
    walk_at "lk"
    refine ⟨a, us, rfl, .inr (SqT.of ha), ?_⟩
    walk_at "lk"
    refine sEq rfl ?_
    walk_at "lk"
    refine itt_ (decide_eq_true (by rw [hlen, hm])) ?_
    walk_at "lk"
    refine tlc_mapT (ys := (fs.map intsD).map fun d => V.bl ((fun _ => true) d)) rfl (SqT.of ha) (by rw [List.length_map, List.length_map, hlen]) (by omega) (fun _ => rfl) (fun i x y H' hi hy s' R q => ?_) (fun D H' s' hD hDl => ?_)
    · obtain ⟨f, hfi, hfv⟩ := hus.at hi
      rw [List.getElem?_map, List.getElem?_map, hfi] at hy
      cases hy
      walk_at "lk"
      refine ⟨x, intsD f, n, rfl, (hfv.ts (Ts.of s')).dt.dp, hn, fun H4 s4 => ?_⟩
      rw [form_ints (hf f (List.mem_of_getElem? hfi))]
      exact q _ s4
    · walk_at "lk"
      have e2 : (fs.map intsD).all (fun _ => true) = true := by simp
      have q1 := q _ s'
      rw [← e2] at q1
      exact all_bls hDl q1
abbrev s__check_nexts : Stmt := top 35
theorem sc__check_nexts : FnScope ["row", "kind", "nexts", "many", "least", "most", "index", "following"] ["row", "kind", "nexts", "many"] (defScope s__check_nexts) := ⟨rfl, rfl, rfl, by decide +kernel, rfl, by decide +kernel, by decide +kernel⟩
theorem ok_check_nexts {f : Addr} {fd : FuncData} (F : Fun K "_check_nexts" "_check_nexts" s__check_nexts f fd) (T : Txt P w K mg base A) (c_is_within : Cal P w K mg base 2 "is_within" ["value", "least", "most"] (spWithin K)) : FnOk P w K mg base CX0 4 f fd ["row", "kind", "nexts", "many"] (spNxs K) := by
  refine F.ok sc__check_nexts (fun vs H Q E h => ?_) (fun cdv Ar outer s H vs Q E hr h => ?_)
  · obtain ⟨i, kd, v, m, nx, rfl, _⟩ := h
    rfl
  · obtain ⟨i, kd, v, m, nx, rfl, hv, hk, hj, q⟩ := h
    refine ⟨_, (pss_cons (ps_asg (pe_ix ix_kdict (pe_glob (v := .ref A.NEXTS) (by rfl) T.g_NEXTS rfl) (pv 1) (fun _ _ => rfl)) (pg_tup rfl (pgs_cons (pg_name (i := 4) sc__check_nexts.nd rfl (Or.inl rfl)) (pgs_cons (pg_name (i := 5) sc__check_nexts.nd rfl (Or.inl rfl)) pgs_nil))))
        (pss_cons (ps_if (PW.pt (pw_or (pt_not (pt_val (pe_callB call_isi (by rfl) T.z_isinstance (by decide +kernel) (pa_cons (pv 2) (pa_cons (pe_bltn (v := .ty "tuple") (by rfl) T.z_tuple (by first | exact PySem.boot_tuple | decide +kernel) rfl) pa_nil))))) (pw_or1 (pt_not (pt_chain op_le op_le (pv 4) (pe_callB call_len_seq (by rfl) T.z_len PySem.boot_len (pa_cons (pv 2) pa_nil)) (pv 5)))))) (pss_one ps_never) pss_nil)
        (pss_one (ps_for PassesOwn.never rfl (pi_enumE (by rfl) T.z_enumerate (pa_cons (pv 2) pa_nil)) (pg_tup rfl (pgs_cons (pg_name (i := 6) sc__check_nexts.nd rfl (Or.inl rfl)) (pgs_cons (pg_name (i := 7) sc__check_nexts.nd rfl (Or.inl rfl)) pgs_nil))) (pss_one (ps_if (pt_not (pt_val (pcal c_is_within hr (by decide) (pa_cons (pv 7) (pa_cons pe_int (pa_cons (pe_op op_sub (pv 3) pe_int) pa_nil)))))) (pss_one ps_never) pss_nil)))))), ?_⟩
    obtain ⟨lo, hi, e, l1, l2⟩ := hk.lim
    obtain ⟨es, nn, KD⟩ := T.x_NEXTS
    obtain ⟨p, hp, hpt⟩ := T.v_NEXTS _ _ _ e
    walk_at "lk"
    refine ⟨A.NEXTS, kd, .ref p, rfl, rfl, ⟨es, nn, _, KD.at_, KD.lit, hp, rfl⟩, ?_⟩
    refine g_pair (hpt H) ?_
    walk_at "lk"
    refine s_isi hv.dt.dp (ki_tup _) ?_
    walk_at "lk"
    refine iff_ rfl ?_
    obtain ⟨a, rfl, ha⟩ := hv
    walk_at "lk"
    refine ⟨a, nx.map V.int, rfl, .inr (SqT.of ha), ?_⟩
    rw [List.length_map]
    walk_at "lk"
    refine itt_ (decide_eq_true l1) ?_
    walk_at "lk"
    refine iff_ (by rw [decide_eq_true l2]; rfl) ?_
    walk_at "lk"
    refine for_enE (xs := nx.map V.int) (fun j σ' H' => (∃ e1 e2, σ' = [some (.int i), some (.str kd), some (.ref a), some (.int m), some (.int lo), some (.int hi), e1, e2]) ∧ Same H H') rfl (.inr (SqT.of ha)) ⟨⟨_, _, rfl⟩, Same.refl _⟩ (fun j σ' H' h => h.2) ?_ ?_
    · rintro j v p σ' H' hi ⟨⟨e1, e2, rfl⟩, s2⟩ hp
      have s3 : Same H (upd H' p (.tup [.int (j : Nat), v])) := s2.trans (same_new hp)
      refine g_pair (SqT.of upd_same) ?_
      generalize upd H' p (.tup [.int (j : Nat), v]) = H3 at s3 ⊢
      have hlt : j < nx.length := by
        have := (List.getElem?_eq_some_iff.mp hi).1
        rwa [List.length_map] at this
      rw [List.getElem?_map, List.getElem?_eq_getElem hlt] at hi
      cases hi
      have s4 := Same.refl H3
      obtain ⟨j0, j1⟩ := hj _ (List.getElem_mem hlt)
      walk_at "lk"
      refine ⟨.int nx[j], .int nx[j], 0, m - 1, rfl, .int _, ?_⟩
      rw [show withinD (.int nx[j]) 0 (m - 1) = true from by
        show (decide (0 ≤ nx[j]) && decide (nx[j] ≤ m - 1)) = true
        rw [decide_eq_true j0, decide_eq_true (by omega)]
        rfl]
      walk_at "lk"
      refine iff_ rfl ?_
      exact ⟨⟨_, _, rfl⟩, s3.trans s4⟩
    · rintro σ' H' ⟨⟨e1, e2, rfl⟩, s2⟩
      exact q _ s2
abbrev s__check_changes : Stmt := top 37
theorem sc__check_changes : FnScope ["row", "changes", "counts", "size", "index", "forms"] ["row", "changes", "counts", "size"] (defScope s__check_changes) := ⟨rfl, rfl, rfl, by decide +kernel, rfl, by decide +kernel, by decide +kernel⟩
theorem ok_check_changes {f : Addr} {fd : FuncData} (F : Fun K "_check_changes" "_check_changes" s__check_changes f fd) (T : Txt P w K mg base A) (c_are_forms : Cal P w K mg base 4 "are_forms" ["forms", "many", "size"] (spFormsC K)) : FnOk P w K mg base CX0 5 f fd ["row", "changes", "counts", "size"] (spChanges K) := by
  refine F.ok sc__check_changes (fun vs H Q E h => ?_) (fun cdv Ar outer s H vs Q E hr h => ?_)
  · obtain ⟨i, v, l, n, cs, ch, rfl, _⟩ := h
    rfl
  · obtain ⟨i, v, l, n, cs, ch, rfl, hv, hl, hlen, hn, hc, hf, q⟩ := h
    refine ⟨_, (pss_cons (ps_if (PW.pt (pw_or (pt_not (pt_val (pe_callB call_isi (by rfl) T.z_isinstance (by decide +kernel) (pa_cons (pv 1) (pa_cons (pe_bltn (v := .ty "tuple") (by rfl) T.z_tuple (by first | exact PySem.boot_tuple | decide +kernel) rfl) pa_nil))))) (pw_or1 (pt_cmpR op_ne (pe_callB call_len_seq (by rfl) T.z_len PySem.boot_len (pa_cons (pv 1) pa_nil)) (pe_callB call_len_seq (by rfl) T.z_len PySem.boot_len (pa_cons (pv 2) pa_nil)) (nomark _))))) (pss_one ps_never) pss_nil)
        (pss_one (ps_for PassesOwn.never rfl (pi_enumE (by rfl) T.z_enumerate (pa_cons (pv 1) pa_nil)) (pg_tup rfl (pgs_cons (pg_name (i := 4) sc__check_changes.nd rfl (Or.inl rfl)) (pgs_cons (pg_name (i := 5) sc__check_changes.nd rfl (Or.inl rfl)) pgs_nil))) (pss_one (ps_if (pt_not (pt_val (pcal c_are_forms hr (by decide) (pa_cons (pv 5) (pa_cons (pe_ix ix_list (pv 2) (pv 4) (fun _ _ => rfl)) (pa_cons (pv 3) pa_nil)))))) (pss_one ps_never) pss_nil))))), ?_⟩
    walk_at "lk"
    refine s_isi hv.dt.dp (ki_tup _) ?_
    walk_at "lk"
    refine iff_ rfl ?_
    obtain ⟨a, us, rfl, ha, hus⟩ := hv
    have hul := hus.len
    walk_at "lk"
    refine ⟨a, us, rfl, .inr (SqT.of ha), ?_⟩
    walk_at "lk"
    refine ⟨l, cs.map V.int, rfl, .inl (SqL.of hl), ?_⟩
    refine sNe rfl ?_
    walk_at "lk"
    refine iff_ (by rw [List.length_map, hul, hlen]; simp) ?_
    walk_at "lk"
    refine for_enE (xs := us) (fun j σ' H' => (∃ e1 e2, σ' = [some (.int i), some (.ref a), some (.ref l), some (.int n), e1, e2]) ∧ Same H H') rfl (.inr (SqT.of ha)) ⟨⟨_, _, rfl⟩, Same.refl _⟩ (fun j σ' H' h => h.2) ?_ ?_
    · rintro j v p σ' H' hi ⟨⟨e1, e2, rfl⟩, s2⟩ hp
      have s3 : Same H (upd H' p (.tup [.int (j : Nat), v])) := s2.trans (same_new hp)
      refine g_pair (SqT.of upd_same) ?_
      generalize upd H' p (.tup [.int (j : Nat), v]) = H3 at s3 ⊢
      obtain ⟨c, hci, hcv⟩ := hus.at hi
      have hlt : j < cs.length := by
        have := (List.getElem?_eq_some_iff.mp hci).1
        omega
      have hcj : cs[j]? = some cs[j] := List.getElem?_eq_getElem hlt
      obtain ⟨e3, e4⟩ := hc _ _ _ hcj hci
      walk_at "lk"
      refine sfr (SqL.of (s3 _ _ hl)) (atI_ints (z := (j : Int)) (x := cs[j]) (by simpa using hcj) (by omega)) ?_
      walk_at "lk"
      refine ⟨v, cs[j], n, c, rfl, hcv.ts (Ts.of s3), e3, e4, hn, hf c (List.mem_of_getElem? hci), fun H4 s4 => ?_⟩
      walk_at "lk"
      refine iff_ rfl ?_
      exact ⟨⟨_, _, rfl⟩, s3.trans s4⟩
    · rintro σ' H' ⟨⟨e1, e2, rfl⟩, s2⟩
      exact q _ s2
abbrev s__check_row : Stmt := top 34
theorem sc__check_row : FnScope ["counts", "row", "item", "kind", "nexts", "says", "changes", "size", "following"] ["counts", "row", "item"] (defScope s__check_row) := ⟨rfl, rfl, rfl, by decide +kernel, rfl, by decide +kernel, by decide +kernel⟩
theorem ok_check_rowC {f : Addr} {fd : FuncData} (F : Fun K "_check_row" "_check_row" s__check_row f fd) (T : Txt P w K mg base A) (c__check_nexts : Cal P w K mg base 4 "_check_nexts" ["row", "kind", "nexts", "many"] (spNxs K)) (c__check_says : Cal P w K mg base 4 "_check_says" ["row", "says", "size"] (spSays K)) (c__check_changes : Cal P w K mg base 5 "_check_changes" ["row", "changes", "counts", "size"] (spChanges K)) : FnOk P w K mg base CX0 6 f fd ["counts", "row", "item"] (spCRow K) := by
  refine F.ok sc__check_row (fun vs H Q E h => ?_) (fun cdv Ar outer s H vs Q E hr h => ?_)
  · obtain ⟨l, i, v, cts, r, rfl, _⟩ := h
    rfl
  · obtain ⟨l, i, v, cts, r, rfl, hl, hi, hc, hv, hok, q⟩ := h
    have h := T.x_NEXTS
    obtain ⟨es, nn, KD⟩ := h
    refine ⟨_, (pss_cons (ps_if (PW.pt (pw_or (pt_not (pt_val (pe_callB call_isi (by rfl) T.z_isinstance (by decide +kernel) (pa_cons (pv 2) (pa_cons (pe_bltn (v := .ty "tuple") (by rfl) T.z_tuple (by first | exact PySem.boot_tuple | decide +kernel) rfl) pa_nil))))) (pw_or1 (pt_cmpR op_ne (pe_callB call_len_seq (by rfl) T.z_len PySem.boot_len (pa_cons (pv 2) pa_nil)) pe_int (nomark _))))) (pss_one ps_never) pss_nil)
        (pss_cons (ps_asg (pv 2) (pg_tup rfl (pgs_cons (pg_name (i := 3) sc__check_row.nd rfl (Or.inl rfl)) (pgs_cons (pg_name (i := 4) sc__check_row.nd rfl (Or.inl rfl)) (pgs_cons (pg_name (i := 5) sc__check_row.nd rfl (Or.inl rfl)) (pgs_cons (pg_name (i := 6) sc__check_row.nd rfl (Or.inl rfl)) pgs_nil))))))
        (pss_cons (ps_if (PW.pt (pw_or (pt_not (pt_val (pe_callB call_isi (by rfl) T.z_isinstance (by decide +kernel) (pa_cons (pv 3) (pa_cons (pe_bltn (v := .ty "str") (by rfl) T.z_str (by first | exact PySem.boot_str | decide +kernel) rfl) pa_nil))))) (pw_or1 (pt_cmpR (op_notIn_kd KD) (pv 3) (pe_glob (v := .ref A.NEXTS) (by rfl) T.g_NEXTS rfl) (by rfl))))) (pss_one ps_never) pss_nil)
        (pss_cons (ps_expr (pcal c__check_nexts hr (by decide) (pa_cons (pv 1) (pa_cons (pv 3) (pa_cons (pv 4) (pa_cons (pe_callB call_len_seq (by rfl) T.z_len PySem.boot_len (pa_cons (pv 0) pa_nil)) pa_nil))))))
        (pss_cons (ps_expr (pcal c__check_says hr (by decide) (pa_cons (pv 1) (pa_cons (pv 5) (pa_cons (pe_ix (ix_list.or ix_tup) (pv 0) (pv 1) (fun _ _ => rfl)) pa_nil)))))
        (pss_cons (ps_set (i := 7) sc__check_row.nd rfl (Or.inl rfl) (pe_ifExp (pt_cmpR op_eq (pv 3) pe_str (nomark _)) (pe_op op_add (pe_ix (ix_list.or ix_tup) (pv 0) (pv 1) (fun _ _ => rfl)) pe_int) (pe_ix (ix_list.or ix_tup) (pv 0) (pv 1) (fun _ _ => rfl))))
        (pss_one (ps_expr (pcal c__check_changes hr (by decide) (pa_cons (pv 1) (pa_cons (pv 6) (pa_cons (pe_lc (own := [("following", 8)]) (g := gName 8) (tt := tYes) rfl sc__check_row.nd (pi_tup (pv 4)) (blkOk_by (own := [("following", 8)]) (N := ["counts", "row", "item", "kind", "nexts", "says", "changes", "size", "following"]) (sc := defScope s__check_row) (by decide +kernel)) (fun _ _ _ _ _ => pg_name (i := 8) sc__check_row.nd rfl (Or.inl rfl)) (fun _ _ _ _ _ => pts_nil) (fun _ _ _ _ _ => (pe_ix (ix_eitB (K := K) (by rfl)) (pv 0) (pv 8) (fun _ _ => rfl)))) (pa_cons (pv 7) pa_nil))))))))))))), ?_⟩
    obtain ⟨lo, hi2, e, l1, l2⟩ := hok.nxl.lim
    obtain ⟨pn, hpn, hpt⟩ := T.v_NEXTS _ _ _ e
    have hvd := hv.dt.dp (K := K)
    walk_at "lk"
    refine s_isi hvd (ki_tup _) ?_
    walk_at "lk"
    refine iff_ rfl ?_
    obtain ⟨a, b, c, d, rfl, h1, h2, h3, h4⟩ := hv
    walk_at "lk"
    refine ⟨a, [.str r.kd, b, c, d], rfl, .inr (SqT.of h1), ?_⟩
    walk_at "lk"
    refine sNe rfl ?_
    walk_at "lk"
    refine iff_ rfl ?_
    walk_at "lk"
    refine g_quadC (SqT.of h1) ?_
    walk_at "lk"
    refine s_isi (d := .str r.kd) (.str _) (ki_str _) ?_
    walk_at "lk"
    refine iff_ rfl ?_
    walk_at "lk"
    refine ⟨r.kd, _, rfl, rfl, hpn, ?_⟩
    walk_at "lk"
    refine iff_ rfl ?_
    walk_at "lk"
    refine ⟨l, cts.map V.int, rfl, hl, ?_⟩
    rw [List.length_map]
    walk_at "lk"
    refine ⟨(i : Int), r.kd, b, (cts.length : Int), r.nx, rfl, h2, hok.nxl, hok.nxi, fun H1 s1 => ?_⟩
    walk_at "lk"
    have hci : cts[((i : Nat) : Int).toNat]? = some (cts.getD i 0) := by simpa using getD_at hi
    refine sre (hl.same s1) (atI_ints hci (by omega)) ?_
    walk_at "lk"
    obtain ⟨c0, c1⟩ := hc i
    refine ⟨(i : Int), c, cts.getD i 0, r.sy, rfl, h3.ts (Ts.of s1), by omega, hok.syf, fun H2 s2 => ?_⟩
    have s12 := s1.trans s2
    walk_at "lk"
    refine sEq rfl ?_
    walk_at "lk"
    obtain ⟨b', rfl, hb⟩ := h2
    by_cases e9 : r.kd = ("ask" : Str)
    · have ea : askN r.kd = 1 := if_pos e9
      refine itt_ (decide_eq_true (by rw [e9])) ?_
      walk_at "lk"
      refine sre (hl.same s12) (atI_ints hci (by omega)) ?_
      walk_at "lk"
      refine tlc_mapT (ys := (r.nx.map fun j => cts.getD j.toNat 0).map V.int) rfl (SqT.of (s12 _ _ hb)) (by simp) (by rw [List.length_map]; have := hok.nxl.le; omega) (fun _ => rfl) (fun n x y H' hi3 hy s' R q3 => ?_) (fun D H' s' hD hDl => ?_)
      · have hlt : n < r.nx.length := by
          have := (List.getElem?_eq_some_iff.mp hi3).1
          rwa [List.length_map] at this
        rw [List.getElem?_map, List.getElem?_eq_getElem hlt] at hi3
        cases hi3
        rw [List.getElem?_map, List.getElem?_map, List.getElem?_eq_getElem hlt] at hy
        cases hy
        obtain ⟨j0, j1⟩ := hok.nxi _ (List.getElem_mem hlt)
        walk_at "lk"
        exact sre ((hl.same s12).same s') (atI_ints (getD_at (by omega)) j0) (q3 _ (Same.refl _))
      · walk_at "lk"
        have s3 := s12.trans s'
        refine ⟨(i : Int), d, D, cts.getD i 0 + 1, r.nx.map fun j => cts.getD j.toNat 0, r.ch, rfl, h4.ts (Ts.of s3), hDl, by rw [List.length_map]; exact hok.chl, by omega, ?_, ?_, fun H4 s4 => q _ (s3.trans s4)⟩
        · intro m j c hj hc2
          rw [List.getElem?_map] at hj
          cases e5 : r.nx[m]? with
          | none => rw [e5] at hj; cases hj
          | some z =>
            rw [e5] at hj
            cases hj
            exact ⟨hok.chn m z c e5 hc2, by
              show cts.getD z.toNat 0 ≤ 900
              have := (hc z.toNat).2
              omega⟩
        · intro c hc2 f hf
          have := hok.chf c hc2 f hf
          rw [ea] at this
          omega
    · have ea : askN r.kd = 0 := if_neg e9
      refine iff_ (decide_eq_false fun z => e9 (V.str.inj z)) ?_
      walk_at "lk"
      refine sre (hl.same s12) (atI_ints hci (by omega)) ?_
      walk_at "lk"
      refine tlc_mapT (ys := (r.nx.map fun j => cts.getD j.toNat 0).map V.int) rfl (SqT.of (s12 _ _ hb)) (by simp) (by rw [List.length_map]; have := hok.nxl.le; omega) (fun _ => rfl) (fun n x y H' hi3 hy s' R q3 => ?_) (fun D H' s' hD hDl => ?_)
      · have hlt : n < r.nx.length := by
          have := (List.getElem?_eq_some_iff.mp hi3).1
          rwa [List.length_map] at this
        rw [List.getElem?_map, List.getElem?_eq_getElem hlt] at hi3
        cases hi3
        rw [List.getElem?_map, List.getElem?_map, List.getElem?_eq_getElem hlt] at hy
        cases hy
        obtain ⟨j0, j1⟩ := hok.nxi _ (List.getElem_mem hlt)
        walk_at "lk"
        exact sre ((hl.same s12).same s') (atI_ints (getD_at (by omega)) j0) (q3 _ (Same.refl _))
      · walk_at "lk"
        have s3 := s12.trans s'
        refine ⟨(i : Int), d, D, cts.getD i 0, r.nx.map fun j => cts.getD j.toNat 0, r.ch, rfl, h4.ts (Ts.of s3), hDl, by rw [List.length_map]; exact hok.chl, by omega, ?_, ?_, fun H4 s4 => q _ (s3.trans s4)⟩
        · intro m j c hj hc2
          rw [List.getElem?_map] at hj
          cases e5 : r.nx[m]? with
          | none => rw [e5] at hj; cases hj
          | some z =>
            rw [e5] at hj
            cases hj
            exact ⟨hok.chn m z c e5 hc2, by
              show cts.getD z.toNat 0 ≤ 900
              have := (hc z.toNat).2
              omega⟩
        · intro c hc2 f hf
          have := hok.chf c hc2 f hf
          rw [ea] at this
          omega
abbrev s__check_head : Stmt := top 33
theorem sc__check_head : FnScope ["width", "counts", "rows", "start", "index", "many"] ["width", "counts", "rows", "start"] (defScope s__check_head) := ⟨rfl, rfl, rfl, by decide +kernel, rfl, by decide +kernel, by decide +kernel⟩
theorem ok_check_head {f : Addr} {fd : FuncData} (F : Fun K "_check_head" "_check_head" s__check_head f fd) (T : Txt P w K mg base A) (c_is_width : Cal P w K mg base 3 "is_width" ["value"] (spWidth K)) (c_is_sequence : Cal P w K mg base 1 "is_sequence" ["value", "least", "most"] (spSeq K)) (c_is_within : Cal P w K mg base 2 "is_within" ["value", "least", "most"] (spWithin K)) (c_wrong_integer : Cal P w K mg base 2 "wrong_integer" ["value", "size"] (spWrongI K)) : FnOk P w K mg base CX0 4 f fd ["width", "counts", "rows", "start"] (spHead K) := by
  refine F.ok sc__check_head (fun vs H Q E h => ?_) (fun cdv Ar outer s H vs Q E hr h => ?_)
  · obtain ⟨k, l, t, a, cts, us, rs, st, rfl, _⟩ := h
    rfl
  · obtain ⟨k, l, t, a, cts, us, rs, st, rfl, k1, k2, hl, ht, hr0, ha, hok, q⟩ := h
    refine ⟨_, (pss_cons (ps_if (pt_not (pt_val (pcal c_is_width hr (by decide) (pa_cons (pv 0) pa_nil)))) (pss_one ps_never) pss_nil)
        (pss_cons (ps_if (pt_not (pt_val (pcal c_is_sequence hr (by decide) (pa_cons (pv 2) (pa_cons pe_int (pa_cons (pe_gint (by rfl) T.g_MOST_ROWS_codes) pa_nil)))))) (pss_one ps_never) pss_nil)
        (pss_cons (ps_if (pt_not (pt_val (pcal c_is_sequence hr (by decide) (pa_cons (pv 1) (pa_cons (pe_callB call_len_seq (by rfl) T.z_len PySem.boot_len (pa_cons (pv 2) pa_nil)) (pa_cons (pe_callB call_len_seq (by rfl) T.z_len PySem.boot_len (pa_cons (pv 2) pa_nil)) pa_nil)))))) (pss_one ps_never) pss_nil)
        (pss_cons (ps_for PassesOwn.never rfl (pi_enumE (by rfl) T.z_enumerate (pa_cons (pv 1) pa_nil)) (pg_tup rfl (pgs_cons (pg_name (i := 4) sc__check_head.nd rfl (Or.inl rfl)) (pgs_cons (pg_name (i := 5) sc__check_head.nd rfl (Or.inl rfl)) pgs_nil))) (pss_one (ps_if (pt_not (pt_val (pcal c_is_within hr (by decide) (pa_cons (pv 5) (pa_cons pe_int (pa_cons (pe_gint (by rfl) T.g_MOST_REGISTERS) pa_nil)))))) (pss_one ps_never) pss_nil)))
        (pss_one (ps_if (PW.pt (pw_or (pt_not (pt_val (pe_callB call_isi (by rfl) T.z_isinstance (by decide +kernel) (pa_cons (pv 3) (pa_cons (pe_bltn (v := .ty "tuple") (by rfl) T.z_tuple (by first | exact PySem.boot_tuple | decide +kernel) rfl) pa_nil))))) (pw_or1 (pt_cmpR op_notN (pcal c_wrong_integer hr (by decide) (pa_cons (pv 3) (pa_cons (pe_ix (ix_list.or ix_tup) (pv 1) pe_int (fun _ _ => rfl)) pa_nil))) pe_non (nomark _))))) (pss_one ps_never) pss_nil)))))), ?_⟩
    have hlen := hr0.len
    have l1 := hok.l1
    have l2 := hok.l2
    have cl := hok.cl
    obtain ⟨d, hd, hs⟩ := sqe_seq ht (crows_dt hr0).dp
    obtain ⟨d2, hd2, hs2⟩ := sqe_seq hl (dt_ints cts).dp
    walk_at "lk"
    refine ⟨.int k, .int k, rfl, .int k, ?_⟩
    rw [show withinD (.int k) 1 64 = true from by
      show (decide (1 ≤ k) && decide (k ≤ 64)) = true
      rw [decide_eq_true k1, decide_eq_true k2]
      rfl]
    walk_at "lk"
    refine iff_ rfl ?_
    walk_at "lk"
    refine ⟨.ref t, d, 1, 200, rfl, hd, fun H1 s1 => ?_⟩
    rw [hs 1 200 (by rw [List.length_map]; omega) (by rw [List.length_map]; omega)]
    walk_at "lk"
    refine iff_ rfl ?_
    walk_at "lk"
    refine ⟨t, us, rfl, ht.same s1, ?_⟩
    walk_at "lk"
    refine ⟨t, us, rfl, ht.same s1, ?_⟩
    walk_at "lk"
    refine ⟨.ref l, d2, us.length, us.length, rfl, dp_same s1 hd2, fun H2 s2 => ?_⟩
    have s12 := s1.trans s2
    rw [hs2 us.length us.length (by rw [List.length_map]; omega) (by rw [List.length_map]; omega)]
    walk_at "lk"
    refine iff_ rfl ?_
    walk_at "lk"
    refine for_enE (xs := cts.map V.int) (fun j σ' H' => (∃ e1 e2, σ' = [some (.int k), some (.ref l), some (.ref t), some (.ref a), e1, e2]) ∧ Same H2 H') rfl (hl.same s12) ⟨⟨_, _, rfl⟩, Same.refl _⟩ (fun j σ' H' h => h.2) ?_ ?_
    · rintro j v p σ' H' hi ⟨⟨e1, e2, rfl⟩, s2⟩ hp
      have s3 : Same H2 (upd H' p (.tup [.int (j : Nat), v])) := s2.trans (same_new hp)
      refine g_pair (SqT.of upd_same) ?_
      generalize upd H' p (.tup [.int (j : Nat), v]) = H3 at s3 ⊢
      have hlt : j < cts.length := by
        have := (List.getElem?_eq_some_iff.mp hi).1
        rwa [List.length_map] at this
      rw [List.getElem?_map, List.getElem?_eq_getElem hlt] at hi
      cases hi
      have s4 := Same.refl H3
      obtain ⟨j0, j1⟩ := hok.c0 _ (List.getElem_mem hlt)
      walk_at "lk"
      refine ⟨.int cts[j], .int cts[j], 0, 64, rfl, .int _, ?_⟩
      rw [show withinD (.int cts[j]) 0 64 = true from by
        show (decide (0 ≤ cts[j]) && decide (cts[j] ≤ 64)) = true
        rw [decide_eq_true j0, decide_eq_true j1]
        rfl]
      walk_at "lk"
      refine iff_ rfl ?_
      exact ⟨⟨_, _, rfl⟩, s3.trans s4⟩
    · rintro σ' H' ⟨⟨e1, e2, rfl⟩, s2⟩
      have s3 := s12.trans s2
      have had := Dp.tup ha (dt_ints st).dp
      walk_at "lk"
      refine s_isi (dp_same s3 had) (ki_tup _) ?_
      walk_at "lk"
      refine iff_ rfl ?_
      walk_at "lk"
      refine sre (hl.same s3) (atI_ints (z := 0) (x := cts.getD 0 0) (getD_at (by omega)) (by omega)) ?_
      walk_at "lk"
      refine ⟨a, st, cts.getD 0 0, rfl, .inr (same_sqT s3 ha), hok.sl, fun H4 s4 => ?_⟩
      walk_at "lk"
      refine ⟨rfl, ?_⟩
      walk_at "lk"
      refine iff_ rfl ?_
      exact q _ (s3.trans s4)
end
end K42

namespace K42
open PySem PySem.Spec PyProof.Rows L2 RZ Lk
local macro_rules | `(tactic| walk_at "lk") => `(tactic| (repeat (first
  | with_reducible refine ssq ?_ | with_reducible refine sas ?_ | with_reducible refine sgn ?_ | ((with_reducible show tVar _ _ _ _); refine sv rfl ?_) | with_reducible refine sc ?_ | with_reducible refine sop ?_ | with_reducible refine sun ?_
  | with_reducible refine sI0 ?_ | with_reducible refine sU ?_ | with_reducible refine stt ?_ | with_reducible refine stB ?_ | with_reducible refine sbl ?_ | with_reducible refine snt ?_ | with_reducible refine sif ?_ | with_reducible refine scB ?_
  | with_reducible refine scn ?_ | with_reducible refine snl ?_ | with_reducible refine scl ?_ | with_reducible refine stu ?_ | with_reducible refine sli ?_ | with_reducible refine sdr ?_ | with_reducible refine srt ?_ | with_reducible refine snx ?_ | with_reducible refine sfor ?_ | with_reducible refine sils ?_ | with_reducible refine sien ?_ | with_reducible refine sor ?_ | with_reducible refine sfg ?_
  | with_reducible refine sav ?_ | with_reducible refine sov ?_ | with_reducible refine snv ?_ | with_reducible refine sch ?_ | with_reducible refine san ?_ | with_reducible refine ssll ?_ | with_reducible refine spt ?_ | with_reducible refine snp ?_ | with_reducible refine sin ?_ | with_reducible refine sfl ?_ | with_reducible refine sfd ?_ | with_reducible refine sbm ?_ | with_reducible refine sifx ?_ | with_reducible refine smk ?_ | with_reducible refine ssli ?_ | with_reducible refine sbz ?_
  | ((with_reducible show Or _ _); first | refine Or.inl ⟨_, rfl, ?_⟩ | refine Or.inr ⟨_, rfl, ?_⟩))))

theorem tlc_F2T {K : PySem.W.Frag} {H : Hp} {σ : L2.St} {a : Addr} {xs : List V} {α β : Type} {as : List α} {j k : Nat} {te : TE} {vs : List Nat} {Q : VK} (Rin : Hp → V → α → Prop) (Rout : Hp → V → β → Prop) (f : α → β)
    (iS : ∀ {H H' v x}, Same H H' → Rin H v x → Rin H' v x) (oS : ∀ {H H' v x}, Ts H H' → Rout H v x → Rout H' v x) (hj : σ[j]? = some (some (.ref a))) (hx : SqT K H a xs) (hr : F2 (Rin H) xs as) (h3 : xs.length ≤ 1000)
    (hw : ∀ x, wipe ((wipe σ vs).set k (some x)) vs = wipe σ vs)
    (he : ∀ (i : Nat) (x : V) (r : α) (H' : Hp), as[i]? = some r → Rin H' x r → Same H H' → ∀ R : VK, (∀ u H'', Same H' H'' → Rout H'' u (f r) → R u H'') → te ((wipe σ vs).set k (some x)) H' R)
    (q : ∀ D ys H', Same H H' → H D = none → H' D = some (.lst ys) → F2 (Rout H') ys (as.map f) → Q (.ref D) H') : tLc (iTup K (tVar j)) (gName k) tYes te vs σ H Q :=
  ⟨_, hj, a, rfl, ⟨xs, hx⟩, fun D hD => tlc_core (J := Itt K a) (D := D) Rin Rout f iS oS hr h3 hD hw he (fun Pv p0 pS ht hd => lc_tup Pv p0 (fun i H' _ h => same_sqT (pS i H' h) hx) ht hd) fun ys H' s e h => q D ys H' s hD e h⟩
/-- not too long -/
structure CRowSz (r : CRow) : Prop where
  s1 : r.sy.length ≤ 1000
  s2 : ∀ f ∈ r.sy, f.length ≤ 1000
  s3 : r.ch.length ≤ 1000
  s4 : ∀ c ∈ r.ch, c.length ≤ 1000
  s5 : ∀ c ∈ r.ch, ∀ f ∈ c, f.length ≤ 1000
def spLowRowC (K : PySem.W.Frag) : Sp := fun vs H Q _ => ∃ (v : V) (k : Nat) (r : CRow), vs = [v, .int (k : Int)] ∧ k ≤ 64 ∧ CRowH H v r ∧ CRowSz r ∧ ∀ u H', Same H H' → CRowH H' u (r.low k) → Q u H'
theorem _root_.Lk.CRowOk.sz {cts : List Int} {i : Nat} {r : CRow} (h : CRowOk cts i r) (hc : ∀ j, 0 ≤ cts.getD j 0 ∧ cts.getD j 0 ≤ 64) : CRowSz r := by
  have hi := hc i
  have ha : askN r.kd ≤ 1 := by
    unfold askN
    split <;> omega
  have hn := h.nxl.le
  have hcl := h.chl
  refine ⟨by have := h.syl; omega, fun f hf => by have := h.syf f hf; omega, by omega, fun c hc2 => ?_, fun c hc2 f hf => by have := h.chf c hc2 f hf; omega⟩
  obtain ⟨n, hn2⟩ := List.getElem?_of_mem hc2
  have hlt := (List.getElem?_eq_some_iff.mp hn2).1
  have := h.chn n _ c (List.getElem?_eq_getElem (by omega)) hn2
  have := (hc (r.nx[n]'(by omega)).toNat).2
  omega
def spInitC (K : PySem.W.Frag) (A : Ad) : Sp := fun vs H Q _ => ∃ (x dx l t a : Addr) (k : Nat) (cts : List Int) (us : List V) (rs : List CRow) (st : List Int), vs = [.ref x, .int (k : Int), .ref l, .ref t, .ref a] ∧ H x = some (.ins A.Code dx []) ∧ 1 ≤ k ∧ k ≤ 64 ∧ SqE K H l (cts.map V.int) ∧ SqE K H t us ∧ F2 (CRowH H) us rs ∧ SqT K H a (st.map V.int) ∧ CodeOk cts rs st ∧
  ∀ H', Bar x H H' → CodeO K A.Code H' x k cts (rs.map (CRow.low k)) (st.map (· % 2 ^ k)) → Q .non H'

section
variable {P : Program} {w : World} {K : PySem.W.Frag} {mg : Str → Option Value} {base : Heap} {A : Ad}
abbrev s__lowered_row : Stmt := top 39
theorem sc__lowered_row : FnScope ["item", "width", "kind", "nexts", "says", "changes", "lowered_says", "lowered_changes", "form", "forms"] ["item", "width"] (defScope s__lowered_row) := ⟨rfl, rfl, rfl, by decide +kernel, rfl, by decide +kernel, by decide +kernel⟩
theorem ok_lowered_rowC {f : Addr} {fd : FuncData} (F : Fun K "_lowered_row" "_lowered_row" s__lowered_row f fd) (T : Txt P w K mg base A) (c_lowered : Cal P w K mg base 1 "lowered" ["numbers", "width"] (spLow K)) : FnOk P w K mg base CX0 2 f fd ["item", "width"] (spLowRowC K) := by
  refine F.ok sc__lowered_row (fun vs H Q E h => ?_) (fun cdv Ar outer s H vs Q E hr h => ?_)
  · obtain ⟨v, k, r, rfl, _⟩ := h
    rfl
  · obtain ⟨v, k, r, rfl, hk, hv, sz, q⟩ := h
    refine ⟨_, (pss_cons (ps_asg (pv 0) (pg_tup rfl (pgs_cons (pg_name (i := 2) sc__lowered_row.nd rfl (Or.inl rfl)) (pgs_cons (pg_name (i := 3) sc__lowered_row.nd rfl (Or.inl rfl)) (pgs_cons (pg_name (i := 4) sc__lowered_row.nd rfl (Or.inl rfl)) (pgs_cons (pg_name (i := 5) sc__lowered_row.nd rfl (Or.inl rfl)) pgs_nil))))))
        (pss_cons (ps_set (i := 6) sc__lowered_row.nd rfl (Or.inl rfl) (pe_callTy call_tupOf (by rfl) T.z_tuple (by decide +kernel) (pa_cons (pe_lc (own := [("form", 8)]) (g := gName 8) (tt := tYes) rfl sc__lowered_row.nd (pi_tup (pv 4)) (blkOk_by (own := [("form", 8)]) (N := ["item", "width", "kind", "nexts", "says", "changes", "lowered_says", "lowered_changes", "form", "forms"]) (sc := defScope s__lowered_row) (by decide +kernel)) (fun _ _ _ _ _ => pg_name (i := 8) sc__lowered_row.nd rfl (Or.inl rfl)) (fun _ _ _ _ _ => pts_nil) (fun _ _ _ _ _ => (pcal c_lowered hr (by decide) (pa_cons (pv 8) (pa_cons (pv 1) pa_nil))))) pa_nil)))
        (pss_cons (ps_set (i := 7) sc__lowered_row.nd rfl (Or.inl rfl) (pe_callTy call_tupOf (by rfl) T.z_tuple (by decide +kernel) (pa_cons (pe_lc (own := [("forms", 9)]) (g := gName 9) (tt := tYes) rfl sc__lowered_row.nd (pi_tup (pv 5)) (blkOk_by (own := [("forms", 9)]) (N := ["item", "width", "kind", "nexts", "says", "changes", "lowered_says", "lowered_changes", "form", "forms"]) (sc := defScope s__lowered_row) (by decide +kernel)) (fun _ _ _ _ _ => pg_name (i := 9) sc__lowered_row.nd rfl (Or.inl rfl)) (fun _ _ _ _ _ => pts_nil) (fun _ _ _ _ _ => (pe_callTy (show CallR _ (.type "tuple") (rTupOf K) from call_tupOf) (by rfl) T.z_tuple (by decide +kernel) (pa_cons (pe_lc (own := [("form", 8)]) (g := gName 8) (tt := tYes) rfl sc__lowered_row.nd (show PI _ _ _ (iTup K (tVar 9)) from pi_tup (pv 9)) (blkOk_by (by kernel_rfl)) (fun _ _ _ _ _ => pg_name (i := 8) sc__lowered_row.nd rfl (Or.inl rfl)) (fun _ _ _ _ _ => pts_nil) (fun _ _ _ _ _ => (pcal c_lowered hr (by decide) (pa_cons (pv 8) (pa_cons (pv 1) pa_nil))))) pa_nil)))) pa_nil)))
        (pss_one (ps_ret (pe_tup (pa_cons (pv 2) (pa_cons (pv 3) (pa_cons (pv 6) (pa_cons (pv 7) pa_nil)))))))))), ?_⟩
    obtain ⟨a, b, c, d, rfl, h1, h2, h3, h4⟩ := hv
    obtain ⟨p3, us3, rfl, e3, f3⟩ := h3
    obtain ⟨p4, us4, rfl, e4, f4⟩ := h4
    walk_at "lk"
    refine g_quadC (SqT.of h1) ?_
    walk_at "lk"
    refine tlc_F2T (fun H v f => CfH H v f) (fun H v f => CfH H v f) (lowF k) (fun s h => h.ts (Ts.of s)) (fun s h => h.ts s) rfl (SqT.of e3) f3 (by rw [f3.len]; exact sz.s1) (fun _ => rfl) (fun i x f H' hfi hf s' R qr => ?_) (fun D ys H1 s1 hD hDl hys => ?_)
    · obtain ⟨pf, rfl, ef⟩ := hf
      walk_at "lk"
      exact ⟨pf, f, k, rfl, SqT.of ef, sz.s2 f (List.mem_of_getElem? hfi), hk, fun p H2 s2 _ h2p => qr _ _ s2 ⟨p, rfl, by rw [h2p]; simp [lowF]⟩⟩
    · walk_at "lk"
      refine s_tupL hDl fun p H2 s2 hp0 hp => ?_
      have g3 : CfsH H2 (.ref p) (r.sy.map (lowF k)) := ⟨p, ys, rfl, hp, hys.mono fun _ _ z => z.ts (Ts.of s2)⟩
      have s12 := s1.trans s2
      walk_at "lk"
      refine tlc_F2T (fun H v c => CfsH H v c) (fun H v c => CfsH H v c) (fun c => c.map (lowF k)) (fun s h => h.ts (Ts.of s)) (fun s h => h.ts s) rfl (same_sqT s12 (SqT.of e4)) (f4.mono fun _ _ z => z.ts (Ts.of s12)) (by rw [f4.len]; exact sz.s3) (fun _ => rfl) (fun i x c H' hci hc s' R qr => ?_) (fun D2 ys2 H3 s3 hD2 hD2l hys2 => ?_)
      · obtain ⟨pc, uc, rfl, ec, fc⟩ := hc
        have hcm := List.mem_of_getElem? hci
        walk_at "lk"
        refine tlc_F2T (fun H v f => CfH H v f) (fun H v f => CfH H v f) (lowF k) (fun s h => h.ts (Ts.of s)) (fun s h => h.ts s) rfl (SqT.of ec) fc (by rw [fc.len]; exact sz.s4 c hcm) (fun _ => rfl) (fun i x f H4 hfi hf s4 R2 qr2 => ?_) (fun D4 ys4 H4 s4 hD4 hD4l hys4 => ?_)
        · obtain ⟨pf, rfl, ef⟩ := hf
          walk_at "lk"
          exact ⟨pf, f, k, rfl, SqT.of ef, sz.s5 c hcm f (List.mem_of_getElem? hfi), hk, fun p H2 s2 _ h2p => qr2 _ _ s2 ⟨p, rfl, by rw [h2p]; simp [lowF]⟩⟩
        · walk_at "lk"
          refine s_tupL hD4l fun p5 H5 s5 hp5 hp5t => ?_
          exact qr _ _ (s4.trans s5) ⟨p5, ys4, rfl, hp5t, hys4.mono fun _ _ z => z.ts (Ts.of s5)⟩
      · walk_at "lk"
        refine s_tupL hD2l fun p6 H6 s6 hp6 hp6t => ?_
        have g4 : CcsH H6 (.ref p6) (r.ch.map (·.map (lowF k))) := ⟨p6, ys2, rfl, hp6t, hys2.mono fun _ _ z => z.ts (Ts.of s6)⟩
        have s36 := s3.trans s6
        walk_at "lk"
        refine snw (Nat.le_of_ble_eq_true rfl) fun p7 hp7 => ?_
        have s7 : Same H6 (upd H6 p7 (.tup [.str r.kd, b, .ref p, .ref p6])) := same_new hp7
        exact q _ _ (s12.trans (s36.trans s7)) ⟨p7, b, .ref p, .ref p6, rfl, upd_same, h2.ts (Ts.of (s12.trans (s36.trans s7))), g3.ts (Ts.of (s36.trans s7)), g4.ts (Ts.of s7)⟩
abbrev s_Code___init__ : Stmt := inClass (top 28) 0
theorem sc_Code___init__ : FnScope ["self", "width", "counts", "rows", "start", "row", "item"] ["self", "width", "counts", "rows", "start"] (defScope s_Code___init__) := ⟨rfl, rfl, rfl, by decide +kernel, rfl, by decide +kernel, by decide +kernel⟩
theorem ok_initC {f : Addr} {fd : FuncData} (F : Fun K "__init__" "Code.__init__" s_Code___init__ f fd) (T : Txt P w K mg base A) (c__check_head : Cal P w K mg base 4 "_check_head" ["width", "counts", "rows", "start"] (spHead K)) (c__check_row : Cal P w K mg base 6 "_check_row" ["counts", "row", "item"] (spCRow K)) (c__lowered_row : Cal P w K mg base 2 "_lowered_row" ["item", "width"] (spLowRowC K)) (c_lowered : Cal P w K mg base 1 "lowered" ["numbers", "width"] (spLow K)) : FnOk P w K mg base CX0 7 f fd ["self", "width", "counts", "rows", "start"] (spInitC K A) := by
  refine F.ok sc_Code___init__ (fun vs H Q E h => ?_) (fun cdv Ar outer s H vs Q E hr h => ?_)
  · obtain ⟨x, dx, l, t, a, k, cts, us, rs, st, rfl, _⟩ := h
    rfl
  · obtain ⟨x, dx, l, t, a, k, cts, us, rs, st, rfl, hx, k1, k2, hl, ht, hr0, ha, hok, q⟩ := h
    refine ⟨_, (pss_cons (ps_expr (pcal c__check_head hr (by decide) (pa_cons (pv 1) (pa_cons (pv 2) (pa_cons (pv 3) (pa_cons (pv 4) pa_nil))))))
        (pss_cons (ps_for PassesOwn.never rfl (pi_enumE (by rfl) T.z_enumerate (pa_cons (pv 3) pa_nil)) (pg_tup rfl (pgs_cons (pg_name (i := 5) sc_Code___init__.nd rfl (Or.inl rfl)) (pgs_cons (pg_name (i := 6) sc_Code___init__.nd rfl (Or.inl rfl)) pgs_nil))) (pss_one (ps_expr (pcal c__check_row hr (by decide) (pa_cons (pv 2) (pa_cons (pv 5) (pa_cons (pv 6) pa_nil)))))))
        (pss_cons (ps_fld (pv 0) (pv 1) (by rfl))
        (pss_cons (ps_fld (pv 0) (pe_callTy call_tupOf (by rfl) T.z_tuple (by decide +kernel) (pa_cons (pv 2) pa_nil)) (by rfl))
        (pss_cons (ps_fld (pv 0) (pe_callTy call_tupOf (by rfl) T.z_tuple (by decide +kernel) (pa_cons (pe_lc (own := [("item", 6)]) (g := gName 6) (tt := tYes) rfl sc_Code___init__.nd (pi_either (pv 3)) (blkOk_by (own := [("item", 6)]) (N := ["self", "width", "counts", "rows", "start", "row", "item"]) (sc := defScope s_Code___init__) (by decide +kernel)) (fun _ _ _ _ _ => pg_name (i := 6) sc_Code___init__.nd rfl (Or.inl rfl)) (fun _ _ _ _ _ => pts_nil) (fun _ _ _ _ _ => (pcal c__lowered_row hr (by decide) (pa_cons (pv 6) (pa_cons (pv 1) pa_nil))))) pa_nil)) (by rfl))
        (pss_one (ps_fld (pv 0) (pcal c_lowered hr (by decide) (pa_cons (pv 4) (pa_cons (pv 1) pa_nil))) (by rfl)))))))), ?_⟩
    have hlen := hr0.len
    have l2 := hok.l2
    have cl := hok.cl
    walk_at "lk"
    refine ⟨(k : Int), l, t, a, cts, us, rs, st, rfl, by omega, by omega, hl, ht, hr0, ha, hok, fun H1 s1 => ?_⟩
    walk_at "lk"
    refine for_enE (xs := us) (fun j σ' H' => (∃ e1 e2, σ' = [some (.ref x), some (.int (k : Int)), some (.ref l), some (.ref t), some (.ref a), e1, e2]) ∧ Same H1 H') rfl (ht.same s1) ⟨⟨_, _, rfl⟩, Same.refl _⟩ (fun j σ' H' h => h.2) ?_ ?_
    · rintro j v p σ' H' hi ⟨⟨e1, e2, rfl⟩, s2⟩ hp
      have s3 : Same H1 (upd H' p (.tup [.int (j : Nat), v])) := s2.trans (same_new hp)
      refine g_pair (SqT.of upd_same) ?_
      generalize upd H' p (.tup [.int (j : Nat), v]) = H3 at s3 ⊢
      obtain ⟨r, hri, hrv⟩ := hr0.at hi
      have hj : j < rs.length := (List.getElem?_eq_some_iff.mp hri).1
      have s13 := s1.trans s3
      walk_at "lk"
      refine ⟨l, j, v, cts, r, rfl, hl.same s13, by omega, hok.cD, hrv.ts (Ts.of s13), hok.ok j r hri, fun H4 s4 => ?_⟩
      exact ⟨⟨_, _, rfl⟩, s3.trans s4⟩
    rintro σ' H2 ⟨⟨e1, e2, rfl⟩, s2⟩
    have s12 := s1.trans s2
    walk_at "lk"
    refine ⟨x, A.Code, dx, [], rfl, s12 _ _ hx, T.c_Code, T.m_width, by decide, ?_⟩
    have b3 : Bar x H (upd H2 x (.ins A.Code dx (putF "width" (.int (k : Int)) []))) := (Bar.of s12).trans Bar.upd
    have x3 : (upd H2 x (.ins A.Code dx (putF "width" (.int (k : Int)) []))) x = some (.ins A.Code dx [("width", .int (k : Int))]) := upd_same
    generalize upd H2 x (.ins A.Code dx (putF "width" (.int (k : Int)) [])) = H3 at b3 x3 ⊢
    walk_at "lk"
    refine s_tupE (b3.sqE hx hl) fun tc H4 s4 h4 => ?_
    walk_at "lk"
    refine ⟨x, A.Code, dx, _, rfl, s4 _ _ x3, T.c_Code, T.m_counts, Nat.le_of_ble_eq_true rfl, ?_⟩
    have b5' : Bar x H4 (upd H4 x (.ins A.Code dx (putF "counts" (.ref tc) [("width", .int (k : Int))]))) := Bar.upd
    have x5 : (upd H4 x (.ins A.Code dx (putF "counts" (.ref tc) [("width", .int (k : Int))]))) x = some (.ins A.Code dx [("width", .int (k : Int)), ("counts", .ref tc)]) := upd_same
    generalize upd H4 x (.ins A.Code dx (putF "counts" (.ref tc) [("width", .int (k : Int))])) = H5 at b5' x5 ⊢
    have b5 : Bar x H H5 := (b3.trans (Bar.of s4)).trans b5'
    have h5 := b5'.sqT (s4 _ _ x3) h4
    walk_at "lk"
    refine tlc_F2E (fun H v r => CRowH H v r) (fun H v r => CRowH H v r) (CRow.low k) (fun s h => h.ts (Ts.of s)) (fun s h => h.ts s) rfl (b5.sqE hx ht) (hr0.mono fun _ _ z => z.ts (b5.ts hx)) (by omega) (fun _ => rfl) (fun i v r H' hri hv s' R qr => ?_) (fun D ys H6 s6 hD hDl hys => ?_)
    · walk_at "lk"
      exact ⟨v, k, r, rfl, k2, hv, (hok.ok i r hri).sz hok.cD, qr⟩
    walk_at "lk"
    refine s_tupE (.inl (SqL.of hDl)) fun tr H7 s7 h7 => ?_
    walk_at "lk"
    refine ⟨x, A.Code, dx, _, rfl, s7 _ _ (s6 _ _ x5), T.c_Code, T.m_rows, Nat.le_of_ble_eq_true rfl, ?_⟩
    have x7 := s7 _ _ (s6 _ _ x5)
    have b8' : Bar x H7 (upd H7 x (.ins A.Code dx (putF "rows" (.ref tr) [("width", .int (k : Int)), ("counts", .ref tc)]))) := Bar.upd
    have x8 : (upd H7 x (.ins A.Code dx (putF "rows" (.ref tr) [("width", .int (k : Int)), ("counts", .ref tc)]))) x = some (.ins A.Code dx [("width", .int (k : Int)), ("counts", .ref tc), ("rows", .ref tr)]) := upd_same
    generalize upd H7 x (.ins A.Code dx (putF "rows" (.ref tr) [("width", .int (k : Int)), ("counts", .ref tc)])) = H8 at b8' x8 ⊢
    have b8 : Bar x H H8 := (b5.trans (Bar.of (s6.trans s7))).trans b8'
    have h8 := b8'.sqT x7 (same_sqT s7 (same_sqT s6 h5))
    have r8 := b8'.sqT x7 h7
    have y8 : F2 (CRowH H8) ys (rs.map (CRow.low k)) := hys.mono fun _ _ z => (z.ts (Ts.of s7)).ts (b8'.ts x7)
    walk_at "lk"
    have s0 := hok.sl
    have s1' := (hok.cD 0).2
    refine ⟨a, st, k, rfl, b8.sqT hx ha, by omega, k2, fun ts H9 s9 _ h9 => ?_⟩
    walk_at "lk"
    refine ⟨x, A.Code, dx, _, rfl, s9 _ _ x8, T.c_Code, T.m_start, Nat.le_of_ble_eq_true rfl, ?_⟩
    have x9 := s9 _ _ x8
    have b10 : Bar x H9 (upd H9 x (.ins A.Code dx (putF "start" (.ref ts) [("width", .int (k : Int)), ("counts", .ref tc), ("rows", .ref tr)]))) := Bar.upd
    have x10 : (upd H9 x (.ins A.Code dx (putF "start" (.ref ts) [("width", .int (k : Int)), ("counts", .ref tc), ("rows", .ref tr)]))) x = some (.ins A.Code dx (cdF k tc tr ts)) := upd_same
    refine q _ ((b8.trans (Bar.of s9)).trans b10) ⟨dx, tc, tr, ts, ys, x10, b10.sqT x9 (same_sqT s9 h8), b10.sqT x9 (same_sqT s9 r8), (y8.mono fun _ _ z => (z.ts (Ts.of s9)).ts (b10.ts x9)), b10.sqT x9 (SqT.of ?_)⟩
    rw [h9]
    simp
end
end K42

namespace K42
open PySem PySem.Spec PyProof.Rows L2 RZ Lk
local macro_rules | `(tactic| walk_at "lk") => `(tactic| (repeat (first
  | with_reducible refine ssq ?_ | with_reducible refine sas ?_ | with_reducible refine sgn ?_ | ((with_reducible show tVar _ _ _ _); refine sv rfl ?_) | with_reducible refine sc ?_ | with_reducible refine sop ?_ | with_reducible refine sun ?_
  | with_reducible refine sI0 ?_ | with_reducible refine sU ?_ | with_reducible refine stt ?_ | with_reducible refine stB ?_ | with_reducible refine sbl ?_ | with_reducible refine snt ?_ | with_reducible refine sif ?_ | with_reducible refine scB ?_
  | with_reducible refine scn ?_ | with_reducible refine snl ?_ | with_reducible refine scl ?_ | with_reducible refine stu ?_ | with_reducible refine sli ?_ | with_reducible refine sdr ?_ | with_reducible refine srt ?_ | with_reducible refine snx ?_ | with_reducible refine sfor ?_ | with_reducible refine sils ?_ | with_reducible refine sien ?_ | with_reducible refine sor ?_ | with_reducible refine sfg ?_
  | with_reducible refine sav ?_ | with_reducible refine sov ?_ | with_reducible refine snv ?_ | with_reducible refine sch ?_ | with_reducible refine san ?_ | with_reducible refine ssll ?_ | with_reducible refine spt ?_ | with_reducible refine snp ?_ | with_reducible refine sin ?_ | with_reducible refine sfl ?_ | with_reducible refine sfd ?_ | with_reducible refine sbm ?_ | with_reducible refine sifx ?_ | with_reducible refine smk ?_ | with_reducible refine ssli ?_ | with_reducible refine sbz ?_
  | ((with_reducible show Or _ _); first | refine Or.inl ⟨_, rfl, ?_⟩ | refine Or.inr ⟨_, rfl, ?_⟩))))

theorem seq_mid {t u : TS} {D : Ends} {σ : L2.St} {H : Hp} (R : L2.St → Hp → Prop) (h : ∀ σ' H', R σ' H' → u D σ' H') (q : ∀ N : L2.St → Hp → Prop, (∀ σ' H', R σ' H' → N σ' H') → t { D with nx := N } σ H) : tSeq t u D σ H := q _ h
/-! ### what is drawn for a row -/
def rkOf : LRow → Str
  | .set _ _ _ => "set"
  | .say _ _ => "say"
  | .ask _ _ => "ask"
  | .choose _ => "choose"
  | .look _ => "look"
  | .stop => "stop"
def ckOf : LRow → Str
  | .ask _ _ => "ask"
  | .choose _ => "choose"
  | .stop => "stop"
  | _ => "go"
def cnOf : LRow → List Int
  | .set _ _ k => [k]
  | .say _ k => [k]
  | .ask _ k => [k]
  | .choose ks => ks
  | .look k => [k]
  | .stop => []
def cmOf (n : Nat) : LRow → Nat
  | .say _ _ => 1
  | .look _ => n
  | _ => 0
theorem nx_of {ns : List Str} {m : Int} {r : LRow} (h : RowOk ns m r) : nxOk (ckOf r) (cnOf r).length ∧ ∀ j ∈ cnOf r, 0 ≤ j ∧ j < m := by
  cases r with
  | set n f k => exact ⟨.inl ⟨rfl, rfl⟩, fun j hj => by rw [List.mem_singleton.mp hj]; exact h.2.2⟩
  | say f k => exact ⟨.inl ⟨rfl, rfl⟩, fun j hj => by rw [List.mem_singleton.mp hj]; exact h.2⟩
  | ask n k => exact ⟨.inr (.inl ⟨rfl, rfl⟩), fun j hj => by rw [List.mem_singleton.mp hj]; exact h.2⟩
  | choose ks => exact ⟨.inr (.inr (.inl ⟨rfl, h.1, h.2.1⟩)), h.2.2⟩
  | look k => exact ⟨.inl ⟨rfl, rfl⟩, fun j hj => by rw [List.mem_singleton.mp hj]; exact h⟩
  | stop => exact ⟨.inr (.inr (.inr ⟨rfl, rfl⟩)), fun j hj => by cases hj⟩
def isIn : LRow → Bool
  | .ask _ _ => true
  | .choose _ => true
  | .stop => true
  | _ => false
theorem in_kd (r : LRow) : inV (.str (rkOf r)) ((["ask", "choose", "stop"] : List Str).map V.str) = isIn r := by
  cases r with
  | set n f k => exact (by decide +kernel : inV (.str "set") ((["ask", "choose", "stop"] : List Str).map V.str) = false)
  | say f k => exact (by decide +kernel : inV (.str "say") ((["ask", "choose", "stop"] : List Str).map V.str) = false)
  | ask n k => exact (by decide +kernel : inV (.str "ask") ((["ask", "choose", "stop"] : List Str).map V.str) = true)
  | choose ks => exact (by decide +kernel : inV (.str "choose") ((["ask", "choose", "stop"] : List Str).map V.str) = true)
  | look k => exact (by decide +kernel : inV (.str "look") ((["ask", "choose", "stop"] : List Str).map V.str) = false)
  | stop => exact (by decide +kernel : inV (.str "stop") ((["ask", "choose", "stop"] : List Str).map V.str) = true)
theorem isIn_ck {r : LRow} : ckOf r = if isIn r = true then rkOf r else "go" := by
  cases r <;> rfl
theorem get_cm (n : Nat) (r : LRow) : (valV (mergeK [] [(.inr "say", V.int 1), (.inr "look", V.int (n : Int))]) (.inr (rkOf r))).getD (V.int 0) = V.int ((cmOf n r : Nat) : Int) := by
  cases r <;> kernel_rfl
theorem cm_le {n : Nat} (h : n ≤ 6) (r : LRow) : cmOf n r ≤ 6 := by
  cases r <;> simp [cmOf] <;> omega
theorem ask_if {kd : Str} : (if decide (V.str kd = V.str "ask") = true then (1 : Int) else 0) = askN kd := by
  unfold askN
  by_cases h : kd = ("ask" : Str)
  · rw [if_pos h, if_pos (decide_eq_true (by rw [h]))]
    rfl
  · rw [if_neg h, if_neg (by rw [decide_eq_true_eq]; exact fun z => h (V.str.inj z))]
    rfl
theorem ask_01 (kd : Str) : askN kd = 0 ∨ askN kd = 1 := by
  unfold askN
  by_cases h : kd = ("ask" : Str)
  · rw [if_pos h]; exact .inr rfl
  · rw [if_neg h]; exact .inl rfl
theorem low_fs {k : Nat} {c : List (List Int)} (h : ∀ f ∈ c, ∀ x ∈ f, 0 ≤ x ∧ x < (2 : Int) ^ k) : c.map (lowF k) = c := by
  have : c.map (lowF k) = c.map id := List.map_congr_left fun f hf => red_map (h f hf)
  rw [this, List.map_id]
theorem crow_low {k : Nat} {r : CRow} (h1 : ∀ f ∈ r.sy, ∀ x ∈ f, 0 ≤ x ∧ x < (2 : Int) ^ k) (h2 : ∀ c ∈ r.ch, ∀ f ∈ c, ∀ x ∈ f, 0 ≤ x ∧ x < (2 : Int) ^ k) : r.low k = r := by
  have e1 := low_fs h1
  have e2 : r.ch.map (·.map (lowF k)) = r.ch := by
    have : r.ch.map (·.map (lowF k)) = r.ch.map id := List.map_congr_left fun c hc => low_fs (h2 c hc)
    rw [this, List.map_id]
  unfold CRow.low
  rw [e1, e2]
theorem row_tup {H : Hp} {v : V} {r : LRow} (h : RowH H v r) : ∃ a xs, v = .ref a ∧ H a = some (.tup xs) ∧ atI xs 0 = some (.str (rkOf r)) := by
  cases r with
  | set n f k => obtain ⟨a, b, rfl, h1, h2⟩ := h; exact ⟨a, _, rfl, h1, rfl⟩
  | say f k => obtain ⟨a, b, rfl, h1, h2⟩ := h; exact ⟨a, _, rfl, h1, rfl⟩
  | ask n k => obtain ⟨a, rfl, h1⟩ := h; exact ⟨a, _, rfl, h1, rfl⟩
  | choose ks => obtain ⟨a, b, rfl, h1, h2⟩ := h; exact ⟨a, _, rfl, h1, rfl⟩
  | look k => obtain ⟨a, rfl, h1⟩ := h; exact ⟨a, _, rfl, h1, rfl⟩
  | stop => obtain ⟨a, rfl, h1⟩ := h; exact ⟨a, _, rfl, h1, rfl⟩
def FoR (k n : Nat) (H : Hp) (v : V) (f : List Int) : Prop := CfH H v f ∧ f.length = n ∧ ∀ x ∈ f, 0 ≤ x ∧ x < 2 ^ k
theorem FoR.ts {k n : Nat} {H H' : Hp} (s : Ts H H') {v : V} {f : List Int} (h : FoR k n H v f) : FoR k n H' v f := ⟨h.1.ts s, h.2⟩
def FosR (k n m : Nat) (H : Hp) (v : V) (c : List (List Int)) : Prop := CfsH H v c ∧ c.length = m ∧ ∀ f ∈ c, f.length = n ∧ ∀ x ∈ f, 0 ≤ x ∧ x < 2 ^ k
/-- [draw(..) for i in range(n)] -/
theorem tlc_rangeW {α : Type} {lo : Int} {n k : Nat} {te : TE} {vs : List Nat} {Qd : Hp → Prop} {D p : Addr} {H : Hp} {σ : L2.St} (R : Hp → V → α → Prop) (rS : ∀ {H H' v x}, Ts H H' → R H v x → R H' v x) (hp : Wl H p) (hD : H D = none) (hn : n ≤ 1000)
    (hw : ∀ x, wipe ((wipe σ vs).set k (some x)) vs = wipe σ vs)
    (he : ∀ (i : Nat) (H' : Hp), i < n → Wk p H H' → ∀ Q : VK, (∀ u x H'', Wk p H' H'' → R H'' u x → Q u H'') → te ((wipe σ vs).set k (some (.int (lo + (i : Int))))) H' Q)
    (q : ∀ ys as H', Wk p H H' → H' D = some (.lst ys) → F2 (R H') ys as → as.length = n → Qd H') :
    ∃ W : Nat → Nat → Hp → Prop, (∃ m, W 0 m (upd H D (.lst []))) ∧ ∀ i m H, W i m H → ((Itr lo n).stop i H ∧ Qd H) ∨ ((Itr lo n).go i H ∧ ∃ Nx : Hp → Prop, (∀ H', Nx H' → ∃ m', m' < m ∧ W (i + 1) m' H') ∧ ∀ x H', (Itr lo n).yld i H x H' → gName k x (wipe σ vs) H' fun σ2 H2 => wipe σ2 vs = wipe σ vs ∧ tYes σ2 H2 fun b H3 =>
        if b = true then te σ2 H3 fun y H4 => ∃ ac, H4 D = some (.lst ac) ∧ ac.length < sizeLine ∧ Nx (upd H4 D (.lst (ac ++ [y]))) else Nx H3) := by
  have nD : D ≠ p := ne_new hp hD
  refine lc_range (lo := lo) (n := n) (fun i H' => Wk p H H' ∧ ∃ us as, H' D = some (.lst us) ∧ F2 (R H') us as ∧ as.length = i) ⟨Wk.of hp (same_new hD), [], [], upd_same, .nil, rfl⟩ ?_ ?_
  · rintro i H1 hi ⟨w1, us, as, h1, h2, h3⟩
    refine ⟨hw _, ?_⟩
    unfold tYes
    simp only [if_true]
    refine he i H1 hi w1 _ fun v x H2 w2 hv => ?_
    have e2 := w2.at nD h1
    have t2 : Ts H2 (upd H2 D (.lst (us ++ [v]))) := Ts.lst e2
    exact ⟨us, e2, by rw [h2.len, h3]; exact small1000 (by omega), (w1.trans w2).updD hD nD, us ++ [v], as ++ [x], upd_same, (h2.mono fun _ _ z => rS t2 (rS (w2.ts w1.2) z)).append (.cons (rS t2 hv) .nil), by rw [List.length_append, h3]; rfl⟩
  · rintro H1 ⟨w1, us, as, h1, h2, h3⟩
    exact q us as H1 w1 h1 h2 h3
/-- the counts, the rows and the first registers that are drawn -/
structure Drawn (k : Nat) (rs : List LRow) (cts : List Int) (crs : List CRow) (sts : List Int) : Prop where
  ok : CodeOk cts crs sts
  low : ∀ r ∈ crs, r.low k = r
  sy6 : ∀ r ∈ crs, r.sy.length ≤ 6
  st : ∀ x ∈ sts, 0 ≤ x ∧ x < 2 ^ k
  ex : ∀ (j : Nat) (c : CRow), crs[j]? = some c → ∃ r0, rs[j]? = some r0 ∧ c.kd = ckOf r0 ∧ c.nx = cnOf r0
def spDrawn : Sp := fun vs H Q _ => ∃ (p l rl cl : Addr) (k : Nat) (ns : List Str) (us : List V) (rs : List LRow) (cts : List Int), vs = [.ref p, .int (k : Int), .ref l, .ref rl, .ref cl] ∧ 1 ≤ k ∧ k ≤ 64 ∧ Wl H p ∧ l ≠ p ∧ rl ≠ p ∧ cl ≠ p ∧ H l = some (.lst (ns.map V.str)) ∧ 1 ≤ ns.length ∧ ns.length ≤ 6 ∧ H rl = some (.lst us) ∧ RowsH H us rs ∧ GoodR ns rs.length k rs ∧ 1 ≤ rs.length ∧ rs.length ≤ 25 ∧ H cl = some (.lst (cts.map V.int)) ∧ cts.length = rs.length ∧ (∀ c ∈ cts, 0 ≤ c ∧ c ≤ 4) ∧
  ∀ (u D st : Addr) (vs : List V) (crs : List CRow) (sts : List Int) (H' : Hp), Wk p H H' → H' u = some (.tup [.ref cl, .ref D, .ref st]) → H D = none → H' D = some (.lst vs) → F2 (CRowH H') vs crs → H' st = some (.tup (sts.map V.int)) → Drawn k rs cts crs sts → Q (.ref u) H'

section
variable {P : Program} {w : World} {K : PySem.W.Frag} {mg : Str → Option Value} {base : Heap} {A : Ad}
abbrev s__law_drawn : Stmt := top 79
theorem sc__law_drawn : FnScope ["_law_well", "_law_width", "_law_names", "_law_rows_here", "_law_counts", "_law_found", "_law_spot", "_law_row_here", "_law_kind", "_law_ahead", "_law_many", "_law_says", "_law_size", "_law_changes", "_law_one_here", "_law_k"] ["_law_well", "_law_width", "_law_names", "_law_rows_here", "_law_counts"] (defScope s__law_drawn) := ⟨rfl, rfl, rfl, by decide +kernel, rfl, by decide +kernel, by decide +kernel⟩
theorem ok_drawn {f : Addr} {fd : FuncData} (F : Fun K "_law_drawn" "_law_drawn" s__law_drawn f fd) (T : Txt P w K mg base A) (c__law_form : Cal P w K mg base 3 "_law_form" ["_law_well", "_law_width", "_law_many"] spForm0) (c__law_number : Cal P w K mg base 2 "_law_number" ["_law_well", "_law_width"] spNumber) : FnOk P w K mg base CX0 4 f fd ["_law_well", "_law_width", "_law_names", "_law_rows_here", "_law_counts"] spDrawn := by
  refine F.ok sc__law_drawn (fun vs H Q E h => ?_) (fun cdv Ar outer s H vs Q E hr h => ?_)
  · obtain ⟨p, l, rl, cl, k, ns, us, rs, cts, rfl, _⟩ := h
    rfl
  · obtain ⟨p, l, rl, cl, k, ns, us, rs, cts, rfl, k1, k2, hw, nl, nrl, ncl, hl, n1, n2, hrl, hrs, hg, r1, r2, hcl, hcs, hc, q⟩ := h
    refine ⟨_, (pss_cons (ps_set (i := 5) sc__law_drawn.nd rfl (Or.inl rfl) (pe_lst pa_nil))
        (pss_cons (ps_for PassesOwn.never rfl (pi_enum (by rfl) T.z_enumerate (pa_cons (pv 3) pa_nil)) (pg_tup rfl (pgs_cons (pg_name (i := 6) sc__law_drawn.nd rfl (Or.inr rfl)) (pgs_cons (pg_name (i := 7) sc__law_drawn.nd rfl (Or.inl rfl)) pgs_nil))) (pss_cons (ps_set (i := 8) sc__law_drawn.nd rfl (Or.inl rfl) (pe_ifExp (pt_cmpR op_in_seq (pe_ix ix_tup (pv 7) pe_int (fun _ _ => rfl)) (pe_tup (pa_cons pe_str (pa_cons pe_str (pa_cons pe_str pa_nil)))) (by rfl)) (pe_ix ix_tup (pv 7) pe_int (fun _ _ => rfl)) pe_str))
        (pss_cons (ps_set (i := 9) sc__law_drawn.nd rfl (Or.inl rfl) (pe_ifExp (pt_cmpR op_eq (pv 8) pe_str (nomark _)) (pe_ix ix_tup (pv 7) pe_int (fun _ _ => rfl)) (pe_ifExp (pt_cmpR op_eq (pv 8) pe_str (nomark _)) (pe_tup pa_nil) (pe_tup (pa_cons (pe_ix ix_tup (pv 7) (pe_un un_neg pe_int) (fun _ _ => rfl)) pa_nil)))))
        (pss_cons (ps_set (i := 10) sc__law_drawn.nd rfl (Or.inl rfl) (pe_dget2 (Nat.lt_of_le_of_lt (Nat.add_le_add_left (by decide) _) hr.units) (pe_disp (pps_cons pe_str pe_int (pps_cons pe_str (pe_callB call_len_seq (by rfl) T.z_len PySem.boot_len (pa_cons (pv 2) pa_nil)) pps_nil)) (by rfl) (by rfl) (fun z => by cases z) (by decide)) (pe_ix ix_tup (pv 7) pe_int (fun _ _ => rfl)) pe_int ⟨rfl, rfl, rfl, rfl⟩))
        (pss_cons (ps_set (i := 11) sc__law_drawn.nd rfl (Or.inl rfl) (pe_callTy call_tupOf (by rfl) T.z_tuple (by decide +kernel) (pa_cons (pe_lc (own := [("_law_k", 15)]) (g := gName 15) (tt := tYes) rfl sc__law_drawn.nd (pi_range1 (by rfl) T.z_range (pa_cons (pv 10) pa_nil)) (blkOk_by (own := [("_law_k", 15)]) (N := ["_law_well", "_law_width", "_law_names", "_law_rows_here", "_law_counts", "_law_found", "_law_spot", "_law_row_here", "_law_kind", "_law_ahead", "_law_many", "_law_says", "_law_size", "_law_changes", "_law_one_here", "_law_k"]) (sc := defScope s__law_drawn) (by decide +kernel)) (fun _ _ _ _ _ => pg_name (i := 15) sc__law_drawn.nd rfl (Or.inl rfl)) (fun _ _ _ _ _ => pts_nil) (fun _ _ _ _ _ => (pcal c__law_form hr (by decide) (pa_cons (pv 0) (pa_cons (pv 1) (pa_cons (pe_ix (show IxR _ (rIxL K) from ix_list) (pv 4) (pv 6) (fun _ _ => rfl)) pa_nil)))))) pa_nil)))
        (pss_cons (ps_set (i := 12) sc__law_drawn.nd rfl (Or.inr rfl) (pe_op op_add (pe_ix (show IxR _ (rIxL K) from ix_list) (pv 4) (pv 6) (fun _ _ => rfl)) (pe_callTy call_int1 (by rfl) T.z_int (by decide +kernel) (pa_cons (pe_cmpR op_eq (pv 8) pe_str (nomark _)) pa_nil))))
        (pss_cons (ps_set (i := 13) sc__law_drawn.nd rfl (Or.inl rfl) (pe_lst pa_nil))
        (pss_cons (ps_for PassesOwn.never rfl (pi_tup (pv 9)) (pg_name (i := 14) sc__law_drawn.nd rfl (Or.inl rfl)) (pss_one (ps_expr (pe_bm PySem.F.plainAttrs_list PySem.F.slot_list_append PySem.F.type_list_append mt_append (pv 13) (pa_cons (pe_callTy call_tupOf (by rfl) T.z_tuple (by decide +kernel) (pa_cons (pe_lc (own := [("_law_k", 15)]) (g := gName 15) (tt := tYes) rfl sc__law_drawn.nd (pi_range1 (by rfl) T.z_range (pa_cons (pe_ix ix_list (pv 4) (pv 14) (fun _ _ => rfl)) pa_nil)) (blkOk_by (own := [("_law_k", 15)]) (N := ["_law_well", "_law_width", "_law_names", "_law_rows_here", "_law_counts", "_law_found", "_law_spot", "_law_row_here", "_law_kind", "_law_ahead", "_law_many", "_law_says", "_law_size", "_law_changes", "_law_one_here", "_law_k"]) (sc := defScope s__law_drawn) (by decide +kernel)) (fun _ _ _ _ _ => pg_name (i := 15) sc__law_drawn.nd rfl (Or.inl rfl)) (fun _ _ _ _ _ => pts_nil) (fun _ _ _ _ _ => (pcal c__law_form hr (by decide) (pa_cons (pv 0) (pa_cons (pv 1) (pa_cons (pv 12) pa_nil)))))) pa_nil)) pa_nil)))))
        (pss_one (ps_expr (pe_bm PySem.F.plainAttrs_list PySem.F.slot_list_append PySem.F.type_list_append mt_append (pv 5) (pa_cons (pe_tup (pa_cons (pv 8) (pa_cons (pv 9) (pa_cons (pv 11) (pa_cons (pe_callTy call_tupOf (by rfl) T.z_tuple (by decide +kernel) (pa_cons (pv 13) pa_nil)) pa_nil))))) pa_nil))))))))))))
        (pss_one (ps_ret (pe_tup (pa_cons (pv 4) (pa_cons (pv 5) (pa_cons (pe_callTy call_tupOf (by rfl) T.z_tuple (by decide +kernel) (pa_cons (pe_lc (own := [("_law_k", 15)]) (g := gName 15) (tt := tYes) rfl sc__law_drawn.nd (pi_range1 (by rfl) T.z_range (pa_cons (pe_ix ix_list (pv 4) pe_int (fun _ _ => rfl)) pa_nil)) (blkOk_by (own := [("_law_k", 15)]) (N := ["_law_well", "_law_width", "_law_names", "_law_rows_here", "_law_counts", "_law_found", "_law_spot", "_law_row_here", "_law_kind", "_law_ahead", "_law_many", "_law_says", "_law_size", "_law_changes", "_law_one_here", "_law_k"]) (sc := defScope s__law_drawn) (by decide +kernel)) (fun _ _ _ _ _ => pg_name (i := 15) sc__law_drawn.nd rfl (Or.inl rfl)) (fun _ _ _ _ _ => pts_nil) (fun _ _ _ _ _ => (pcal c__law_number hr (by decide) (pa_cons (pv 0) (pa_cons (pv 1) pa_nil))))) pa_nil)) pa_nil)))))))), ?_⟩
    walk_at "lk"
    refine snw (Nat.le_of_ble_eq_true rfl) fun FD hFD => ?_
    have nFD : FD ≠ p := ne_new hw hFD
    walk_at "lk"
    refine ⟨rl, us, rfl, SqL.of ((same_new hFD) _ _ hrl), ?_⟩
    have w0 : Wk p H (upd H FD (.lst [])) := Wk.of hw (same_new hFD)
    refine en_by (fun i σ' H' => (∃ e6 e7 e8 e9 e10 e11 e12 e13 e14 e15, σ' = [some (.ref p), some (.int (k : Int)), some (.ref l), some (.ref rl), some (.ref cl), some (.ref FD), e6, e7, e8, e9, e10, e11, e12, e13, e14, e15]) ∧ Wk p H H' ∧
        ∃ vs crs, H' FD = some (.lst vs) ∧ F2 (CRowH H') vs crs ∧ crs.length = i ∧ (∀ j r, crs[j]? = some r → CRowOk cts j r ∧ ∃ r0, rs[j]? = some r0 ∧ r.kd = ckOf r0 ∧ r.nx = cnOf r0) ∧ ∀ r ∈ crs, r.low k = r ∧ r.sy.length ≤ 6) ⟨⟨_, _, _, _, _, _, _, _, _, _, rfl⟩, w0, [], [], upd_same, .nil, rfl, fun j r h => by simp at h, fun r h => by cases h⟩ (fun i σ' H' _ h => SqL.of (h.2.1.at nrl hrl)) ?_ ?_
    · rintro i v pp σ' H1 hi ⟨⟨e6, e7, e8, e9, e10, e11, e12, e13, e14, e15, rfl⟩, w1, vs, crs, h1, h2, h3, h4, h5⟩ hp
      have s3 := same_new (o := .tup [.int (i : Nat), v]) hp
      refine g_pair (SqT.of upd_same) ?_
      generalize upd H1 pp (.tup [.int (i : Nat), v]) = H3 at s3 ⊢
      obtain ⟨r, hri, hrv⟩ := hrs.at hi
      have w3 : Wk p H H3 := w1.st s3
      obtain ⟨hrok, hrlow⟩ := hg r (List.mem_of_getElem? hri)
      obtain ⟨nxk, nxr⟩ := nx_of hrok
      have hrv3 := hrv.ts (w3.ts hw)
      have f3 := s3 _ _ h1
      have g3 : F2 (CRowH H3) vs crs := h2.mono fun _ _ z => z.ts (Ts.of s3)
      dsimp only
      refine seq_mid (fun σ' H' => (σ' = [some (.ref p), some (.int (k : Int)), some (.ref l), some (.ref rl), some (.ref cl), some (.ref FD), some (.int (i : Nat)), some v, some (.str (ckOf r)), e9, e10, e11, e12, e13, e14, e15]) ∧ Same H3 H') ?_ ?_
      rotate_left
      · intro N hN
        obtain ⟨ra, xs, rfl, hra, h0⟩ := row_tup hrv3
        walk_at "lk"
        refine sft (SqT.of hra) h0 ?_
        walk_at "lk"
        refine snw (Nat.le_of_ble_eq_true rfl) fun tp htp => ?_
        have s4 : Same H3 (upd H3 tp (.tup [.str "ask", .str "choose", .str "stop"])) := same_new htp
        refine ⟨tp, _, rfl, .inr (SqT.of upd_same), rfl, Lk.flat_strs ["ask", "choose", "stop"], ?_⟩
        generalize upd H3 tp (.tup [.str "ask", .str "choose", .str "stop"]) = H4 at s4 ⊢
        show (∃ k, V.bl (inV (.str (rkOf r)) ((["ask", "choose", "stop"] : List Str).map V.str)) = .bl k ∧ _)
        refine ⟨_, rfl, ?_⟩
        rw [in_kd]
        cases hin : isIn r with
        | true =>
          refine itt_ rfl ?_
          walk_at "lk"
          refine sft (SqT.of (s4 _ _ hra)) h0 ?_
          refine hN _ _ ⟨?_, s4⟩
          rw [isIn_ck, hin]
          rfl
        | false =>
          refine iff_ rfl ?_
          walk_at "lk"
          refine hN _ _ ⟨?_, s4⟩
          rw [isIn_ck, hin]
          rfl
      rintro σ' H4 ⟨rfl, s4⟩
      refine seq_mid (fun σ' H' => ∃ na, (σ' = [some (.ref p), some (.int (k : Int)), some (.ref l), some (.ref rl), some (.ref cl), some (.ref FD), some (.int (i : Nat)), some v, some (.str (ckOf r)), some (.ref na), e10, e11, e12, e13, e14, e15]) ∧ Same H3 H' ∧ H' na = some (.tup ((cnOf r).map V.int))) ?_ ?_
      rotate_left
      · intro N hN
        walk_at "lk"
        refine sEq rfl ?_
        walk_at "lk"
        cases r with
        | choose ks =>
          obtain ⟨ra, rb, rfl, hra, hrb⟩ := hrv3
          refine itt_ (show decide (V.str ("choose" : Str) = V.str "choose") = true from by decide +kernel) ?_
          walk_at "lk"
          refine sft (SqT.of (s4 _ _ hra)) rfl ?_
          exact hN _ _ ⟨rb, rfl, s4, s4 _ _ hrb⟩
        | stop =>
          refine iff_ (show decide (V.str ("stop" : Str) = V.str "choose") = false from by decide +kernel) ?_
          walk_at "lk"
          refine sEq rfl ?_
          walk_at "lk"
          refine itt_ (show decide (V.str ("stop" : Str) = V.str "stop") = true from by decide +kernel) ?_
          walk_at "lk"
          refine snw (Nat.le_of_ble_eq_true rfl) fun tp htp => ?_
          exact hN _ _ ⟨tp, rfl, s4.trans (same_new htp), upd_same⟩
        | set n f j =>
          obtain ⟨ra, rb, rfl, hra, hrb⟩ := hrv3
          refine iff_ (show decide (V.str ("go" : Str) = V.str "choose") = false from by decide +kernel) ?_
          walk_at "lk"
          refine sEq rfl ?_
          walk_at "lk"
          refine iff_ (show decide (V.str ("go" : Str) = V.str "stop") = false from by decide +kernel) ?_
          walk_at "lk"
          refine sft (SqT.of (s4 _ _ hra)) rfl ?_
          refine snw (Nat.le_of_ble_eq_true rfl) fun tp htp => ?_
          exact hN _ _ ⟨tp, rfl, s4.trans (same_new htp), upd_same⟩
        | say f j =>
          obtain ⟨ra, rb, rfl, hra, hrb⟩ := hrv3
          refine iff_ (show decide (V.str ("go" : Str) = V.str "choose") = false from by decide +kernel) ?_
          walk_at "lk"
          refine sEq rfl ?_
          walk_at "lk"
          refine iff_ (show decide (V.str ("go" : Str) = V.str "stop") = false from by decide +kernel) ?_
          walk_at "lk"
          refine sft (SqT.of (s4 _ _ hra)) rfl ?_
          refine snw (Nat.le_of_ble_eq_true rfl) fun tp htp => ?_
          exact hN _ _ ⟨tp, rfl, s4.trans (same_new htp), upd_same⟩
        | ask n j =>
          obtain ⟨ra, rfl, hra⟩ := hrv3
          refine iff_ (show decide (V.str ("ask" : Str) = V.str "choose") = false from by decide +kernel) ?_
          walk_at "lk"
          refine sEq rfl ?_
          walk_at "lk"
          refine iff_ (show decide (V.str ("ask" : Str) = V.str "stop") = false from by decide +kernel) ?_
          walk_at "lk"
          refine sft (SqT.of (s4 _ _ hra)) rfl ?_
          refine snw (Nat.le_of_ble_eq_true rfl) fun tp htp => ?_
          exact hN _ _ ⟨tp, rfl, s4.trans (same_new htp), upd_same⟩
        | look j =>
          obtain ⟨ra, rfl, hra⟩ := hrv3
          refine iff_ (show decide (V.str ("go" : Str) = V.str "choose") = false from by decide +kernel) ?_
          walk_at "lk"
          refine sEq rfl ?_
          walk_at "lk"
          refine iff_ (show decide (V.str ("go" : Str) = V.str "stop") = false from by decide +kernel) ?_
          walk_at "lk"
          refine sft (SqT.of (s4 _ _ hra)) rfl ?_
          refine snw (Nat.le_of_ble_eq_true rfl) fun tp htp => ?_
          exact hN _ _ ⟨tp, rfl, s4.trans (same_new htp), upd_same⟩
      rintro σ' H5 ⟨na, rfl, s5, hna⟩
      refine seq_mid (fun σ' H' => (σ' = [some (.ref p), some (.int (k : Int)), some (.ref l), some (.ref rl), some (.ref cl), some (.ref FD), some (.int (i : Nat)), some v, some (.str (ckOf r)), some (.ref na), some (.int ((cmOf ns.length r : Nat) : Int)), e11, e12, e13, e14, e15]) ∧ Same H5 H') ?_ ?_
      rotate_left
      · intro N hN
        walk_at "lk"
        unfold tDGet2 tDisp
        walk_at "lk"
        intro dp hdp
        obtain ⟨ra, xs, rfl, hra, h0⟩ := row_tup hrv3
        have sd : Same H5 (upd H5 dp (.dK [])) := same_new hdp
        have hl5 : H5 l = some (.lst (ns.map V.str)) := s5 _ _ (w3.at nl hl)
        simp only [tPairs]
        walk_at "lk"
        refine ⟨l, ns.map V.str, rfl, .inl (SqL.of (sd _ _ hl5)), ?_⟩
        rw [List.length_map]
        refine ⟨upd_same, [(.inr "say", .int 1), (.inr "look", .int (ns.length : Int))], rfl, by simp, ?_⟩
        rw [upd_upd]
        have sd2 : Same H5 (upd H5 dp (.dK (mergeK [] [(.inr "say", .int 1), (.inr "look", .int (ns.length : Int))]))) := same_new hdp
        have ed : (upd H5 dp (.dK (mergeK [] [(.inr "say", .int 1), (.inr "look", .int (ns.length : Int))]))) dp = some (.dK (mergeK [] [(.inr "say", .int 1), (.inr "look", .int (ns.length : Int))])) := upd_same
        generalize upd H5 dp (.dK (mergeK [] [(.inr "say", .int 1), (.inr "look", .int (ns.length : Int))])) = H6 at sd2 ed ⊢
        refine ⟨dp, rfl, .inl ⟨_, .inl ed⟩, ?_⟩
        walk_at "lk"
        refine sft (SqT.of (sd2 _ _ (s5 _ _ hra))) h0 ?_
        walk_at "lk"
        refine ⟨_, .inl ⟨_, .inr (rkOf r), .inl ed, rfl, rfl⟩, ?_⟩
        rw [get_cm]
        exact hN _ _ ⟨rfl, sd2⟩
      rintro σ' H6 ⟨rfl, s6⟩
      have s36 : Same H3 H6 := s5.trans s6
      have w6 : Wk p H H6 := w3.st s36
      have hir : i < rs.length := (List.getElem?_eq_some_iff.mp hri).1
      have hci : cts[((i : Nat) : Int).toNat]? = some (cts.getD i 0) := by simpa using getD_at (by omega)
      have cb := hc _ (List.mem_of_getElem? hci)
      obtain ⟨n0, hn0⟩ : ∃ n0 : Nat, (n0 : Int) = cts.getD i 0 := ⟨(cts.getD i 0).toNat, by omega⟩
      have cm := cm_le n2 r
      walk_at "lk"
      unfold tLc iRng1
      walk_at "lk"
      refine ⟨((cmOf ns.length r : Nat) : Int), rfl, by omega, by omega, fun L1 hL1 => ?_⟩
      rw [Int.toNat_natCast]
      refine tlc_rangeW (FoR k (n0 + 1)) (fun s h => h.ts s) w6.2 hL1 (by omega) (fun _ => rfl) (fun j H' hj wj R qr => ?_) (fun ys sy H7 w7 hys fys ly => ?_)
      · walk_at "lk"
        refine sfr (SqL.of ((w6.trans wj).at ncl hcl)) (atI_ints hci (by omega)) ?_
        walk_at "lk"
        exact ⟨p, k, n0, by rw [hn0]; rfl, k2, by omega, wj.2, fun b f H'' wf hb hfl hfb => qr _ f _ wf ⟨⟨b, rfl, hb⟩, hfl, hfb⟩⟩
      walk_at "lk"
      refine s_tupL hys fun sp H8 s8 hsp0 hsp => ?_
      have w68 : Wk p H6 H8 := w7.st s8
      have w8 : Wk p H H8 := w6.trans w68
      have gsy : CfsH H8 (.ref sp) sy := ⟨sp, ys, rfl, hsp, fys.mono fun _ _ z => z.1.ts (Ts.of s8)⟩
      have bsy : ∀ f ∈ sy, f.length = n0 + 1 ∧ ∀ x ∈ f, 0 ≤ x ∧ x < (2 : Int) ^ k := fun f hf => by
        obtain ⟨m, hm⟩ := List.getElem?_of_mem hf
        obtain ⟨u, _, hu⟩ := fys.get hm
        exact hu.2
      walk_at "lk"
      refine sfr (SqL.of (w8.at ncl hcl)) (atI_ints hci (by omega)) ?_
      walk_at "lk"
      refine sEq rfl ?_
      walk_at "lk"
      rw [ask_if]
      have a01 := ask_01 (ckOf r)
      obtain ⟨z1, hz1⟩ : ∃ z1 : Nat, (z1 : Int) = cts.getD i 0 + askN (ckOf r) := ⟨(cts.getD i 0 + askN (ckOf r)).toNat, by omega⟩
      rw [← hz1]
      refine snw (Nat.le_of_ble_eq_true rfl) fun CL hCL => ?_
      have nCL : CL ≠ p := ne_new w8.2 hCL
      have w9 : Wk p H8 (upd H8 CL (.lst [])) := Wk.of w8.2 (same_new hCL)
      have e9 : (upd H8 CL (.lst [])) CL = some (.lst []) := upd_same
      have nna : na ≠ p := ne_well (w3.st s5).2 hna (fun _ _ _ e => by cases e)
      have na8 : H8 na = some (.tup ((cnOf r).map V.int)) := w68.at nna (s6 _ _ hna)
      generalize upd H8 CL (.lst []) = H9 at w9 e9 ⊢
      walk_at "lk"
      refine ⟨_, rfl, na, rfl, ⟨_, SqT.of (w9.at nna na8)⟩, ?_⟩
      refine for_tup (xs := (cnOf r).map V.int) (fun j σ' H' => (∃ e14 e15, σ' = [some (.ref p), some (.int (k : Int)), some (.ref l), some (.ref rl), some (.ref cl), some (.ref FD), some (.int (i : Nat)), some v, some (.str (ckOf r)), some (.ref na), some (.int ((cmOf ns.length r : Nat) : Int)), some (.ref sp), some (.int (z1 : Int)), some (.ref CL), e14, e15]) ∧ Wk p H8 H' ∧
        ∃ us2 cs, H' CL = some (.lst us2) ∧ F2 (fun v c => CfsH H' v c) us2 cs ∧ cs.length = j ∧ (∀ (m : Nat) (c : List (List Int)) (j0 : Int), cs[m]? = some c → (cnOf r)[m]? = some j0 → (c.length : Int) = cts.getD j0.toNat 0) ∧ ∀ c ∈ cs, ∀ f ∈ c, f.length = z1 + 1 ∧ ∀ x ∈ f, 0 ≤ x ∧ x < (2 : Int) ^ k)
        ⟨⟨_, _, rfl⟩, w9, [], [], e9, .nil, rfl, fun m c j0 h => by simp at h, fun c h => by cases h⟩ (fun j σ' H' _ h => SqT.of (h.2.1.at nna na8)) ?_ ?_
      · rintro j x σ' H10 hjx ⟨⟨e14, e15, rfl⟩, w10, us2, cs, c1, c2, c3, c4, c5⟩
        have hlt : j < (cnOf r).length := by
          have := (List.getElem?_eq_some_iff.mp hjx).1
          rwa [List.length_map] at this
        rw [List.getElem?_map, List.getElem?_eq_getElem hlt] at hjx
        cases hjx
        have hj0 : (cnOf r)[j]? = some (cnOf r)[j] := List.getElem?_eq_getElem hlt
        generalize (cnOf r)[j] = j0 at hj0 ⊢
        obtain ⟨g0, g1⟩ := nxr _ (List.mem_of_getElem? hj0)
        have hcj : cts[j0.toNat]? = some (cts.getD j0.toNat 0) := getD_at (by omega)
        have cbj := hc _ (List.mem_of_getElem? hcj)
        obtain ⟨n1', hn1⟩ : ∃ n1 : Nat, (n1 : Int) = cts.getD j0.toNat 0 := ⟨(cts.getD j0.toNat 0).toNat, by omega⟩
        have wA : Wk p H H10 := w8.trans w10
        walk_at "lk"
        refine ⟨.inl ⟨rfl, _, SqL.of c1⟩, ?_⟩
        walk_at "lk"
        try unfold tLc iRng1
        walk_at "lk"
        refine sfr (SqL.of (wA.at ncl hcl)) (atI_ints hcj g0) ?_
        walk_at "lk"
        rw [← hn1]
        refine ⟨(n1' : Int), rfl, by omega, by omega, fun L2 hL2 => ?_⟩
        rw [Int.toNat_natCast]
        refine tlc_rangeW (FoR k (z1 + 1)) (fun s h => h.ts s) wA.2 hL2 (by omega) (fun _ => rfl) (fun m H' hm wj R qr => ?_) (fun ys2 c H11 w11 hys2 fys2 ly2 => ?_)
        · walk_at "lk"
          exact ⟨p, k, z1, rfl, k2, by omega, wj.2, fun b f H'' wf hb hfl hfb => qr _ f _ wf ⟨⟨b, rfl, hb⟩, hfl, hfb⟩⟩
        walk_at "lk"
        refine s_tupL hys2 fun tp H12 s12 htp0 htp => ?_
        have w12 : Wk p H10 H12 := w11.st s12
        have wB : Wk p H8 H12 := w10.trans w12
        have c1' := w12.at nCL c1
        refine ⟨CL, us2, .ref tp, rfl, rfl, c1', by rw [c2.len, c3]; have := nxk.le; exact small1000 (by omega), ?_⟩
        have t2 : Ts H12 (upd H12 CL (.lst (us2 ++ [.ref tp]))) := Ts.lst c1'
        refine ⟨⟨_, _, rfl⟩, wB.updD hCL nCL, us2 ++ [.ref tp], cs ++ [c], upd_same, (c2.mono fun _ _ z => (z.ts (w12.ts wA.2)).ts t2).append (.cons (CfsH.ts t2 ⟨tp, ys2, rfl, htp, fys2.mono fun _ _ z => z.1.ts (Ts.of s12)⟩) .nil), by rw [List.length_append, c3]; rfl, ?_, ?_⟩
        · intro m c' j' hm hj'
          by_cases hlt2 : m < cs.length
          · rw [List.getElem?_append_left hlt2] at hm
            exact c4 m c' j' hm hj'
          · rw [List.getElem?_append_right (by omega)] at hm
            have : m - cs.length = 0 := by
              have := (List.getElem?_eq_some_iff.mp hm).1
              simp at this
              exact this
            have em : m = j := by omega
            rw [this] at hm
            cases hm
            rw [em, hj0] at hj'
            cases hj'
            omega
        · intro c' hc' f hf
          rcases List.mem_append.mp hc' with h | h
          · exact c5 c' h f hf
          · rw [List.mem_singleton.mp h] at hf
            obtain ⟨m, hm⟩ := List.getElem?_of_mem hf
            obtain ⟨u, _, hu⟩ := fys2.get hm
            exact hu.2
      rintro σ' H10 ⟨⟨e14, e15, rfl⟩, w10, us2, cs, c1, c2, c3, c4, c5⟩
      rw [List.length_map] at c3
      have f8 : H8 FD = some (.lst vs) := w68.at nFD (s36 _ _ f3)
      walk_at "lk"
      refine ⟨.inl ⟨rfl, _, SqL.of (w10.at nFD f8)⟩, ?_⟩
      walk_at "lk"
      refine s_tupL c1 fun tp H11 s11 htp0 htp => ?_
      walk_at "lk"
      refine snw (Nat.le_of_ble_eq_true rfl) fun qp hqp => ?_
      have s12 : Same H11 (upd H11 qp (.tup [.str (ckOf r), .ref na, .ref sp, .ref tp])) := same_new hqp
      have eq12 : (upd H11 qp (.tup [.str (ckOf r), .ref na, .ref sp, .ref tp])) qp = some (.tup [.str (ckOf r), .ref na, .ref sp, .ref tp]) := upd_same
      generalize upd H11 qp (.tup [.str (ckOf r), .ref na, .ref sp, .ref tp]) = H12 at s12 eq12 ⊢
      have w12 : Wk p H8 H12 := w10.st (s11.trans s12)
      have w312 : Wk p H3 H12 := (Wk.of w3.2 s36).trans (w68.trans w12)
      have f12 := w12.at nFD f8
      have hfi := h2.len
      refine ⟨FD, vs, .ref qp, rfl, rfl, f12, by rw [hfi, h3]; exact small1000 (by omega), ?_⟩
      have t12 : Ts H12 (upd H12 FD (.lst (vs ++ [.ref qp]))) := Ts.lst f12
      have ok12 : CRowH H12 (.ref qp) ⟨ckOf r, cnOf r, sy, cs⟩ := ⟨qp, .ref na, .ref sp, .ref tp, rfl, eq12, ⟨na, rfl, w12.at nna na8⟩, gsy.ts (w12.ts w8.2), ⟨tp, us2, rfl, s12 _ _ htp, c2.mono fun _ _ z => z.ts (Ts.of (s11.trans s12))⟩⟩
      refine ⟨⟨_, _, _, _, _, _, _, _, _, _, rfl⟩, (w3.trans w312).updD hFD nFD, vs ++ [.ref qp], crs ++ [⟨ckOf r, cnOf r, sy, cs⟩], upd_same, (g3.mono fun _ _ z => (z.ts (w312.ts w3.2)).ts t12).append (.cons (ok12.ts t12) .nil), by rw [List.length_append, h3]; rfl, ?_, ?_⟩
      · intro j r' hj
        by_cases hlt2 : j < crs.length
        · rw [List.getElem?_append_left hlt2] at hj
          exact h4 j r' hj
        · rw [List.getElem?_append_right (by omega)] at hj
          have : j - crs.length = 0 := by
            have := (List.getElem?_eq_some_iff.mp hj).1
            simp at this
            exact this
          have em : j = i := by omega
          rw [this] at hj
          cases hj
          subst em
          refine ⟨⟨nxk, fun j hj => ?_, ?_, fun f hf => ?_, c3, fun m j0 c hm hc2 => c4 m c j0 hc2 hm, fun c hc2 f hf => ?_⟩, r, hri, rfl, rfl⟩
          · have := nxr j hj
            omega
          · show sy.length ≤ 900
            omega
          · have := (bsy f hf).1
            omega
          · have := (c5 c hc2 f hf).1
            show (f.length : Int) = cts.getD j 0 + 1 + askN (ckOf r)
            omega
      · intro r' hr'
        rcases List.mem_append.mp hr' with h | h
        · exact h5 r' h
        · rw [List.mem_singleton.mp h]
          exact ⟨crow_low (fun f hf => (bsy f hf).2) fun c hc2 f hf => (c5 c hc2 f hf).2, by show sy.length ≤ 6; omega⟩
    rintro σ' H1 ⟨⟨e6, e7, e8, e9, e10, e11, e12, e13, e14, e15, rfl⟩, w1, vs, crs, h1, h2, h3, h4, h5⟩
    have hus : us.length = rs.length := hrs.len
    walk_at "lk"
    try unfold tLc iRng1
    walk_at "lk"
    have hc0 : cts[(0 : Int).toNat]? = some (cts.getD 0 0) := getD_at (by omega)
    have cb := hc _ (List.mem_of_getElem? hc0)
    obtain ⟨n0, hn0⟩ : ∃ n0 : Nat, (n0 : Int) = cts.getD 0 0 := ⟨(cts.getD 0 0).toNat, by omega⟩
    refine sfr (SqL.of (w1.at ncl hcl)) (atI_ints hc0 (by omega)) ?_
    walk_at "lk"
    rw [← hn0]
    refine ⟨(n0 : Int), rfl, by omega, by omega, fun L1 hL1 => ?_⟩
    rw [Int.toNat_natCast]
    refine tlc_rangeW (fun H v (x : Int) => v = .int x ∧ 0 ≤ x ∧ x < (2 : Int) ^ k) (fun s h => h) w1.2 hL1 (by omega) (fun _ => rfl) (fun j H' hj wj R qr => ?_) (fun ys st H2 w2 hys fys ly => ?_)
    · walk_at "lk"
      exact ⟨p, k, rfl, k2, wj.2, fun x H'' a0 a1 wf => qr _ x _ wf ⟨rfl, a0, a1⟩⟩
    walk_at "lk"
    refine s_tupL hys fun sp H3 s3 hsp0 hsp => ?_
    walk_at "lk"
    refine snw (Nat.le_of_ble_eq_true rfl) fun up hup => ?_
    have s4 : Same H3 (upd H3 up (.tup [.ref cl, .ref FD, .ref sp])) := same_new hup
    have w4 : Wk p H1 (upd H3 up (.tup [.ref cl, .ref FD, .ref sp])) := w2.st (s3.trans s4)
    have fys' : F2 (fun v (x : Int) => v = .int x) ys st := fys.mono fun _ _ z => z.1
    have bst : ∀ x ∈ st, 0 ≤ x ∧ x < (2 : Int) ^ k := fun x hx => by
      obtain ⟨m, hm⟩ := List.getElem?_of_mem hx
      obtain ⟨u, _, hu⟩ := fys.get hm
      exact hu.2
    refine q up FD sp vs crs st _ (w1.trans w4) upd_same hFD (w4.at nFD h1) (h2.mono fun _ _ z => z.ts (w4.ts w1.2)) (by rw [← f2_ints_of fys']; exact s4 _ _ hsp) ⟨⟨by omega, by omega, by omega, fun c hc2 => ?_, by omega, fun j r h => (h4 j r h).1⟩, fun r hr => (h5 r hr).1, fun r hr => (h5 r hr).2, bst, fun j c h => (h4 j c h).2⟩
    have := hc c hc2
    omega
end
end K42

namespace K42
open PySem PySem.Spec PyProof.Rows L2 RZ Lk
local macro_rules | `(tactic| walk_at "lk") => `(tactic| (repeat (first
  | with_reducible refine ssq ?_ | with_reducible refine sas ?_ | with_reducible refine sgn ?_ | ((with_reducible show tVar _ _ _ _); refine sv rfl ?_) | with_reducible refine sc ?_ | with_reducible refine sop ?_ | with_reducible refine sun ?_
  | with_reducible refine sI0 ?_ | with_reducible refine sU ?_ | with_reducible refine stt ?_ | with_reducible refine stB ?_ | with_reducible refine sbl ?_ | with_reducible refine snt ?_ | with_reducible refine sif ?_ | with_reducible refine scB ?_
  | with_reducible refine scn ?_ | with_reducible refine snl ?_ | with_reducible refine scl ?_ | with_reducible refine stu ?_ | with_reducible refine sli ?_ | with_reducible refine sdr ?_ | with_reducible refine srt ?_ | with_reducible refine snx ?_ | with_reducible refine sfor ?_ | with_reducible refine sils ?_ | with_reducible refine sien ?_ | with_reducible refine sor ?_ | with_reducible refine sfg ?_
  | with_reducible refine sav ?_ | with_reducible refine sov ?_ | with_reducible refine snv ?_ | with_reducible refine sch ?_ | with_reducible refine san ?_ | with_reducible refine ssll ?_ | with_reducible refine spt ?_ | with_reducible refine snp ?_ | with_reducible refine sin ?_ | with_reducible refine sfl ?_ | with_reducible refine sfd ?_ | with_reducible refine sbm ?_ | with_reducible refine sifx ?_ | with_reducible refine smk ?_ | with_reducible refine ssli ?_ | with_reducible refine sbz ?_
  | ((with_reducible show Or _ _); first | refine Or.inl ⟨_, rfl, ?_⟩ | refine Or.inr ⟨_, rfl, ?_⟩))))

theorem _root_.Lk.CodeO.lc {K : PySem.W.Frag} {H H1 : Hp} {C x : Addr} {k : Nat} {cts : List Int} {rs : List CRow} {st : List Int} (s : Lc H H1) (h : CodeO K C H x k cts rs st) : CodeO K C H1 x k cts rs st := by
  obtain ⟨dx, tc, tr, ts, vs, h1, h2, h3, h4, h5⟩ := h
  exact ⟨dx, tc, tr, ts, vs, s _ _ h1 (fun _ z => by cases z), s.sqT h2, s.sqT h3, h4.mono fun _ _ z => z.ts s.ts, s.sqT h5⟩
/-! ### what a run of a code does -/
def exC (r : CRow) : Str × List Int := (r.kd, r.nx)
def cidx (kd : Str) (x : Int) : Nat := if kd = ("choose" : Str) then x.toNat else 0
def cgiv (r : CRow) (st : List Int) (x : Int) : List Int := if r.kd = ("ask" : Str) then st ++ [x] else st
def cfs (r : CRow) (x : Int) : List (List Int) := r.ch.getD (cidx r.kd x) []
def cst (k : Nat) (r : CRow) (st : List Int) (x : Int) : List Int := (cfs r x).map fun f => valM k f (cgiv r st x)
def csd (k : Nat) (r : CRow) (st : List Int) : List Int := r.sy.map fun f => valM k f st
def cstp (k : Nat) (rs : List LRow) (crs : List CRow) (q : Q3) (x : Int) : Q3 := match rs[q.1.toNat]?, crs[q.1.toNat]? with
  | some r, some c => (nxM r x, cst k c q.2.1 x, q.2.2 ++ csd k c q.2.1)
  | _, _ => q
def crun (k : Nat) (rs : List LRow) (crs : List CRow) (q : Q3) (nums : List Int) : Q3 := nums.foldl (cstp k rs crs) q
section
variable {k : Nat} {ns : List Str} {rs : List LRow} {cts : List Int} {crs : List CRow} {sts : List Int} {q q' : Q3} {nums : List Int} {x : Int} {r : LRow} {c : CRow} {st : List Int} {m : Int}
theorem crun_snoc : crun k rs crs q (nums ++ [x]) = cstp k rs crs (crun k rs crs q nums) x := by
  unfold crun
  rw [List.foldl_append]
  rfl
theorem crun_take {i : Nat} (h : nums[i]? = some x) : crun k rs crs q (nums.take (i + 1)) = cstp k rs crs (crun k rs crs q (nums.take i)) x := by
  rw [take_snoc h, crun_snoc]
theorem ck_ask : ∀ r : LRow, ckOf r = ("ask" : Str) ↔ (∃ n j, r = .ask n j)
  | .set _ _ _ => ⟨fun e => absurd e (by decide +kernel : ¬ ("go" : Str) = ("ask" : Str)), fun ⟨_, _, e⟩ => by cases e⟩
  | .say _ _ => ⟨fun e => absurd e (by decide +kernel : ¬ ("go" : Str) = ("ask" : Str)), fun ⟨_, _, e⟩ => by cases e⟩
  | .ask n j => ⟨fun _ => ⟨n, j, rfl⟩, fun _ => rfl⟩
  | .choose _ => ⟨fun e => absurd e (by decide +kernel : ¬ ("choose" : Str) = ("ask" : Str)), fun ⟨_, _, e⟩ => by cases e⟩
  | .look _ => ⟨fun e => absurd e (by decide +kernel : ¬ ("go" : Str) = ("ask" : Str)), fun ⟨_, _, e⟩ => by cases e⟩
  | .stop => ⟨fun e => absurd e (by decide +kernel : ¬ ("stop" : Str) = ("ask" : Str)), fun ⟨_, _, e⟩ => by cases e⟩
theorem idx_nx (hx : fitM r x) : (cnOf r)[cidx (ckOf r) x]? = some (nxM r x) := by
  cases r with
  | set n f j => rw [show cidx (ckOf (.set n f j)) x = 0 from if_neg (by decide +kernel : ¬ ("go" : Str) = ("choose" : Str))]; rfl
  | say f j => rw [show cidx (ckOf (.say f j)) x = 0 from if_neg (by decide +kernel : ¬ ("go" : Str) = ("choose" : Str))]; rfl
  | ask n j => rw [show cidx (ckOf (.ask n j)) x = 0 from if_neg (by decide +kernel : ¬ ("ask" : Str) = ("choose" : Str))]; rfl
  | look j => rw [show cidx (ckOf (.look j)) x = 0 from if_neg (by decide +kernel : ¬ ("go" : Str) = ("choose" : Str))]; rfl
  | stop => exact hx.elim
  | choose ks =>
    obtain ⟨x0, x1⟩ := hx
    rw [show cidx (ckOf (.choose ks)) x = x.toNat from if_pos rfl]
    show ks[x.toNat]? = some (ks.getD x.toNat 0)
    rw [List.getD_eq_getElem?_getD, List.getElem?_eq_getElem (by omega)]
    rfl
theorem ex_eq (r : LRow) : (ckOf r, cnOf r) = exR r := by cases r <;> rfl
/-- a code that goes with the rows of a program -/
structure CW (k : Nat) (ns : List Str) (rs : List LRow) (cts : List Int) (crs : List CRow) (sts : List Int) : Prop where
  ok : CodeOk cts crs sts
  ex : ∀ (j : Nat) (c : CRow), crs[j]? = some c → ∃ r0, rs[j]? = some r0 ∧ c.kd = ckOf r0 ∧ c.nx = cnOf r0
  low : ∀ r ∈ crs, r.low k = r
  rok : ∀ r ∈ rs, RowOk ns rs.length r
  len : crs.length = rs.length
  c6 : ∀ c ∈ cts, c ≤ 5
  sy6 : ∀ r ∈ crs, r.sy.length ≤ 6
  r25 : rs.length ≤ 25
theorem CW.exs (W : CW k ns rs cts crs sts) : crs.map exC = rs.map exR := by
  apply List.ext_getElem?
  intro i
  rw [List.getElem?_map, List.getElem?_map]
  have hl := W.len
  by_cases h : i < crs.length
  · obtain ⟨r0, h1, h2, h3⟩ := W.ex i _ (List.getElem?_eq_getElem h)
    rw [h1, List.getElem?_eq_getElem h]
    show some (_, _) = some _
    rw [h2, h3, ex_eq]
  · rw [List.getElem?_eq_none (by omega), List.getElem?_eq_none (by omega)]
    rfl
theorem CW.row (W : CW k ns rs cts crs sts) {j : Nat} (h : rs[j]? = some r) : ∃ c, crs[j]? = some c ∧ c.kd = ckOf r ∧ c.nx = cnOf r := by
  have hlt := (List.getElem?_eq_some_iff.mp h).1
  have hl := W.len
  have hc : crs[j]? = some crs[j] := List.getElem?_eq_getElem (by omega)
  obtain ⟨r0, h1, h2, h3⟩ := W.ex j _ hc
  rw [h] at h1
  cases h1
  exact ⟨_, hc, h2, h3⟩
structure GoodC (k : Nat) (cts : List Int) (q : Q3) : Prop where
  r0 : 0 ≤ q.1
  r1 : q.1 < cts.length
  len : (q.2.1.length : Int) = cts.getD q.1.toNat 0
  inr : InR k q.2.1
theorem cfs_at (W : CW k ns rs cts crs sts) {j : Nat} (hr : rs[j]? = some r) (hc : crs[j]? = some c) (hx : fitM r x) : c.ch[cidx c.kd x]? = some (cfs c x) ∧ ((cfs c x).length : Int) = cts.getD (nxM r x).toNat 0 ∧ ∀ f ∈ cfs c x, (f.length : Int) = cts.getD j 0 + 1 + askN c.kd := by
  obtain ⟨c', h1, h2, h3⟩ := W.row hr
  rw [hc] at h1
  cases h1
  have ok := W.ok.ok j c hc
  have hi := idx_nx hx
  rw [← h2, ← h3] at hi
  have hlt := (List.getElem?_eq_some_iff.mp hi).1
  have hcl := ok.chl
  have hch : c.ch[cidx c.kd x]? = some c.ch[cidx c.kd x] := List.getElem?_eq_getElem (by omega)
  have e : cfs c x = c.ch[cidx c.kd x] := by
    unfold cfs
    rw [List.getD_eq_getElem?_getD, hch]
    rfl
  rw [e]
  exact ⟨hch, ok.chn _ _ _ hi hch, ok.chf _ (List.mem_of_getElem? hch)⟩
theorem cgiv_len (r : CRow) (st : List Int) (x : Int) : (cgiv r st x).length = st.length + askN r.kd := by
  unfold cgiv askN
  by_cases h : r.kd = ("ask" : Str)
  · rw [if_pos h, if_pos h, List.length_append]
    rfl
  · rw [if_neg h, if_neg h]
    rfl
theorem good_cst (W : CW k ns rs cts crs sts) (g : GoodC k cts q) (hr : rs[q.1.toNat]? = some r) (hc : crs[q.1.toNat]? = some c) (hx : fitM r x) (sd : List Int) : GoodC k cts (nxM r x, cst k c q.2.1 x, sd) := by
  have z := nx_ok (W.rok r (List.mem_of_getElem? hr)) hx
  have hl := W.len
  have hcl := W.ok.cl
  refine ⟨z.1, by show nxM r x < (cts.length : Int); omega, ?_, fun y hy => ?_⟩
  · show (((cfs c x).map _).length : Int) = _
    rw [List.length_map]
    exact (cfs_at W hr hc hx).2.1
  · obtain ⟨f, _, rfl⟩ := List.mem_map.mp hy
    exact valM_in
/-- the code's run is at the same rows as the program's -/
theorem crun_pos (W : CW k ns rs cts crs sts) (e : q.1 = q'.1) (hf : Fits k ns rs q' nums) : ∀ i, i ≤ nums.length → (crun k rs crs q (nums.take i)).1 = (runF k ns rs q' (nums.take i)).1
  | 0, _ => e
  | i + 1, hi => by
    have hlt : i < nums.length := hi
    have ih := crun_pos W e hf i (Nat.le_of_lt hlt)
    obtain ⟨r, h1, h2⟩ := hf i _ (List.getElem?_eq_getElem hlt)
    obtain ⟨c, hc, _⟩ := W.row h1
    rw [crun_take (List.getElem?_eq_getElem hlt), runF_take (List.getElem?_eq_getElem hlt)]
    unfold cstp stp
    rw [ih, h1, hc]
/-- the way of a code's run -/
structure CWay (k : Nat) (ns : List Str) (rs : List LRow) (cts : List Int) (crs : List CRow) (sts : List Int) (q q' : Q3) (nums : List Int) : Prop where
  W : CW k ns rs cts crs sts
  g : GoodC k cts q
  e : q.1 = q'.1
  g' : Good3 k ns.length rs.length q'
  f : Fits k ns rs q' nums
theorem CWay.step (h : CWay k ns rs cts crs sts q q' nums) {i : Nat} {z : Int} (hz : nums[i]? = some z) : ∃ r c, rs[(crun k rs crs q (nums.take i)).1.toNat]? = some r ∧ crs[(crun k rs crs q (nums.take i)).1.toNat]? = some c ∧ fitM r z ∧
    crun k rs crs q (nums.take (i + 1)) = (nxM r z, cst k c (crun k rs crs q (nums.take i)).2.1 z, (crun k rs crs q (nums.take i)).2.2 ++ csd k c (crun k rs crs q (nums.take i)).2.1) := by
  obtain ⟨r, h1, h2⟩ := h.f i z hz
  rw [← crun_pos h.W h.e h.f i (Nat.le_of_lt (List.getElem?_eq_some_iff.mp hz).1)] at h1
  obtain ⟨c, hc, _⟩ := h.W.row h1
  refine ⟨r, c, h1, hc, h2, ?_⟩
  rw [crun_take hz]
  show cstp k rs crs _ z = _
  unfold cstp
  rw [h1, hc]
theorem CWay.good (h : CWay k ns rs cts crs sts q q' nums) : ∀ i, i ≤ nums.length → GoodC k cts (crun k rs crs q (nums.take i))
  | 0, _ => h.g
  | i + 1, hi => by
    have hlt : i < nums.length := hi
    have ih := h.good i (Nat.le_of_lt hlt)
    obtain ⟨r, c, h1, h2, h3, h4⟩ := h.step (List.getElem?_eq_getElem hlt)
    rw [h4]
    exact good_cst h.W ih h1 h2 h3 _
theorem CWay.said (h : CWay k ns rs cts crs sts q q' nums) : ∀ i, i ≤ nums.length → (crun k rs crs q (nums.take i)).2.2.length ≤ q.2.2.length + 6 * i
  | 0, _ => Nat.le_refl _
  | i + 1, hi => by
    have hlt : i < nums.length := hi
    have ih := h.said i (Nat.le_of_lt hlt)
    obtain ⟨r, c, h1, h2, h3, h4⟩ := h.step (List.getElem?_eq_getElem hlt)
    have h6 := h.W.sy6 c (List.mem_of_getElem? h2)
    rw [h4]
    show (_ ++ csd k c _).length ≤ _
    rw [List.length_append]
    have : (csd k c (crun k rs crs q (nums.take i)).2.1).length ≤ 6 := by
      unfold csd
      rw [List.length_map]
      exact h6
    omega
theorem CWay.way (h : CWay k ns rs cts crs sts q q' nums) : Way k ns rs q' nums := ⟨h.W.rok, h.g', h.f⟩
/-- forms of a code are of reduced numbers -/
theorem low_in {f : List Int} (hk : k ≤ 64) (h : lowF k f = f) : ∀ x ∈ f, 0 ≤ x ∧ x < (2 : Int) ^ 64 := fun x hx => by
  rw [← h] at hx
  obtain ⟨y, _, rfl⟩ := List.mem_map.mp hx
  have p0 : (0 : Int) < 2 ^ k := Int.pow_pos (by decide)
  have h1 := Int.emod_nonneg y (Int.ne_of_gt p0)
  have h2 := Int.emod_lt_of_pos y p0
  have h3 : (2 : Int) ^ k ≤ 2 ^ 64 := by
    have : (2 : Nat) ^ k ≤ 2 ^ 64 := Nat.pow_le_pow_right (by decide) hk
    exact_mod_cast this
  exact ⟨h1, by omega⟩
theorem map_fix {α : Type} {g : α → α} : ∀ {l : List α}, l.map g = l → ∀ a ∈ l, g a = a
  | b :: l, h, a, ha => by
    rw [List.map_cons] at h
    obtain ⟨h1, h2⟩ := List.cons.inj h
    rcases List.mem_cons.mp ha with rfl | ha
    · exact h1
    · exact map_fix h2 a ha
theorem low_sy (h : c.low k = c) : ∀ f ∈ c.sy, lowF k f = f := map_fix (congrArg CRow.sy h)
theorem low_ch (h : c.low k = c) : ∀ d ∈ c.ch, ∀ f ∈ d, lowF k f = f := fun d hd => map_fix (map_fix (congrArg CRow.ch h) d hd)
end
section

section
variable {P : Program} {w : World} {K : PySem.W.Frag} {mg : Str → Option Value} {base : Heap} {A : Ad}
end
end
end K42

namespace K42
open PySem PySem.Spec PyProof.Rows L2 RZ Lk
local macro_rules | `(tactic| walk_at "lk") => `(tactic| (repeat (first
  | with_reducible refine ssq ?_ | with_reducible refine sas ?_ | with_reducible refine sgn ?_ | ((with_reducible show tVar _ _ _ _); refine sv rfl ?_) | with_reducible refine sc ?_ | with_reducible refine sop ?_ | with_reducible refine sun ?_
  | with_reducible refine sI0 ?_ | with_reducible refine sU ?_ | with_reducible refine stt ?_ | with_reducible refine stB ?_ | with_reducible refine sbl ?_ | with_reducible refine snt ?_ | with_reducible refine sif ?_ | with_reducible refine scB ?_
  | with_reducible refine scn ?_ | with_reducible refine snl ?_ | with_reducible refine scl ?_ | with_reducible refine stu ?_ | with_reducible refine sli ?_ | with_reducible refine sdr ?_ | with_reducible refine srt ?_ | with_reducible refine snx ?_ | with_reducible refine sfor ?_ | with_reducible refine sils ?_ | with_reducible refine sien ?_ | with_reducible refine sor ?_ | with_reducible refine sfg ?_
  | with_reducible refine sav ?_ | with_reducible refine sov ?_ | with_reducible refine snv ?_ | with_reducible refine sch ?_ | with_reducible refine san ?_ | with_reducible refine ssll ?_ | with_reducible refine spt ?_ | with_reducible refine snp ?_ | with_reducible refine sin ?_ | with_reducible refine sfl ?_ | with_reducible refine sfd ?_ | with_reducible refine sbm ?_ | with_reducible refine sifx ?_ | with_reducible refine smk ?_ | with_reducible refine ssli ?_ | with_reducible refine sbz ?_
  | ((with_reducible show Or _ _); first | refine Or.inl ⟨_, rfl, ?_⟩ | refine Or.inr ⟨_, rfl, ?_⟩))))

def spCGraph (K : PySem.W.Frag) (A : Ad) : Sp := fun vs H Q _ => ∃ (x : Addr) (k : Nat) (cts : List Int) (crs : List CRow) (sts : List Int), vs = [.ref x] ∧ CodeO K A.Code H x k cts crs sts ∧ crs.length ≤ 200 ∧ ∀ D us H', Same H H' → H' D = some (.lst us) → F2 (ExH H') us (crs.map exC) → Q (.ref D) H'
def spCSaid (K : PySem.W.Frag) (A : Ad) : Sp := fun vs H Q _ => ∃ (x : Addr) (i : Int) (b : Addr) (k : Nat) (cts : List Int) (crs : List CRow) (sts : List Int) (c : CRow) (st : List Int), vs = [.ref x, .int i, .ref b] ∧ CodeO K A.Code H x k cts crs sts ∧ 0 ≤ i ∧ crs[i.toNat]? = some c ∧ c.low k = c ∧ c.sy.length ≤ 6 ∧ k ≤ 64 ∧ st.length ≤ 90 ∧ (∀ f ∈ c.sy, f.length = st.length + 1) ∧ H b = some (.tup ((1 :: st).map V.int)) ∧
  ∀ D H', Same H H' → H' D = some (.lst ((csd k c st).map V.int)) → Q (.ref D) H'
def spCStep (K : PySem.W.Frag) (A : Ad) : Sp := fun vs H Q _ => ∃ (x : Addr) (i y : Int) (b : Addr) (k : Nat) (cts : List Int) (crs : List CRow) (sts : List Int) (c : CRow) (st : List Int), vs = [.ref x, .int i, .ref b, .int y] ∧ CodeO K A.Code H x k cts crs sts ∧ 0 ≤ i ∧ crs[i.toNat]? = some c ∧ c.low k = c ∧ c.ch[cidx c.kd y]? = some (cfs c y) ∧ (c.kd = "choose" → 0 ≤ y) ∧ (cfs c y).length ≤ 90 ∧ k ≤ 64 ∧ st.length ≤ 90 ∧ (∀ f ∈ cfs c y, f.length = (cgiv c st y).length + 1) ∧ H b = some (.tup ((1 :: st).map V.int)) ∧
  ∀ v H', Same H H' → H' v = some (.tup ((1 :: cst k c st y).map V.int)) → Q (.ref v) H'
theorem s_one {K : PySem.W.Frag} {H : Hp} {b : Addr} {st : List Int} {Q : VK} (hb : H b = some (.tup ((1 :: st).map V.int))) (q : ∀ p H', Same H H' → H' p = some (.tup [.int 1]) → Q (.ref p) H') : rSlA K (.ref b) none (some 1) H Q := by
  cases st with
  | nil => exact ⟨b, _, rfl, SqT.of hb, fun _ => q b H (Same.refl _) hb, fun z => absurd ⟨rfl, rfl⟩ z⟩
  | cons s r => exact s_takeT (i := 1) (SqT.of hb) (by simp) fun p hp => q p _ (same_new hp) upd_same
theorem s_catG {K : PySem.W.Frag} {H : Hp} {a b : Addr} {xs ys : List V} {Q : VK} (h : H a = some (.tup xs)) (h' : H b = some (.tup ys)) (hl : xs.length + ys.length ≤ 1000) (q : ∀ p H', Same H H' → H' p = some (.tup (xs ++ ys)) → Q (.ref p) H') : rCatA K (.ref a) (.ref b) H Q :=
  ⟨a, b, xs, ys, rfl, rfl, SqT.of h, SqT.of h', Nat.le_of_lt (small1000 hl), fun e => q b H (Same.refl _) (by rw [e]; exact h'), fun _ e => q a H (Same.refl _) (by rw [e, List.append_nil]; exact h), fun _ _ p hp => q p _ (same_new hp) upd_same⟩
theorem f2_mapL {α β : Type} {R : V → β → Prop} {g : α → β} : ∀ {us : List V} {as : List α}, F2 (fun v a => R v (g a)) us as → F2 R us (as.map g)
  | _, _, .nil => .nil
  | _, _, .cons h t => .cons h (f2_mapL t)
section
variable {P : Program} {w : World} {K : PySem.W.Frag} {mg : Str → Option Value} {base : Heap} {A : Ad}
abbrev s_code_graph : Stmt := top 30
theorem sc_code_graph : FnScope ["code", "item"] ["code"] (defScope s_code_graph) := ⟨rfl, rfl, rfl, by decide +kernel, rfl, by decide +kernel, by decide +kernel⟩
theorem ok_code_graph {f : Addr} {fd : FuncData} (F : Fun K "code_graph" "code_graph" s_code_graph f fd) (T : Txt P w K mg base A) : FnOk P w K mg base CX0 1 f fd ["code"] (spCGraph K A) := by
  refine F.ok sc_code_graph (fun vs H Q E h => ?_) (fun cdv Ar outer s H vs Q E hr h => ?_)
  · obtain ⟨x, k, cts, crs, sts, rfl, _⟩ := h
    rfl
  · obtain ⟨x, k, cts, crs, sts, rfl, hx, hlen, q⟩ := h
    refine ⟨_, (pss_one (ps_ret (pe_lc (own := [("item", 1)]) (g := gName 1) (tt := tYes) rfl sc_code_graph.nd (pi_tup (pe_fld (pv 0) rfl)) (blkOk_by (own := [("item", 1)]) (N := ["code", "item"]) (sc := defScope s_code_graph) (by decide +kernel)) (fun _ _ _ _ _ => pg_name (i := 1) sc_code_graph.nd rfl (Or.inl rfl)) (fun _ _ _ _ _ => pts_nil) (fun _ _ _ _ _ => (pe_tup (pa_cons (pe_ix (ix_tupB (K := K) (by rfl)) (pv 1) pe_int (fun _ _ => rfl)) (pa_cons (pe_ix (ix_tupB (K := K) (by rfl)) (pv 1) pe_int (fun _ _ => rfl)) pa_nil))))))), ?_⟩
    obtain ⟨dx, tc, tr, ts, us, hx0, hx1, hx2, hx3, hx4⟩ := hx
    walk_at "lk"
    refine ⟨_, rfl, x, A.Code, dx, _, _, rfl, hx0, T.c_Code, T.m_rows, rfl, tr, rfl, ⟨us, hx2⟩, fun D hD => ?_⟩
    refine tlc_core (J := Itt _ tr) (D := D) CRowH ExH exC (fun s h => h.ts (Ts.of s)) (fun t h => h.ts t) hx3 (by have := hx3.len; omega) hD (fun _ => rfl) (fun i v r H' hri hv s R qr => ?_) (fun Pv p0 pS ht hd => lc_tup Pv p0 (fun i H' _ h => same_sqT (pS i H' h) hx2) ht hd) (fun ys H' s e h => ?_)
    · obtain ⟨a, b, c, d, rfl, ha, ⟨nb, rfl, hb⟩, hc, hd⟩ := hv
      walk_at "lk"
      refine sft (SqT.of ha) rfl ?_
      walk_at "lk"
      refine sft (SqT.of ha) rfl ?_
      walk_at "lk"
      refine snw (Nat.le_of_ble_eq_true rfl) fun u hu => ?_
      exact qr _ _ (same_new hu) ⟨u, nb, rfl, upd_same, same_new hu _ _ hb⟩
    · exact q D ys H' s e h
abbrev s_code_said : Stmt := top 31
theorem sc_code_said : FnScope ["code", "row", "vector", "form"] ["code", "row", "vector"] (defScope s_code_said) := ⟨rfl, rfl, rfl, by decide +kernel, rfl, by decide +kernel, by decide +kernel⟩
theorem ok_code_said {f : Addr} {fd : FuncData} (F : Fun K "code_said" "code_said" s_code_said f fd) (T : Txt P w K mg base A) (c_product_of : Cal P w K mg base 1 "product_of" ["row", "other", "width"] (spProd K)) : FnOk P w K mg base CX0 2 f fd ["code", "row", "vector"] (spCSaid K A) := by
  refine F.ok sc_code_said (fun vs H Q E h => ?_) (fun cdv Ar outer s H vs Q E hr h => ?_)
  · obtain ⟨x, i, b, k, cts, crs, sts, c, st, rfl, _⟩ := h
    rfl
  · obtain ⟨x, i, b, k, cts, crs, sts, c, st, rfl, hx, i0, hc0, hlow, hn, hk, hst, hfl, hb, q⟩ := h
    refine ⟨_, (pss_one (ps_ret (pe_lc (own := [("form", 3)]) (g := gName 3) (tt := tYes) rfl sc_code_said.nd (pi_tup (pe_ix ix_tup (pe_ix ix_tup (pe_fld (pv 0) rfl) (pv 1) (fun _ _ => rfl)) pe_int (fun _ _ => rfl))) (blkOk_by (own := [("form", 3)]) (N := ["code", "row", "vector", "form"]) (sc := defScope s_code_said) (by decide +kernel)) (fun _ _ _ _ _ => pg_name (i := 3) sc_code_said.nd rfl (Or.inl rfl)) (fun _ _ _ _ _ => pts_nil) (fun _ _ _ _ _ => (pcal c_product_of hr (by decide) (pa_cons (pv 3) (pa_cons (pv 2) (pa_cons (pe_fldB (K := K) (pv 0) rfl (by rfl)) pa_nil)))))))), ?_⟩
    obtain ⟨dx, tc, tr, ts, us, hx0, hx1, hx2, hx3, hx4⟩ := hx
    obtain ⟨v, hv, a, b1, c1, d1, rfl, ha, hb1, ⟨sp, us3, rfl, hsp, hss⟩, hd1⟩ := hx3.get hc0
    walk_at "lk"
    unfold tLc iTup
    walk_at "lk"
    refine ⟨x, A.Code, dx, _, _, rfl, hx0, T.c_Code, T.m_rows, rfl, ?_⟩
    walk_at "lk"
    refine sft hx2 (by rw [← Int.toNat_of_nonneg i0]; exact Lk.atI_nat hv) ?_
    walk_at "lk"
    refine sft (SqT.of ha) rfl ?_
    refine ⟨sp, rfl, ⟨us3, SqT.of hsp⟩, fun D hD => ?_⟩
    refine tlc_core (J := Itt _ sp) (D := D) CfH (fun H v (x : Int) => v = .int x) (fun f => valM k f st) (fun s h => h.ts (Ts.of s)) (fun t h => h) hss (by have := hss.len; omega) hD (fun _ => rfl) (fun n v f H' hri hv s R qr => ?_) (fun Pv p0 pS ht hd => lc_tup Pv p0 (fun i H' _ h => same_sqT (pS i H' h) (SqT.of hsp)) ht hd) (fun ys H' s e h => ?_)
    · obtain ⟨bf, rfl, hbf⟩ := hv
      have hm := List.mem_of_getElem? hri
      walk_at "lk"
      refine ⟨x, A.Code, dx, _, _, rfl, s _ _ hx0, T.c_Code, T.m_width, rfl, ?_⟩
      walk_at "lk"
      have l1 := hfl f hm
      exact ⟨bf, b, f, 1 :: st, k, rfl, SqT.of hbf, SqT.of (s _ _ hb), by rw [l1, List.length_cons], by omega, low_in hk (low_sy hlow f hm), hk, fun H2 s2 => qr _ _ s2 rfl⟩
    · rw [f2_ints_of h] at e
      exact q D H' s e
abbrev s_code_stepped : Stmt := top 32
theorem sc_code_stepped : FnScope ["code", "row", "vector", "number", "kind", "changes", "forms", "ahead", "form"] ["code", "row", "vector", "number"] (defScope s_code_stepped) := ⟨rfl, rfl, rfl, by decide +kernel, rfl, by decide +kernel, by decide +kernel⟩
theorem ok_code_stepped {f : Addr} {fd : FuncData} (F : Fun K "code_stepped" "code_stepped" s_code_stepped f fd) (T : Txt P w K mg base A) (c_product_of : Cal P w K mg base 1 "product_of" ["row", "other", "width"] (spProd K)) : FnOk P w K mg base CX0 2 f fd ["code", "row", "vector", "number"] (spCStep K A) := by
  refine F.ok sc_code_stepped (fun vs H Q E h => ?_) (fun cdv Ar outer s H vs Q E hr h => ?_)
  · obtain ⟨x, i, y, b, k, cts, crs, sts, c, st, rfl, _⟩ := h
    rfl
  · obtain ⟨x, i, y, b, k, cts, crs, sts, c, st, rfl, hx, i0, hc0, hlow, hci, hy0, hn, hk, hst, hfl, hb, q⟩ := h
    refine ⟨_, (pss_cons (ps_set (i := 4) sc_code_stepped.nd rfl (Or.inl rfl) (pe_ix ix_tup (pe_ix ix_tup (pe_fld (pv 0) rfl) (pv 1) (fun _ _ => rfl)) pe_int (fun _ _ => rfl)))
        (pss_cons (ps_set (i := 5) sc_code_stepped.nd rfl (Or.inl rfl) (pe_ix ix_tup (pe_ix ix_tup (pe_fld (pv 0) rfl) (pv 1) (fun _ _ => rfl)) pe_int (fun _ _ => rfl)))
        (pss_cons (ps_set (i := 6) sc_code_stepped.nd rfl (Or.inl rfl) (pe_ifExp (pt_cmpR op_eq (pv 4) pe_str (nomark _)) (pe_ix ix_tup (pv 5) (pv 3) (fun _ _ => rfl)) (pe_ix ix_tup (pv 5) pe_int (fun _ _ => rfl))))
        (pss_cons (ps_set (i := 7) sc_code_stepped.nd rfl (Or.inr rfl) (pe_ifExp (pt_cmpR op_eq (pv 4) pe_str (nomark _)) (pe_op op_catA (pv 2) (pe_tup (pa_cons (pv 3) pa_nil))) (pv 2)))
        (pss_one (ps_ret (pe_op op_catA (pe_slice sl_tupA (pv 2) po_none (po_some pe_int)) (pe_callTy call_tupOf (by rfl) T.z_tuple (by decide +kernel) (pa_cons (pe_lc (own := [("form", 8)]) (g := gName 8) (tt := tYes) rfl sc_code_stepped.nd (pi_tup (pv 6)) (blkOk_by (own := [("form", 8)]) (N := ["code", "row", "vector", "number", "kind", "changes", "forms", "ahead", "form"]) (sc := defScope s_code_stepped) (by decide +kernel)) (fun _ _ _ _ _ => pg_name (i := 8) sc_code_stepped.nd rfl (Or.inl rfl)) (fun _ _ _ _ _ => pts_nil) (fun _ _ _ _ _ => (pcal c_product_of hr (by decide) (pa_cons (pv 8) (pa_cons (pv 7) (pa_cons (pe_fldB (K := K) (pv 0) rfl (by rfl)) pa_nil)))))) pa_nil))))))))), ?_⟩
    obtain ⟨dx, tc, tr, ts, us, hx0, hx1, hx2, hx3, hx4⟩ := hx
    obtain ⟨v, hv, a, b1, c1, d1, rfl, ha, hb1, hc1, ⟨cp, us4, rfl, hcp, hcc⟩⟩ := hx3.get hc0
    walk_at "lk"
    refine ⟨x, A.Code, dx, _, _, rfl, hx0, T.c_Code, T.m_rows, rfl, ?_⟩
    walk_at "lk"
    refine sft hx2 (by rw [← Int.toNat_of_nonneg i0]; exact Lk.atI_nat hv) ?_
    walk_at "lk"
    refine sft (SqT.of ha) rfl ?_
    walk_at "lk"
    refine ⟨x, A.Code, dx, _, _, rfl, hx0, T.c_Code, T.m_rows, rfl, ?_⟩
    walk_at "lk"
    refine sft hx2 (by rw [← Int.toNat_of_nonneg i0]; exact Lk.atI_nat hv) ?_
    walk_at "lk"
    refine sft (SqT.of ha) rfl ?_
    refine sgn ?_
    dsimp only
    obtain ⟨uv, huv, hcv⟩ := hcc.get hci
    obtain ⟨fp, us5, rfl, hfp, hfs⟩ := hcv
    refine seq_mid (fun σ' H' => σ' = [some (.ref x), some (.int i), some (.ref b), some (.int y), some (.str c.kd), some (.ref cp), some (.ref fp), none, none] ∧ H' = H) ?_ ?_
    rotate_left
    · intro N hN
      walk_at "lk"
      refine sEq rfl ?_
      walk_at "lk"
      by_cases hk2 : c.kd = ("choose" : Str)
      · refine itt_ (decide_eq_true (by rw [hk2])) ?_
        walk_at "lk"
        have y0 := hy0 hk2
        rw [show cidx c.kd y = y.toNat from if_pos hk2] at huv
        refine sft (SqT.of hcp) (by rw [← Int.toNat_of_nonneg y0]; exact Lk.atI_nat huv) ?_
        exact hN _ _ ⟨rfl, rfl⟩
      · refine iff_ (decide_eq_false fun z => hk2 (V.str.inj z)) ?_
        walk_at "lk"
        rw [show cidx c.kd y = 0 from if_neg hk2] at huv
        refine sft (SqT.of hcp) (Lk.atI_nat (i := 0) huv) ?_
        exact hN _ _ ⟨rfl, rfl⟩
    rintro σ' H' ⟨rfl, rfl⟩
    refine seq_mid (fun σ' H2 => ∃ va, σ' = [some (.ref x), some (.int i), some (.ref b), some (.int y), some (.str c.kd), some (.ref cp), some (.ref fp), some (.ref va), none] ∧ Same H' H2 ∧ H2 va = some (.tup ((1 :: cgiv c st y).map V.int))) ?_ ?_
    rotate_left
    · intro N hN
      walk_at "lk"
      refine sEq rfl ?_
      walk_at "lk"
      by_cases hk2 : c.kd = ("ask" : Str)
      · refine itt_ (decide_eq_true (by rw [hk2])) ?_
        walk_at "lk"
        refine snw (Nat.le_of_ble_eq_true rfl) fun z1 hz1 => ?_
        refine s_catG ((same_new hz1) _ _ hb) upd_same (by rw [List.length_map]; simp; omega) fun va H2 s2 e2 => ?_
        refine hN _ _ ⟨va, rfl, (same_new hz1).trans s2, ?_⟩
        rw [e2, show cgiv c st y = st ++ [y] from if_pos hk2]
        simp
      · refine iff_ (decide_eq_false fun z => hk2 (V.str.inj z)) ?_
        walk_at "lk"
        refine hN _ _ ⟨b, rfl, Same.refl _, ?_⟩
        rw [hb, show cgiv c st y = st from if_neg hk2]
    rintro σ' H2 ⟨va, rfl, s2, hva⟩
    walk_at "lk"
    refine s_one (s2 _ _ hb) fun o1 H3 s3 ho1 => ?_
    walk_at "lk"
    have S3 := s2.trans s3
    refine tlc_F2T CfH (fun H v (x : Int) => v = .int x) (fun f => valM k f (cgiv c st y)) (fun s h => h.ts (Ts.of s)) (fun t h => h) rfl (SqT.of (S3 _ _ hfp)) (hfs.mono fun _ _ z => z.ts (Ts.of S3)) (by have := hfs.len; omega) (fun _ => rfl) (fun n v f H4 hri hv s R qr => ?_) (fun D ys H4 s hD e h => ?_)
    · obtain ⟨bf, rfl, hbf⟩ := hv
      have hm := List.mem_of_getElem? hri
      walk_at "lk"
      refine ⟨x, A.Code, dx, _, _, rfl, s _ _ (S3 _ _ hx0), T.c_Code, T.m_width, rfl, ?_⟩
      walk_at "lk"
      have l1 := hfl f hm
      have hgl := cgiv_len c st y
      have a01 := ask_01 c.kd
      exact ⟨bf, va, f, 1 :: cgiv c st y, k, rfl, SqT.of hbf, SqT.of (s _ _ (s3 _ _ hva)), by rw [l1, List.length_cons], by omega, low_in hk (low_ch hlow _ (List.mem_of_getElem? hci) f hm), hk, fun H5 s5 => qr _ _ s5 rfl⟩
    · rw [f2_ints_of h] at e
      walk_at "lk"
      refine s_tupL e fun p2 H5 s5 _ hp2 => ?_
      refine s_catG (s5 _ _ (s _ _ ho1)) hp2 (by rw [List.length_map, List.length_map]; show 1 + (cfs c y).length ≤ 1000; omega) fun vb H6 s6 e6 => ?_
      exact q vb H6 (S3.trans (s.trans (s5.trans s6))) e6
end
end K42

namespace K42
open PySem PySem.Spec PyProof.Rows L2 RZ Lk
local macro_rules | `(tactic| walk_at "lk") => `(tactic| (repeat (first
  | with_reducible refine ssq ?_ | with_reducible refine sas ?_ | with_reducible refine sgn ?_ | ((with_reducible show tVar _ _ _ _); refine sv rfl ?_) | with_reducible refine sc ?_ | with_reducible refine sop ?_ | with_reducible refine sun ?_
  | with_reducible refine sI0 ?_ | with_reducible refine sU ?_ | with_reducible refine stt ?_ | with_reducible refine stB ?_ | with_reducible refine sbl ?_ | with_reducible refine snt ?_ | with_reducible refine sif ?_ | with_reducible refine scB ?_
  | with_reducible refine scn ?_ | with_reducible refine snl ?_ | with_reducible refine scl ?_ | with_reducible refine stu ?_ | with_reducible refine sli ?_ | with_reducible refine sdr ?_ | with_reducible refine srt ?_ | with_reducible refine snx ?_ | with_reducible refine sfor ?_ | with_reducible refine sils ?_ | with_reducible refine sien ?_ | with_reducible refine sor ?_ | with_reducible refine sfg ?_
  | with_reducible refine sav ?_ | with_reducible refine sov ?_ | with_reducible refine snv ?_ | with_reducible refine sch ?_ | with_reducible refine san ?_ | with_reducible refine ssll ?_ | with_reducible refine spt ?_ | with_reducible refine snp ?_ | with_reducible refine sin ?_ | with_reducible refine sfl ?_ | with_reducible refine sfd ?_ | with_reducible refine sbm ?_ | with_reducible refine sifx ?_ | with_reducible refine smk ?_ | with_reducible refine ssli ?_ | with_reducible refine srz1 ?_ | with_reducible refine scx ?_ | with_reducible refine sbz ?_
  | ((with_reducible show Or _ _); first | refine Or.inl ⟨_, rfl, ?_⟩ | refine Or.inr ⟨_, rfl, ?_⟩))))

theorem way_dd {K : PySem.W.Frag} {H : Hp} {t : Addr} {k : Nat} {ns : List Str} {rs : List LRow} {q : Q3} {nums : List Int} (ht : SqE K H t (nums.map V.int)) (h : Way k ns rs q nums) : ∃ o, Nv K H (.ref t) o ∧ wrongO rs q.1 o = none :=
  ⟨_, .seq ht (dg_ints nums), fits_wrongL nums q 0 h.fits⟩
def BadN (K : PySem.W.Frag) (A : Ad) (H : Hp) (rs : List LRow) (i : Int) (v : V) (E : XK) : Prop := ∃ (o : Option (List PyData)) (z : Int), Nv K H v o ∧ wrongO rs i o = some z ∧ ErI A.NoRun z E H
theorem BadN.same {K : PySem.W.Frag} {A : Ad} {H H' : Hp} {rs : List LRow} {i : Int} {v : V} {E : XK} (s : Same H H') (h : BadN K A H rs i v E) : BadN K A H' rs i v E := by
  obtain ⟨o, z, h1, h2, h3⟩ := h
  exact ⟨o, z, h1.same s, h2, h3.same s⟩
def spRunC (K : PySem.W.Frag) (A : Ad) : Sp := fun vs H Q E => ∃ (x : Addr) (v : V) (k : Nat) (ns : List Str) (rs : List LRow) (cts : List Int) (crs : List CRow) (sts : List Int), vs = [.ref x, v] ∧ CodeO K A.Code H x k cts crs sts ∧ CW k ns rs cts crs sts ∧ 1 ≤ rs.length ∧ k ≤ 64 ∧
  ((∃ (t : Addr) (nums : List Int) (q' : Q3), v = .ref t ∧ SqE K H t (nums.map V.int) ∧ nums.length ≤ 100 ∧ CWay k ns rs cts crs sts (0, sts, []) q' nums ∧ ∀ u H', Same H H' → Told H H' u (crun k rs crs (0, sts, []) nums) → Q (.ref u) H') ∨ BadN K A H rs 0 v E)
theorem s_cat1 {K : PySem.W.Frag} {H : Hp} {a b : Addr} {xs ys : List V} {Q : VK} (h : H a = some (.tup xs)) (hx : xs ≠ []) (h' : SqT K H b ys) (hl : xs.length + ys.length ≤ 1000) (q : ∀ p H', Same H H' → H' p = some (.tup (xs ++ ys)) → Q (.ref p) H') : rCatA K (.ref a) (.ref b) H Q :=
  ⟨a, b, xs, ys, rfl, rfl, SqT.of h, h', Nat.le_of_lt (small1000 hl), fun e => absurd e hx, fun _ e => q a H (Same.refl _) (by rw [e, List.append_nil]; exact h), fun _ _ p hp => q p _ (same_new hp) upd_same⟩
theorem fit_choose {r : LRow} {x : Int} (h : ckOf r = ("choose" : Str)) (hx : fitM r x) : 0 ≤ x := by
  cases r with
  | choose ks => exact hx.1
  | set n f j => exact absurd h (by decide +kernel : ¬ ("go" : Str) = ("choose" : Str))
  | say f j => exact absurd h (by decide +kernel : ¬ ("go" : Str) = ("choose" : Str))
  | ask n j => exact absurd h (by decide +kernel : ¬ ("ask" : Str) = ("choose" : Str))
  | look j => exact absurd h (by decide +kernel : ¬ ("go" : Str) = ("choose" : Str))
  | stop => exact absurd h (by decide +kernel : ¬ ("stop" : Str) = ("choose" : Str))
theorem getD_le {cts : List Int} {b : Int} (hb : 0 ≤ b) (h : ∀ c ∈ cts, c ≤ b) (i : Nat) : cts.getD i 0 ≤ b := by
  rw [List.getD_eq_getElem?_getD]
  cases e : cts[i]? with
  | none => exact hb
  | some c => exact h c (List.mem_of_getElem? e)
section
variable {P : Program} {w : World} {K : PySem.W.Frag} {mg : Str → Option Value} {base : Heap} {A : Ad}
abbrev s_run_code : Stmt := top 29
theorem sc_run_code : FnScope ["code", "numbers", "graph", "row", "vector", "said", "number"] ["code", "numbers"] (defScope s_run_code) := ⟨rfl, rfl, rfl, by decide +kernel, rfl, by decide +kernel, by decide +kernel⟩
theorem ok_run_code {f : Addr} {fd : FuncData} (F : Fun K "run_code" "run_code" s_run_code f fd) (T : Txt P w K mg base A) (c_code_graph : Cal P w K mg base 1 "code_graph" ["code"] (spCGraph K A)) (c_check_numbers : Cax P w K mg base 5 "check_numbers" ["graph", "row", "numbers"] (spChX K A)) (c_code_said : Cal P w K mg base 2 "code_said" ["code", "row", "vector"] (spCSaid K A)) (c_code_stepped : Cal P w K mg base 2 "code_stepped" ["code", "row", "vector", "number"] (spCStep K A)) (c_next_row : Cal P w K mg base 1 "next_row" ["graph", "row", "number"] spNext) : FnOk P w K mg base (L2.CX P w) 6 f fd ["code", "numbers"] (spRunC K A) := by
  refine F.okX sc_run_code (fun vs H Q E h => ?_) (fun cdv Ar outer s H vs Q E hr h => ?_)
  · obtain ⟨x, v, k, ns, rs, cts, crs, sts, rfl, _⟩ := h
    rfl
  · obtain ⟨x, v, k, ns, rs, cts, crs, sts, rfl, hx, W, r1, hk, hh⟩ := h
    refine ⟨_, (pss_cons (ps_set (i := 2) sc_run_code.nd rfl (Or.inl rfl) (pcal c_code_graph hr (by decide) (pa_cons (pv 0) pa_nil)))
        (pss_cons (ps_expr (pcax c_check_numbers hr (by decide) (takes_of rfl rfl rfl rfl) (pa_cons (pv 2) (pa_cons pe_int (pa_cons (pv 1) pa_nil)))))
        (pss_cons (ps_set (i := 3) sc_run_code.nd rfl (Or.inl rfl) pe_int)
        (pss_cons (ps_set (i := 4) sc_run_code.nd rfl (Or.inl rfl) (pe_op op_catA (pe_tup (pa_cons pe_int pa_nil)) (pe_fld (pv 0) rfl)))
        (pss_cons (ps_set (i := 5) sc_run_code.nd rfl (Or.inl rfl) (pe_lst pa_nil))
        (pss_cons (ps_for (passes_of rfl) rfl (pi_either (pv 1)) (pg_name (i := 6) sc_run_code.nd rfl (Or.inl rfl)) (pss_cons (ps_expr (pe_bm PySem.F.plainAttrs_list PySem.F.slot_list_extend PySem.F.type_list_extend mt_extend (pv 5) (pa_cons (pcal c_code_said hr (by decide) (pa_cons (pv 0) (pa_cons (pv 3) (pa_cons (pv 4) pa_nil)))) pa_nil)))
        (pss_cons (ps_set (i := 4) sc_run_code.nd rfl (Or.inl rfl) (pcal c_code_stepped hr (by decide) (pa_cons (pv 0) (pa_cons (pv 3) (pa_cons (pv 4) (pa_cons (pv 6) pa_nil))))))
        (pss_one (ps_set (i := 3) sc_run_code.nd rfl (Or.inl rfl) (pcal c_next_row hr (by decide) (pa_cons (pv 2) (pa_cons (pv 3) (pa_cons (pv 6) pa_nil)))))))))
        (pss_one (ps_ret (pe_tup (pa_cons (pv 3) (pa_cons (pe_slice sl_tupA (pv 4) (po_some pe_int) po_none) (pa_cons (pv 5) pa_nil)))))))))))), ?_⟩
    have hl200 : crs.length ≤ 200 := by have := W.len; have := W.r25; omega
    rcases hh with hh | hh
    · obtain ⟨t, nums, q', rfl, ht, hnl, hw, q⟩ := hh
      walk_at "lk"
      refine ⟨x, k, cts, crs, sts, rfl, hx, hl200, fun Dg us H1 s1 hDg hus => ?_⟩
      rw [W.exs] at hus
      walk_at "lk"
      have hq0 : q'.1 = 0 := hw.e.symm
      obtain ⟨dd, hdd, hw0⟩ := way_dd (ht.same s1) hw.way
      rw [hq0] at hw0
      refine ⟨Dg, us, ns, rs, 0, .ref t, dd, rfl, hDg, hus, W.rok, Int.le_refl 0, by omega, hdd, .inl ⟨hw0, fun H2 s2 => ?_⟩⟩
      walk_at "lk"
      have S2 := s1.trans s2
      refine snw (Nat.le_of_ble_eq_true rfl) fun p1 hp1 => ?_
      have s3 : Same H2 (upd H2 p1 (.tup [.int 1])) := same_new hp1
      have e1 : (upd H2 p1 (.tup [.int 1])) p1 = some (.tup [.int 1]) := upd_same
      generalize upd H2 p1 (.tup [.int 1]) = H3 at s3 e1 ⊢
      have S3 := S2.trans s3
      have hx' := hx.lc (Lc.of S3)
      obtain ⟨dx, tc, tr, ts, us0, h0, h1, h2, h3, h4⟩ := hx'
      walk_at "lk"
      refine ⟨x, A.Code, dx, _, _, rfl, h0, T.c_Code, T.m_start, rfl, ?_⟩
      refine s_cat1 e1 (by simp) h4 (by rw [List.length_map]; have := W.ok.sl; have := getD_le (by decide) W.c6 0; show 1 + sts.length ≤ 1000; omega) fun vb H5 s5 h5 => ?_
      have S5 := S3.trans s5
      have h5' : H5 vb = some (.tup ((1 :: sts).map V.int)) := h5
      clear h0 h1 h2 h3 h4
      walk_at "lk"
      refine snw (Nat.le_of_ble_eq_true rfl) fun Ds hDs => ?_
      have h6 : (upd H5 Ds (.lst [])) Ds = some (.lst []) := upd_same
      have s6 : Same H5 (upd H5 Ds (.lst [])) := same_new hDs
      have h6v := s6 _ _ h5'
      generalize upd H5 Ds (.lst []) = H6 at h6 s6 h6v ⊢
      walk_at "lk"
      refine for_E (xs := nums.map V.int) (fun c σ' H' => ∃ (r0 : Int) (v0 : Addr) (e : Option V), σ' = [some (.ref x), some (.ref t), some (.ref Dg), some (.int r0), some (.ref v0), some (.ref Ds), e] ∧ r0 = (crun k rs crs (0, sts, []) (nums.take c)).1 ∧ H' v0 = some (.tup ((1 :: (crun k rs crs (0, sts, []) (nums.take c)).2.1).map V.int)) ∧ H' Ds = some (.lst ((crun k rs crs (0, sts, []) (nums.take c)).2.2.map V.int)) ∧ Same H5 H') rfl (ht.same S5) ?_ ?_ ?_ ?_
      · exact ⟨0, vb, none, rfl, rfl, h6v, h6, s6⟩
      · rintro c σ' H' ⟨_, _, _, _, _, _, _, s7⟩
        exact s7
      · rintro n v σ' H' hi ⟨r0, v0, e, rfl, rfl, hv0, hD0, s7⟩
        rw [List.getElem?_map] at hi
        obtain ⟨z, hz, rfl⟩ := Option.map_eq_some_iff.mp hi
        obtain ⟨r, c, hr0, hc0, hf, hstep⟩ := hw.step hz
        have hcl := (List.getElem?_eq_some_iff.mp hz).1
        have hg := hw.good n (Nat.le_of_lt hcl)
        have hsl := hw.said n (Nat.le_of_lt hcl)
        rw [hstep]
        generalize crun k rs crs (0, sts, []) (nums.take n) = qc at hr0 hc0 hg hstep hsl hv0 hD0 ⊢
        have hm := List.mem_of_getElem? hc0
        have okc := W.ok.ok _ c hc0
        have h5c := getD_le (by decide) W.c6 qc.1.toNat
        have hgl := hg.len
        have S7 := S5.trans s7
        obtain ⟨e1c, e2c, e3c⟩ := cfs_at W hr0 hc0 hf
        have h5n := getD_le (by decide) W.c6 (nxM r z).toNat
        have hgv := cgiv_len c qc.2.1 z
        walk_at "lk"
        refine ⟨.inl ⟨rfl, _, SqL.of hD0⟩, ?_⟩
        walk_at "lk"
        refine ⟨x, _, v0, k, cts, crs, sts, c, qc.2.1, rfl, hx.lc (Lc.of S7), hg.r0, hc0, W.low c hm, W.sy6 c hm, hk, by omega, fun f hf => by have := okc.syf f hf; omega, hv0, fun D2 H8 s8 h8 => ?_⟩
        walk_at "lk"
        refine ⟨Ds, D2, _, _, rfl, rfl, s8 _ _ hD0, h8, ?_, ?_⟩
        · rw [List.length_map, List.length_map]
          have h6l : (csd k c qc.2.1).length ≤ 6 := by
            unfold csd
            rw [List.length_map]
            exact W.sy6 c hm
          have hsl' : qc.2.2.length ≤ 0 + 6 * n := hsl
          exact Nat.le_of_lt (small1000 (by omega))
        · walk_at "lk"
          have S9 : Same H5 (upd H8 Ds (.lst (qc.2.2.map V.int ++ (csd k c qc.2.1).map V.int))) := same_updN (s7.trans s8) hDs
          have nv : v0 ≠ Ds := fun y => by
            rw [y, hD0] at hv0
            cases hv0
          have hv9 : (upd H8 Ds (.lst (qc.2.2.map V.int ++ (csd k c qc.2.1).map V.int))) v0 = some (.tup ((1 :: qc.2.1).map V.int)) := by
            rw [upd_ne nv]
            exact s8 _ _ hv0
          have hD9 : (upd H8 Ds (.lst (qc.2.2.map V.int ++ (csd k c qc.2.1).map V.int))) Ds = some (.lst ((qc.2.2 ++ csd k c qc.2.1).map V.int)) := by
            rw [upd_same, List.map_append]
          generalize upd H8 Ds (.lst (qc.2.2.map V.int ++ (csd k c qc.2.1).map V.int)) = H9 at S9 hv9 hD9 ⊢
          have S59 := S5.trans S9
          refine ⟨x, _, z, v0, k, cts, crs, sts, c, qc.2.1, rfl, hx.lc (Lc.of S59), hg.r0, hc0, W.low c hm, e1c, fun hch => fit_choose (by obtain ⟨c', g1, g2, _⟩ := W.row hr0; rw [hc0] at g1; cases g1; rw [← g2]; exact hch) hf, by omega, hk, by omega, fun f hf => by have := e3c f hf; omega, hv9, fun u H10 s10 hu => ?_⟩
          have S1 : Same H1 H10 := s2.trans (s3.trans (s5.trans (S9.trans s10)))
          walk_at "lk"
          refine ⟨Dg, us, rs, _, z, r, rfl, S1 _ _ hDg, hus.mono (fun v a h => ExH.ts (Ts.of S1) h), hg.r0, hr0, hf, ?_⟩
          exact ⟨_, _, _, rfl, rfl, hu, s10 _ _ hD9, S9.trans s10⟩
      · rintro σ' H' ⟨r0, v0, e, rfl, rfl, hv0, hD0, s7⟩
        rw [List.length_map, List.take_length] at hv0 hD0
        rw [List.length_map]
        rw [List.take_length]
        generalize crun k rs crs (0, sts, []) nums = qc at hv0 hD0 q ⊢
        walk_at "lk"
        refine s_dropT (i := 1) (SqT.of hv0) (Nat.le_refl 1) (by rw [List.length_map, List.length_cons]; omega) (by simp) fun p3 hp3 => ?_
        walk_at "lk"
        refine snw (Nat.le_of_ble_eq_true rfl) fun u hu => ?_
        refine q u _ (S5.trans (s7.trans ((same_new hp3).trans (same_new hu)))) ⟨p3, Ds, S5.free hDs, upd_same, ?_, ?_⟩
        · refine same_new hu _ _ ?_
          rw [upd_same]
          rfl
        · exact same_new hu _ _ (same_new hp3 _ _ hD0)
    · obtain ⟨o, z, hd, hz, er⟩ := hh
      walk_at "lk"
      refine ⟨x, k, cts, crs, sts, rfl, hx, hl200, fun Dg us H1 s1 hDg hus => ?_⟩
      rw [W.exs] at hus
      walk_at "lk"
      exact ⟨Dg, us, ns, rs, 0, v, o, rfl, hDg, hus, W.rok, Int.le_refl 0, by omega, hd.same s1, .inr ⟨z, hz, er.same s1⟩⟩
end
end K42

namespace K42
open PySem PySem.Spec PyProof.Rows L2 RZ Lk
local macro_rules | `(tactic| walk_at "lk") => `(tactic| (repeat (first
  | with_reducible refine ssq ?_ | with_reducible refine sas ?_ | with_reducible refine sgn ?_ | ((with_reducible show tVar _ _ _ _); refine sv rfl ?_) | with_reducible refine sc ?_ | with_reducible refine sop ?_ | with_reducible refine sun ?_
  | with_reducible refine sI0 ?_ | with_reducible refine sU ?_ | with_reducible refine stt ?_ | with_reducible refine stB ?_ | with_reducible refine sbl ?_ | with_reducible refine snt ?_ | with_reducible refine sif ?_ | with_reducible refine scB ?_
  | with_reducible refine scn ?_ | with_reducible refine snl ?_ | with_reducible refine scl ?_ | with_reducible refine stu ?_ | with_reducible refine sli ?_ | with_reducible refine sdr ?_ | with_reducible refine srt ?_ | with_reducible refine snx ?_ | with_reducible refine sfor ?_ | with_reducible refine sils ?_ | with_reducible refine sien ?_ | with_reducible refine sor ?_ | with_reducible refine sfg ?_
  | with_reducible refine sav ?_ | with_reducible refine sov ?_ | with_reducible refine snv ?_ | with_reducible refine sch ?_ | with_reducible refine san ?_ | with_reducible refine ssll ?_ | with_reducible refine spt ?_ | with_reducible refine snp ?_ | with_reducible refine sin ?_ | with_reducible refine sfl ?_ | with_reducible refine sfd ?_ | with_reducible refine sbm ?_ | with_reducible refine sifx ?_ | with_reducible refine smk ?_ | with_reducible refine ssli ?_ | with_reducible refine sbz ?_
  | ((with_reducible show Or _ _); first | refine Or.inl ⟨_, rfl, ?_⟩ | refine Or.inr ⟨_, rfl, ?_⟩))))

theorem tlc_F2E {K : PySem.W.Frag} {H : Hp} {σ : L2.St} {a : Addr} {xs : List V} {α β : Type} {as : List α} {k : Nat} {te0 te : TE} {vs : List Nat} {Q : VK} (Rin : Hp → V → α → Prop) (Rout : Hp → V → β → Prop) (f : α → β)
    (iS : ∀ {H H' v x}, Same H H' → Rin H v x → Rin H' v x) (oS : ∀ {H H' v x}, Ts H H' → Rout H v x → Rout H' v x) (h0 : ∀ R : VK, R (.ref a) H → te0 σ H R) (hx : SqT K H a xs) (hr : F2 (Rin H) xs as) (h3 : xs.length ≤ 1000)
    (hw : ∀ x, wipe ((wipe σ vs).set k (some x)) vs = wipe σ vs)
    (he : ∀ (i : Nat) (x : V) (r : α) (H' : Hp), as[i]? = some r → Rin H' x r → Same H H' → ∀ R : VK, (∀ u H'', Same H' H'' → Rout H'' u (f r) → R u H'') → te ((wipe σ vs).set k (some x)) H' R)
    (q : ∀ D ys H', Same H H' → H D = none → H' D = some (.lst ys) → F2 (Rout H') ys (as.map f) → Q (.ref D) H') : tLc (iTup K te0) (gName k) tYes te vs σ H Q :=
  h0 _ ⟨a, rfl, ⟨xs, hx⟩, fun D hD => tlc_core (J := Itt K a) (D := D) Rin Rout f iS oS hr h3 hD hw he (fun Pv p0 pS ht hd => lc_tup Pv p0 (fun i H' _ h => same_sqT (pS i H' h) hx) ht hd) fun ys H' s e h => q D ys H' s hD e h⟩
theorem s_catQ {K : PySem.W.Frag} {H : Hp} {a b : Addr} {xs ys : List V} {Q : VK} (h : SqT K H a xs) (h' : SqT K H b ys) (hl : xs.length + ys.length ≤ 1000) (q : ∀ p H', Same H H' → SqT K H' p (xs ++ ys) → Q (.ref p) H') : rCatA K (.ref a) (.ref b) H Q :=
  ⟨a, b, xs, ys, rfl, rfl, h, h', Nat.le_of_lt (small1000 hl), fun e => q b H (Same.refl _) (by rw [e]; exact h'), fun _ e => q a H (Same.refl _) (by rw [e, List.append_nil]; exact h), fun _ _ p hp => q p _ (same_new hp) (SqT.of upd_same)⟩
theorem cgiv_eq (c : CRow) (st : List Int) (y : Int) : st.map V.int ++ List.replicate (askN c.kd) (V.int y) = (cgiv c st y).map V.int := by
  unfold cgiv askN
  by_cases h : c.kd = ("ask" : Str)
  · rw [if_pos h, if_pos h, List.map_append]
    rfl
  · rw [if_neg h, if_neg h]
    exact List.append_nil _
def spCodeStep (K : PySem.W.Frag) : Sp := fun vs H Q _ => ∃ (k : Nat) (v : V) (b : Addr) (y z : Int) (c : CRow) (st : List Int), vs = [.int (k : Int), v, .ref b, .int y] ∧ CRowH H v c ∧ SqT K H b (st.map V.int) ∧ k ≤ 64 ∧ st.length ≤ 5 ∧ c.nx[cidx c.kd y]? = some z ∧ c.ch[cidx c.kd y]? = some (cfs c y) ∧ (c.kd = "choose" → 0 ≤ y) ∧ c.low k = c ∧ (cfs c y).length ≤ 90 ∧ c.sy.length ≤ 90 ∧ (∀ f ∈ cfs c y, f.length = (cgiv c st y).length + 1) ∧ (∀ f ∈ c.sy, f.length = st.length + 1) ∧
  ∀ u b' D H', Same H H' → H' u = some (.tup [.int z, .ref b', .ref D]) → H' b' = some (.tup ((cst k c st y).map V.int)) → H' D = some (.lst ((csd k c st).map V.int)) → Q (.ref u) H'
section
variable {P : Program} {w : World} {K : PySem.W.Frag} {mg : Str → Option Value} {base : Heap} {A : Ad}
abbrev s__law_code_step : Stmt := top 78
theorem sc__law_code_step : FnScope ["_law_width", "_law_row_here", "_law_registers", "_law_number_here", "_law_kind", "_law_ahead", "_law_says", "_law_changes", "_law_given", "_law_at", "_law_later", "_law_form_here"] ["_law_width", "_law_row_here", "_law_registers", "_law_number_here"] (defScope s__law_code_step) := ⟨rfl, rfl, rfl, by decide +kernel, rfl, by decide +kernel, by decide +kernel⟩
theorem ok_law_code_step {f : Addr} {fd : FuncData} (F : Fun K "_law_code_step" "_law_code_step" s__law_code_step f fd) (T : Txt P w K mg base A) (c__law_value : Cal P w K mg base 1 "_law_value" ["_law_width", "_law_form_here", "_law_state"] (spVal K)) : FnOk P w K mg base CX0 2 f fd ["_law_width", "_law_row_here", "_law_registers", "_law_number_here"] (spCodeStep K) := by
  refine F.ok sc__law_code_step (fun vs H Q E h => ?_) (fun cdv Ar outer s H vs Q E hr h => ?_)
  · obtain ⟨k, v, b, y, z, c, st, rfl, _⟩ := h
    rfl
  · obtain ⟨k, v, b, y, z, c, st, rfl, hv, hb, hk, hst, hz, hci, hy0, hlow, hn, hsn, hfl, hsl, q⟩ := h
    refine ⟨_, (pss_cons (ps_asg (pv 1) (pg_tup rfl (pgs_cons (pg_name (i := 4) sc__law_code_step.nd rfl (Or.inl rfl)) (pgs_cons (pg_name (i := 5) sc__law_code_step.nd rfl (Or.inl rfl)) (pgs_cons (pg_name (i := 6) sc__law_code_step.nd rfl (Or.inl rfl)) (pgs_cons (pg_name (i := 7) sc__law_code_step.nd rfl (Or.inl rfl)) pgs_nil))))))
        (pss_cons (ps_set (i := 8) sc__law_code_step.nd rfl (Or.inr rfl) (pe_op op_catA (pe_callTy call_tupOf (by rfl) T.z_tuple (by decide +kernel) (pa_cons (pv 2) pa_nil)) (pe_op op_repZ (pe_tup (pa_cons (pv 3) pa_nil)) (pe_callTy call_int1 (by rfl) T.z_int (by decide +kernel) (pa_cons (pe_cmpR op_eq (pv 4) pe_str (nomark _)) pa_nil)))))
        (pss_cons (ps_set (i := 9) sc__law_code_step.nd rfl (Or.inl rfl) (pe_ifExp (pt_cmpR op_eq (pv 4) pe_str (nomark _)) (pv 3) pe_int))
        (pss_cons (ps_set (i := 10) sc__law_code_step.nd rfl (Or.inl rfl) (pe_callTy call_tupOf (by rfl) T.z_tuple (by decide +kernel) (pa_cons (pe_lc (own := [("_law_form_here", 11)]) (g := gName 11) (tt := tYes) rfl sc__law_code_step.nd (pi_tup (pe_ix ix_tup (pv 7) (pv 9) (fun _ _ => rfl))) (blkOk_by (own := [("_law_form_here", 11)]) (N := ["_law_width", "_law_row_here", "_law_registers", "_law_number_here", "_law_kind", "_law_ahead", "_law_says", "_law_changes", "_law_given", "_law_at", "_law_later", "_law_form_here"]) (sc := defScope s__law_code_step) (by decide +kernel)) (fun _ _ _ _ _ => pg_name (i := 11) sc__law_code_step.nd rfl (Or.inl rfl)) (fun _ _ _ _ _ => pts_nil) (fun _ _ _ _ _ => (pcal c__law_value hr (by decide) (pa_cons (pv 0) (pa_cons (pv 11) (pa_cons (pv 8) pa_nil)))))) pa_nil)))
        (pss_one (ps_ret (pe_tup (pa_cons (pe_ix ix_tup (pv 5) (pv 9) (fun _ _ => rfl)) (pa_cons (pv 10) (pa_cons (pe_lc (own := [("_law_form_here", 11)]) (g := gName 11) (tt := tYes) rfl sc__law_code_step.nd (pi_tup (pv 6)) (blkOk_by (own := [("_law_form_here", 11)]) (N := ["_law_width", "_law_row_here", "_law_registers", "_law_number_here", "_law_kind", "_law_ahead", "_law_says", "_law_changes", "_law_given", "_law_at", "_law_later", "_law_form_here"]) (sc := defScope s__law_code_step) (by decide +kernel)) (fun _ _ _ _ _ => pg_name (i := 11) sc__law_code_step.nd rfl (Or.inl rfl)) (fun _ _ _ _ _ => pts_nil) (fun _ _ _ _ _ => (pcal c__law_value hr (by decide) (pa_cons (pv 0) (pa_cons (pv 11) (pa_cons (pv 2) pa_nil)))))) pa_nil)))))))))), ?_⟩
    obtain ⟨a, nb, c1, d1, rfl, ha, ⟨np, rfl, hnp⟩, ⟨sp, us3, rfl, hsp, hss⟩, ⟨cp, us4, rfl, hcp, hcc⟩⟩ := hv
    walk_at "lk"
    refine g_quadC (SqT.of ha) ?_
    walk_at "lk"
    refine s_tupE (.inr hb) fun b2 H1 s1 hb2 => ?_
    walk_at "lk"
    refine snw (Nat.le_of_ble_eq_true rfl) fun z1 hz1 => ?_
    have s2 : Same H1 (upd H1 z1 (.tup [.int y])) := same_new hz1
    have e2 : (upd H1 z1 (.tup [.int y])) z1 = some (.tup [.int y]) := upd_same
    generalize upd H1 z1 (.tup [.int y]) = H2 at s2 e2 ⊢
    walk_at "lk"
    refine sEq rfl ?_
    walk_at "lk"
    rw [ask_if]
    have a01 := ask_01 c.kd
    refine s_repZ (n := askN c.kd) e2 (by omega) fun z2 H3 s3 e3 => ?_
    refine s_catQ (same_sqT s3 (same_sqT s2 hb2)) (SqT.of e3) (by rw [List.length_map, List.length_replicate]; omega) fun gv H4 s4 hgv => ?_
    rw [cgiv_eq] at hgv
    have S4 := s1.trans (s2.trans (s3.trans s4))
    refine sgn ?_
    dsimp only
    refine seq_mid (fun σ' H' => σ' = [some (.int (k : Int)), some (.ref a), some (.ref b), some (.int y), some (.str c.kd), some (.ref np), some (.ref sp), some (.ref cp), some (.ref gv), some (.int ((cidx c.kd y : Nat) : Int)), none, none] ∧ H' = H4) ?_ ?_
    rotate_left
    · intro N hN
      walk_at "lk"
      refine sEq rfl ?_
      walk_at "lk"
      by_cases hk2 : c.kd = ("choose" : Str)
      · refine itt_ (decide_eq_true (by rw [hk2])) ?_
        walk_at "lk"
        refine hN _ _ ⟨?_, rfl⟩
        rw [show cidx c.kd y = y.toNat from if_pos hk2, Int.toNat_of_nonneg (hy0 hk2)]
        rfl
      · refine iff_ (decide_eq_false fun z => hk2 (V.str.inj z)) ?_
        walk_at "lk"
        refine hN _ _ ⟨?_, rfl⟩
        rw [show cidx c.kd y = 0 from if_neg hk2]
        rfl
    rintro σ' H' ⟨rfl, rfl⟩
    obtain ⟨uv, huv, hcv⟩ := hcc.get hci
    obtain ⟨fp, us5, rfl, hfp, hfs⟩ := hcv
    have hgl := cgiv_len c st y
    walk_at "lk"
    refine tlc_F2E CfH (fun H v (x : Int) => v = .int x) (fun f => valM k f (cgiv c st y)) (fun s h => h.ts (Ts.of s)) (fun t h => h) (fun R q2 => ?_) (SqT.of (S4 _ _ hfp)) (hfs.mono fun _ _ z => z.ts (Ts.of S4)) (by have := hfs.len; omega) (fun _ => rfl) (fun n v f H5 hri hv s R qr => ?_) (fun D ys H5 s5 hD e h => ?_)
    · walk_at "lk"
      exact sft (SqT.of (S4 _ _ hcp)) (Lk.atI_nat huv) q2
    · obtain ⟨bf, rfl, hbf⟩ := hv
      have hm := List.mem_of_getElem? hri
      walk_at "lk"
      exact ⟨k, bf, gv, f, cgiv c st y, rfl, hk, SqT.of hbf, same_sqT s hgv, hfl f hm, by omega, low_in hk (low_ch hlow _ (List.mem_of_getElem? hci) f hm), fun H2 s2 => qr _ _ s2 rfl⟩
    rw [f2_ints_of h] at e
    walk_at "lk"
    refine s_tupL e fun p2 H6 s6 _ hp2 => ?_
    walk_at "lk"
    have S6 := S4.trans (s5.trans s6)
    refine sft (SqT.of (S6 _ _ hnp)) (Lk.atI_nat (by rw [List.getElem?_map, hz]; rfl)) ?_
    walk_at "lk"
    refine tlc_F2T CfH (fun H v (x : Int) => v = .int x) (fun f => valM k f st) (fun s h => h.ts (Ts.of s)) (fun t h => h) rfl (SqT.of (S6 _ _ hsp)) (hss.mono fun _ _ z => z.ts (Ts.of S6)) (by have := hss.len; omega) (fun _ => rfl) (fun n v f H7 hri hv s R qr => ?_) (fun D2 ys2 H7 s7 hD2 e7 h7 => ?_)
    · obtain ⟨bf, rfl, hbf⟩ := hv
      have hm := List.mem_of_getElem? hri
      walk_at "lk"
      exact ⟨k, bf, b, f, st, rfl, hk, SqT.of hbf, same_sqT s (same_sqT S6 hb), hsl f hm, by omega, low_in hk (low_sy hlow f hm), fun H2 s2 => qr _ _ s2 rfl⟩
    rw [f2_ints_of h7] at e7
    walk_at "lk"
    refine snw (Nat.le_of_ble_eq_true rfl) fun u hu => ?_
    exact q u p2 D2 _ (S6.trans (s7.trans (same_new hu))) upd_same (same_new hu _ _ (s7 _ _ hp2)) (same_new hu _ _ e7)
end
end K42

namespace K42
open PySem PySem.Spec PyProof.Rows L2 RZ Lk
local macro_rules | `(tactic| walk_at "lk") => `(tactic| (repeat (first
  | with_reducible refine ssq ?_ | with_reducible refine sas ?_ | with_reducible refine sgn ?_ | ((with_reducible show tVar _ _ _ _); refine sv rfl ?_) | with_reducible refine sc ?_ | with_reducible refine sop ?_ | with_reducible refine sun ?_
  | with_reducible refine sI0 ?_ | with_reducible refine sU ?_ | with_reducible refine stt ?_ | with_reducible refine stB ?_ | with_reducible refine sbl ?_ | with_reducible refine snt ?_ | with_reducible refine sif ?_ | with_reducible refine scB ?_
  | with_reducible refine scn ?_ | with_reducible refine snl ?_ | with_reducible refine scl ?_ | with_reducible refine stu ?_ | with_reducible refine sli ?_ | with_reducible refine sdr ?_ | with_reducible refine srt ?_ | with_reducible refine snx ?_ | with_reducible refine sfor ?_ | with_reducible refine sils ?_ | with_reducible refine sien ?_ | with_reducible refine sor ?_ | with_reducible refine sfg ?_
  | with_reducible refine sav ?_ | with_reducible refine sov ?_ | with_reducible refine snv ?_ | with_reducible refine sch ?_ | with_reducible refine san ?_ | with_reducible refine ssll ?_ | with_reducible refine spt ?_ | with_reducible refine snp ?_ | with_reducible refine sin ?_ | with_reducible refine sfl ?_ | with_reducible refine sfd ?_ | with_reducible refine sbm ?_ | with_reducible refine sifx ?_ | with_reducible refine smk ?_ | with_reducible refine ssli ?_ | with_reducible refine sbz ?_
  | ((with_reducible show Or _ _); first | refine Or.inl ⟨_, rfl, ?_⟩ | refine Or.inr ⟨_, rfl, ?_⟩))))

/-- what the law puts into the place of a number -/
inductive OddV (H : Hp) : V → PyData → Prop
  | non : OddV H .non .none
  | bl (b : Bool) : OddV H (.bl b) (.bool b)
  | int (i : Int) : OddV H (.int i) (.int i)
  | str (x : Str) : OddV H (.str x) (.str x)
  | lst {a : Addr} (h : H a = some (.lst [.int 0])) : OddV H (.ref a) (.list [.int 0])
  | tup {a : Addr} (h : H a = some (.tup [.int 0])) : OddV H (.ref a) (.tuple [.int 0])
  | dct {a : Addr} (h : H a = some (.dK [])) : OddV H (.ref a) (.dict [])
theorem OddV.keep {H H' : Hp} {v : V} {d : PyData} (e : ∀ b o, H b = some o → (∀ ps, o ≠ .tbl ps) → H' b = some o) (h : OddV H v d) : OddV H' v d := by
  cases h with
  | non => exact .non
  | bl b => exact .bl b
  | int i => exact .int i
  | str x => exact .str x
  | lst h => exact .lst (e _ _ h (fun _ z => by cases z))
  | tup h => exact .tup (e _ _ h (fun _ z => by cases z))
  | dct h => exact .dct (e _ _ h (fun _ z => by cases z))
theorem OddV.same {H H' : Hp} {v : V} {d : PyData} (s : Same H H') (h : OddV H v d) : OddV H' v d := h.keep fun b o e _ => s b o e
theorem OddV.dg {K : PySem.W.Frag} {H : Hp} {v : V} {d : PyData} (h : OddV H v d) : Dg K H v d := by
  cases h with
  | non => exact .dp .non
  | bl b => exact .dp (.bl b)
  | int i => exact .dp (.int i)
  | str x => exact .dp (.str x)
  | lst h => exact .dp (.lst (SqL.of h) (.cons (.int 0) .nil))
  | tup h => exact .dp (.tup (SqT.of h) (.cons (.int 0) .nil))
  | dct h => exact .dct h
theorem fitD_no {r : LRow} {d : PyData} (h : ∀ x, d ≠ .int x) : fitD r d = false := by
  cases e : fitD r d with
  | false => rfl
  | true =>
    obtain ⟨x, e2, _⟩ := fitD_int e
    exact absurd e2 (h x)
theorem fitD_out {r : LRow} {x : Int} (h : ¬ fitM r x) : fitD r (.int x) = false := by
  cases e : fitD r (.int x) with
  | false => rfl
  | true =>
    obtain ⟨y, e2, hy⟩ := fitD_int e
    cases e2
    exact absurd hy h
theorem odd7 {H : Hp} {r : LRow} {a1 : Addr} {v : V} (h1 : H a1 = some (.lst [.int 0])) (hv : v ∈ [V.non, .bl true, .str "0", .ref a1]) : ∃ d, OddV H v d ∧ fitD r d = false := by
  simp only [List.mem_cons, List.not_mem_nil, or_false] at hv
  rcases hv with rfl | rfl | rfl | rfl
  · exact ⟨_, .non, fitD_no fun x z => by cases z⟩
  · exact ⟨_, .bl _, fitD_no fun x z => by cases z⟩
  · exact ⟨_, .str _, fitD_no fun x z => by cases z⟩
  · exact ⟨_, .lst h1, fitD_no fun x z => by cases z⟩
def spOdd : Sp := fun vs H Q _ => ∃ (p : Addr) (v : V) (ns : List Str) (m : Int) (r : LRow), vs = [.ref p, v] ∧ Wl H p ∧ RowH H v r ∧ RowOk ns m r ∧ r ≠ .stop ∧ ∀ (u : V) (d : PyData) (H' : Hp), Wk p H H' → OddV H' u d → fitD r d = false → Q u H'

section
variable {P : Program} {w : World} {K : PySem.W.Frag} {mg : Str → Option Value} {base : Heap} {A : Ad}
abbrev s__law_odd : Stmt := top 81
theorem sc__law_odd : FnScope ["_law_well", "_law_row_here", "_law_odd_here"] ["_law_well", "_law_row_here"] (defScope s__law_odd) := ⟨rfl, rfl, rfl, by decide +kernel, rfl, by decide +kernel, by decide +kernel⟩
theorem ok_law_odd {f : Addr} {fd : FuncData} (F : Fun K "_law_odd" "_law_odd" s__law_odd f fd) (T : Txt P w K mg base A) (c__law_draw : Cal P w K mg base 1 "_law_draw" ["_law_well", "_law_many"] spDraw) (c__law_one : Cal P w K mg base 2 "_law_one" ["_law_well", "_law_some"] spOne) : FnOk P w K mg base CX0 3 f fd ["_law_well", "_law_row_here"] spOdd := by
  refine F.ok sc__law_odd (fun vs H Q E h => ?_) (fun cdv Ar outer s H vs Q E hr h => ?_)
  · obtain ⟨p, v, ns, m, r, rfl, _⟩ := h
    rfl
  · obtain ⟨p, v, ns, m, r, rfl, hw, hv, hok, hs, q⟩ := h
    refine ⟨_, (pss_cons (ps_set (i := 2) sc__law_odd.nd rfl (Or.inl rfl) (pe_lst (pa_cons pe_non (pa_cons pe_bl (pa_cons pe_str (pa_cons (pe_lst (pa_cons pe_int pa_nil)) pa_nil))))))
        (pss_cons (ps_if (pt_cmpR op_eq (pe_ix ix_tup (pv 1) pe_int (fun _ _ => rfl)) pe_str (nomark _)) (pss_one (ps_set (i := 2) sc__law_odd.nd rfl (Or.inl rfl) (pe_op op_cat (pv 2) (pe_lst (pa_cons (pe_un un_neg pe_int) (pa_cons (pe_callB call_len_seq (by rfl) T.z_len PySem.boot_len (pa_cons (pe_ix ix_tup (pv 1) pe_int (fun _ _ => rfl)) pa_nil)) (pa_cons (pe_op op_pow pe_int pe_int) pa_nil))))))) (pss_one (ps_if (pt_cmpR op_ne (pe_ix ix_tup (pv 1) pe_int (fun _ _ => rfl)) pe_str (nomark _)) (pss_one (ps_set (i := 2) sc__law_odd.nd rfl (Or.inl rfl) (pe_op op_cat (pv 2) (pe_lst (pa_cons pe_int (pa_cons (pe_un un_neg pe_int) pa_nil)))))) pss_nil)))
        (pss_one (ps_ret (pcal c__law_one hr (by decide) (pa_cons (pv 0) (pa_cons (pv 2) pa_nil))))))), ?_⟩
    walk_at "lk"
    refine snw (Nat.le_of_ble_eq_true rfl) fun a1 h1 => ?_
    have s1 := same_new (o := .lst [.int 0]) h1
    have e1 : (upd H a1 (.lst [.int 0])) a1 = some (.lst [.int 0]) := upd_same
    generalize upd H a1 (.lst [.int 0]) = H1 at s1 e1 ⊢
    walk_at "lk"
    refine snw (Nat.le_of_ble_eq_true rfl) fun l hl => ?_
    have s4 := same_new (o := .lst [.non, .bl true, .str "0", .ref a1]) hl
    have e4 : (upd H1 l (.lst [.non, .bl true, .str "0", .ref a1])) l = some (.lst [.non, .bl true, .str "0", .ref a1]) := upd_same
    generalize upd H1 l (.lst [.non, .bl true, .str "0", .ref a1]) = H4 at s4 e4 ⊢
    have S := s1.trans s4
    have w4 := Wk.of hw S
    replace e1 := s4 _ _ e1
    replace hv := hv.ts (Ts.of S)
    have nl : l ≠ p := ne_new (hw.same s1) hl
    have k1 : a1 ≠ p := ne_new hw h1
    clear s1 s4 h1
    cases r with
    | stop => exact absurd rfl hs
    | ask n j =>
      obtain ⟨a,  rfl, ha⟩ := hv
      walk_at "lk"
      refine sft (SqT.of ha) (by rfl) ?_
      walk_at "lk"
      refine sEq rfl ?_
      walk_at "lk"
      refine iff_ (decide_eq_false (by decide +kernel)) ?_
      walk_at "lk"
      refine sft (SqT.of ha) (by rfl) ?_
      walk_at "lk"
      refine sNe rfl ?_
      walk_at "lk"
      refine iff_ (by decide +kernel) ?_
      walk_at "lk"
      refine ⟨p, l, _, rfl, w4.2, nl, e4, by simp, by simp, fun u H9 hu w9' => ?_⟩
      have w9 := w4.trans w9'
      obtain ⟨d, hd, hf⟩ := odd7 (r := .ask n j) (w9'.at k1 e1) hu
      exact q u d H9 w9 hd hf
    | set n f j =>
      obtain ⟨a, c, rfl, ha, hc⟩ := hv
      walk_at "lk"
      refine sft (SqT.of ha) (by rfl) ?_
      walk_at "lk"
      refine sEq rfl ?_
      walk_at "lk"
      refine iff_ (decide_eq_false (by decide +kernel)) ?_
      walk_at "lk"
      refine sft (SqT.of ha) (by rfl) ?_
      walk_at "lk"
      refine sNe rfl ?_
      walk_at "lk"
      refine itt_ (by decide +kernel) ?_
      walk_at "lk"
      refine snw (Nat.le_of_ble_eq_true rfl) fun m2 hm2 => ?_
      have s5 := same_new (o := .lst [.int 1, .int (-1)]) hm2
      have e5 : (upd H4 m2 (.lst [.int 1, .int (-1)])) m2 = some (.lst [.int 1, .int (-1)]) := upd_same
      generalize upd H4 m2 (.lst [.int 1, .int (-1)]) = H5 at s5 e5 ⊢
      refine ⟨l, m2, _, _, rfl, rfl, s5 _ _ e4, e5, Nat.le_of_lt (small1000 (Nat.le_of_ble_eq_true rfl)), fun l6 hl6 => ?_⟩
      have s6 := same_new (o := .lst ([.non, .bl true, .str "0", .ref a1] ++ [.int 1, .int (-1)])) hl6
      have n6 : l6 ≠ p := ne_new (w4.st s5).2 hl6
      have e6 : (upd H5 l6 (.lst ([.non, .bl true, .str "0", .ref a1] ++ [.int 1, .int (-1)]))) l6 = some (.lst ([.non, .bl true, .str "0", .ref a1] ++ [.int 1, .int (-1)])) := upd_same
      have w6 := w4.st (s5.trans s6)
      generalize upd H5 l6 (.lst ([.non, .bl true, .str "0", .ref a1] ++ [.int 1, .int (-1)])) = H6 at s6 e6 w6 ⊢
      have S6 := s5.trans s6
      replace e1 := S6 _ _ e1
      walk_at "lk"
      refine ⟨p, l6, _, rfl, w6.2, n6, e6, by simp, by simp, fun u H9 hu w9' => ?_⟩
      have w9 := w6.trans w9'
      rcases List.mem_append.mp hu with hu | hu
      · obtain ⟨d, hd, hf⟩ := odd7 (r := .set n f j) (w9'.at k1 e1) hu
        exact q u d H9 w9 hd hf
      · simp only [List.mem_cons, List.not_mem_nil, or_false] at hu
        rcases hu with rfl | rfl
        · exact q _ _ H9 w9 (.int _) (fitD_out (show ¬ (1 : Int) = 0 by decide))
        · exact q _ _ H9 w9 (.int _) (fitD_out (show ¬ (-1 : Int) = 0 by decide))
    | say f j =>
      obtain ⟨a, c, rfl, ha, hc⟩ := hv
      walk_at "lk"
      refine sft (SqT.of ha) (by rfl) ?_
      walk_at "lk"
      refine sEq rfl ?_
      walk_at "lk"
      refine iff_ (decide_eq_false (by decide +kernel)) ?_
      walk_at "lk"
      refine sft (SqT.of ha) (by rfl) ?_
      walk_at "lk"
      refine sNe rfl ?_
      walk_at "lk"
      refine itt_ (by decide +kernel) ?_
      walk_at "lk"
      refine snw (Nat.le_of_ble_eq_true rfl) fun m2 hm2 => ?_
      have s5 := same_new (o := .lst [.int 1, .int (-1)]) hm2
      have e5 : (upd H4 m2 (.lst [.int 1, .int (-1)])) m2 = some (.lst [.int 1, .int (-1)]) := upd_same
      generalize upd H4 m2 (.lst [.int 1, .int (-1)]) = H5 at s5 e5 ⊢
      refine ⟨l, m2, _, _, rfl, rfl, s5 _ _ e4, e5, Nat.le_of_lt (small1000 (Nat.le_of_ble_eq_true rfl)), fun l6 hl6 => ?_⟩
      have s6 := same_new (o := .lst ([.non, .bl true, .str "0", .ref a1] ++ [.int 1, .int (-1)])) hl6
      have n6 : l6 ≠ p := ne_new (w4.st s5).2 hl6
      have e6 : (upd H5 l6 (.lst ([.non, .bl true, .str "0", .ref a1] ++ [.int 1, .int (-1)]))) l6 = some (.lst ([.non, .bl true, .str "0", .ref a1] ++ [.int 1, .int (-1)])) := upd_same
      have w6 := w4.st (s5.trans s6)
      generalize upd H5 l6 (.lst ([.non, .bl true, .str "0", .ref a1] ++ [.int 1, .int (-1)])) = H6 at s6 e6 w6 ⊢
      have S6 := s5.trans s6
      replace e1 := S6 _ _ e1
      walk_at "lk"
      refine ⟨p, l6, _, rfl, w6.2, n6, e6, by simp, by simp, fun u H9 hu w9' => ?_⟩
      have w9 := w6.trans w9'
      rcases List.mem_append.mp hu with hu | hu
      · obtain ⟨d, hd, hf⟩ := odd7 (r := .say f j) (w9'.at k1 e1) hu
        exact q u d H9 w9 hd hf
      · simp only [List.mem_cons, List.not_mem_nil, or_false] at hu
        rcases hu with rfl | rfl
        · exact q _ _ H9 w9 (.int _) (fitD_out (show ¬ (1 : Int) = 0 by decide))
        · exact q _ _ H9 w9 (.int _) (fitD_out (show ¬ (-1 : Int) = 0 by decide))
    | look j =>
      obtain ⟨a,  rfl, ha⟩ := hv
      walk_at "lk"
      refine sft (SqT.of ha) (by rfl) ?_
      walk_at "lk"
      refine sEq rfl ?_
      walk_at "lk"
      refine iff_ (decide_eq_false (by decide +kernel)) ?_
      walk_at "lk"
      refine sft (SqT.of ha) (by rfl) ?_
      walk_at "lk"
      refine sNe rfl ?_
      walk_at "lk"
      refine itt_ (by decide +kernel) ?_
      walk_at "lk"
      refine snw (Nat.le_of_ble_eq_true rfl) fun m2 hm2 => ?_
      have s5 := same_new (o := .lst [.int 1, .int (-1)]) hm2
      have e5 : (upd H4 m2 (.lst [.int 1, .int (-1)])) m2 = some (.lst [.int 1, .int (-1)]) := upd_same
      generalize upd H4 m2 (.lst [.int 1, .int (-1)]) = H5 at s5 e5 ⊢
      refine ⟨l, m2, _, _, rfl, rfl, s5 _ _ e4, e5, Nat.le_of_lt (small1000 (Nat.le_of_ble_eq_true rfl)), fun l6 hl6 => ?_⟩
      have s6 := same_new (o := .lst ([.non, .bl true, .str "0", .ref a1] ++ [.int 1, .int (-1)])) hl6
      have n6 : l6 ≠ p := ne_new (w4.st s5).2 hl6
      have e6 : (upd H5 l6 (.lst ([.non, .bl true, .str "0", .ref a1] ++ [.int 1, .int (-1)]))) l6 = some (.lst ([.non, .bl true, .str "0", .ref a1] ++ [.int 1, .int (-1)])) := upd_same
      have w6 := w4.st (s5.trans s6)
      generalize upd H5 l6 (.lst ([.non, .bl true, .str "0", .ref a1] ++ [.int 1, .int (-1)])) = H6 at s6 e6 w6 ⊢
      have S6 := s5.trans s6
      replace e1 := S6 _ _ e1
      walk_at "lk"
      refine ⟨p, l6, _, rfl, w6.2, n6, e6, by simp, by simp, fun u H9 hu w9' => ?_⟩
      have w9 := w6.trans w9'
      rcases List.mem_append.mp hu with hu | hu
      · obtain ⟨d, hd, hf⟩ := odd7 (r := .look j) (w9'.at k1 e1) hu
        exact q u d H9 w9 hd hf
      · simp only [List.mem_cons, List.not_mem_nil, or_false] at hu
        rcases hu with rfl | rfl
        · exact q _ _ H9 w9 (.int _) (fitD_out (show ¬ (1 : Int) = 0 by decide))
        · exact q _ _ H9 w9 (.int _) (fitD_out (show ¬ (-1 : Int) = 0 by decide))
    | choose ks =>
      obtain ⟨a, c, rfl, ha, hc⟩ := hv
      walk_at "lk"
      refine sft (SqT.of ha) (by rfl) ?_
      walk_at "lk"
      refine sEq rfl ?_
      walk_at "lk"
      refine itt_ (decide_eq_true rfl) ?_
      have h16 : 1 ≤ ks.length ∧ ks.length ≤ 6 := ⟨hok.1, hok.2.1⟩
      walk_at "lk"
      refine sft (SqT.of ha) (by rfl) ?_
      refine ⟨c, _, rfl, .inr (SqT.of hc), ?_⟩
      rw [List.length_map]
      walk_at "lk"
      refine sI ⟨by decide, by decide, by decide⟩ ?_
      walk_at "lk"
      refine snw (Nat.le_of_ble_eq_true rfl) fun m2 hm2 => ?_
      have s5 := same_new (o := .lst [.int (-1), .int (ks.length : Nat), .int (10 ^ Int.toNat 30)]) hm2
      have e5 : (upd H4 m2 (.lst [.int (-1), .int (ks.length : Nat), .int (10 ^ Int.toNat 30)])) m2 = some (.lst [.int (-1), .int (ks.length : Nat), .int (10 ^ Int.toNat 30)]) := upd_same
      generalize upd H4 m2 (.lst [.int (-1), .int (ks.length : Nat), .int (10 ^ Int.toNat 30)]) = H5 at s5 e5 ⊢
      refine ⟨l, m2, _, _, rfl, rfl, s5 _ _ e4, e5, Nat.le_of_lt (small1000 (Nat.le_of_ble_eq_true rfl)), fun l6 hl6 => ?_⟩
      have s6 := same_new (o := .lst ([.non, .bl true, .str "0", .ref a1] ++ [.int (-1), .int (ks.length : Nat), .int (10 ^ Int.toNat 30)])) hl6
      have n6 : l6 ≠ p := ne_new (w4.st s5).2 hl6
      have e6 : (upd H5 l6 (.lst ([.non, .bl true, .str "0", .ref a1] ++ [.int (-1), .int (ks.length : Nat), .int (10 ^ Int.toNat 30)]))) l6 = some (.lst ([.non, .bl true, .str "0", .ref a1] ++ [.int (-1), .int (ks.length : Nat), .int (10 ^ Int.toNat 30)])) := upd_same
      have w6 := w4.st (s5.trans s6)
      generalize upd H5 l6 (.lst ([.non, .bl true, .str "0", .ref a1] ++ [.int (-1), .int (ks.length : Nat), .int (10 ^ Int.toNat 30)])) = H6 at s6 e6 w6 ⊢
      have S6 := s5.trans s6
      replace e1 := S6 _ _ e1
      walk_at "lk"
      refine ⟨p, l6, _, rfl, w6.2, n6, e6, by simp, by simp, fun u H9 hu w9' => ?_⟩
      have w9 := w6.trans w9'
      rcases List.mem_append.mp hu with hu | hu
      · obtain ⟨d, hd, hf⟩ := odd7 (r := .choose ks) (w9'.at k1 e1) hu
        exact q u d H9 w9 hd hf
      · simp only [List.mem_cons, List.not_mem_nil, or_false] at hu
        rcases hu with rfl | rfl | rfl
        · exact q _ _ H9 w9 (.int _) (fitD_out (fun z => by have := z.1; omega))
        · exact q _ _ H9 w9 (.int _) (fitD_out (fun z => by have := z.2; omega))
        · exact q _ _ H9 w9 (.int _) (fitD_out (fun z => by have h1 := z.2; have h2 : (6 : Int) < 10 ^ Int.toNat 30 := (by decide); omega))
end
def spRaisedC (K : PySem.W.Frag) (A : Ad) : Sp := fun vs H Q _ => ∃ (x : Addr) (v : V) (k : Nat) (ns : List Str) (rs : List LRow) (cts : List Int) (crs : List CRow) (sts : List Int) (o : Option (List PyData)) (z : Int), vs = [.ref x, v] ∧ CodeO K A.Code H x k cts crs sts ∧ CW k ns rs cts crs sts ∧ 1 ≤ rs.length ∧ k ≤ 64 ∧ Nv K H v o ∧ wrongO rs 0 o = some z ∧ ∀ H', Same H H' → Q (.int z) H'
section
variable {P : Program} {w : World} {K : PySem.W.Frag} {mg : Str → Option Value} {base : Heap} {A : Ad}
abbrev s__law_raised : Stmt := top 80
theorem sc__law_raised : FnScope ["_law_code_so", "_law_numbers_so", "_law_found", "e"] ["_law_code_so", "_law_numbers_so"] (defScope s__law_raised) := ⟨rfl, rfl, rfl, by decide +kernel, rfl, by decide +kernel, by decide +kernel⟩
theorem ok_law_raised {f : Addr} {fd : FuncData} (F : Fun K "_law_raised" "_law_raised" s__law_raised f fd) (T : Txt P w K mg base A) (c_run_code : Cax P w K mg base 6 "run_code" ["code", "numbers"] (spRunC K A)) : FnOk P w K mg base CX0 7 f fd ["_law_code_so", "_law_numbers_so"] (spRaisedC K A) := by
  refine F.ok sc__law_raised (fun vs H Q E h => ?_) (fun cdv Ar outer s H vs Q E hr h => ?_)
  · obtain ⟨x, v, k, ns, rs, cts, crs, sts, o, z, rfl, _⟩ := h
    rfl
  · obtain ⟨x, v, k, ns, rs, cts, crs, sts, o, z, rfl, hx, W, r1, hk, hv, hz, q⟩ := h
    refine ⟨_, (pss_cons (ps_set (i := 2) sc__law_raised.nd rfl (Or.inl rfl) pe_non)
        (pss_cons (ps_try_as (i := 3) (tb := fun W => tDrop (tCallS (spRunC K A) (WE W) (tCons (tVar 0) (tCons (tVar 1) tNil))))
            (ts := fun a cls d => tAsg (tXf a cls d A.NoRun "index" (tVar 3)) (gName 2)) (Wout := fun _ _ _ _ => False) rfl rfl sc__law_raised.nd rfl rfl ⟨rfl, by decide, Or.inl T.e_NoRun.k.g⟩ takes0
            (fun W pn xe tk _ => pss_one (ps_expr (by exact (pcax c_run_code hr (by decide) tk (pa_cons (pv 0) (pa_cons (pv 1) pa_nil))))))
            (fun a oe cls d pn hz hf => pss_one (ps_set (i := 2) sc__law_raised.nd rfl (Or.inl rfl) (by exact (pe_xf T.e_NoRun.xf T.e_NoRun.nf hz hf (pv 3))))))
        (pss_one (ps_ret (pv 2))))), ?_⟩
    walk_at "lk"
    refine scx ?_
    walk_at "lk"
    refine ⟨x, v, k, ns, rs, cts, crs, sts, rfl, hx, W, r1, hk, .inr ⟨o, z, hv, hz, fun d H' s' h => ?_⟩⟩
    refine ⟨true, exm_er T.e_NoRun.k, fun _ a ha => ?_, fun z => by cases z⟩
    walk_at "lk"
    refine s_xf rfl h (by rfl) ?_
    walk_at "lk"
    exact q _ s'
end
end K42

namespace K42
open PySem PySem.Spec PyProof.Rows L2 RZ Lk
local macro_rules | `(tactic| walk_at "lk") => `(tactic| (repeat (first
  | with_reducible refine ssq ?_ | with_reducible refine sas ?_ | with_reducible refine sgn ?_ | ((with_reducible show tVar _ _ _ _); refine sv rfl ?_) | with_reducible refine sc ?_ | with_reducible refine sop ?_ | with_reducible refine sun ?_
  | with_reducible refine sI0 ?_ | with_reducible refine sU ?_ | with_reducible refine stt ?_ | with_reducible refine stB ?_ | with_reducible refine sbl ?_ | with_reducible refine snt ?_ | with_reducible refine sif ?_ | with_reducible refine scB ?_
  | with_reducible refine scn ?_ | with_reducible refine snl ?_ | with_reducible refine scl ?_ | with_reducible refine stu ?_ | with_reducible refine sli ?_ | with_reducible refine sdr ?_ | with_reducible refine srt ?_ | with_reducible refine snx ?_ | with_reducible refine sfor ?_ | with_reducible refine sils ?_ | with_reducible refine sien ?_ | with_reducible refine sor ?_ | with_reducible refine sfg ?_
  | with_reducible refine sav ?_ | with_reducible refine sov ?_ | with_reducible refine snv ?_ | with_reducible refine sch ?_ | with_reducible refine san ?_ | with_reducible refine ssll ?_ | with_reducible refine spt ?_ | with_reducible refine snp ?_ | with_reducible refine sin ?_ | with_reducible refine sfl ?_ | with_reducible refine sfd ?_ | with_reducible refine sbm ?_ | with_reducible refine sifx ?_ | with_reducible refine smk ?_ | with_reducible refine ssli ?_ | with_reducible refine sbz ?_
  | ((with_reducible show Or _ _); first | refine Or.inl ⟨_, rfl, ?_⟩ | refine Or.inr ⟨_, rfl, ?_⟩))))

def unitsL (n : Nat) : List (List Int) := (List.range n).map fun i => unitL (i + 1) (n + 1)
def spUnits : Sp := fun vs H Q _ => ∃ n : Nat, vs = [.int (n : Int)] ∧ n ≤ 90 ∧ ∀ D us H', Same H H' → H D = none → H' D = some (.lst us) → F2 (CfH H') us (unitsL n) → Q (.ref D) H'
section
variable {P : Program} {w : World} {K : PySem.W.Frag} {mg : Str → Option Value} {base : Heap} {A : Ad}
abbrev s__law_units : Stmt := top 73
theorem sc__law_units : FnScope ["_law_many", "_law_k", "_law_at"] ["_law_many"] (defScope s__law_units) := ⟨rfl, rfl, rfl, by decide +kernel, rfl, by decide +kernel, by decide +kernel⟩
theorem ok_law_units {f : Addr} {fd : FuncData} (F : Fun K "_law_units" "_law_units" s__law_units f fd) (T : Txt P w K mg base A) : FnOk P w K mg base CX0 1 f fd ["_law_many"] spUnits := by
  refine F.ok sc__law_units (fun vs H Q E h => ?_) (fun cdv Ar outer s H vs Q E hr h => ?_)
  · obtain ⟨n, rfl, _⟩ := h
    rfl
  · obtain ⟨n, rfl, hn, q⟩ := h
    refine ⟨_, (pss_one (ps_ret (pe_lc (own := [("_law_k", 1)]) (g := gName 1) (tt := tYes) rfl sc__law_units.nd (pi_range1 (by rfl) T.z_range (pa_cons (pv 0) pa_nil)) (blkOk_by (own := [("_law_k", 1)]) (N := ["_law_many", "_law_k", "_law_at"]) (sc := defScope s__law_units) (by decide +kernel)) (fun _ _ _ _ _ => pg_name (i := 1) sc__law_units.nd rfl (Or.inr rfl)) (fun _ _ _ _ _ => pts_nil) (fun _ _ _ _ _ => (pe_callTy (show CallR _ (.type "tuple") (rTupOf K) from call_tupOf) (by rfl) T.z_tuple (by decide +kernel) (pa_cons (pe_lc (own := [("_law_at", 2)]) (g := gName 2) (tt := tYes) rfl sc__law_units.nd (pi_range1 (by rfl) T.z_range (pa_cons (pe_op op_add (pv 0) pe_int) pa_nil)) (blkOk_by (by kernel_rfl)) (fun _ _ _ _ _ => pg_name (i := 2) sc__law_units.nd rfl (Or.inl rfl)) (fun _ _ _ _ _ => pts_nil) (fun _ _ _ _ _ => (pe_callTy call_int1 (by rfl) T.z_int (by decide +kernel) (pa_cons (pe_cmpR op_eq (pv 2) (pe_op op_add (pv 1) pe_int) (nomark _)) pa_nil)))) pa_nil)))))), ?_⟩
    walk_at "lk"
    unfold tLc iRng1
    walk_at "lk"
    refine ⟨(n : Int), rfl, by omega, by omega, fun D hD => ?_⟩
    rw [Int.toNat_natCast]
    refine tlc_rangeC CfH (fun i => unitL (i + 1) (n + 1)) (fun s h => h.ts s) hD (by omega) (fun _ => rfl) (fun i H' hi s R r => ?_) (fun ys H' s e h => ?_)
    · walk_at "lk"
      refine ⟨((n + 1 : Nat) : Int), rfl, by omega, by omega, fun D2 hD2 => ?_⟩
      rw [Int.toNat_natCast]
      refine tlc_rangeC (fun _ v (x : Int) => v = .int x) (fun j => if j = i + 1 then 1 else 0) (fun _ h => h) hD2 (by omega) (fun _ => rfl) (fun j H2 hj s2 R2 r2 => ?_) (fun ys H2 s2 e h => ?_)
      · walk_at "lk"
        refine sEq rfl ?_
        walk_at "lk"
        refine r2 _ _ (Same.refl _) ?_
        rw [decI]
        by_cases c : j = i + 1
        · rw [if_pos (decide_eq_true (by omega)), if_pos c]
        · rw [if_neg (by rw [decide_eq_false (by omega)]; decide), if_neg c]
      · walk_at "lk"
        refine s_tupL e fun b H3 s3 _ hb => ?_
        refine r _ _ (s2.trans s3) ⟨b, rfl, ?_⟩
        rw [hb, f2_ints_of h]
        rfl
    · exact q D ys H' s hD e h
end
end K42

namespace K42
open PySem PySem.Spec PyProof.Rows L2 RZ Lk
local macro_rules | `(tactic| walk_at "lk") => `(tactic| (repeat (first
  | with_reducible refine ssq ?_ | with_reducible refine sas ?_ | with_reducible refine sgn ?_ | ((with_reducible show tVar _ _ _ _); refine sv rfl ?_) | with_reducible refine sc ?_ | with_reducible refine sop ?_ | with_reducible refine sun ?_
  | with_reducible refine sI0 ?_ | with_reducible refine sU ?_ | with_reducible refine stt ?_ | with_reducible refine stB ?_ | with_reducible refine sbl ?_ | with_reducible refine snt ?_ | with_reducible refine sif ?_ | with_reducible refine scB ?_
  | with_reducible refine scn ?_ | with_reducible refine snl ?_ | with_reducible refine scl ?_ | with_reducible refine stu ?_ | with_reducible refine sli ?_ | with_reducible refine sdr ?_ | with_reducible refine srt ?_ | with_reducible refine snx ?_ | with_reducible refine sfor ?_ | with_reducible refine sils ?_ | with_reducible refine sien ?_ | with_reducible refine sor ?_ | with_reducible refine sfg ?_
  | with_reducible refine sav ?_ | with_reducible refine sov ?_ | with_reducible refine snv ?_ | with_reducible refine sch ?_ | with_reducible refine san ?_ | with_reducible refine ssll ?_ | with_reducible refine spt ?_ | with_reducible refine snp ?_ | with_reducible refine sin ?_ | with_reducible refine sfl ?_ | with_reducible refine sfd ?_ | with_reducible refine sbm ?_ | with_reducible refine sifx ?_ | with_reducible refine smk ?_ | with_reducible refine ssli ?_ | with_reducible refine sbz ?_
  | ((with_reducible show Or _ _); first | refine Or.inl ⟨_, rfl, ?_⟩ | refine Or.inr ⟨_, rfl, ?_⟩))))


theorem s_litL {u : TS} {D : Ends} {σ : L2.St} {H : Hp} (τ : L2.St) (e : σ = τ) (q : u D τ H) : u D σ H := by
  rw [e]
  exact q
def syP (n : Nat) : LRow → List (List Int)
  | .say f _ => [f]
  | .look _ => unitsL n
  | _ => []
def fm5 (ns : List Str) : LRow → List (List Int)
  | .set nm f _ => (unitsL ns.length).set (ns.idxOf nm) f
  | _ => unitsL ns.length
def fmP (ns : List Str) : LRow → List (List Int)
  | .ask nm _ => ((unitsL ns.length).map (· ++ [0])).set (ns.idxOf nm) (List.replicate (ns.length + 1) 0 ++ [1])
  | r => fm5 ns r
def plainR (ns : List Str) (r : LRow) : CRow := ⟨ckOf r, cnOf r, syP ns.length r, List.replicate (cnOf r).length (fmP ns r)⟩
def spPlain : Sp := fun vs H Q _ => ∃ (k : Nat) (l rl : Addr) (ns : List Str) (us : List V) (rs : List LRow) (m : Int), vs = [.int (k : Int), .ref l, .ref rl] ∧ H l = some (.lst (ns.map V.str)) ∧ 1 ≤ ns.length ∧ ns.length ≤ 6 ∧ H rl = some (.lst us) ∧ RowsH H us rs ∧ rs.length ≤ 25 ∧ (∀ r ∈ rs, RowOk ns m r) ∧
  ∀ (u cl D st : Addr) (vs : List V) (H' : Hp), Same H H' → H' u = some (.tup [.ref cl, .ref D, .ref st]) → H' cl = some (.lst ((List.replicate rs.length (ns.length : Int)).map V.int)) → H' D = some (.lst vs) → F2 (CRowH H') vs (rs.map (plainR ns)) → H' st = some (.tup ((List.replicate ns.length (0 : Int)).map V.int)) → Q (.ref u) H'
theorem f2_set {α : Type} {R : V → α → Prop} {v : V} {a : α} (h : R v a) : ∀ {us : List V} {as : List α}, F2 R us as → ∀ i, F2 R (us.set i v) (as.set i a)
  | _, _, .nil, i => by simp only [List.set_nil]; exact .nil
  | _, _, .cons x t, 0 => .cons h t
  | _, _, .cons x t, i + 1 => .cons x (f2_set h t i)
theorem f2_rep {α : Type} {R : V → α → Prop} {v : V} {a : α} (h : R v a) : ∀ n, F2 R (List.replicate n v) (List.replicate n a)
  | 0 => .nil
  | n + 1 => .cons h (f2_rep h n)
theorem take_rows {rs : List LRow} {ns : List Str} {i : Nat} {r : LRow} (h : rs[i]? = some r) : (rs.take (i + 1)).map (plainR ns) = (rs.take i).map (plainR ns) ++ [plainR ns r] := by
  rw [take_snoc h, List.map_append]
  rfl
theorem set_nm {ns : List Str} {r : LRow} (h : ∀ nm f j, r ≠ .set nm f j) : fm5 ns r = unitsL ns.length := by
  cases r with
  | set nm f j => exact absurd rfl (h nm f j)
  | _ => rfl
theorem ask_nm {ns : List Str} {r : LRow} (h : ∀ nm j, r ≠ .ask nm j) : fmP ns r = fm5 ns r := by
  cases r with
  | ask nm j => exact absurd rfl (h nm j)
  | _ => rfl
theorem s_repX {K : PySem.W.Frag} {H : Hp} {l : Addr} {x : V} {n : Nat} {Q : VK} (h : H l = some (.tup [x])) (h1 : 1 ≤ n) (h2 : n ≤ 1000) (q : ∀ p H', Same H H' → H' p = some (.tup (List.replicate n x)) → Q (.ref p) H') : rRepN K (.ref l) (.int (n : Int)) H Q :=
  ⟨l, n, [x], rfl, rfl, SqT.of h, by simp, by omega, by omega, by simp, fun e => q l H (Same.refl _) (by
    have : n = 1 := by omega
    subst this
    exact h), fun e p hp => q p _ (same_new hp) (by rw [upd_same, Int.toNat_natCast, flat_rep])⟩
theorem tlc_F2L {K : PySem.W.Frag} {H : Hp} {σ : L2.St} {a : Addr} {xs : List V} {α β : Type} {as : List α} {j k : Nat} {te : TE} {vs : List Nat} {Q : VK} (Rin : Hp → V → α → Prop) (Rout : Hp → V → β → Prop) (f : α → β)
    (iS : ∀ {H H' v x}, Same H H' → Rin H v x → Rin H' v x) (oS : ∀ {H H' v x}, Ts H H' → Rout H v x → Rout H' v x) (hj : σ[j]? = some (some (.ref a))) (hx : SqL K H a xs) (hr : F2 (Rin H) xs as) (h3 : xs.length ≤ 1000)
    (hw : ∀ x, wipe ((wipe σ vs).set k (some x)) vs = wipe σ vs)
    (he : ∀ (i : Nat) (x : V) (r : α) (H' : Hp), as[i]? = some r → Rin H' x r → Same H H' → ∀ R : VK, (∀ u H'', Same H' H'' → Rout H'' u (f r) → R u H'') → te ((wipe σ vs).set k (some x)) H' R)
    (q : ∀ D ys H', Same H H' → H D = none → H' D = some (.lst ys) → F2 (Rout H') ys (as.map f) → Q (.ref D) H') : tLc (iList K (tVar j)) (gName k) tYes te vs σ H Q :=
  ⟨_, hj, a, rfl, ⟨xs, hx⟩, fun D hD => tlc_core (J := Itl K a) (D := D) Rin Rout f iS oS hr h3 hD hw he (fun Pv p0 pS ht hd => lc_list Pv p0 (fun i H' _ h => (pS i H' h).seq hx) ht hd) fun ys H' s e h => q D ys H' s hD e h⟩
theorem rk_set {r : LRow} (h : rkOf r = ("set" : Str)) : ∃ nm f j, r = .set nm f j := by
  cases r with
  | set nm f j => exact ⟨nm, f, j, rfl⟩
  | say f j => exact absurd h (by decide +kernel : ¬ ("say" : Str) = ("set" : Str))
  | ask n j => exact absurd h (by decide +kernel : ¬ ("ask" : Str) = ("set" : Str))
  | choose ks => exact absurd h (by decide +kernel : ¬ ("choose" : Str) = ("set" : Str))
  | look j => exact absurd h (by decide +kernel : ¬ ("look" : Str) = ("set" : Str))
  | stop => exact absurd h (by decide +kernel : ¬ ("stop" : Str) = ("set" : Str))
theorem unitsL_len (n : Nat) : (unitsL n).length = n := by
  unfold unitsL
  rw [List.length_map]
  rw [List.length_range]
section
variable {P : Program} {w : World} {K : PySem.W.Frag} {mg : Str → Option Value} {base : Heap} {A : Ad}
abbrev s__law_plain : Stmt := top 74
theorem sc__law_plain : FnScope ["_law_width", "_law_names", "_law_rows_here", "_law_many", "_law_found", "_law_row_here", "_law_kind", "_law_ahead", "_law_says", "_law_forms", "_law_form_here"] ["_law_width", "_law_names", "_law_rows_here"] (defScope s__law_plain) := ⟨rfl, rfl, rfl, by decide +kernel, rfl, by decide +kernel, by decide +kernel⟩
theorem ok_law_plain {f : Addr} {fd : FuncData} (F : Fun K "_law_plain" "_law_plain" s__law_plain f fd) (T : Txt P w K mg base A) (c__law_units : Cal P w K mg base 1 "_law_units" ["_law_many"] spUnits) : FnOk P w K mg base CX0 2 f fd ["_law_width", "_law_names", "_law_rows_here"] spPlain := by
  refine F.ok sc__law_plain (fun vs H Q E h => ?_) (fun cdv Ar outer s H vs Q E hr h => ?_)
  · obtain ⟨k, l, rl, ns, us, rs, m, rfl, _⟩ := h
    rfl
  · obtain ⟨k, l, rl, ns, us, rs, m, rfl, hl, n1, n6, hrl, hrs, hr25, hrok, q⟩ := h
    refine ⟨_, (pss_cons (ps_par (i := 3) (j := 4) (by rfl) sc__law_plain.nd rfl rfl (by decide) rfl rfl (pa_cons (pe_callB call_len_seq (by rfl) T.z_len PySem.boot_len (pa_cons (pv 1) pa_nil)) (pa_cons (pe_lst pa_nil) pa_nil)) (by rfl))
        (pss_cons (ps_for PassesOwn.never rfl (pi_list (pv 2)) (pg_name (i := 5) sc__law_plain.nd rfl (Or.inl rfl)) (pss_cons (ps_set (i := 6) sc__law_plain.nd rfl (Or.inl rfl) (pe_ifExp (pt_cmpR op_in_seq (pe_ix ix_tup (pv 5) pe_int (fun _ _ => rfl)) (pe_tup (pa_cons pe_str (pa_cons pe_str (pa_cons pe_str pa_nil)))) (by rfl)) (pe_ix ix_tup (pv 5) pe_int (fun _ _ => rfl)) pe_str))
        (pss_cons (ps_set (i := 7) sc__law_plain.nd rfl (Or.inl rfl) (pe_ifExp (pt_cmpR op_eq (pv 6) pe_str (nomark _)) (pe_ix ix_tup (pv 5) pe_int (fun _ _ => rfl)) (pe_ifExp (pt_cmpR op_eq (pv 6) pe_str (nomark _)) (pe_tup pa_nil) (pe_tup (pa_cons (pe_ix ix_tup (pv 5) (pe_un un_neg pe_int) (fun _ _ => rfl)) pa_nil)))))
        (pss_cons (ps_set (i := 8) sc__law_plain.nd rfl (Or.inl rfl) (pe_ifExp (pt_cmpR op_eq (pe_ix ix_tup (pv 5) pe_int (fun _ _ => rfl)) pe_str (nomark _)) (pe_lst (pa_cons (pe_ix ix_tup (pv 5) pe_int (fun _ _ => rfl)) pa_nil)) (pe_ifExp (pt_cmpR op_eq (pe_ix ix_tup (pv 5) pe_int (fun _ _ => rfl)) pe_str (nomark _)) (pcal c__law_units hr (by decide) (pa_cons (pv 3) pa_nil)) (pe_lst pa_nil))))
        (pss_cons (ps_set (i := 9) sc__law_plain.nd rfl (Or.inl rfl) (pcal c__law_units hr (by decide) (pa_cons (pv 3) pa_nil)))
        (pss_cons (ps_if (pt_cmpR op_eq (pe_ix ix_tup (pv 5) pe_int (fun _ _ => rfl)) pe_str (nomark _)) (pss_one (ps_asg (pe_ix ix_tup (pv 5) pe_int (fun _ _ => rfl)) (pg_sub (pv 9) (pe_bm PySem.F.plainAttrs_list PySem.F.slot_list_index PySem.F.type_list_index mt_index (pv 1) (pa_cons (pe_ix ix_tup (pv 5) pe_int (fun _ _ => rfl)) pa_nil)) set_list))) pss_nil)
        (pss_cons (ps_if (pt_cmpR op_eq (pv 6) pe_str (nomark _)) (pss_cons (ps_setLc (i := 9) (own := [("_law_form_here", 10)]) (g := gName 10) (tt := tYes) rfl sc__law_plain.nd rfl rfl (by rfl) (pi_list (pv 9)) (blkOk_by (own := [("_law_form_here", 10)]) (N := ["_law_width", "_law_names", "_law_rows_here", "_law_many", "_law_found", "_law_row_here", "_law_kind", "_law_ahead", "_law_says", "_law_forms", "_law_form_here"]) (sc := defScope s__law_plain) (by decide +kernel)) (fun _ _ _ _ _ => pg_name (i := 10) sc__law_plain.nd rfl (Or.inl rfl)) (fun _ _ _ _ _ => pts_nil) (fun _ _ _ _ _ => (pe_op (show OpR _ (binaryOp .Add) (rCatA K) from op_catA) (pv 10) (pe_tup (pa_cons pe_int pa_nil)))))
        (pss_one (ps_asg (pe_op op_catA (pe_op op_repN (pe_tup (pa_cons pe_int pa_nil)) (pe_op op_add (pv 3) pe_int)) (pe_tup (pa_cons pe_int pa_nil))) (pg_sub (pv 9) (pe_bm PySem.F.plainAttrs_list PySem.F.slot_list_index PySem.F.type_list_index mt_index (pv 1) (pa_cons (pe_ix ix_tup (pv 5) pe_int (fun _ _ => rfl)) pa_nil)) set_list)))) pss_nil)
        (pss_one (ps_expr (pe_bm PySem.F.plainAttrs_list PySem.F.slot_list_append PySem.F.type_list_append mt_append (pv 4) (pa_cons (pe_tup (pa_cons (pv 6) (pa_cons (pv 7) (pa_cons (pe_callTy call_tupOf (by rfl) T.z_tuple (by decide +kernel) (pa_cons (pv 8) pa_nil)) (pa_cons (pe_op op_repZ (pe_tup (pa_cons (pe_callTy call_tupOf (by rfl) T.z_tuple (by decide +kernel) (pa_cons (pv 9) pa_nil)) pa_nil)) (pe_callB call_len_seq (by rfl) T.z_len PySem.boot_len (pa_cons (pv 7) pa_nil))) pa_nil))))) pa_nil)))))))))))
        (pss_one (ps_ret (pe_tup (pa_cons (pe_op op_rep (pe_lst (pa_cons (pv 3) pa_nil)) (pe_callB call_len_seq (by rfl) T.z_len PySem.boot_len (pa_cons (pv 2) pa_nil))) (pa_cons (pv 4) (pa_cons (pe_op op_repZ (pe_tup (pa_cons pe_int pa_nil)) (pv 3)) pa_nil)))))))), ?_⟩
    have hfit : ∀ r ∈ rs, RowOk ns m r := hrok
    refine spr ?_
    walk_at "lk"
    refine ⟨l, _, rfl, .inl (SqL.of hl), ?_⟩
    rw [List.length_map]
    walk_at "lk"
    refine snw (Nat.le_of_ble_eq_true rfl) fun FD hFD => ?_
    walk_at "lk"
    refine ⟨_, _, rfl, ?_⟩
    walk_at "lk"
    have s0 : Same H (upd H FD (.lst [])) := same_new hFD
    refine ⟨rl, rfl, ⟨us, SqL.of (s0 _ _ hrl)⟩, for_list (xs := us) (fun i σ' H' => (∃ e5 e6 e7 e8 e9 e10, σ' = [some (.int (k : Int)), some (.ref l), some (.ref rl), some (.int (ns.length : Int)), some (.ref FD), e5, e6, e7, e8, e9, e10]) ∧ Same H H' ∧
      ∃ vs, H' FD = some (.lst vs) ∧ F2 (CRowH H') vs ((rs.take i).map (plainR ns))) ⟨⟨_, _, _, _, _, _, rfl⟩, s0, [], upd_same, .nil⟩ (fun i σ' H' _ h => SqL.of (h.2.1 _ _ hrl)) ?_ ?_⟩
    rotate_left 1
    · rintro σ' H1 ⟨⟨e5, e6, e7, e8, e9, e10, rfl⟩, s1, vs, h1, h2⟩
      have hus : us.length = rs.length := hrs.len
      rw [hus, List.take_length] at h2
      walk_at "lk"
      refine snw (Nat.le_of_ble_eq_true rfl) fun z1 hz1 => ?_
      have s2 : Same H1 (upd H1 z1 (.lst [.int (ns.length : Int)])) := same_new hz1
      have e2 : (upd H1 z1 (.lst [.int (ns.length : Int)])) z1 = some (.lst [.int (ns.length : Int)]) := upd_same
      generalize upd H1 z1 (.lst [.int (ns.length : Int)]) = H2 at s2 e2 ⊢
      walk_at "lk"
      refine ⟨rl, us, rfl, .inl (SqL.of ((s1.trans s2) _ _ hrl)), ?_⟩
      rw [hus]
      refine ⟨z1, _, [.int (ns.length : Int)], rfl, rfl, e2, by omega, by omega, Nat.le_of_lt (small1000 (by show 1 * _ ≤ 1000; omega)), fun cl hcl => ?_⟩
      rw [Int.toNat_natCast, List.flatten_replicate_singleton]
      have s3 : Same H2 (upd H2 cl (.lst (List.replicate rs.length (.int (ns.length : Int))))) := same_new hcl
      have e3 : (upd H2 cl (.lst (List.replicate rs.length (V.int (ns.length : Int))))) cl = some (.lst (List.replicate rs.length (.int (ns.length : Int)))) := upd_same
      generalize upd H2 cl (.lst (List.replicate rs.length (V.int (ns.length : Int)))) = H3 at s3 e3 ⊢
      walk_at "lk"
      refine snw (Nat.le_of_ble_eq_true rfl) fun z2 hz2 => ?_
      have s4 : Same H3 (upd H3 z2 (.tup [.int 0])) := same_new hz2
      have e4 : (upd H3 z2 (.tup [.int 0])) z2 = some (.tup [.int 0]) := upd_same
      generalize upd H3 z2 (.tup [.int 0]) = H4 at s4 e4 ⊢
      walk_at "lk"
      refine s_repZ (n := ns.length) e4 (by omega) fun st H5 s5 e5 => ?_
      walk_at "lk"
      refine snw (Nat.le_of_ble_eq_true rfl) fun u hu => ?_
      have S35 := (s4.trans s5).trans (same_new (o := .tup [.ref cl, .ref FD, .ref st]) hu)
      have S15 := (s2.trans s3).trans S35
      exact q u cl FD st vs _ (s1.trans S15) upd_same (by rw [List.map_replicate]; exact S35 _ _ e3) (S15 _ _ h1) (h2.mono fun _ _ z => z.ts (Ts.of S15)) (by rw [List.map_replicate]; exact same_new hu _ _ e5)
    rintro i v σ' H3 hi ⟨⟨e5, e6, e7, e8, e9, e10, rfl⟩, s03, vs, h1, h2⟩
    obtain ⟨r, hri, hrv⟩ := hrs.at hi
    have hrok := hrok r (List.mem_of_getElem? hri)
    have hrv3 := hrv.ts (Ts.of s03)
    have hl3 := s03 _ _ hl
    refine sgn ?_
    dsimp only
    refine s_litL [some (.int (k : Int)), some (.ref l), some (.ref rl), some (.int (ns.length : Int)), some (.ref FD), some v, e6, e7, e8, e9, e10] rfl ?_
    refine seq_mid (fun σ' H' => σ' = [some (.int (k : Int)), some (.ref l), some (.ref rl), some (.int (ns.length : Int)), some (.ref FD), some v, some (.str (ckOf r)), e7, e8, e9, e10] ∧ Same H3 H') ?_ ?_
    rotate_left
    · intro N hN
      obtain ⟨ra, xs, rfl, hra, h0⟩ := row_tup hrv3
      walk_at "lk"
      refine sft (SqT.of hra) h0 ?_
      walk_at "lk"
      refine snw (Nat.le_of_ble_eq_true rfl) fun tp htp => ?_
      have s4 : Same H3 (upd H3 tp (.tup [.str "ask", .str "choose", .str "stop"])) := same_new htp
      refine ⟨tp, _, rfl, .inr (SqT.of upd_same), rfl, Lk.flat_strs ["ask", "choose", "stop"], ?_⟩
      generalize upd H3 tp (.tup [.str "ask", .str "choose", .str "stop"]) = H4 at s4 ⊢
      show (∃ k, V.bl (inV (.str (rkOf r)) ((["ask", "choose", "stop"] : List Str).map V.str)) = .bl k ∧ _)
      refine ⟨_, rfl, ?_⟩
      rw [in_kd]
      cases hin : isIn r with
      | true =>
        refine itt_ rfl ?_
        walk_at "lk"
        refine sft (SqT.of (s4 _ _ hra)) h0 ?_
        refine hN _ _ ⟨?_, s4⟩
        rw [isIn_ck, hin]
        rfl
      | false =>
        refine iff_ rfl ?_
        walk_at "lk"
        refine hN _ _ ⟨?_, s4⟩
        rw [isIn_ck, hin]
        rfl
    rintro σ' H4 ⟨rfl, s4⟩
    refine seq_mid (fun σ' H' => ∃ na, (σ' = [some (.int (k : Int)), some (.ref l), some (.ref rl), some (.int (ns.length : Int)), some (.ref FD), some v, some (.str (ckOf r)), some (.ref na), e8, e9, e10]) ∧ Same H3 H' ∧ H' na = some (.tup ((cnOf r).map V.int))) ?_ ?_
    rotate_left
    · intro N hN
      walk_at "lk"
      refine sEq rfl ?_
      walk_at "lk"
      cases r with
      | choose ks =>
        obtain ⟨ra, rb, rfl, hra, hrb⟩ := hrv3
        refine itt_ (show decide (V.str ("choose" : Str) = V.str "choose") = true from by decide +kernel) ?_
        walk_at "lk"
        refine sft (SqT.of (s4 _ _ hra)) rfl ?_
        exact hN _ _ ⟨rb, rfl, s4, s4 _ _ hrb⟩
      | stop =>
        refine iff_ (show decide (V.str ("stop" : Str) = V.str "choose") = false from by decide +kernel) ?_
        walk_at "lk"
        refine sEq rfl ?_
        walk_at "lk"
        refine itt_ (show decide (V.str ("stop" : Str) = V.str "stop") = true from by decide +kernel) ?_
        walk_at "lk"
        refine snw (Nat.le_of_ble_eq_true rfl) fun tp htp => ?_
        exact hN _ _ ⟨tp, rfl, s4.trans (same_new htp), upd_same⟩
      | set n f j =>
        obtain ⟨ra, rb, rfl, hra, hrb⟩ := hrv3
        refine iff_ (show decide (V.str ("go" : Str) = V.str "choose") = false from by decide +kernel) ?_
        walk_at "lk"
        refine sEq rfl ?_
        walk_at "lk"
        refine iff_ (show decide (V.str ("go" : Str) = V.str "stop") = false from by decide +kernel) ?_
        walk_at "lk"
        refine sft (SqT.of (s4 _ _ hra)) rfl ?_
        refine snw (Nat.le_of_ble_eq_true rfl) fun tp htp => ?_
        exact hN _ _ ⟨tp, rfl, s4.trans (same_new htp), upd_same⟩
      | say f j =>
        obtain ⟨ra, rb, rfl, hra, hrb⟩ := hrv3
        refine iff_ (show decide (V.str ("go" : Str) = V.str "choose") = false from by decide +kernel) ?_
        walk_at "lk"
        refine sEq rfl ?_
        walk_at "lk"
        refine iff_ (show decide (V.str ("go" : Str) = V.str "stop") = false from by decide +kernel) ?_
        walk_at "lk"
        refine sft (SqT.of (s4 _ _ hra)) rfl ?_
        refine snw (Nat.le_of_ble_eq_true rfl) fun tp htp => ?_
        exact hN _ _ ⟨tp, rfl, s4.trans (same_new htp), upd_same⟩
      | ask n j =>
        obtain ⟨ra, rfl, hra⟩ := hrv3
        refine iff_ (show decide (V.str ("ask" : Str) = V.str "choose") = false from by decide +kernel) ?_
        walk_at "lk"
        refine sEq rfl ?_
        walk_at "lk"
        refine iff_ (show decide (V.str ("ask" : Str) = V.str "stop") = false from by decide +kernel) ?_
        walk_at "lk"
        refine sft (SqT.of (s4 _ _ hra)) rfl ?_
        refine snw (Nat.le_of_ble_eq_true rfl) fun tp htp => ?_
        exact hN _ _ ⟨tp, rfl, s4.trans (same_new htp), upd_same⟩
      | look j =>
        obtain ⟨ra, rfl, hra⟩ := hrv3
        refine iff_ (show decide (V.str ("go" : Str) = V.str "choose") = false from by decide +kernel) ?_
        walk_at "lk"
        refine sEq rfl ?_
        walk_at "lk"
        refine iff_ (show decide (V.str ("go" : Str) = V.str "stop") = false from by decide +kernel) ?_
        walk_at "lk"
        refine sft (SqT.of (s4 _ _ hra)) rfl ?_
        refine snw (Nat.le_of_ble_eq_true rfl) fun tp htp => ?_
        exact hN _ _ ⟨tp, rfl, s4.trans (same_new htp), upd_same⟩
    rintro σ' H5 ⟨na, rfl, s5, hna⟩
    refine seq_mid (fun σ' H' => ∃ (sa : Addr) (us3 : List V), (σ' = [some (.int (k : Int)), some (.ref l), some (.ref rl), some (.int (ns.length : Int)), some (.ref FD), some v, some (.str (ckOf r)), some (.ref na), some (.ref sa), e9, e10]) ∧ Same H5 H' ∧ H' sa = some (.lst us3) ∧ F2 (CfH H') us3 (syP ns.length r)) ?_ ?_
    rotate_left
    · intro N hN
      cases r with
      | set nm f j =>
        obtain ⟨ra, rb, rfl, hra, hrb⟩ := hrv3
        walk_at "lk"
        refine sft (SqT.of (s5 _ _ hra)) rfl ?_
        walk_at "lk"
        refine sEq rfl ?_
        walk_at "lk"
        refine iff_ (show decide (V.str ("set" : Str) = V.str "say") = false from by decide +kernel) ?_
        walk_at "lk"
        refine sft (SqT.of (s5 _ _ hra)) rfl ?_
        walk_at "lk"
        refine sEq rfl ?_
        walk_at "lk"
        refine iff_ (show decide (V.str ("set" : Str) = V.str "look") = false from by decide +kernel) ?_
        walk_at "lk"
        refine snw (Nat.le_of_ble_eq_true rfl) fun sa hsa => ?_
        exact hN _ _ ⟨sa, [], rfl, same_new hsa, upd_same, .nil⟩
      | say f j =>
        obtain ⟨ra, rb, rfl, hra, hrb⟩ := hrv3
        walk_at "lk"
        refine sft (SqT.of (s5 _ _ hra)) rfl ?_
        walk_at "lk"
        refine sEq rfl ?_
        walk_at "lk"
        refine itt_ (show decide (V.str ("say" : Str) = V.str "say") = true from by decide +kernel) ?_
        walk_at "lk"
        refine sft (SqT.of (s5 _ _ hra)) rfl ?_
        refine snw (Nat.le_of_ble_eq_true rfl) fun sa hsa => ?_
        exact hN _ _ ⟨sa, _, rfl, same_new hsa, upd_same, .cons ⟨rb, rfl, same_new hsa _ _ (s5 _ _ hrb)⟩ .nil⟩
      | ask nm j =>
        obtain ⟨ra, rfl, hra⟩ := hrv3
        walk_at "lk"
        refine sft (SqT.of (s5 _ _ hra)) rfl ?_
        walk_at "lk"
        refine sEq rfl ?_
        walk_at "lk"
        refine iff_ (show decide (V.str ("ask" : Str) = V.str "say") = false from by decide +kernel) ?_
        walk_at "lk"
        refine sft (SqT.of (s5 _ _ hra)) rfl ?_
        walk_at "lk"
        refine sEq rfl ?_
        walk_at "lk"
        refine iff_ (show decide (V.str ("ask" : Str) = V.str "look") = false from by decide +kernel) ?_
        walk_at "lk"
        refine snw (Nat.le_of_ble_eq_true rfl) fun sa hsa => ?_
        exact hN _ _ ⟨sa, [], rfl, same_new hsa, upd_same, .nil⟩
      | choose ks =>
        obtain ⟨ra, rb, rfl, hra, hrb⟩ := hrv3
        walk_at "lk"
        refine sft (SqT.of (s5 _ _ hra)) rfl ?_
        walk_at "lk"
        refine sEq rfl ?_
        walk_at "lk"
        refine iff_ (show decide (V.str ("choose" : Str) = V.str "say") = false from by decide +kernel) ?_
        walk_at "lk"
        refine sft (SqT.of (s5 _ _ hra)) rfl ?_
        walk_at "lk"
        refine sEq rfl ?_
        walk_at "lk"
        refine iff_ (show decide (V.str ("choose" : Str) = V.str "look") = false from by decide +kernel) ?_
        walk_at "lk"
        refine snw (Nat.le_of_ble_eq_true rfl) fun sa hsa => ?_
        exact hN _ _ ⟨sa, [], rfl, same_new hsa, upd_same, .nil⟩
      | look j =>
        obtain ⟨ra, rfl, hra⟩ := hrv3
        walk_at "lk"
        refine sft (SqT.of (s5 _ _ hra)) rfl ?_
        walk_at "lk"
        refine sEq rfl ?_
        walk_at "lk"
        refine iff_ (show decide (V.str ("look" : Str) = V.str "say") = false from by decide +kernel) ?_
        walk_at "lk"
        refine sft (SqT.of (s5 _ _ hra)) rfl ?_
        walk_at "lk"
        refine sEq rfl ?_
        walk_at "lk"
        refine itt_ (show decide (V.str ("look" : Str) = V.str "look") = true from by decide +kernel) ?_
        walk_at "lk"
        refine ⟨ns.length, rfl, by omega, fun D us' H' s' hD hDl hus' => ?_⟩
        exact hN _ _ ⟨D, us', rfl, s', hDl, hus'⟩
      | stop =>
        obtain ⟨ra, rfl, hra⟩ := hrv3
        walk_at "lk"
        refine sft (SqT.of (s5 _ _ hra)) rfl ?_
        walk_at "lk"
        refine sEq rfl ?_
        walk_at "lk"
        refine iff_ (show decide (V.str ("stop" : Str) = V.str "say") = false from by decide +kernel) ?_
        walk_at "lk"
        refine sft (SqT.of (s5 _ _ hra)) rfl ?_
        walk_at "lk"
        refine sEq rfl ?_
        walk_at "lk"
        refine iff_ (show decide (V.str ("stop" : Str) = V.str "look") = false from by decide +kernel) ?_
        walk_at "lk"
        refine snw (Nat.le_of_ble_eq_true rfl) fun sa hsa => ?_
        exact hN _ _ ⟨sa, [], rfl, same_new hsa, upd_same, .nil⟩
    rintro σ' H6 ⟨sa, us3, rfl, s6, hsa, hus3⟩
    refine ssq ?_
    refine sas ?_
    walk_at "lk"
    refine ⟨ns.length, rfl, by omega, fun fa us5 H7 s7 hfa0 hfa hus5 => ?_⟩
    refine sgn ?_
    dsimp only
    have s07 : Same H3 H7 := s5.trans (s6.trans s7)
    refine s_litL [some (.int (k : Int)), some (.ref l), some (.ref rl), some (.int (ns.length : Int)), some (.ref FD), some v, some (.str (ckOf r)), some (.ref na), some (.ref sa), some (.ref fa), e10] rfl ?_
    refine seq_mid (fun σ' H' => ∃ us6 : List V, (σ' = [some (.int (k : Int)), some (.ref l), some (.ref rl), some (.int (ns.length : Int)), some (.ref FD), some v, some (.str (ckOf r)), some (.ref na), some (.ref sa), some (.ref fa), e10]) ∧ Same H6 H' ∧ H' fa = some (.lst us6) ∧ F2 (CfH H') us6 (fm5 ns r)) ?_ ?_
    rotate_left
    · intro N hN
      by_cases hset : ∃ nm f j, r = .set nm f j
      · obtain ⟨nm, f, j, rfl⟩ := hset
        obtain ⟨ra, rb, rfl, hra, hrb⟩ := hrv3
        walk_at "lk"
        refine sft (SqT.of (s07 _ _ hra)) rfl ?_
        walk_at "lk"
        refine sEq rfl ?_
        walk_at "lk"
        refine itt_ (show decide (V.str ("set" : Str) = V.str "set") = true from by decide +kernel) ?_
        walk_at "lk"
        refine sft (SqT.of (s07 _ _ hra)) rfl ?_
        walk_at "lk"
        refine ⟨.inl ⟨rfl, _, SqL.of (s07 _ _ hl3)⟩, ?_⟩
        walk_at "lk"
        refine sft (SqT.of (s07 _ _ hra)) rfl ?_
        walk_at "lk"
        refine s_index hrok.1 (s07 _ _ hl3) ?_
        have hi := (idx_at hrok.1).1
        refine ssl (j := ns.idxOf nm) hfa (ix_nat (by rw [hus5.len, unitsL_len]; exact hi)) ?_
        have t8 : Ts H7 (upd H7 fa (.lst (us5.set (ns.idxOf nm) (.ref rb)))) := Ts.lst hfa
        exact hN _ _ ⟨_, rfl, same_updN s7 hfa0, upd_same, f2_set (CfH.ts t8 ⟨rb, rfl, s07 _ _ hrb⟩) (hus5.mono fun _ _ z => z.ts t8) _⟩
      · obtain ⟨ra, xs, rfl, hra, h0⟩ := row_tup hrv3
        walk_at "lk"
        refine sft (SqT.of (s07 _ _ hra)) h0 ?_
        walk_at "lk"
        refine sEq rfl ?_
        walk_at "lk"
        refine iff_ (decide_eq_false fun z => hset (rk_set (V.str.inj z))) ?_
        refine snx ?_
        exact hN _ _ ⟨_, rfl, s7, hfa, by rw [set_nm fun nm f j z => hset ⟨nm, f, j, z⟩]; exact hus5⟩
    rintro σ' H8 ⟨us6, rfl, s8, hf8, hus6⟩
    have s08 : Same H3 H8 := s5.trans (s6.trans s8)
    refine seq_mid (fun σ' H' => ∃ (fb : Addr) (us7 : List V) (e : Option V), (σ' = [some (.int (k : Int)), some (.ref l), some (.ref rl), some (.int (ns.length : Int)), some (.ref FD), some v, some (.str (ckOf r)), some (.ref na), some (.ref sa), some (.ref fb), e]) ∧ Same H6 H' ∧ H' fb = some (.lst us7) ∧ F2 (CfH H') us7 (fmP ns r)) ?_ ?_
    rotate_left
    · intro N hN
      by_cases hask : ∃ nm j, r = .ask nm j
      · obtain ⟨nm, j, rfl⟩ := hask
        obtain ⟨ra, rfl, hra⟩ := hrv3
        walk_at "lk"
        refine sEq rfl ?_
        walk_at "lk"
        refine itt_ (show decide (V.str ("ask" : Str) = V.str "ask") = true from by decide +kernel) ?_
        walk_at "lk"
        refine tlc_F2L CfH CfH (· ++ [0]) (fun s h => h.ts (Ts.of s)) (fun t h => h.ts t) rfl (SqL.of hf8) hus6 (by rw [hus6.len, set_nm (fun _ _ _ z => by cases z), unitsL_len]; omega) (fun _ => rfl) (fun n x f H9 hfi hf s9 R qr => ?_) (fun fb us7 H9 s9 hfb0 hfb hus7 => ?_)
        · obtain ⟨pf, rfl, ef⟩ := hf
          have hfl : f.length = ns.length + 1 := by
            have := List.mem_of_getElem? hfi
            rw [set_nm (fun _ _ _ z => by cases z)] at this
            obtain ⟨q0, _, rfl⟩ := List.mem_map.mp this
            unfold unitL
            rw [List.length_map]
            rw [List.length_range]
          walk_at "lk"
          refine snw (Nat.le_of_ble_eq_true rfl) fun z1 hz1 => ?_
          refine s_catG ((same_new hz1) _ _ ef) upd_same (by rw [List.length_map, hfl]; show ns.length + 1 + 1 ≤ 1000; omega) fun g H10 s10 hg => ?_
          exact qr _ _ ((same_new hz1).trans s10) ⟨g, rfl, by rw [hg, List.map_append]; rfl⟩
        rw [set_nm (ns := ns) (r := .ask nm j) (fun _ _ _ z => by cases z)] at hus7
        walk_at "lk"
        refine snw (Nat.le_of_ble_eq_true rfl) fun z1 hz1 => ?_
        have t1 : Same H9 (upd H9 z1 (.tup [.int 0])) := same_new hz1
        have y1 : (upd H9 z1 (.tup [.int 0])) z1 = some (.tup [.int 0]) := upd_same
        generalize upd H9 z1 (.tup [.int 0]) = G1 at t1 y1 ⊢
        walk_at "lk"
        rw [show (ns.length : Int) + 1 = ((ns.length + 1 : Nat) : Int) from rfl]
        refine s_repX (n := ns.length + 1) y1 (by omega) (by omega) fun z2 G2 t2 y2 => ?_
        walk_at "lk"
        refine snw (Nat.le_of_ble_eq_true rfl) fun z3 hz3 => ?_
        have t3 : Same G2 (upd G2 z3 (.tup [.int 1])) := same_new hz3
        have y3 : (upd G2 z3 (.tup [.int 1])) z3 = some (.tup [.int 1]) := upd_same
        generalize upd G2 z3 (.tup [.int 1]) = G3 at t3 y3 ⊢
        refine s_catG (t3 _ _ y2) y3 (by rw [List.length_replicate]; show ns.length + 1 + 1 ≤ 1000; omega) fun z4 G4 t4 y4 => ?_
        have T4 : Same H9 G4 := t1.trans (t2.trans (t3.trans t4))
        have S4 : Same H3 G4 := s08.trans (s9.trans T4)
        walk_at "lk"
        refine ⟨.inl ⟨rfl, _, SqL.of (S4 _ _ hl3)⟩, ?_⟩
        walk_at "lk"
        refine sft (SqT.of (S4 _ _ hra)) rfl ?_
        walk_at "lk"
        refine s_index hrok.1 (S4 _ _ hl3) ?_
        have hi := (idx_at hrok.1).1
        have hfb4 := T4 _ _ hfb
        refine ssl (j := ns.idxOf nm) hfb4 (ix_nat (by rw [hus7.len, List.length_map, unitsL_len]; exact hi)) ?_
        have t8 : Ts G4 (upd G4 fb (.lst (us7.set (ns.idxOf nm) (.ref z4)))) := Ts.lst hfb4
        have hcf : CfH G4 (.ref z4) (List.replicate (ns.length + 1) 0 ++ [1]) := ⟨z4, rfl, by rw [y4, List.map_append, List.map_replicate]; rfl⟩
        exact hN _ _ ⟨fb, _, _, rfl, same_updN ((s8.trans s9).trans T4) (s8.free hfb0), upd_same, f2_set (hcf.ts t8) (hus7.mono fun _ _ z => (z.ts (Ts.of T4)).ts t8) _⟩
      · walk_at "lk"
        refine sEq rfl ?_
        walk_at "lk"
        refine iff_ (decide_eq_false fun z => hask ((ck_ask r).mp (V.str.inj z))) ?_
        refine snx ?_
        exact hN _ _ ⟨fa, _, _, rfl, s8, hf8, by rw [ask_nm fun nm j z => hask ⟨nm, j, z⟩]; exact hus6⟩
    rintro σ' H9 ⟨fb, us7, e, rfl, s9, hfb, hus7⟩
    have S59 : Same H5 H9 := s6.trans s9
    have S39 : Same H3 H9 := s5.trans S59
    have h9F := S39 _ _ h1
    have hnl : (cnOf r).length ≤ 6 := (nx_of hrok).1.le
    walk_at "lk"
    refine ⟨.inl ⟨rfl, _, SqL.of h9F⟩, ?_⟩
    walk_at "lk"
    refine s_tupL (s9 _ _ hsa) fun sp H10 s10 _ hsp => ?_
    walk_at "lk"
    refine s_tupL (s10 _ _ hfb) fun fp H11 s11 _ hfp => ?_
    refine snw (Nat.le_of_ble_eq_true rfl) fun z1 hz1 => ?_
    have s12 : Same H11 (upd H11 z1 (.tup [.ref fp])) := same_new hz1
    have e12 : (upd H11 z1 (.tup [.ref fp])) z1 = some (.tup [.ref fp]) := upd_same
    generalize upd H11 z1 (.tup [.ref fp]) = H12 at s12 e12 ⊢
    have S12 : Same H9 H12 := s10.trans (s11.trans s12)
    walk_at "lk"
    refine ⟨na, _, rfl, .inr (SqT.of (S12 _ _ (S59 _ _ hna))), ?_⟩
    rw [List.length_map]
    refine s_repZ (n := (cnOf r).length) e12 (by omega) fun cp H13 s13 hcp => ?_
    walk_at "lk"
    refine snw (Nat.le_of_ble_eq_true rfl) fun qp hqp => ?_
    have s14 : Same H13 (upd H13 qp (.tup [.str (ckOf r), .ref na, .ref sp, .ref cp])) := same_new hqp
    have e14 : (upd H13 qp (.tup [.str (ckOf r), .ref na, .ref sp, .ref cp])) qp = some (.tup [.str (ckOf r), .ref na, .ref sp, .ref cp]) := upd_same
    generalize upd H13 qp (.tup [.str (ckOf r), .ref na, .ref sp, .ref cp]) = H14 at s14 e14 ⊢
    have S14 : Same H9 H14 := S12.trans (s13.trans s14)
    have row : CRowH H14 (.ref qp) (plainR ns r) := ⟨qp, .ref na, .ref sp, .ref cp, rfl, e14, ⟨na, rfl, (S59.trans S14) _ _ hna⟩, ⟨sp, us3, rfl, (s11.trans (s12.trans (s13.trans s14))) _ _ hsp, hus3.mono fun _ _ z => z.ts (Ts.of (s9.trans S14))⟩, ⟨cp, _, rfl, s14 _ _ hcp, f2_rep ⟨fp, us7, rfl, (s12.trans (s13.trans s14)) _ _ hfp, hus7.mono fun _ _ z => z.ts (Ts.of S14)⟩ _⟩⟩
    have f14 := S14 _ _ h9F
    have hvl := h2.len
    rw [List.length_map, List.length_take] at hvl
    refine ⟨FD, vs, .ref qp, rfl, rfl, f14, small1000 (by omega), ?_⟩
    have t14 : Ts H14 (upd H14 FD (.lst (vs ++ [.ref qp]))) := Ts.lst f14
    refine ⟨⟨_, _, _, _, _, _, rfl⟩, same_updN (s03.trans (S39.trans S14)) hFD, vs ++ [.ref qp], upd_same, ?_⟩
    rw [take_rows hri]
    exact (h2.mono fun _ _ z => (z.ts (Ts.of (S39.trans S14))).ts t14).append (.cons (row.ts t14) .nil)
end
end K42

namespace K42
open PySem PySem.Spec PyProof.Rows L2 RZ Lk
local macro_rules | `(tactic| walk_at "lk") => `(tactic| (repeat (first
  | with_reducible refine ssq ?_ | with_reducible refine sas ?_ | with_reducible refine sgn ?_ | ((with_reducible show tVar _ _ _ _); refine sv rfl ?_) | with_reducible refine sc ?_ | with_reducible refine sop ?_ | with_reducible refine sun ?_
  | with_reducible refine sI0 ?_ | with_reducible refine sU ?_ | with_reducible refine stt ?_ | with_reducible refine stB ?_ | with_reducible refine sbl ?_ | with_reducible refine snt ?_ | with_reducible refine sif ?_ | with_reducible refine scB ?_
  | with_reducible refine scn ?_ | with_reducible refine snl ?_ | with_reducible refine scl ?_ | with_reducible refine stu ?_ | with_reducible refine sli ?_ | with_reducible refine sdr ?_ | with_reducible refine srt ?_ | with_reducible refine snx ?_ | with_reducible refine sfor ?_ | with_reducible refine sils ?_ | with_reducible refine sien ?_ | with_reducible refine sor ?_ | with_reducible refine sfg ?_
  | with_reducible refine sav ?_ | with_reducible refine sov ?_ | with_reducible refine snv ?_ | with_reducible refine sch ?_ | with_reducible refine san ?_ | with_reducible refine ssll ?_ | with_reducible refine spt ?_ | with_reducible refine snp ?_ | with_reducible refine sin ?_ | with_reducible refine sfl ?_ | with_reducible refine sfd ?_ | with_reducible refine sbm ?_ | with_reducible refine sifx ?_ | with_reducible refine smk ?_ | with_reducible refine ssli ?_ | with_reducible refine sbz ?_
  | ((with_reducible show Or _ _); first | refine Or.inl ⟨_, rfl, ?_⟩ | refine Or.inr ⟨_, rfl, ?_⟩))))

abbrev psC : List Str := ["self", "width", "counts", "rows", "start"]
/-- the class Code, as the top has left it -/
structure CdeC (P : Program) (w : World) (K : PySem.W.Frag) (mg : Str → Option Value) (base : Heap) (A : Ad) : Prop where
  init : ∃ f fd, Mk K A.Code f ∧ FnOk P w K mg base CX0 7 f fd psC (spInitC K A) ∧ Binds K fd psC []
theorem s_newC {K : PySem.W.Frag} {A : Ad} {H : Hp} {l t a : Addr} {k : Nat} {cts : List Int} {us : List V} {rs : List CRow} {st : List Int} {Q : VK} {E : XK} (k1 : 1 ≤ k) (k2 : k ≤ 64) (hl : SqE K H l (cts.map V.int)) (ht : SqE K H t us) (hr : F2 (CRowH H) us rs) (ha : SqT K H a (st.map V.int)) (hok : CodeOk cts rs st)
    (q : ∀ x H', Same H H' → CodeO K A.Code H' x k cts (rs.map (CRow.low k)) (st.map (· % 2 ^ k)) → Q (.ref x) H') : newP A.Code (spInitC K A) [] E [.int (k : Int), .ref l, .ref t, .ref a] H Q := fun x dx h1 h2 _ => by
  have s : Same H (upd (upd H dx (.own x)) x (.ins A.Code dx [])) := same_own h1 h2 Bar.refl
  exact ⟨x, dx, l, t, a, k, cts, us, rs, st, rfl, upd_same, k1, k2, hl.same s, ht.same s, hr.mono fun _ _ z => z.ts (Ts.of s), same_sqT s ha, hok, fun H' b hp => ⟨rfl, q x H' (same_own h1 h2 b) hp⟩⟩
section
variable {X : Cx} {A : Ad} {j : Nat} {e : Expr} {es : List Expr} {p pos : Pos}
theorem CdeC.pe {t : TA} (G : CdeC X.prog X.w X.K X.mg X.base A) (hr : Room j X.A) (hj : 8 ≤ j) (hm : X.mg "Code" = some (.ref A.Code)) (ha : PA X (e :: es) t) (hg : Gl X "Code" := by rfl)
    (he : starEach (e :: es) X.env = (false, eval e X.env) :: starEach es X.env := by rfl) (hpl : (backTo pos (starEach es X.env)).any (·.1) = false := by rfl) : PE X (.Call (.Name "Code" p) (e :: es) [] pos) (tMake A.Code (spInitC X.K A) [] E0 t) := by
  obtain ⟨f, fd, M, F, b⟩ := G.init
  exact pe_make M F (hr.mono hj) hg hm b .nil pass0 ha (by decide) he hpl
end
/-! ### the code whose registers are the variables -/
theorem red_id {k : Nat} {x : Int} (h0 : 0 ≤ x) (h1 : x < 2 ^ k) : x % 2 ^ k = x := Int.emod_eq_of_lt h0 h1
theorem one_lt {k : Nat} (h : 1 ≤ k) : (1 : Int) < 2 ^ k := one_lt_pow h
theorem unit_low {k p n : Nat} (h : 1 ≤ k) : lowF k (unitL p n) = unitL p n := by
  unfold lowF unitL
  rw [List.map_map]
  refine List.map_congr_left fun i _ => ?_
  show (if i = p then (1 : Int) else 0) % 2 ^ k = _
  have h1 := one_lt h
  by_cases c : i = p
  · rw [if_pos c]
    exact red_id (by decide) h1
  · rw [if_neg c]
    exact Int.zero_emod _
theorem units_low {k n : Nat} (h : 1 ≤ k) : ∀ f ∈ unitsL n, lowF k f = f := fun f hf => by
  obtain ⟨i, _, rfl⟩ := List.mem_map.mp hf
  exact unit_low h
theorem units_len {n : Nat} : ∀ f ∈ unitsL n, f.length = n + 1 := fun f hf => by
  obtain ⟨i, _, rfl⟩ := List.mem_map.mp hf
  unfold unitL
  rw [List.length_map]
  rw [List.length_range]
theorem map_id_of {α : Type} {g : α → α} {l : List α} (h : ∀ a ∈ l, g a = a) : l.map g = l := by
  have : l.map g = l.map id := List.map_congr_left h
  rw [this, List.map_id]
theorem lrow_low {k : Nat} {r : LRow} (h : r.low k = r) : (∀ nm f j, r = .set nm f j → lowF k f = f) ∧ ∀ f j, r = .say f j → lowF k f = f := by
  refine ⟨fun nm f j e => ?_, fun f j e => ?_⟩
  · subst e
    injection h
  · subst e
    injection h
section
variable {k : Nat} {ns : List Str} {rs : List LRow} {q : Q3} {nums : List Int} {x : Int} {r : LRow} {st : List Int} {m : Int}
theorem fm5_low (hk : 1 ≤ k) (h : r.low k = r) : ∀ f ∈ fm5 ns r, lowF k f = f := fun f hf => by
  by_cases c : ∃ nm g j, r = .set nm g j
  · obtain ⟨nm, g, j, rfl⟩ := c
    rcases List.mem_or_eq_of_mem_set hf with z | rfl
    · exact units_low hk f z
    · exact (lrow_low h).1 _ _ _ rfl
  · rw [set_nm fun nm g j z => c ⟨nm, g, j, z⟩] at hf
    exact units_low hk f hf
theorem fmP_low (hk : 1 ≤ k) (h : r.low k = r) : ∀ f ∈ fmP ns r, lowF k f = f := fun f hf => by
  have h1 := one_lt hk
  by_cases c : ∃ nm j, r = .ask nm j
  · obtain ⟨nm, j, rfl⟩ := c
    rcases List.mem_or_eq_of_mem_set hf with z | rfl
    · obtain ⟨g, hg, rfl⟩ := List.mem_map.mp z
      show (g ++ [0]).map _ = _
      have := units_low hk g hg
      unfold lowF at this
      rw [List.map_append, this, List.map_cons, Int.zero_emod]
      rfl
    · unfold lowF
      rw [List.map_append, List.map_replicate, Int.zero_emod, List.map_cons, red_id (by decide) h1]
      rfl
  · rw [ask_nm fun nm j z => c ⟨nm, j, z⟩] at hf
    exact fm5_low hk h f hf
theorem plain_low (hk : 1 ≤ k) (h : r.low k = r) : (plainR ns r).low k = plainR ns r := by
  have e1 : (syP ns.length r).map (lowF k) = syP ns.length r := map_id_of fun f hf => by
    cases r with
    | say g j => rw [List.mem_singleton.mp hf]; exact (lrow_low h).2 _ _ rfl
    | look j => exact units_low hk f hf
    | _ => cases hf
  have e2 : (List.replicate (cnOf r).length (fmP ns r)).map (·.map (lowF k)) = List.replicate (cnOf r).length (fmP ns r) := by
    rw [List.map_replicate, map_id_of (fmP_low hk h)]
  unfold CRow.low plainR
  rw [e1, e2]
theorem fmP_len : (fmP ns r).length = ns.length := by
  by_cases c : ∃ nm j, r = .ask nm j
  · obtain ⟨nm, j, rfl⟩ := c
    show (((unitsL ns.length).map _).set _ _).length = _
    rw [List.length_set, List.length_map, unitsL_len]
  · rw [ask_nm fun nm j z => c ⟨nm, j, z⟩]
    by_cases d : ∃ nm g j, r = .set nm g j
    · obtain ⟨nm, g, j, rfl⟩ := d
      show ((unitsL ns.length).set _ _).length = _
      rw [List.length_set, unitsL_len]
    · rw [set_nm fun nm g j z => d ⟨nm, g, j, z⟩, unitsL_len]
theorem askN_yes (h : ∃ nm j, r = .ask nm j) : askN (ckOf r) = 1 := if_pos ((ck_ask r).mpr h)
theorem askN_no (h : ¬ ∃ nm j, r = .ask nm j) : askN (ckOf r) = 0 := if_neg fun z => h ((ck_ask r).mp z)
theorem fmP_forms (h : RowOk ns m r) : ∀ f ∈ fmP ns r, f.length = ns.length + 1 + askN (ckOf r) := fun f hf => by
  by_cases c : ∃ nm j, r = .ask nm j
  · rw [askN_yes c]
    obtain ⟨nm, j, rfl⟩ := c
    rcases List.mem_or_eq_of_mem_set hf with z | rfl
    · obtain ⟨g, hg, rfl⟩ := List.mem_map.mp z
      show (g ++ [0]).length = _
      rw [List.length_append, units_len g hg]
      rfl
    · rw [List.length_append, List.length_replicate]
      rfl
  · rw [askN_no c]
    rw [ask_nm fun nm j z => c ⟨nm, j, z⟩] at hf
    by_cases d : ∃ nm g j, r = .set nm g j
    · obtain ⟨nm, g, j, rfl⟩ := d
      rcases List.mem_or_eq_of_mem_set hf with z | rfl
      · exact units_len f z
      · exact h.2.1
    · rw [set_nm fun nm g j z => d ⟨nm, g, j, z⟩] at hf
      exact units_len f hf
theorem plain_W (k1 : 1 ≤ k) (n1 : 1 ≤ ns.length) (n5 : ns.length ≤ 5) (r1 : 1 ≤ rs.length) (r25 : rs.length ≤ 25) (hok : ∀ r ∈ rs, RowOk ns rs.length r) (hlow : ∀ r ∈ rs, r.low k = r) : CW k ns rs (List.replicate rs.length (ns.length : Int)) (rs.map (plainR ns)) (List.replicate ns.length 0) := by
  have hcl : (List.replicate rs.length (ns.length : Int)).length = rs.length := List.length_replicate ..
  have gd : ∀ j : Nat, j < rs.length → (List.replicate rs.length (ns.length : Int)).getD j 0 = ns.length := fun j hj => by
    rw [List.getD_eq_getElem?_getD, List.getElem?_replicate, if_pos hj]
    rfl
  have row : ∀ (j : Nat) (c : CRow), (rs.map (plainR ns))[j]? = some c → ∃ r, rs[j]? = some r ∧ c = plainR ns r := fun j c h => by
    rw [List.getElem?_map] at h
    obtain ⟨r, h1, h2⟩ := Option.map_eq_some_iff.mp h
    exact ⟨r, h1, h2.symm⟩
  refine ⟨⟨by rw [List.length_map]; exact r1, by rw [List.length_map]; omega, by rw [hcl, List.length_map], fun c hc => by rw [List.eq_of_mem_replicate hc]; omega, by rw [gd 0 (by omega), List.length_replicate], fun j c hj => ?_⟩, fun j c hj => ?_, fun c hc => ?_, hok, by rw [List.length_map], fun c hc => by rw [List.eq_of_mem_replicate hc]; omega, fun c hc => ?_, r25⟩
  · obtain ⟨r, hr, rfl⟩ := row j c hj
    have hm := hok r (List.mem_of_getElem? hr)
    have hj2 := (List.getElem?_eq_some_iff.mp hr).1
    obtain ⟨q1, q2⟩ := nx_of hm
    refine ⟨q1, fun i hi => by rw [hcl]; exact q2 i hi, ?_, fun f hf => ?_, by show (List.replicate _ _).length = _; rw [List.length_replicate]; rfl, fun n i d hn hd => ?_, fun d hd f hf => ?_⟩
    · show (syP ns.length r).length ≤ 900
      cases r with
      | say f j => exact (by decide : 1 ≤ 900)
      | look j => show (unitsL ns.length).length ≤ 900; rw [unitsL_len]; omega
      | _ => exact Nat.zero_le _
    · rw [gd j hj2]
      have hf : f ∈ syP ns.length r := hf
      cases r with
      | say g i => rw [List.mem_singleton.mp hf, hm.1]; rfl
      | look i => rw [units_len f hf]; rfl
      | _ => cases hf
    · have hi := q2 i (List.mem_of_getElem? hn)
      rw [gd i.toNat (by omega), List.eq_of_mem_replicate (List.mem_of_getElem? hd), fmP_len]
    · rw [List.eq_of_mem_replicate hd] at hf
      rw [fmP_forms hm f hf, gd j hj2]
      show ((ns.length + 1 + askN (ckOf r) : Nat) : Int) = (ns.length : Int) + 1 + ((askN (ckOf r) : Nat) : Int)
      omega
  · obtain ⟨r, hr, rfl⟩ := row j c hj
    exact ⟨r, hr, rfl, rfl⟩
  · obtain ⟨r, hr, rfl⟩ := List.mem_map.mp hc
    exact plain_low k1 (hlow r hr)
  · obtain ⟨r, hr, rfl⟩ := List.mem_map.mp hc
    show (syP ns.length r).length ≤ 6
    cases r with
    | say f j => exact (by decide : 1 ≤ 6)
    | look j => show (unitsL ns.length).length ≤ 6; rw [unitsL_len]; omega
    | _ => exact Nat.zero_le _
/-! what it does is what the program does -/
theorem units_st {n : Nat} (hl : st.length = n) (hi : InR k st) : (unitsL n).map (fun f => valM k f st) = st := said_eq (r := .look 0) hl hi
theorem csd_plain (hl : st.length = ns.length) (hi : InR k st) : csd k (plainR ns r) st = sdM k r st := by
  have e : syP ns.length r = fsM r ns.length := by cases r <;> rfl
  show (syP ns.length r).map _ = _
  rw [e]
  exact said_eq hl hi
theorem dot_app : ∀ (f g : List Int) (a b : List Int), f.length = a.length → dot (f ++ g) (a ++ b) = dot f a + dot g b
  | [], g, [], b, _ => by
    show dot g b = 0 + dot g b
    omega
  | x :: f, g, y :: a, b, h => by
    have ih := dot_app f g a b (by simpa using h)
    show x * y + dot (f ++ g) (a ++ b) = x * y + dot f a + dot g b
    omega
  | [], _, _ :: _, _, h => by simp at h
  | _ :: _, _, [], _, h => by simp at h
theorem dot_zeros : ∀ (n : Nat) (a : List Int), dot (List.replicate n 0) a = 0
  | 0, _ => rfl
  | n + 1, [] => rfl
  | n + 1, y :: a => by
    show 0 * y + dot (List.replicate n 0) a = 0
    rw [dot_zeros n a]
    omega
theorem val_app0 {f : List Int} (h : f.length = st.length + 1) : valM k (f ++ [0]) (st ++ [x]) = valM k f st := by
  unfold valM
  show dot (f ++ [0]) ((1 :: st) ++ [x]) % _ = _
  rw [dot_app _ _ _ _ (by rw [h]; rfl)]
  show (dot f (1 :: st) + (0 * x + 0)) % _ = _
  rw [Int.zero_mul, Int.add_zero, Int.add_zero]
theorem val_last : valM k (List.replicate (st.length + 1) 0 ++ [1]) (st ++ [x]) = x % 2 ^ k := by
  unfold valM
  show dot (List.replicate (st.length + 1) 0 ++ [1]) ((1 :: st) ++ [x]) % _ = _
  rw [dot_app _ _ _ _ (by rw [List.length_replicate]; rfl), dot_zeros]
  show (0 + (1 * x + 0)) % _ = _
  rw [Int.one_mul, Int.add_zero, Int.zero_add]
theorem cst_plain (hx : fitM r x) (hl : st.length = ns.length) (hi : InR k st) : cst k (plainR ns r) st x = stM k ns r st x := by
  have hidx := (List.getElem?_eq_some_iff.mp (idx_nx hx)).1
  have e : cfs (plainR ns r) x = fmP ns r := by
    unfold cfs
    show (List.replicate (cnOf r).length (fmP ns r)).getD (cidx (ckOf r) x) [] = _
    rw [List.getD_eq_getElem?_getD, List.getElem?_replicate, if_pos hidx]
    rfl
  unfold cst
  rw [e]
  by_cases c : ∃ nm j, r = .ask nm j
  · obtain ⟨nm, j, rfl⟩ := c
    have e2 : cgiv (plainR ns (.ask nm j)) st x = st ++ [x] := if_pos rfl
    rw [e2]
    show (((unitsL ns.length).map (· ++ [0])).set (ns.idxOf nm) (List.replicate (ns.length + 1) 0 ++ [1])).map _ = st.set (ns.idxOf nm) (x % 2 ^ k)
    have e3 : List.map ((fun f => valM k f (st ++ [x])) ∘ fun (f : List Int) => f ++ [0]) (unitsL st.length) = st := (List.map_congr_left fun f hf => val_app0 (units_len f hf)).trans (units_st rfl hi)
    rw [List.map_set, List.map_map, ← hl, val_last, e3]
  · have e2 : cgiv (plainR ns r) st x = st := if_neg fun z => c ((ck_ask r).mp z)
    rw [e2, ask_nm fun nm j z => c ⟨nm, j, z⟩]
    by_cases d : ∃ nm g j, r = .set nm g j
    · obtain ⟨nm, g, j, rfl⟩ := d
      show ((unitsL ns.length).set (ns.idxOf nm) g).map _ = st.set (ns.idxOf nm) (valM k g st)
      rw [List.map_set, units_st hl hi]
    · rw [set_nm fun nm g j z => d ⟨nm, g, j, z⟩, units_st hl hi]
      cases r with
      | set nm g j => exact absurd ⟨nm, g, j, rfl⟩ d
      | ask nm j => exact absurd ⟨nm, j, rfl⟩ c
      | _ => rfl
theorem crun_plain (h : Way k ns rs q nums) : ∀ i, i ≤ nums.length → crun k rs (rs.map (plainR ns)) q (nums.take i) = runF k ns rs q (nums.take i)
  | 0, _ => rfl
  | i + 1, hi => by
    have hlt : i < nums.length := hi
    have ih := crun_plain h i (Nat.le_of_lt hlt)
    obtain ⟨r, h1, h2, g, h3⟩ := h.step (List.getElem?_eq_getElem hlt)
    rw [crun_take (List.getElem?_eq_getElem hlt), h3, ih]
    unfold cstp
    rw [List.getElem?_map, h1]
    dsimp only [Option.map_some]
    rw [cst_plain h2 g.len g.inr, csd_plain g.len g.inr]
end
section

section
variable {P : Program} {w : World} {K : PySem.W.Frag} {mg : Str → Option Value} {base : Heap} {A : Ad}
end
end
end K42

namespace K42
open PySem PySem.Spec PyProof.Rows L2 RZ Lk
local macro_rules | `(tactic| walk_at "lk") => `(tactic| (repeat (first
  | with_reducible refine ssq ?_ | with_reducible refine sas ?_ | with_reducible refine sgn ?_ | ((with_reducible show tVar _ _ _ _); refine sv rfl ?_) | with_reducible refine sc ?_ | with_reducible refine sop ?_ | with_reducible refine sun ?_
  | with_reducible refine sI0 ?_ | with_reducible refine sU ?_ | with_reducible refine stt ?_ | with_reducible refine stB ?_ | with_reducible refine sbl ?_ | with_reducible refine snt ?_ | with_reducible refine sif ?_ | with_reducible refine scB ?_
  | with_reducible refine scn ?_ | with_reducible refine snl ?_ | with_reducible refine scl ?_ | with_reducible refine stu ?_ | with_reducible refine sli ?_ | with_reducible refine sdr ?_ | with_reducible refine srt ?_ | with_reducible refine snx ?_ | with_reducible refine sfor ?_ | with_reducible refine sils ?_ | with_reducible refine sien ?_ | with_reducible refine sor ?_ | with_reducible refine sfg ?_
  | with_reducible refine sav ?_ | with_reducible refine sov ?_ | with_reducible refine snv ?_ | with_reducible refine sch ?_ | with_reducible refine san ?_ | with_reducible refine ssll ?_ | with_reducible refine spt ?_ | with_reducible refine snp ?_ | with_reducible refine sin ?_ | with_reducible refine sfl ?_ | with_reducible refine sfd ?_ | with_reducible refine sbm ?_ | with_reducible refine sifx ?_ | with_reducible refine smk ?_ | with_reducible refine ssli ?_ | with_reducible refine sbz ?_ | with_reducible refine smkk ?_
  | ((with_reducible show Or _ _); first | refine Or.inl ⟨_, rfl, ?_⟩ | refine Or.inr ⟨_, rfl, ?_⟩))))

def spRunG (K : PySem.W.Frag) (A : Ad) : Sp := fun vs H Q _ => ∃ (x t : Addr) (k : Nat) (ns : List Str) (rs : List LRow) (cts : List Int) (crs : List CRow) (sts : List Int) (nums : List Int) (q' : Q3), vs = [.ref x, .ref t] ∧ CodeO K A.Code H x k cts crs sts ∧ CW k ns rs cts crs sts ∧ k ≤ 64 ∧ SqE K H t (nums.map V.int) ∧ nums.length ≤ 100 ∧ CWay k ns rs cts crs sts (0, sts, []) q' nums ∧
  ∀ u H', Same H H' → Told H H' u (crun k rs crs (0, sts, []) nums) → Q (.ref u) H'
def tdD (q : Q3) : PyData := .tuple [.int q.1, .tuple (q.2.1.map PyData.int), .list (q.2.2.map PyData.int)]
theorem td_dp {K : PySem.W.Frag} {H : Hp} {u b D : Addr} {q : Q3} (hu : SqT K H u [.int q.1, .ref b, .ref D]) (hb : SqT K H b (q.2.1.map V.int)) (hD : SqL K H D (q.2.2.map V.int)) : Dp K H (.ref u) (tdD q) :=
  .tup hu (.cons (.int _) (.cons (.tup hb (dp_ints _)) (.cons (.lst hD (dp_ints _)) .nil)))
theorem td_sh {q : Q3} : SeqAt.shaped (tdD q) = true := by
  unfold SeqAt.shaped tdD
  simp only [PyData.canLay0, PyData.canLayAll0, PyData.depth, PyData.depthAll]
  rw [cl_map fun r hr => (by simp [PyData.canLay0]), cl_map fun r hr => (by simp [PyData.canLay0])]
  have d1 := dep_map (f := PyData.int) (n := 0) (xs := q.2.1) fun r _ => by simp [PyData.depth]
  have d2 := dep_map (f := PyData.int) (n := 0) (xs := q.2.2) fun r _ => by simp [PyData.depth]
  simp only [Bool.and_true, Bool.true_and]
  exact decide_eq_true (by omega)
/-- says that are drawn anew -/
structure FreeR (k : Nat) (cts : List Int) (i : Nat) (r r' : CRow) : Prop where
  kd : r'.kd = r.kd
  nx : r'.nx = r.nx
  ch : r'.ch = r.ch
  s3 : r'.sy.length ≤ 3
  fs : ∀ f ∈ r'.sy, (f.length : Int) = cts.getD i 0 + 1 ∧ ∀ x ∈ f, 0 ≤ x ∧ x < (2 : Int) ^ k
theorem free_W {k : Nat} {ns : List Str} {rs : List LRow} {cts : List Int} {crs crs' : List CRow} {sts : List Int} (W : CW k ns rs cts crs sts) (hl : crs'.length = crs.length) (h : ∀ (i : Nat) (r r' : CRow), crs[i]? = some r → crs'[i]? = some r' → FreeR k cts i r r') : CW k ns rs cts crs' sts := by
  have hget : ∀ (i : Nat) (r' : CRow), crs'[i]? = some r' → ∃ r, crs[i]? = some r ∧ FreeR k cts i r r' := fun i r' hr => by
    have hlt := (List.getElem?_eq_some_iff.mp hr).1
    have hc : crs[i]? = some (crs[i]'(by omega)) := List.getElem?_eq_getElem (by omega)
    exact ⟨_, hc, h i _ r' hc hr⟩
  refine ⟨⟨by rw [hl]; exact W.ok.l1, by rw [hl]; exact W.ok.l2, by rw [hl]; exact W.ok.cl, W.ok.c0, W.ok.sl, fun i r' hr => ?_⟩, fun i r' hr => ?_, fun r' hr => ?_, W.rok, by rw [hl]; exact W.len, W.c6, fun r' hr => ?_, W.r25⟩
  · obtain ⟨r, hc, F⟩ := hget i r' hr
    have o := W.ok.ok i r hc
    exact ⟨by rw [F.kd, F.nx]; exact o.nxl, by rw [F.nx]; exact o.nxi, by have := F.s3; omega, fun f hf => (F.fs f hf).1, by rw [F.ch, F.nx]; exact o.chl, by rw [F.ch, F.nx]; exact o.chn, by rw [F.ch, F.kd]; exact o.chf⟩
  · obtain ⟨r, hc, F⟩ := hget i r' hr
    obtain ⟨r0, h1, h2, h3⟩ := W.ex i r hc
    exact ⟨r0, h1, F.kd.trans h2, F.nx.trans h3⟩
  · obtain ⟨i, hi⟩ := List.getElem?_of_mem hr
    obtain ⟨r, hc, F⟩ := hget i r' hi
    exact crow_low (fun f hf => (F.fs f hf).2) (by
      rw [F.ch]
      intro c hcm f hf x hx
      have := low_ch (W.low r (List.mem_of_getElem? hc)) c hcm f hf
      rw [← this] at hx
      obtain ⟨y, _, rfl⟩ := List.mem_map.mp hx
      have p0 : (0 : Int) < 2 ^ k := Int.pow_pos (by decide)
      exact ⟨Int.emod_nonneg y (Int.ne_of_gt p0), Int.emod_lt_of_pos y p0⟩)
  · obtain ⟨i, hi⟩ := List.getElem?_of_mem hr
    obtain ⟨r, hc, F⟩ := hget i r' hi
    have := F.s3
    omega
theorem spr3 {i j l : Nat} {ta : TA} {D : Ends} {σ : L2.St} {H : Hp} (q : ta σ H fun vs H' => ∃ x y z, vs = [x, y, z] ∧ D.nx (((σ.set i (some x)).set j (some y)).set l (some z)) H') : tPar3 i j l ta D σ H := q
theorem g_trip3 {K : PySem.W.Frag} {H : Hp} {σ : L2.St} {i j k : Nat} {x y z : V} {p : Addr} {R : L2.St → Hp → Prop} (h : SqT K H p [x, y, z]) (q : R (((σ.set i (some x)).set j (some y)).set k (some z)) H) : gTup K 3 (gCons (gName i) (gCons (gName j) (gCons (gName k) gNil))) (.ref p) σ H R :=
  ⟨p, [x, y, z], rfl, h, rfl, x, [y, z], rfl, y, [z], rfl, z, [], rfl, rfl, q⟩
theorem list_low {k : Nat} {rs : List CRow} (h : ∀ r ∈ rs, r.low k = r) : rs.map (CRow.low k) = rs := map_id_of h
theorem inR_map {k : Nat} {st : List Int} (h : InR k st) : st.map (· % 2 ^ k) = st := map_id_of fun x hx => Int.emod_eq_of_lt (h x hx).1 (h x hx).2
theorem s_eqTd {K : PySem.W.Frag} {H : Hp} {u v b c D E : Addr} {q : Q3} {Q : VK} (hu : SqT K H u [.int q.1, .ref b, .ref D]) (hb : SqT K H b (q.2.1.map V.int)) (hD : SqL K H D (q.2.2.map V.int)) (hv : SqT K H v [.int q.1, .ref c, .ref E]) (hc : SqT K H c (q.2.1.map V.int)) (hE : SqL K H E (q.2.2.map V.int)) (k : Q (.bl true) H) : rEqD K (.ref u) (.ref v) H Q :=
  ⟨tdD q, tdD q, td_dp hu hb hD, td_dp hv hc hE, td_sh, td_sh, by rw [SeqAt.eqv_refl _ (SeqAt.canLay_of_shaped td_sh)]; exact k⟩
theorem s_neTd {K : PySem.W.Frag} {H : Hp} {u v b c D E : Addr} {q : Q3} {Q : VK} (hu : SqT K H u [.int q.1, .ref b, .ref D]) (hb : SqT K H b (q.2.1.map V.int)) (hD : SqL K H D (q.2.2.map V.int)) (hv : SqT K H v [.int q.1, .ref c, .ref E]) (hc : SqT K H c (q.2.1.map V.int)) (hE : SqL K H E (q.2.2.map V.int)) (k : Q (.bl false) H) : rNeD K (.ref u) (.ref v) H Q :=
  ⟨tdD q, tdD q, td_dp hu hb hD, td_dp hv hc hE, td_sh, td_sh, by rw [SeqAt.eqv_refl _ (SeqAt.canLay_of_shaped td_sh)]; exact k⟩
/-- all that a step of a code asks -/
theorem step_facts {k : Nat} {ns : List Str} {rs : List LRow} {cts : List Int} {crs : List CRow} {sts : List Int} {qc : Q3} {r : LRow} {c : CRow} {z : Int} (W : CW k ns rs cts crs sts) (hg : GoodC k cts qc) (hr0 : rs[qc.1.toNat]? = some r) (hc0 : crs[qc.1.toNat]? = some c) (hf : fitM r z) :
    c.nx[cidx c.kd z]? = some (nxM r z) ∧ c.ch[cidx c.kd z]? = some (cfs c z) ∧ (c.kd = "choose" → 0 ≤ z) ∧ c.low k = c ∧ (cfs c z).length ≤ 90 ∧ c.sy.length ≤ 90 ∧ (∀ f ∈ cfs c z, f.length = (cgiv c qc.2.1 z).length + 1) ∧ (∀ f ∈ c.sy, f.length = qc.2.1.length + 1) ∧ qc.2.1.length ≤ 5 := by
  obtain ⟨c', g1, g2, g3⟩ := W.row hr0
  rw [hc0] at g1
  cases g1
  have hm := List.mem_of_getElem? hc0
  have okc := W.ok.ok _ c hc0
  have h5c := getD_le (by decide) W.c6 qc.1.toNat
  have hgl := hg.len
  obtain ⟨e1c, e2c, e3c⟩ := cfs_at W hr0 hc0 hf
  have h5n := getD_le (by decide) W.c6 (nxM r z).toNat
  have hgv := cgiv_len c qc.2.1 z
  have hi := idx_nx hf
  rw [← g2, ← g3] at hi
  have := W.sy6 c hm
  exact ⟨hi, e1c, fun hch => fit_choose (by rw [← g2]; exact hch) hf, W.low c hm, by omega, by omega, fun f hf => by have := e3c f hf; omega, fun f hf => by have := okc.syf f hf; omega, by omega⟩
def spFree (K : PySem.W.Frag) (A : Ad) : Sp := fun vs H Q _ => ∃ (p cl D st t : Addr) (k : Nat) (ns : List Str) (rs : List LRow) (cts : List Int) (us : List V) (crs : List CRow) (sts : List Int) (nums : List Int) (q' : Q3), vs = [.ref p, .int (k : Int), .ref cl, .ref D, .ref st, .ref t] ∧ 1 ≤ k ∧ k ≤ 64 ∧ Wl H p ∧ cl ≠ p ∧ D ≠ p ∧ t ≠ p ∧ H cl = some (.lst (cts.map V.int)) ∧ H D = some (.lst us) ∧ F2 (CRowH H) us crs ∧ H st = some (.tup (sts.map V.int)) ∧ H t = some (.lst (nums.map V.int)) ∧ nums.length ≤ 100 ∧ CWay k ns rs cts crs sts (0, sts, []) q' nums ∧ InR k sts ∧
  ∀ H', Wk p H H' → Q (.bl true) H'
section
variable {P : Program} {w : World} {K : PySem.W.Frag} {mg : Str → Option Value} {base : Heap} {A : Ad}
theorem ok_run_codeG {f : Addr} {fd : FuncData} (F : Fun K "run_code" "run_code" s_run_code f fd) (T : Txt P w K mg base A) (c_code_graph : Cal P w K mg base 1 "code_graph" ["code"] (spCGraph K A)) (c_check_numbers : Cal P w K mg base 5 "check_numbers" ["graph", "row", "numbers"] (spWrNum K)) (c_code_said : Cal P w K mg base 2 "code_said" ["code", "row", "vector"] (spCSaid K A)) (c_code_stepped : Cal P w K mg base 2 "code_stepped" ["code", "row", "vector", "number"] (spCStep K A)) (c_next_row : Cal P w K mg base 1 "next_row" ["graph", "row", "number"] spNext) : FnOk P w K mg base CX0 6 f fd ["code", "numbers"] (spRunG K A) := by
  refine F.ok sc_run_code (fun vs H Q E h => ?_) (fun cdv Ar outer s H vs Q E hr h => ?_)
  · obtain ⟨x, t, k, ns, rs, cts, crs, sts, nums, q', rfl, _⟩ := h
    rfl
  · obtain ⟨x, t, k, ns, rs, cts, crs, sts, nums, q', rfl, hx, W, hk, ht, hnl, hw, q⟩ := h
    refine ⟨_, (pss_cons (ps_set (i := 2) sc_run_code.nd rfl (Or.inl rfl) (pcal c_code_graph hr (by decide) (pa_cons (pv 0) pa_nil)))
        (pss_cons (ps_expr (pcal c_check_numbers hr (by decide) (pa_cons (pv 2) (pa_cons pe_int (pa_cons (pv 1) pa_nil)))))
        (pss_cons (ps_set (i := 3) sc_run_code.nd rfl (Or.inl rfl) pe_int)
        (pss_cons (ps_set (i := 4) sc_run_code.nd rfl (Or.inl rfl) (pe_op op_catA (pe_tup (pa_cons pe_int pa_nil)) (pe_fld (pv 0) rfl)))
        (pss_cons (ps_set (i := 5) sc_run_code.nd rfl (Or.inl rfl) (pe_lst pa_nil))
        (pss_cons (ps_for PassesOwn.never rfl (pi_either (pv 1)) (pg_name (i := 6) sc_run_code.nd rfl (Or.inl rfl)) (pss_cons (ps_expr (pe_bm PySem.F.plainAttrs_list PySem.F.slot_list_extend PySem.F.type_list_extend mt_extend (pv 5) (pa_cons (pcal c_code_said hr (by decide) (pa_cons (pv 0) (pa_cons (pv 3) (pa_cons (pv 4) pa_nil)))) pa_nil)))
        (pss_cons (ps_set (i := 4) sc_run_code.nd rfl (Or.inl rfl) (pcal c_code_stepped hr (by decide) (pa_cons (pv 0) (pa_cons (pv 3) (pa_cons (pv 4) (pa_cons (pv 6) pa_nil))))))
        (pss_one (ps_set (i := 3) sc_run_code.nd rfl (Or.inl rfl) (pcal c_next_row hr (by decide) (pa_cons (pv 2) (pa_cons (pv 3) (pa_cons (pv 6) pa_nil)))))))))
        (pss_one (ps_ret (pe_tup (pa_cons (pv 3) (pa_cons (pe_slice sl_tupA (pv 4) (po_some pe_int) po_none) (pa_cons (pv 5) pa_nil)))))))))))), ?_⟩
    have hl200 : crs.length ≤ 200 := by have := W.len; have := W.r25; omega
    walk_at "lk"
    refine ⟨x, k, cts, crs, sts, rfl, hx, hl200, fun Dg us H1 s1 hDg hus => ?_⟩
    rw [W.exs] at hus
    walk_at "lk"
    have hq0 : q'.1 = 0 := hw.e.symm
    refine ⟨Dg, t, us, k, ns, rs, q', nums, by rw [hq0]; rfl, hDg, hus, ht.same s1, hw.way, fun H2 s2 => ?_⟩
    walk_at "lk"
    have S2 := s1.trans s2
    refine snw (Nat.le_of_ble_eq_true rfl) fun p1 hp1 => ?_
    have s3 : Same H2 (upd H2 p1 (.tup [.int 1])) := same_new hp1
    have e1 : (upd H2 p1 (.tup [.int 1])) p1 = some (.tup [.int 1]) := upd_same
    generalize upd H2 p1 (.tup [.int 1]) = H3 at s3 e1 ⊢
    have S3 := S2.trans s3
    have hx' := hx.lc (Lc.of S3)
    obtain ⟨dx, tc, tr, ts, us0, h0, h1, h2, h3, h4⟩ := hx'
    walk_at "lk"
    refine ⟨x, A.Code, dx, _, _, rfl, h0, T.c_Code, T.m_start, rfl, ?_⟩
    refine s_cat1 e1 (by simp) h4 (by rw [List.length_map]; have := W.ok.sl; have := getD_le (by decide) W.c6 0; show 1 + sts.length ≤ 1000; omega) fun vb H5 s5 h5 => ?_
    have S5 := S3.trans s5
    have h5' : H5 vb = some (.tup ((1 :: sts).map V.int)) := h5
    clear h0 h1 h2 h3 h4
    walk_at "lk"
    refine snw (Nat.le_of_ble_eq_true rfl) fun Ds hDs => ?_
    have h6 : (upd H5 Ds (.lst [])) Ds = some (.lst []) := upd_same
    have s6 : Same H5 (upd H5 Ds (.lst [])) := same_new hDs
    have h6v := s6 _ _ h5'
    generalize upd H5 Ds (.lst []) = H6 at h6 s6 h6v ⊢
    walk_at "lk"
    refine for_E (xs := nums.map V.int) (fun c σ' H' => ∃ (r0 : Int) (v0 : Addr) (e : Option V), σ' = [some (.ref x), some (.ref t), some (.ref Dg), some (.int r0), some (.ref v0), some (.ref Ds), e] ∧ r0 = (crun k rs crs (0, sts, []) (nums.take c)).1 ∧ H' v0 = some (.tup ((1 :: (crun k rs crs (0, sts, []) (nums.take c)).2.1).map V.int)) ∧ H' Ds = some (.lst ((crun k rs crs (0, sts, []) (nums.take c)).2.2.map V.int)) ∧ Same H5 H') rfl (ht.same S5) ?_ ?_ ?_ ?_
    · exact ⟨0, vb, none, rfl, rfl, h6v, h6, s6⟩
    · rintro c σ' H' ⟨_, _, _, _, _, _, _, s7⟩
      exact s7
    · rintro n v σ' H' hi ⟨r0, v0, e, rfl, rfl, hv0, hD0, s7⟩
      rw [List.getElem?_map] at hi
      obtain ⟨z, hz, rfl⟩ := Option.map_eq_some_iff.mp hi
      obtain ⟨r, c, hr0, hc0, hf, hstep⟩ := hw.step hz
      have hcl := (List.getElem?_eq_some_iff.mp hz).1
      have hg := hw.good n (Nat.le_of_lt hcl)
      have hsl := hw.said n (Nat.le_of_lt hcl)
      rw [hstep]
      generalize crun k rs crs (0, sts, []) (nums.take n) = qc at hr0 hc0 hg hstep hsl hv0 hD0 ⊢
      have hm := List.mem_of_getElem? hc0
      have okc := W.ok.ok _ c hc0
      have h5c := getD_le (by decide) W.c6 qc.1.toNat
      have hgl := hg.len
      have S7 := S5.trans s7
      obtain ⟨e1c, e2c, e3c⟩ := cfs_at W hr0 hc0 hf
      have h5n := getD_le (by decide) W.c6 (nxM r z).toNat
      have hgv := cgiv_len c qc.2.1 z
      walk_at "lk"
      refine ⟨.inl ⟨rfl, _, SqL.of hD0⟩, ?_⟩
      walk_at "lk"
      refine ⟨x, _, v0, k, cts, crs, sts, c, qc.2.1, rfl, hx.lc (Lc.of S7), hg.r0, hc0, W.low c hm, W.sy6 c hm, hk, by omega, fun f hf => by have := okc.syf f hf; omega, hv0, fun D2 H8 s8 h8 => ?_⟩
      walk_at "lk"
      refine ⟨Ds, D2, _, _, rfl, rfl, s8 _ _ hD0, h8, ?_, ?_⟩
      · rw [List.length_map, List.length_map]
        have h6l : (csd k c qc.2.1).length ≤ 6 := by
          unfold csd
          rw [List.length_map]
          exact W.sy6 c hm
        have hsl' : qc.2.2.length ≤ 0 + 6 * n := hsl
        exact Nat.le_of_lt (small1000 (by omega))
      · walk_at "lk"
        have S9 : Same H5 (upd H8 Ds (.lst (qc.2.2.map V.int ++ (csd k c qc.2.1).map V.int))) := same_updN (s7.trans s8) hDs
        have nv : v0 ≠ Ds := fun y => by
          rw [y, hD0] at hv0
          cases hv0
        have hv9 : (upd H8 Ds (.lst (qc.2.2.map V.int ++ (csd k c qc.2.1).map V.int))) v0 = some (.tup ((1 :: qc.2.1).map V.int)) := by
          rw [upd_ne nv]
          exact s8 _ _ hv0
        have hD9 : (upd H8 Ds (.lst (qc.2.2.map V.int ++ (csd k c qc.2.1).map V.int))) Ds = some (.lst ((qc.2.2 ++ csd k c qc.2.1).map V.int)) := by
          rw [upd_same, List.map_append]
        generalize upd H8 Ds (.lst (qc.2.2.map V.int ++ (csd k c qc.2.1).map V.int)) = H9 at S9 hv9 hD9 ⊢
        have S59 := S5.trans S9
        refine ⟨x, _, z, v0, k, cts, crs, sts, c, qc.2.1, rfl, hx.lc (Lc.of S59), hg.r0, hc0, W.low c hm, e1c, fun hch => fit_choose (by obtain ⟨c', g1, g2, _⟩ := W.row hr0; rw [hc0] at g1; cases g1; rw [← g2]; exact hch) hf, by omega, hk, by omega, fun f hf => by have := e3c f hf; omega, hv9, fun u H10 s10 hu => ?_⟩
        have S1 : Same H1 H10 := s2.trans (s3.trans (s5.trans (S9.trans s10)))
        walk_at "lk"
        refine ⟨Dg, us, rs, _, z, r, rfl, S1 _ _ hDg, hus.mono (fun v a h => ExH.ts (Ts.of S1) h), hg.r0, hr0, hf, ?_⟩
        exact ⟨_, _, _, rfl, rfl, hu, s10 _ _ hD9, S9.trans s10⟩
    · rintro σ' H' ⟨r0, v0, e, rfl, rfl, hv0, hD0, s7⟩
      rw [List.length_map, List.take_length] at hv0 hD0
      rw [List.length_map]
      rw [List.take_length]
      generalize crun k rs crs (0, sts, []) nums = qc at hv0 hD0 q ⊢
      walk_at "lk"
      refine s_dropT (i := 1) (SqT.of hv0) (Nat.le_refl 1) (by rw [List.length_map, List.length_cons]; omega) (by simp) fun p3 hp3 => ?_
      walk_at "lk"
      refine snw (Nat.le_of_ble_eq_true rfl) fun u hu => ?_
      refine q u _ (S5.trans (s7.trans ((same_new hp3).trans (same_new hu)))) ⟨p3, Ds, S5.free hDs, upd_same, ?_, ?_⟩
      · refine same_new hu _ _ ?_
        rw [upd_same]
        rfl
      · exact same_new hu _ _ (same_new hp3 _ _ hD0)
abbrev s__law_free_right : Stmt := top 82
theorem sc__law_free_right : FnScope ["_law_well", "_law_width", "_law_counts", "_law_lines", "_law_start", "_law_some", "_law_freed", "_law_spot", "_law_kind", "_law_ahead", "_law_says", "_law_changes", "_law_at", "_law_registers", "_law_told", "_law_number_here", "_law_forms", "_law_more", "_law_k"] ["_law_well", "_law_width", "_law_counts", "_law_lines", "_law_start", "_law_some"] (defScope s__law_free_right) := ⟨rfl, rfl, rfl, by decide +kernel, rfl, by decide +kernel, by decide +kernel⟩
theorem ok_law_free {f : Addr} {fd : FuncData} (F : Fun K "_law_free_right" "_law_free_right" s__law_free_right f fd) (T : Txt P w K mg base A) (c__law_draw : Cal P w K mg base 1 "_law_draw" ["_law_well", "_law_many"] spDraw) (c__law_form : Cal P w K mg base 3 "_law_form" ["_law_well", "_law_width", "_law_many"] spForm0) (c__law_code_step : Cal P w K mg base 2 "_law_code_step" ["_law_width", "_law_row_here", "_law_registers", "_law_number_here"] (spCodeStep K)) (c_run_code : Cal P w K mg base 6 "run_code" ["code", "numbers"] (spRunG K A)) (G : CdeC P w K mg base A) : FnOk P w K mg base CX0 9 f fd ["_law_well", "_law_width", "_law_counts", "_law_lines", "_law_start", "_law_some"] (spFree K A) := by
  refine F.ok sc__law_free_right (fun vs H Q E h => ?_) (fun cdv Ar outer s H vs Q E hr h => ?_)
  · obtain ⟨p, cl, D, st, t, k, ns, rs, cts, us, crs, sts, nums, q', rfl, _⟩ := h
    rfl
  · obtain ⟨p, cl, D, st, t, k, ns, rs, cts, us, crs, sts, nums, q', rfl, k1, k2, hw, ncl, nD, nt, hcl, hD, hus, hst, ht, hnl, hcw, hin, q⟩ := h
    refine ⟨_, (pss_cons (ps_set (i := 6) sc__law_free_right.nd rfl (Or.inl rfl) (pe_lst pa_nil))
        (pss_cons (ps_for PassesOwn.never rfl (pi_enum (by rfl) T.z_enumerate (pa_cons (pv 3) pa_nil)) (pg_tup rfl (pgs_cons (pg_name (i := 7) sc__law_free_right.nd rfl (Or.inr rfl)) (pgs_cons (pg_tup rfl (pgs_cons (pg_name (i := 8) sc__law_free_right.nd rfl (Or.inl rfl)) (pgs_cons (pg_name (i := 9) sc__law_free_right.nd rfl (Or.inl rfl)) (pgs_cons (pg_name (i := 10) sc__law_free_right.nd rfl (Or.inl rfl)) (pgs_cons (pg_name (i := 11) sc__law_free_right.nd rfl (Or.inl rfl)) pgs_nil))))) pgs_nil))) (pss_cons (ps_setLc (i := 16) (own := [("_law_k", 18)]) (g := gName 18) (tt := tYes) rfl sc__law_free_right.nd rfl rfl (by rfl) (pi_range1 (by rfl) T.z_range (pa_cons (pcal c__law_draw hr (by decide) (pa_cons (pv 0) (pa_cons pe_int pa_nil))) pa_nil)) (blkOk_by (own := [("_law_k", 18)]) (N := ["_law_well", "_law_width", "_law_counts", "_law_lines", "_law_start", "_law_some", "_law_freed", "_law_spot", "_law_kind", "_law_ahead", "_law_says", "_law_changes", "_law_at", "_law_registers", "_law_told", "_law_number_here", "_law_forms", "_law_more", "_law_k"]) (sc := defScope s__law_free_right) (by decide +kernel)) (fun _ _ _ _ _ => pg_name (i := 18) sc__law_free_right.nd rfl (Or.inl rfl)) (fun _ _ _ _ _ => pts_nil) (fun _ _ _ _ _ => (pcal c__law_form hr (by decide) (pa_cons (pv 0) (pa_cons (pv 1) (pa_cons (pe_ix (show IxR _ (rIxL K) from ix_list) (pv 2) (pv 7) (fun _ _ => rfl)) pa_nil))))))
        (pss_one (ps_expr (pe_bm PySem.F.plainAttrs_list PySem.F.slot_list_append PySem.F.type_list_append mt_append (pv 6) (pa_cons (pe_tup (pa_cons (pv 8) (pa_cons (pv 9) (pa_cons (pe_callTy call_tupOf (by rfl) T.z_tuple (by decide +kernel) (pa_cons (pv 16) pa_nil)) (pa_cons (pv 11) pa_nil))))) pa_nil))))))
        (pss_cons (ps_par3 (i := 12) (j := 13) (l := 14) (by rfl) sc__law_free_right.nd rfl rfl rfl (by decide) (by decide) (by decide) rfl rfl rfl (pa_cons pe_int (pa_cons (pv 4) (pa_cons (pe_lst pa_nil) pa_nil))) (by rfl))
        (pss_cons (ps_for PassesOwn.never rfl (pi_list (pv 5)) (pg_name (i := 15) sc__law_free_right.nd rfl (Or.inl rfl)) (pss_cons (ps_asg (pcal c__law_code_step hr (by decide) (pa_cons (pv 1) (pa_cons (pe_ix ix_list (pv 6) (pv 12) (fun _ _ => rfl)) (pa_cons (pv 13) (pa_cons (pv 15) pa_nil))))) (pg_tup rfl (pgs_cons (pg_name (i := 12) sc__law_free_right.nd rfl (Or.inl rfl)) (pgs_cons (pg_name (i := 13) sc__law_free_right.nd rfl (Or.inl rfl)) (pgs_cons (pg_name (i := 17) sc__law_free_right.nd rfl (Or.inl rfl)) pgs_nil)))))
        (pss_one (ps_set (i := 14) sc__law_free_right.nd rfl (Or.inl rfl) (pe_op op_cat (pv 14) (pv 17))))))
        (pss_one (ps_ret (pe_cmpR (op_eqD hr.units) (pcal c_run_code hr (by decide) (pa_cons (G.pe hr (by decide) T.g_Code (pa_cons (pv 1) (pa_cons (pv 2) (pa_cons (pv 6) (pa_cons (pv 4) pa_nil))))) (pa_cons (pv 5) pa_nil))) (pe_tup (pa_cons (pv 12) (pa_cons (pv 13) (pa_cons (pv 14) pa_nil)))) (nomark _)))))))), ?_⟩
    walk_at "lk"
    refine snw (Nat.le_of_ble_eq_true rfl) fun FD hFD => ?_
    have nFD : FD ≠ p := ne_new hw hFD
    walk_at "lk"
    refine ⟨D, us, rfl, SqL.of ((same_new hFD) _ _ hD), ?_⟩
    have w0 : Wk p H (upd H FD (.lst [])) := Wk.of hw (same_new hFD)
    have hul := hus.len
    have hw0 := hw
    have W := hcw.W
    have hln := W.len
    have h25 := W.r25
    have hcln := W.ok.cl
    refine en_by (fun i σ' H' => (∃ e7 e8 e9 e10 e11 e12 e13 e14 e15 e16 e17 e18, σ' = [some (.ref p), some (.int (k : Int)), some (.ref cl), some (.ref D), some (.ref st), some (.ref t), some (.ref FD), e7, e8, e9, e10, e11, e12, e13, e14, e15, e16, e17, e18]) ∧ Wk p H H' ∧
        ∃ vs crs', H' FD = some (.lst vs) ∧ F2 (CRowH H') vs crs' ∧ crs'.length = i ∧ ∀ (j : Nat) (r r' : CRow), crs[j]? = some r → crs'[j]? = some r' → FreeR k cts j r r') ⟨⟨_, _, _, _, _, _, _, _, _, _, _, _, rfl⟩, w0, [], [], upd_same, .nil, rfl, fun j r r' _ h => by simp at h⟩ (fun i σ' H' _ h => SqL.of (h.2.1.at nD hD)) ?_ ?_
    · rintro i v pp σ' H1 hi ⟨⟨e7, e8, e9, e10, e11, e12, e13, e14, e15, e16, e17, e18, rfl⟩, w1, vs, crs', h1, h2, h3, h4⟩ hp
      have s3 := same_new (o := .tup [.int (i : Nat), v]) hp
      have hilt : i < crs.length := by have := (List.getElem?_eq_some_iff.mp hi).1; omega
      obtain ⟨r, hri⟩ : ∃ r, crs[i]? = some r := ⟨_, List.getElem?_eq_getElem hilt⟩
      obtain ⟨v', hv', hrv⟩ := hus.get hri
      obtain rfl : v' = v := Option.some.inj (hv'.symm.trans hi)
      have w3 : Wk p H (upd H1 pp (.tup [.int (i : Nat), v'])) := w1.st s3
      have hrv3 := hrv.ts (w3.ts hw)
      obtain ⟨ra, nb, c1, d1, rfl, hra, hnb, hc1, hd1⟩ := hrv3
      refine ⟨pp, [.int (i : Nat), .ref ra], rfl, SqT.of upd_same, rfl, .int (i : Nat), [.ref ra], rfl, .ref ra, [], rfl, ?_⟩
      refine g_quadC (SqT.of hra) ⟨rfl, ?_⟩
      generalize upd H1 pp (.tup [.int (i : Nat), .ref ra]) = H3 at s3 w3 hra hnb hc1 hd1 ⊢
      have okr := W.ok.ok i r hri
      have hci : cts[((i : Nat) : Int).toNat]? = some (cts.getD i 0) := by simpa using getD_at (by omega)
      have cb := W.ok.c0 _ (List.mem_of_getElem? hci)
      have c5 := W.c6 _ (List.mem_of_getElem? hci)
      obtain ⟨n0, hn0⟩ : ∃ n0 : Nat, (n0 : Int) = cts.getD i 0 := ⟨(cts.getD i 0).toNat, by omega⟩
      have f3 := s3 _ _ h1
      have g3 : F2 (CRowH H3) vs crs' := h2.mono fun _ _ z => z.ts (Ts.of s3)
      walk_at "lk"
      try unfold tLc iRng1
      walk_at "lk"
      refine ⟨p, 4, rfl, by decide, by decide, w3.2, fun rr H4 r00 r01 w4' => ?_⟩
      have w4 := w3.trans w4'
      walk_at "lk"
      obtain ⟨m, rfl⟩ : ∃ m : Nat, rr = (m : Int) := ⟨rr.toNat, by omega⟩
      refine ⟨(m : Int), rfl, by omega, by omega, fun L1 hL1 => ?_⟩
      rw [Int.toNat_natCast]
      refine tlc_rangeW (FoR k (n0 + 1)) (fun s h => h.ts s) w4.2 hL1 (by omega) (fun _ => rfl) (fun j H' hj wj R qr => ?_) (fun ys sy H7 w7 hys fys ly => ?_)
      · walk_at "lk"
        refine sfr (SqL.of ((w4.trans wj).at ncl hcl)) (atI_ints hci (by omega)) ?_
        walk_at "lk"
        exact ⟨p, k, n0, by rw [hn0]; rfl, k2, by omega, wj.2, fun b f H'' wf hb hfl hfb => qr _ f _ wf ⟨⟨b, rfl, hb⟩, hfl, hfb⟩⟩
      have w47 := w4'.trans w7
      have f7 := w47.at nFD f3
      walk_at "lk"
      refine ⟨.inl ⟨rfl, _, SqL.of f7⟩, ?_⟩
      walk_at "lk"
      refine s_tupL hys fun sp H8 s8 hsp0 hsp => ?_
      walk_at "lk"
      refine snw (Nat.le_of_ble_eq_true rfl) fun qp hqp => ?_
      have s9 : Same H8 (upd H8 qp (.tup [.str r.kd, nb, .ref sp, d1])) := same_new hqp
      have e9 : (upd H8 qp (.tup [.str r.kd, nb, .ref sp, d1])) qp = some (.tup [.str r.kd, nb, .ref sp, d1]) := upd_same
      generalize upd H8 qp (.tup [.str r.kd, nb, .ref sp, d1]) = H9 at s9 e9 ⊢
      have w9 : Wk p H3 H9 := w47.st (s8.trans s9)
      have row : CRowH H9 (.ref qp) ⟨r.kd, r.nx, sy, r.ch⟩ := ⟨qp, nb, .ref sp, d1, rfl, e9, hnb.ts (w9.ts w3.2), ⟨sp, ys, rfl, s9 _ _ hsp, fys.mono fun _ _ z => z.1.ts (Ts.of (s8.trans s9))⟩, hd1.ts (w9.ts w3.2)⟩
      have f9 := w9.at nFD f3
      have hvl := h2.len
      refine ⟨FD, vs, .ref qp, rfl, rfl, f9, small1000 (by omega), ?_⟩
      have t9 : Ts H9 (upd H9 FD (.lst (vs ++ [.ref qp]))) := Ts.lst f9
      refine ⟨⟨_, _, _, _, _, _, _, _, _, _, _, _, rfl⟩, (w3.trans w9).updD hFD nFD, vs ++ [.ref qp], crs' ++ [⟨r.kd, r.nx, sy, r.ch⟩], upd_same, (g3.mono fun _ _ z => (z.ts (w9.ts w3.2)).ts t9).append (.cons (row.ts t9) .nil), by rw [List.length_append, h3]; rfl, fun j r1 r2 hj1 hj2 => ?_⟩
      by_cases hlt2 : j < crs'.length
      · rw [List.getElem?_append_left hlt2] at hj2
        exact h4 j r1 r2 hj1 hj2
      · rw [List.getElem?_append_right (by omega)] at hj2
        have : j - crs'.length = 0 := by
          have := (List.getElem?_eq_some_iff.mp hj2).1
          simp at this
          exact this
        have em : j = i := by omega
        rw [this] at hj2
        cases hj2
        subst em
        rw [hri] at hj1
        cases hj1
        refine ⟨rfl, rfl, rfl, by show sy.length ≤ 3; omega, fun f hf => ?_⟩
        obtain ⟨m2, hm2⟩ := List.getElem?_of_mem hf
        obtain ⟨u, _, hu⟩ := fys.get hm2
        exact ⟨by have := hu.2.1; omega, hu.2.2⟩
    rintro σ' H1 ⟨⟨e7, e8, e9, e10, e11, e12, e13, e14, e15, e16, e17, e18, rfl⟩, w1, vs, crs', h1, h2, h3, h4⟩
    have W' : CW k ns rs cts crs' sts := free_W W (by omega) h4
    have hcw' : CWay k ns rs cts crs' sts (0, sts, []) q' nums := ⟨W', hcw.g, hcw.e, hcw.g', hcw.f⟩
    have nst : st ≠ p := ne_well hw hst (fun _ _ _ z => by cases z)
    have hcl1 := w1.at ncl hcl
    have hst1 := w1.at nst hst
    have ht1 := w1.at nt ht
    clear hw hw0 w0 hcl hD hus hst ht
    dsimp only
    refine ssq ?_
    refine spr3 ?_
    walk_at "lk"
    refine snw (Nat.le_of_ble_eq_true rfl) fun TD hTD => ?_
    have s2 : Same H1 (upd H1 TD (.lst [])) := same_new hTD
    have e2 : (upd H1 TD (.lst [])) TD = some (.lst []) := upd_same
    generalize upd H1 TD (.lst []) = H2 at s2 e2 ⊢
    refine ⟨_, _, _, rfl, ?_⟩
    dsimp only
    refine ssq ?_
    refine sfor ?_
    refine sils ?_
    walk_at "lk"
    refine ⟨t, rfl, ⟨_, SqL.of (s2 _ _ ht1)⟩, for_list (xs := nums.map V.int) (fun c σ' H' => (∃ (b TE : Addr) (e7 e8 e9 e10 e11 e15 e16 e17 e18 : Option V), σ' = [some (.ref p), some (.int (k : Int)), some (.ref cl), some (.ref D), some (.ref st), some (.ref t), some (.ref FD), e7, e8, e9, e10, e11, some (.int (crun k rs crs' (0, sts, []) (nums.take c)).1), some (.ref b), some (.ref TE), e15, e16, e17, e18] ∧ H' b = some (.tup ((crun k rs crs' (0, sts, []) (nums.take c)).2.1.map V.int)) ∧ H' TE = some (.lst ((crun k rs crs' (0, sts, []) (nums.take c)).2.2.map V.int))) ∧ Same H2 H') ⟨⟨st, TD, _, _, _, _, _, _, _, _, _, rfl, s2 _ _ hst1, e2⟩, Same.refl _⟩ (fun c σ' H' _ h => SqL.of (h.2 _ _ (s2 _ _ ht1))) ?_ ?_⟩
    · rintro n v σ' H3 hi ⟨⟨b, TE, e7, e8, e9, e10, e11, e15, e16, e17, e18, rfl, hb, hTE⟩, s3⟩
      rw [List.getElem?_map] at hi
      obtain ⟨z, hz, rfl⟩ := Option.map_eq_some_iff.mp hi
      obtain ⟨r, c, hr0, hc0, hf, hstep⟩ := hcw'.step hz
      have hcl := (List.getElem?_eq_some_iff.mp hz).1
      have hg := hcw'.good n (Nat.le_of_lt hcl)
      have hsl := hcw'.said n (Nat.le_of_lt hcl)
      rw [hstep]
      generalize crun k rs crs' (0, sts, []) (nums.take n) = qc at hr0 hc0 hg hstep hsl hb hTE ⊢
      have S13 := s2.trans s3
      obtain ⟨v, hv, hcv⟩ := h2.get hc0
      obtain ⟨k1', k2', k3', k4', k5', k6', k7', k8', k9'⟩ := step_facts W' hg hr0 hc0 hf
      have hg0 := hg.r0
      refine sgn ?_
      refine ssq ?_
      walk_at "lk"
      refine sfr (SqL.of (S13 _ _ h1)) (by rw [← Int.toNat_of_nonneg hg0]; exact Lk.atI_nat hv) ?_
      walk_at "lk"
      refine ⟨k, v, b, z, nxM r z, c, qc.2.1, rfl, hcv.ts (Ts.of S13), SqT.of hb, k2, k9', k1', k2', k3', k4', k5', k6', k7', k8', fun u b' D2 H4 s4 hu hb' hD' => ?_⟩
      refine g_trip3 (SqT.of hu) ?_
      walk_at "lk"
      refine ⟨TE, D2, _, _, rfl, rfl, s4 _ _ hTE, hD', ?_, fun D3 hD3 => ?_⟩
      · rw [List.length_map, List.length_map]
        have hsl' : qc.2.2.length ≤ 0 + 6 * n := hsl
        have hcs : (csd k c qc.2.1).length = c.sy.length := List.length_map ..
        exact Nat.le_of_lt (small1000 (by omega))
      · refine ⟨⟨b', D3, _, _, _, _, _, _, _, _, _, rfl, same_new hD3 _ _ hb', ?_⟩, s3.trans (s4.trans (same_new hD3))⟩
        rw [upd_same, List.map_append]
    rintro σ' H3 ⟨⟨b, TE, e7, e8, e9, e10, e11, e15, e16, e17, e18, rfl, hb, hTE⟩, s3⟩
    rw [List.length_map, List.take_length] at hb hTE
    have S13 := s2.trans s3
    rw [List.length_map]
    rw [List.take_length]
    walk_at "lk"
    refine s_newC k1 k2 (.inl (SqL.of (S13 _ _ hcl1))) (.inl (SqL.of (S13 _ _ h1))) (h2.mono fun _ _ z => z.ts (Ts.of S13)) (SqT.of (S13 _ _ hst1)) W'.ok fun x H4 s4 hx => ?_
    rw [list_low W'.low, inR_map hin] at hx
    walk_at "lk"
    have S14 := S13.trans s4
    refine ⟨x, t, k, ns, rs, cts, crs', sts, nums, q', rfl, hx, W', k2, .inl (SqL.of (S14 _ _ ht1)), hnl, hcw', fun u H5 s5 hu => ?_⟩
    obtain ⟨b2, D2, _, hu1, hu2, hu3⟩ := hu
    walk_at "lk"
    refine snw (Nat.le_of_ble_eq_true rfl) fun u2 hu2' => ?_
    have s6 := same_new (o := .tup [.int (crun k rs crs' (0, sts, []) nums).1, .ref b, .ref TE]) hu2'
    have S36 := (s4.trans s5).trans s6
    walk_at "lk"
    exact s_eqTd (SqT.of (s6 _ _ hu1)) (SqT.of (s6 _ _ hu2)) (SqL.of (s6 _ _ hu3)) (SqT.of upd_same) (SqT.of (S36 _ _ hb)) (SqL.of (S36 _ _ hTE)) (q _ (w1.st (S13.trans S36)))
end
end K42

namespace K42
open PySem PySem.Spec PyProof.Rows L2 RZ Lk
local macro_rules | `(tactic| walk_at "lk") => `(tactic| (repeat (first
  | with_reducible refine ssq ?_ | with_reducible refine sas ?_ | with_reducible refine sgn ?_ | ((with_reducible show tVar _ _ _ _); refine sv rfl ?_) | with_reducible refine sc ?_ | with_reducible refine sop ?_ | with_reducible refine sun ?_
  | with_reducible refine sI0 ?_ | with_reducible refine sU ?_ | with_reducible refine stt ?_ | with_reducible refine stB ?_ | with_reducible refine sbl ?_ | with_reducible refine snt ?_ | with_reducible refine sif ?_ | with_reducible refine scB ?_
  | with_reducible refine scn ?_ | with_reducible refine snl ?_ | with_reducible refine scl ?_ | with_reducible refine stu ?_ | with_reducible refine sli ?_ | with_reducible refine sdr ?_ | with_reducible refine srt ?_ | with_reducible refine snx ?_ | with_reducible refine sfor ?_ | with_reducible refine sils ?_ | with_reducible refine sien ?_ | with_reducible refine sor ?_ | with_reducible refine sfg ?_
  | with_reducible refine sav ?_ | with_reducible refine sov ?_ | with_reducible refine snv ?_ | with_reducible refine sch ?_ | with_reducible refine san ?_ | with_reducible refine ssll ?_ | with_reducible refine spt ?_ | with_reducible refine snp ?_ | with_reducible refine sin ?_ | with_reducible refine sfl ?_ | with_reducible refine sfd ?_ | with_reducible refine sbm ?_ | with_reducible refine sifx ?_ | with_reducible refine smk ?_ | with_reducible refine ssli ?_ | with_reducible refine sbz ?_ | with_reducible refine smkk ?_ | with_reducible refine sck0 ?_
  | ((with_reducible show Or _ _); first | refine Or.inl ⟨_, rfl, ?_⟩ | refine Or.inr ⟨_, rfl, ?_⟩))))

def LR {α β : Type} (G : α → β → Prop) (as : List α) (bs : List β) : Prop := bs.length = as.length ∧ ∀ (i : Nat) (a : α) (b : β), as[i]? = some a → bs[i]? = some b → G a b
theorem LR.nil {α β : Type} {G : α → β → Prop} : LR G [] [] := ⟨rfl, fun i a b h => by simp at h⟩
theorem LR.snoc {α β : Type} {G : α → β → Prop} {as : List α} {bs : List β} {a : α} {b : β} (h : LR G as bs) (g : G a b) : LR G (as ++ [a]) (bs ++ [b]) := by
  refine ⟨by rw [List.length_append, List.length_append, h.1]; rfl, fun i a' b' h1 h2 => ?_⟩
  have hl := h.1
  by_cases c : i < as.length
  · rw [List.getElem?_append_left c] at h1
    rw [List.getElem?_append_left (by omega)] at h2
    exact h.2 i a' b' h1 h2
  · rw [List.getElem?_append_right (by omega)] at h1 h2
    have e1 : i - as.length = 0 := by
      have := (List.getElem?_eq_some_iff.mp h1).1
      simp at this
      exact this
    have e2 : i - bs.length = 0 := by omega
    rw [e1] at h1
    rw [e2] at h2
    cases h1
    cases h2
    exact g
/-- [f(x) for x in t], t a list, f draws -/
theorem tlc_listW {K : PySem.W.Frag} {α β : Type} {a : Addr} {xs : List V} {as : List α} {k : Nat} {te : TE} {vs : List Nat} {Qd : Hp → Prop} {D p : Addr} {H : Hp} {σ : L2.St} (Rin : Hp → V → α → Prop) (R : Hp → V → β → Prop) (G : α → β → Prop)
    (iS : ∀ {H H' v x}, Ts H H' → Rin H v x → Rin H' v x) (rS : ∀ {H H' v x}, Ts H H' → R H v x → R H' v x) (hp : Wl H p) (na : a ≠ p) (hx : H a = some (.lst xs)) (hr : F2 (Rin H) xs as) (hn : xs.length ≤ 1000) (hD : H D = none)
    (hw : ∀ x, wipe ((wipe σ vs).set k (some x)) vs = wipe σ vs)
    (he : ∀ (i : Nat) (x : V) (r : α) (H' : Hp), as[i]? = some r → Rin H' x r → Wk p H H' → ∀ Q : VK, (∀ u y H'', Wk p H' H'' → R H'' u y → G r y → Q u H'') → te ((wipe σ vs).set k (some x)) H' Q)
    (q : ∀ ys bs H', Wk p H H' → H' D = some (.lst ys) → F2 (R H') ys bs → LR G as bs → Qd H') :
    ∃ W : Nat → Nat → Hp → Prop, (∃ m, W 0 m (upd H D (.lst []))) ∧ ∀ i m H, W i m H → ((Itl K a).stop i H ∧ Qd H) ∨ ((Itl K a).go i H ∧ ∃ Nx : Hp → Prop, (∀ H', Nx H' → ∃ m', m' < m ∧ W (i + 1) m' H') ∧ ∀ x H', (Itl K a).yld i H x H' → gName k x (wipe σ vs) H' fun σ2 H2 => wipe σ2 vs = wipe σ vs ∧ tYes σ2 H2 fun b H3 =>
        if b = true then te σ2 H3 fun y H4 => ∃ ac, H4 D = some (.lst ac) ∧ ac.length < sizeLine ∧ Nx (upd H4 D (.lst (ac ++ [y]))) else Nx H3) := by
  have nD : D ≠ p := ne_new hp hD
  refine lc_list (xs := xs) (fun i H' => Wk p H H' ∧ ∃ us bs, H' D = some (.lst us) ∧ F2 (R H') us bs ∧ LR G (as.take i) bs) ⟨Wk.of hp (same_new hD), [], [], upd_same, .nil, LR.nil⟩ (fun i H' _ h => SqL.of (h.1.at na hx)) ?_ ?_
  · rintro i x H1 hi ⟨w1, us, bs, h1, h2, h3⟩
    refine ⟨hw _, ?_⟩
    unfold tYes
    simp only [if_true]
    obtain ⟨r, hri, hrv⟩ := hr.at hi
    refine he i x r H1 hri (iS (w1.ts hp) hrv) w1 _ fun v y H2 w2 hv hg => ?_
    have e2 := w2.at nD h1
    have t2 : Ts H2 (upd H2 D (.lst (us ++ [v]))) := Ts.lst e2
    have hlt := (List.getElem?_eq_some_iff.mp hi).1
    have hb := h3.1
    rw [List.length_take] at hb
    refine ⟨us, e2, by rw [h2.len, hb]; exact small1000 (by omega), (w1.trans w2).updD hD nD, us ++ [v], bs ++ [y], upd_same, (h2.mono fun _ _ z => rS t2 (rS (w2.ts w1.2) z)).append (.cons (rS t2 hv) .nil), ?_⟩
    rw [take_snoc hri]
    exact h3.snoc hg
  · rintro H1 ⟨w1, us, bs, h1, h2, h3⟩
    rw [hr.len, List.take_length] at h3
    exact q us bs H1 w1 h1 h2 h3
def names3 : List Str := ["y", "x", "zed"]
theorem names3_ok (c : Nat) (h1 : 1 ≤ c) (h2 : c ≤ 3) : NamesOk (names3.take c) := by
  have h : c = 1 ∨ c = 2 ∨ c = 3 := by omega
  unfold NamesOk
  rcases h with rfl | rfl | rfl <;> decide +kernel
section
variable {k : Nat} {ns : List Str} {rs : List LRow}
theorem wrongL_app : ∀ (nums : List Int) (q : Q3) (more : List PyData) (n : Nat), Fits k ns rs q nums → wrongL rs q.1 (nums.map PyData.int ++ more) n = wrongL rs (runF k ns rs q nums).1 more (n + nums.length)
  | [], _, _, _, _ => rfl
  | x :: nums, q, more, n, h => by
    obtain ⟨r, h1, h2⟩ := h 0 x rfl
    replace h1 : rs[q.1.toNat]? = some r := h1
    have h3 : Fits k ns rs (stp k ns rs q x) nums := fun i y hy => h (i + 1) y hy
    have e : (stp k ns rs q x).1 = nxM r x := by
      unfold stp
      rw [h1]
    have ih := wrongL_app nums (stp k ns rs q x) more (n + 1) h3
    rw [e] at ih
    show wrongL rs q.1 (.int x :: (nums.map PyData.int ++ more)) n = wrongL rs (runF k ns rs (stp k ns rs q x) nums).1 more (n + (nums.length + 1))
    rw [wrongL, h1]
    dsimp only
    rw [if_pos (fitM_D h2), show n + (nums.length + 1) = n + 1 + nums.length by omega]
    exact ih
theorem wrongL_at {i : Int} {r : LRow} {d : PyData} {ds : List PyData} {n : Nat} (hr : rs[i.toNat]? = some r) (hf : fitD r d = false) : wrongL rs i (d :: ds) n = some (n : Int) := by
  rw [wrongL, hr]
  dsimp only
  rw [if_neg (by rw [hf]; exact Bool.false_ne_true)]
theorem fits_take {q : Q3} {nums : List Int} (h : Fits k ns rs q nums) (n : Nat) : Fits k ns rs q (nums.take n) := fun i x hx => by
  rw [List.getElem?_take] at hx
  by_cases c : i < n
  · rw [if_pos c] at hx
    rw [List.take_take, Nat.min_eq_left (by omega)]
    exact h i x hx
  · rw [if_neg c] at hx
    cases hx
theorem Way.take {q : Q3} {nums : List Int} (h : Way k ns rs q nums) (n : Nat) : Way k ns rs q (nums.take n) := ⟨h.ok, h.good, fits_take h.fits n⟩
theorem Way.at {q : Q3} {nums : List Int} (h : Way k ns rs q nums) {n : Nat} (hn : n ≤ nums.length) : Good3 k ns.length rs.length (runF k ns rs q (nums.take n)) := good_run h.ok h.good h.fits n hn
end
def ldD (xs : List Int) : PyData := .list (xs.map PyData.int)
theorem ld_sh {xs : List Int} : SeqAt.shaped (ldD xs) = true := by
  unfold SeqAt.shaped ldD
  simp only [PyData.canLay0, PyData.canLayAll0, PyData.depth, PyData.depthAll]
  rw [cl_map fun r hr => (by simp [PyData.canLay0])]
  have d1 := dep_map (f := PyData.int) (n := 0) (xs := xs) fun r _ => by simp [PyData.depth]
  simp only [Bool.and_true, Bool.true_and]
  exact decide_eq_true (by omega)
theorem s_eqNil {K : PySem.W.Frag} {H : Hp} {u v : Addr} {xs : List Int} {Q : VK} (hu : SqL K H u (xs.map V.int)) (hv : SqL K H v []) (kt : xs = [] → Q (.bl true) H) (kf : xs ≠ [] → Q (.bl false) H) : rEqD K (.ref u) (.ref v) H Q := by
  refine ⟨ldD xs, ldD [], .lst hu (dp_ints _), .lst hv (dp_ints []), ld_sh, ld_sh, ?_⟩
  cases xs with
  | nil =>
    rw [SeqAt.eqv_refl _ (SeqAt.canLay_of_shaped ld_sh)]
    exact kt rfl
  | cons x xs => exact kf (by simp)

/-- what stands while the law goes on -/
structure Sr (K : PySem.W.Frag) (A : Ad) (H0 H : Hp) (p l RL cl D st x : Addr) (k : Nat) (ns : List Str) (us : List V) (rs : List LRow) (cts : List Int) (vs : List V) (crs : List CRow) (sts : List Int) : Prop where
  w : Wk p H0 H
  en : H l = some (.lst (ns.map V.str))
  er : H RL = some (.lst us)
  fr : RowsH H us rs
  ec : H cl = some (.lst (cts.map V.int))
  ed : H D = some (.lst vs)
  fd : F2 (CRowH H) vs crs
  es : H st = some (.tup (sts.map V.int))
  cx : CodeO K A.Code H x k cts crs sts
section
variable {K : PySem.W.Frag} {A : Ad} {H0 H H' : Hp} {p l RL cl D st x : Addr} {k : Nat} {ns : List Str} {us : List V} {rs : List LRow} {cts : List Int} {vs : List V} {crs : List CRow} {sts : List Int}
theorem Sr.same (h : Sr K A H0 H p l RL cl D st x k ns us rs cts vs crs sts) (s : Same H H') : Sr K A H0 H' p l RL cl D st x k ns us rs cts vs crs sts :=
  ⟨h.w.st s, s _ _ h.en, s _ _ h.er, h.fr.ts (Ts.of s), s _ _ h.ec, s _ _ h.ed, h.fd.mono fun _ _ z => z.ts (Ts.of s), s _ _ h.es, h.cx.lc (Lc.of s)⟩
theorem Sr.wk (h : Sr K A H0 H p l RL cl D st x k ns us rs cts vs crs sts) (w : Wk p H H') (n1 : l ≠ p) (n2 : RL ≠ p) (n3 : cl ≠ p) (n4 : D ≠ p) : Sr K A H0 H' p l RL cl D st x k ns us rs cts vs crs sts :=
  ⟨h.w.trans w, w.at n1 h.en, w.at n2 h.er, h.fr.ts (w.ts h.w.2), w.at n3 h.ec, w.at n4 h.ed, h.fd.mono fun _ _ z => z.ts (w.ts h.w.2), w.at (ne_well h.w.2 h.es (fun _ _ _ z => by cases z)) h.es, h.cx.lc (Lc.wk h.w.2 w)⟩
end
theorem Lc_wk {p : Addr} {H H' : Hp} (w0 : Wl H p) (w : Wk p H H') : Lc H H' := Lc.wk w0 w
theorem rk_stop {r : LRow} (h : rkOf r = ("stop" : Str)) : r = .stop := by
  cases r with
  | stop => rfl
  | set nm f j => exact absurd h (by decide +kernel : ¬ ("set" : Str) = ("stop" : Str))
  | say f j => exact absurd h (by decide +kernel : ¬ ("say" : Str) = ("stop" : Str))
  | ask n j => exact absurd h (by decide +kernel : ¬ ("ask" : Str) = ("stop" : Str))
  | choose ks => exact absurd h (by decide +kernel : ¬ ("choose" : Str) = ("stop" : Str))
  | look j => exact absurd h (by decide +kernel : ¬ ("look" : Str) = ("stop" : Str))
def spRight : Sp := fun vs H Q _ => ∃ p : Addr, vs = [.ref p] ∧ Wl H p ∧ ∀ H', Wk p H H' → Q (.bl true) H'
section
variable {P : Program} {w : World} {K : PySem.W.Frag} {mg : Str → Option Value} {base : Heap} {A : Ad}
abbrev s__law_right : Stmt := top 83
theorem sc__law_right : FnScope ["_law_well", "_law_width", "_law_total", "_law_names", "_law_rows_here", "_law_counts", "_law_lines", "_law_start", "_law_code_so", "_law_numbers_so", "_law_spot", "_law_state", "_law_said", "_law_at", "_law_registers", "_law_told", "_law_number_here", "_law_plain_here", "_law_due", "_law_odd_here", "_law_half_at", "_law_here", "_law_more", "_law_row_here"] ["_law_well"] (defScope s__law_right) := ⟨rfl, rfl, rfl, by decide +kernel, rfl, by decide +kernel, by decide +kernel⟩
theorem ok_right {f : Addr} {fd : FuncData} (F : Fun K "_law_right" "_law_right" s__law_right f fd) (T : Txt P w K mg base A) (c__law_draw : Cal P w K mg base 1 "_law_draw" ["_law_well", "_law_many"] spDraw) (c__law_one : Cal P w K mg base 2 "_law_one" ["_law_well", "_law_some"] spOne) (c__law_rows : Cal P w K mg base 5 "_law_rows" ["_law_well", "_law_width", "_law_names", "_law_total"] spRows) (c__law_drawn : Cal P w K mg base 4 "_law_drawn" ["_law_well", "_law_width", "_law_names", "_law_rows_here", "_law_counts"] spDrawn) (c__law_walked : Cal P w K mg base 4 "_law_walked" ["_law_well", "_law_width", "_law_names", "_law_rows_here", "_law_spot", "_law_state", "_law_most"] (spWalk K)) (c__law_code_step : Cal P w K mg base 2 "_law_code_step" ["_law_width", "_law_row_here", "_law_registers", "_law_number_here"] (spCodeStep K)) (c_run_code : Cal P w K mg base 6 "run_code" ["code", "numbers"] (spRunG K A)) (c_run_codeK : Cak P w K mg base 6 "run_code" ["code", "numbers"] ["numbers", "code"] (spRunG K A)) (c__law_free_right : Cal P w K mg base 9 "_law_free_right" ["_law_well", "_law_width", "_law_counts", "_law_lines", "_law_start", "_law_some"] (spFree K A)) (c__law_plain : Cal P w K mg base 2 "_law_plain" ["_law_width", "_law_names", "_law_rows_here"] spPlain) (c_run : Cal P w K mg base 7 "run" ["program", "numbers"] (spRun K A)) (c__law_raised : Cal P w K mg base 7 "_law_raised" ["_law_code_so", "_law_numbers_so"] (spRaisedC K A)) (c__law_odd : Cal P w K mg base 3 "_law_odd" ["_law_well", "_law_row_here"] spOdd) (G : CdeC P w K mg base A) (GP : Prg P w K mg base A) : FnOk P w K mg base CX0 10 f fd ["_law_well"] spRight := by
  refine F.ok sc__law_right (fun vs H Q E h => ?_) (fun cdv Ar outer s H vs Q E hr h => ?_)
  · obtain ⟨p, rfl, _⟩ := h
    rfl
  · obtain ⟨p, rfl, hw, q⟩ := h
    refine ⟨_, (pss_cons (ps_par (i := 1) (j := 2) (by rfl) sc__law_right.nd rfl rfl (by decide) rfl rfl (pa_cons (pcal c__law_one hr (by decide) (pa_cons (pv 0) (pa_cons (pe_lst (pa_cons pe_int (pa_cons pe_int (pa_cons pe_int (pa_cons pe_int (pa_cons pe_int pa_nil)))))) pa_nil))) (pa_cons (pe_op op_add pe_int (pcal c__law_draw hr (by decide) (pa_cons (pv 0) (pa_cons pe_int pa_nil)))) pa_nil)) (by rfl))
        (pss_cons (ps_set (i := 3) sc__law_right.nd rfl (Or.inl rfl) (pe_slice sl_list (pe_lst (pa_cons pe_str (pa_cons pe_str (pa_cons pe_str pa_nil)))) po_none (po_some (pe_op op_add pe_int (pcal c__law_draw hr (by decide) (pa_cons (pv 0) (pa_cons pe_int pa_nil)))))))
        (pss_cons (ps_set (i := 4) sc__law_right.nd rfl (Or.inl rfl) (pcal c__law_rows hr (by decide) (pa_cons (pv 0) (pa_cons (pv 1) (pa_cons (pv 3) (pa_cons (pv 2) pa_nil))))))
        (pss_cons (ps_asg (pcal c__law_drawn hr (by decide) (pa_cons (pv 0) (pa_cons (pv 1) (pa_cons (pv 3) (pa_cons (pv 4) (pa_cons (pe_lc (own := [("_law_row_here", 23)]) (g := gName 23) (tt := tYes) rfl sc__law_right.nd (pi_list (pv 4)) (blkOk_by (own := [("_law_row_here", 23)]) (N := ["_law_well", "_law_width", "_law_total", "_law_names", "_law_rows_here", "_law_counts", "_law_lines", "_law_start", "_law_code_so", "_law_numbers_so", "_law_spot", "_law_state", "_law_said", "_law_at", "_law_registers", "_law_told", "_law_number_here", "_law_plain_here", "_law_due", "_law_odd_here", "_law_half_at", "_law_here", "_law_more", "_law_row_here"]) (sc := defScope s__law_right) (by decide +kernel)) (fun _ _ _ _ _ => pg_name (i := 23) sc__law_right.nd rfl (Or.inl rfl)) (fun _ _ _ _ _ => pts_nil) (fun _ _ _ _ _ => (pcal c__law_draw hr (by decide) (pa_cons (pv 0) (pa_cons pe_int pa_nil))))) pa_nil)))))) (pg_tup rfl (pgs_cons (pg_name (i := 5) sc__law_right.nd rfl (Or.inl rfl)) (pgs_cons (pg_name (i := 6) sc__law_right.nd rfl (Or.inl rfl)) (pgs_cons (pg_name (i := 7) sc__law_right.nd rfl (Or.inl rfl)) pgs_nil)))))
        (pss_cons (ps_set (i := 8) sc__law_right.nd rfl (Or.inl rfl) (G.pe hr (by decide) T.g_Code (pa_cons (pv 1) (pa_cons (pv 5) (pa_cons (pv 6) (pa_cons (pv 7) pa_nil))))))
        (pss_cons (ps_asg (pcal c__law_walked hr (by decide) (pa_cons (pv 0) (pa_cons (pv 1) (pa_cons (pv 3) (pa_cons (pv 4) (pa_cons pe_int (pa_cons (pe_op op_repZ (pe_tup (pa_cons pe_int pa_nil)) (pe_callB call_len_seq (by rfl) T.z_len PySem.boot_len (pa_cons (pv 3) pa_nil))) (pa_cons (pcal c__law_draw hr (by decide) (pa_cons (pv 0) (pa_cons pe_int pa_nil))) pa_nil)))))))) (pg_tup rfl (pgs_cons (pg_name (i := 9) sc__law_right.nd rfl (Or.inl rfl)) (pgs_cons (pg_name (i := 10) sc__law_right.nd rfl (Or.inl rfl)) (pgs_cons (pg_name (i := 11) sc__law_right.nd rfl (Or.inl rfl)) (pgs_cons (pg_name (i := 12) sc__law_right.nd rfl (Or.inl rfl)) pgs_nil))))))
        (pss_cons (ps_par3 (i := 13) (j := 14) (l := 15) (by rfl) sc__law_right.nd rfl rfl rfl (by decide) (by decide) (by decide) rfl rfl rfl (pa_cons pe_int (pa_cons (pv 7) (pa_cons (pe_lst pa_nil) pa_nil))) (by rfl))
        (pss_cons (ps_for PassesOwn.never rfl (pi_list (pv 9)) (pg_name (i := 16) sc__law_right.nd rfl (Or.inl rfl)) (pss_cons (ps_asg (pcal c__law_code_step hr (by decide) (pa_cons (pv 1) (pa_cons (pe_ix ix_list (pv 6) (pv 13) (fun _ _ => rfl)) (pa_cons (pv 14) (pa_cons (pv 16) pa_nil))))) (pg_tup rfl (pgs_cons (pg_name (i := 13) sc__law_right.nd rfl (Or.inl rfl)) (pgs_cons (pg_name (i := 14) sc__law_right.nd rfl (Or.inl rfl)) (pgs_cons (pg_name (i := 22) sc__law_right.nd rfl (Or.inl rfl)) pgs_nil)))))
        (pss_one (ps_set (i := 15) sc__law_right.nd rfl (Or.inl rfl) (pe_op op_cat (pv 15) (pv 22))))))
        (pss_cons (ps_if (PW.pt (pw_or (pt_cmpR (op_neD hr.units) (pcal c_run_code hr (by decide) (pa_cons (pv 8) (pa_cons (pv 9) pa_nil))) (pe_tup (pa_cons (pv 10) (pa_cons (pv 14) (pa_cons (pv 15) pa_nil)))) (nomark _)) (pw_or1 (pt_cmpR op_ne (pv 13) (pv 10) (nomark _))))) (pss_one (ps_ret pe_bl)) pss_nil)
        (pss_cons (ps_if (pt_cmpR (op_neD hr.units) (pcak c_run_codeK hr (by decide) (pk_cons (pe_callTy call_tupOf (by rfl) T.z_tuple (by decide +kernel) (pa_cons (pv 9) pa_nil)) (pk_cons (pv 8) pk_nil))) (pe_tup (pa_cons (pv 13) (pa_cons (pv 14) (pa_cons (pv 15) pa_nil)))) (nomark _)) (pss_one (ps_ret pe_bl)) pss_nil)
        (pss_cons (ps_if (pt_not (pt_val (pcal c__law_free_right hr (by decide) (pa_cons (pv 0) (pa_cons (pv 1) (pa_cons (pv 5) (pa_cons (pv 6) (pa_cons (pv 7) (pa_cons (pv 9) pa_nil))))))))) (pss_one (ps_ret pe_bl)) pss_nil)
        (pss_cons (ps_set (i := 17) sc__law_right.nd rfl (Or.inl rfl) (pcal c__law_plain hr (by decide) (pa_cons (pv 1) (pa_cons (pv 3) (pa_cons (pv 4) pa_nil)))))
        (pss_cons (ps_set (i := 18) sc__law_right.nd rfl (Or.inl rfl) (pcal c_run hr (by decide) (pa_cons (GP.pe hr (by decide) T.g_Program (pa_cons (pv 1) (pa_cons (pv 3) (pa_cons (pv 4) pa_nil)))) (pa_cons (pv 9) pa_nil))))
        (pss_cons (ps_if (pt_cmpR (op_neD hr.units) (pcal c_run_code hr (by decide) (pa_cons (G.pe hr (by decide) T.g_Code (pa_cons (pv 1) (pa_cons (pe_ix ix_tup (pv 17) pe_int (fun _ _ => rfl)) (pa_cons (pe_ix ix_tup (pv 17) pe_int (fun _ _ => rfl)) (pa_cons (pe_ix ix_tup (pv 17) pe_int (fun _ _ => rfl)) pa_nil))))) (pa_cons (pv 9) pa_nil))) (pv 18) (nomark _)) (pss_one (ps_ret pe_bl)) pss_nil)
        (pss_cons (ps_for PassesOwn.never rfl (pi_list (pe_lst (pa_cons pe_non (pa_cons pe_dnewK (pa_cons pe_str (pa_cons pe_int pa_nil)))))) (pg_name (i := 19) sc__law_right.nd rfl (Or.inl rfl)) (pss_one (ps_if (pt_cmpR op_ne (pcal c__law_raised hr (by decide) (pa_cons (pv 8) (pa_cons (pv 19) pa_nil))) (pe_un un_neg pe_int) (nomark _)) (pss_one (ps_ret pe_bl)) pss_nil)))
        (pss_cons (ps_if (PW.pt (pw_and (pt_cmpR op_eq (pe_ix ix_tup (pe_ix ix_list (pv 4) (pv 10) (fun _ _ => rfl)) pe_int (fun _ _ => rfl)) pe_str (nomark _)) (pw_and1 (pt_cmpR op_ne (pcal c__law_raised hr (by decide) (pa_cons (pv 8) (pa_cons (pe_op op_cat (pv 9) (pe_lst (pa_cons pe_int (pa_cons pe_non pa_nil)))) pa_nil))) (pe_callB call_len_seq (by rfl) T.z_len PySem.boot_len (pa_cons (pv 9) pa_nil)) (nomark _))))) (pss_one (ps_ret pe_bl)) pss_nil)
        (pss_cons (ps_if (pt_cmpR (op_eqD hr.units) (pv 9) (pe_lst pa_nil) (nomark _)) (pss_one (ps_ret pe_bl)) pss_nil)
        (pss_cons (ps_set (i := 20) sc__law_right.nd rfl (Or.inl rfl) (pcal c__law_draw hr (by decide) (pa_cons (pv 0) (pa_cons (pe_callB call_len_seq (by rfl) T.z_len PySem.boot_len (pa_cons (pv 9) pa_nil)) pa_nil))))
        (pss_cons (ps_set (i := 21) sc__law_right.nd rfl (Or.inl rfl) (pe_ix ix_tup (pcal c_run_code hr (by decide) (pa_cons (pv 8) (pa_cons (pe_slice sl_list (pv 9) po_none (po_some (pv 20))) pa_nil))) pe_int (fun _ _ => rfl)))
        (pss_one (ps_ret (pe_cmpR op_eq (pcal c__law_raised hr (by decide) (pa_cons (pv 8) (pa_cons (pe_op op_cat (pe_slice sl_list (pv 9) po_none (po_some (pv 20))) (pe_lst (pa_cons (pcal c__law_odd hr (by decide) (pa_cons (pv 0) (pa_cons (pe_ix ix_list (pv 4) (pv 21) (fun _ _ => rfl)) pa_nil))) (pa_cons pe_non pa_nil)))) pa_nil))) (pv 20) (nomark _))))))))))))))))))))))), ?_⟩
    walk_at "lk"
    refine spr ?_
    walk_at "lk"
    refine snw (Nat.le_of_ble_eq_true rfl) fun l1 hl1 => ?_
    have w1 : Wk p H (upd H l1 (.lst ([1, 2, 8, 63, 64].map V.int))) := Wk.of hw (same_new hl1)
    have e1 : (upd H l1 (.lst ([1, 2, 8, 63, 64].map V.int))) l1 = some (.lst ([1, 2, 8, 63, 64].map V.int)) := upd_same
    have n1 : l1 ≠ p := ne_new hw hl1
    walk_at "lk"
    show spOne _ (upd H l1 (.lst ([1, 2, 8, 63, 64].map V.int))) _ _
    generalize upd H l1 (.lst ([1, 2, 8, 63, 64].map V.int)) = H1 at w1 e1 ⊢
    refine ⟨p, l1, _, rfl, w1.2, n1, e1, by decide, by decide, fun v H2 hv w2' => ?_⟩
    have w2 := w1.trans w2'
    obtain ⟨k, rfl, k1, k2⟩ : ∃ k : Nat, v = .int (k : Int) ∧ 1 ≤ k ∧ k ≤ 64 := by
      obtain ⟨z, hz, rfl⟩ := List.mem_map.mp hv
      have := (by decide : ∀ z ∈ ([1, 2, 8, 63, 64] : List Int), 1 ≤ z ∧ z ≤ 64) z hz
      exact ⟨z.toNat, by rw [Int.toNat_of_nonneg (by omega)], by omega, by omega⟩
    walk_at "lk"
    refine ⟨p, 15, rfl, by decide, by decide, w2.2, fun r H3 r0 r1 w3' => ?_⟩
    have w3 := w2.trans w3'
    walk_at "lk"
    obtain ⟨m, hm⟩ : ∃ m : Nat, 1 + r = (m : Int) := ⟨(1 + r).toNat, by omega⟩
    rw [hm]
    have m1 : 1 ≤ m := by omega
    have m2 : m ≤ 15 := by omega
    refine ⟨_, _, rfl, ?_⟩
    have w4 := w3
    clear w1 e1 w2 w2' w3 w3' hl1 n1 hv
    generalize H3 = H4 at w4 ⊢
    walk_at "lk"
    refine snw (Nat.le_of_ble_eq_true rfl) fun l5 hl5 => ?_
    have w5 := w4.st (same_new (o := .lst (names3.map V.str)) hl5)
    have e5 : (upd H4 l5 (.lst (names3.map V.str))) l5 = some (.lst (names3.map V.str)) := upd_same
    have n5 : l5 ≠ p := ne_new w4.2 hl5
    walk_at "lk"
    show spDraw _ (upd H4 l5 (.lst (names3.map V.str))) _ _
    generalize upd H4 l5 (.lst (names3.map V.str)) = H5 at w5 e5 ⊢
    refine ⟨p, 3, rfl, by decide, by decide, w5.2, fun r2 H6 g0 g1 w6' => ?_⟩
    have w6 := w5.trans w6'
    have e6 := w6'.at n5 e5
    walk_at "lk"
    obtain ⟨c, hc⟩ : ∃ c : Nat, 1 + r2 = (c : Int) := ⟨(1 + r2).toNat, by omega⟩
    rw [hc]
    have c3 : (names3.take c).length = c := by
      rw [List.length_take]
      show min c 3 = c
      omega
    refine ⟨l5, _, rfl, SqL.of e6, fun l hl => ?_⟩
    rw [cut_takeLe (by rw [List.length_map]; show c ≤ 3; omega), ← List.map_take]
    have w7 := w6.st (same_new (o := .lst ((names3.take c).map V.str)) hl)
    have e7 : (upd H6 l (.lst ((names3.take c).map V.str))) l = some (.lst ((names3.take c).map V.str)) := upd_same
    have nl : l ≠ p := ne_new w6.2 hl
    generalize upd H6 l (.lst ((names3.take c).map V.str)) = H7 at w7 e7 ⊢
    have hnk := names3_ok c (by omega) (by omega)
    generalize names3.take c = ns at e7 c3 hnk ⊢
    have nl3 : ns.length ≤ 3 := by omega
    have nl1 : 1 ≤ ns.length := by omega
    have nl2 : ns.length ≤ 6 := by omega
    clear w6 w6' e6 w5 e5 w4 hl5 n5 hl hm hc r0 r1 g0 g1
    walk_at "lk"
    refine ⟨p, l, k, m, ns, rfl, k1, k2, m1, by omega, w7.2, nl, e7, nl1, nl2, fun RL us rs H8 w8' hRL eRL hus hlen hgood => ?_⟩
    have w8 := w7.trans w8'
    have el8 := w8'.at nl e7
    have nRL : RL ≠ p := ne_new w7.2 hRL
    walk_at "lk"
    refine ⟨_, rfl, RL, rfl, ⟨us, SqL.of eRL⟩, fun CL hCL => ?_⟩
    refine tlc_listW (fun H v r => RowH H v r) (fun H v (c : Int) => v = .int c ∧ 0 ≤ c ∧ c ≤ 4) (fun _ _ => True) (fun s h => h.ts s) (fun s h => h) w8.2 nRL eRL (f2_rows hus) (by have := hus.len; omega) hCL (fun _ => rfl) (fun i x r H' hri hx w' R qr => ?_) (fun ys cts H9 w9' hys fys hg => ?_)
    · walk_at "lk"
      exact ⟨p, 4, rfl, by decide, by decide, w'.2, fun c H'' c0 c1 w'' => qr _ c _ w'' ⟨rfl, c0, by omega⟩ trivial⟩
    have fys' : F2 (fun v (c : Int) => v = .int c) ys cts := fys.mono fun _ _ z => z.1
    have bct : ∀ c ∈ cts, 0 ≤ c ∧ c ≤ 4 := fun c hc => by
      obtain ⟨m, hm⟩ := List.getElem?_of_mem hc
      obtain ⟨u, _, hu⟩ := fys.get hm
      exact hu.2
    rw [f2_ints_of fys'] at hys
    have nCL : CL ≠ p := ne_new w8.2 hCL
    have hlc := hg.1
    have w9 := w8.trans w9'
    walk_at "lk"
    refine ⟨p, l, RL, CL, k, ns, us, rs, cts, rfl, k1, k2, w9.2, nl, nRL, nCL, w9'.at nl el8, nl1, nl2, w9'.at nRL eRL, hus.ts (w9'.ts w8.2), by rw [hlen]; exact hgood, by omega, by omega, hys, hlc, bct, fun tu D st vs crs sts H10 w10' htu hD hDl hvs hst hdr => ?_⟩
    have w10 := w9.trans w10'
    have ec := w10'.at nCL hys
    have nD : D ≠ p := ne_new w9.2 hD
    have nst : st ≠ p := ne_well w10.2 hst (fun _ _ _ z => by cases z)
    have el10 := w10'.at nl (w9'.at nl el8)
    have eRL10 := w10'.at nRL (w9'.at nRL eRL)
    have hus10 := hus.ts ((w9'.trans w10').ts w8.2)
    refine g_trip3 (SqT.of htu) ?_
    obtain ⟨hok, hlow, hsy6, hst2, hex⟩ := hdr
    have hcl : crs.length = m := by have := hok.cl; omega
    have hvl := hvs.len
    have hcm : cts.length = m := by omega
    have hul : us.length = m := by have := hus.len; omega
    have hrok : ∀ r ∈ rs, RowOk ns rs.length r := fun r hr => by rw [hlen]; exact (hgood r hr).1
    have hrlow : ∀ r ∈ rs, r.low k = r := fun r hr => (hgood r hr).2
    have W : CW k ns rs cts crs sts := ⟨hok, hex, hlow, hrok, by omega, fun c hc => by have := (bct c hc).2; omega, hsy6, by omega⟩
    dsimp only
    refine ssq ?_
    walk_at "lk"
    refine s_newC k1 k2 (.inl (SqL.of ec)) (.inl (SqL.of hDl)) hvs (SqT.of hst) hok fun x H11 s11 hx => ?_
    rw [list_low hlow, inR_map hst2] at hx
    have S0 : Sr K A H H11 p l RL CL D st x k ns us rs cts vs crs sts := ⟨w10.st s11, s11 _ _ el10, s11 _ _ eRL10, hus10.ts (Ts.of s11), s11 _ _ ec, s11 _ _ hDl, hvs.mono fun _ _ z => z.ts (Ts.of s11), s11 _ _ hst, hx⟩
    have gC : GoodC k cts (0, sts, []) := ⟨Int.le_refl 0, by show (0 : Int) < cts.length; omega, hok.sl, hst2⟩
    clear w7 w8 w8' w9 w9' w10 w10' htu hys fys fys' hg hus e7 el8 el10 eRL eRL10 hus10 ec hRL hCL hD hDl hvs hst hx s11 hgood hw
    have g0 : Good3 k ns.length rs.length (0, List.replicate ns.length 0, []) := ⟨Int.le_refl 0, by show (0 : Int) < (rs.length : Int); omega, List.length_replicate .., fun y hy => by rw [List.eq_of_mem_replicate hy]; exact ⟨Int.le_refl 0, Int.pow_pos (by decide)⟩⟩
    refine sgn ?_
    dsimp only
    refine ssq ?_
    walk_at "lk"
    refine snw (Nat.le_of_ble_eq_true rfl) fun z1 hz1 => ?_
    have s1 : Same H11 (upd H11 z1 (.tup [.int 0])) := same_new hz1
    have e1 : (upd H11 z1 (.tup [.int 0])) z1 = some (.tup [.int 0]) := upd_same
    generalize upd H11 z1 (.tup [.int 0]) = H12 at s1 e1 ⊢
    walk_at "lk"
    refine ⟨l, _, rfl, .inl (SqL.of (s1 _ _ S0.en)), ?_⟩
    rw [List.length_map]
    refine s_repZ (n := ns.length) e1 (by omega) fun z2 H13 s2 e2 => ?_
    have S1 := S0.same (s1.trans s2)
    walk_at "lk"
    refine ⟨p, 30, rfl, by decide, by decide, S1.w.2, fun mo H14 mo0 mo1 w14 => ?_⟩
    have S2 := S1.wk w14 nl nRL nCL nD
    have nz2 : z2 ≠ p := ne_well S1.w.2 e2 (fun _ _ _ z => by cases ns with | nil => simp at nl1 | cons a r => cases z)
    have e2' := w14.at nz2 e2
    walk_at "lk"
    refine ⟨p, l, RL, z2, k, us, ns, rs, 0, mo, List.replicate ns.length 0, rfl, k2, S2.w.2, nl, S2.en, nRL, S2.er, S2.fr, hrok, hrlow, by omega, SqT.of (by rw [e2', List.map_replicate]), g0, by omega, fun u NL b1 Ds nums H15 w15 hl40 hfit hu nNL hNL hb1 nDs hDs => ?_⟩
    have S3 := S2.wk w15 nl nRL nCL nD
    refine g_quadC (SqT.of hu) ?_
    dsimp only
    have hcw : CWay k ns rs cts crs sts (0, sts, []) (0, List.replicate ns.length 0, []) nums := ⟨W, gC, rfl, g0, hfit⟩
    have hpos : (runF k ns rs (0, List.replicate ns.length 0, []) nums).1 = (crun k rs crs (0, sts, []) nums).1 := by
      have := crun_pos W (q := (0, sts, [])) (q' := (0, List.replicate ns.length 0, [])) rfl hfit nums.length (Nat.le_refl _)
      rw [List.take_length] at this
      exact this.symm
    obtain ⟨spot, hspot⟩ : ∃ z : Int, z = (crun k rs crs (0, sts, []) nums).1 := ⟨_, rfl⟩
    rw [hpos, ← hspot]
    clear S0 S1 S2 s1 e1 s2 e2 e2' hu w14 w15 hz1
    refine s_litL [some (.ref p), some (.int (k : Int)), some (.int (m : Int)), some (.ref l), some (.ref RL), some (.ref CL), some (.ref D), some (.ref st), some (.ref x), some (.ref NL), some (.int spot), some (.ref b1), some (.ref Ds), none, none, none, none, none, none, none, none, none, none, none] rfl ?_
    refine ssq ?_
    refine spr3 ?_
    walk_at "lk"
    refine snw (Nat.le_of_ble_eq_true rfl) fun TD hTD => ?_
    have s2 : Same H15 (upd H15 TD (.lst [])) := same_new hTD
    have e2 : (upd H15 TD (.lst [])) TD = some (.lst []) := upd_same
    have S4 := S3.same s2
    have hNL4 := s2 _ _ hNL
    generalize upd H15 TD (.lst []) = H2 at s2 e2 S4 hNL4 ⊢
    clear S3 hNL hb1 hDs hTD
    refine ⟨_, _, _, rfl, ?_⟩
    dsimp only
    refine s_litL [some (.ref p), some (.int (k : Int)), some (.int (m : Int)), some (.ref l), some (.ref RL), some (.ref CL), some (.ref D), some (.ref st), some (.ref x), some (.ref NL), some (.int spot), some (.ref b1), some (.ref Ds), some (.int 0), some (.ref st), some (.ref TD), none, none, none, none, none, none, none, none] rfl ?_
    refine ssq ?_
    refine sfor ?_
    refine sils ?_
    walk_at "lk"
    refine ⟨NL, rfl, ⟨_, SqL.of hNL4⟩, for_list (xs := nums.map V.int) (fun c σ' H' => (∃ (b TE : Addr) (e16 e22 : Option V), σ' = [some (.ref p), some (.int (k : Int)), some (.int (m : Int)), some (.ref l), some (.ref RL), some (.ref CL), some (.ref D), some (.ref st), some (.ref x), some (.ref NL), some (.int spot), some (.ref b1), some (.ref Ds), some (.int (crun k rs crs (0, sts, []) (nums.take c)).1), some (.ref b), some (.ref TE), e16, none, none, none, none, none, e22, none] ∧ H' b = some (.tup ((crun k rs crs (0, sts, []) (nums.take c)).2.1.map V.int)) ∧ H' TE = some (.lst ((crun k rs crs (0, sts, []) (nums.take c)).2.2.map V.int))) ∧ Same H2 H') ⟨⟨st, TD, none, none, rfl, S4.es, e2⟩, Same.refl _⟩ (fun c σ' H' _ h => SqL.of (h.2 _ _ hNL4)) ?_ ?_⟩
    · rintro n v σ' H3 hi ⟨⟨b, TE, e16, e22, rfl, hb, hTE⟩, s3⟩
      rw [List.getElem?_map] at hi
      obtain ⟨z, hz, rfl⟩ := Option.map_eq_some_iff.mp hi
      obtain ⟨r, c, hr0, hc0, hf, hstep⟩ := hcw.step hz
      have hcl2 := (List.getElem?_eq_some_iff.mp hz).1
      have hg := hcw.good n (Nat.le_of_lt hcl2)
      have hsl := hcw.said n (Nat.le_of_lt hcl2)
      rw [hstep]
      generalize crun k rs crs (0, sts, []) (nums.take n) = qc at hr0 hc0 hg hstep hsl hb hTE ⊢
      have S5 := S4.same s3
      obtain ⟨v, hv, hcv⟩ := S5.fd.get hc0
      obtain ⟨k1', k2', k3', k4', k5', k6', k7', k8', k9'⟩ := step_facts W hg hr0 hc0 hf
      have hg0 := hg.r0
      refine sgn ?_
      refine s_litL [some (.ref p), some (.int (k : Int)), some (.int (m : Int)), some (.ref l), some (.ref RL), some (.ref CL), some (.ref D), some (.ref st), some (.ref x), some (.ref NL), some (.int spot), some (.ref b1), some (.ref Ds), some (.int qc.1), some (.ref b), some (.ref TE), some (.int z), none, none, none, none, none, e22, none] rfl ?_
      refine ssq ?_
      walk_at "lk"
      refine sfr (SqL.of S5.ed) (by rw [← Int.toNat_of_nonneg hg0]; exact Lk.atI_nat hv) ?_
      walk_at "lk"
      refine ⟨k, v, b, z, nxM r z, c, qc.2.1, rfl, hcv, SqT.of hb, k2, k9', k1', k2', k3', k4', k5', k6', k7', k8', fun u b' D2 H4 s4 hu hb' hD' => ?_⟩
      refine g_trip3 (SqT.of hu) ?_
      dsimp only
      refine s_litL [some (.ref p), some (.int (k : Int)), some (.int (m : Int)), some (.ref l), some (.ref RL), some (.ref CL), some (.ref D), some (.ref st), some (.ref x), some (.ref NL), some (.int spot), some (.ref b1), some (.ref Ds), some (.int (nxM r z)), some (.ref b'), some (.ref TE), some (.int z), none, none, none, none, none, some (.ref D2), none] rfl ?_
      walk_at "lk"
      refine ⟨TE, D2, _, _, rfl, rfl, s4 _ _ hTE, hD', ?_, fun D3 hD3 => ?_⟩
      · rw [List.length_map, List.length_map]
        have hsl' : qc.2.2.length ≤ 0 + 6 * n := hsl
        have hcs : (csd k c qc.2.1).length = c.sy.length := List.length_map ..
        exact Nat.le_of_lt (small1000 (by omega))
      · refine ⟨⟨b', D3, some (.int z), some (.ref D2), rfl, same_new hD3 _ _ hb', ?_⟩, s3.trans (s4.trans (same_new hD3))⟩
        rw [upd_same, List.map_append]
    rintro σ' H3 ⟨⟨b, TE, e16, e22, rfl, hb, hTE⟩, s3⟩
    rw [List.length_map, List.take_length] at hb hTE
    rw [List.length_map]
    rw [List.take_length]
    have S5 := S4.same s3
    have hNL5 := s3 _ _ hNL4
    clear S4 hNL4 e2 s2 s3
    subst hspot
    refine ssq ?_
    walk_at "lk"
    refine ⟨x, NL, k, ns, rs, cts, crs, sts, nums, (0, List.replicate ns.length 0, []), rfl, S5.cx, W, k2, .inl (SqL.of hNL5), by omega, hcw, fun u H5 s5 hu => ?_⟩
    obtain ⟨b2, D2, _, hu1, hu2, hu3⟩ := hu
    walk_at "lk"
    refine snw (Nat.le_of_ble_eq_true rfl) fun u2 hu2' => ?_
    have s6 := same_new (o := .tup [.int (crun k rs crs (0, sts, []) nums).1, .ref b, .ref TE]) hu2'
    have s56 := s5.trans s6
    walk_at "lk"
    refine s_neTd (SqT.of (s6 _ _ hu1)) (SqT.of (s6 _ _ hu2)) (SqL.of (s6 _ _ hu3)) (SqT.of upd_same) (SqT.of (s56 _ _ hb)) (SqL.of (s56 _ _ hTE)) ?_
    have S6 := S5.same s56
    have hNL6 := s56 _ _ hNL5
    have hb6 := s56 _ _ hb
    have hTE6 := s56 _ _ hTE
    generalize upd H5 u2 (.tup [.int (crun k rs crs (0, sts, []) nums).1, .ref b, .ref TE]) = H6 at S6 hNL6 hb6 hTE6 ⊢
    clear s5 s6 s56 hu1 hu2 hu3 hu2' S5 hNL5 hb hTE
    walk_at "lk"
    refine iff_ rfl ?_
    walk_at "lk"
    refine sNe rfl ?_
    walk_at "lk"
    refine iff_ (by rw [decide_eq_true rfl]; rfl) ?_
    refine snx ?_
    dsimp only
    refine s_litL [some (.ref p), some (.int (k : Int)), some (.int (m : Int)), some (.ref l), some (.ref RL), some (.ref CL), some (.ref D), some (.ref st), some (.ref x), some (.ref NL), some (.int (crun k rs crs (0, sts, []) nums).1), some (.ref b1), some (.ref Ds), some (.int (crun k rs crs (0, sts, []) nums).1), some (.ref b), some (.ref TE), e16, none, none, none, none, none, e22, none] rfl ?_
    refine ssq ?_
    walk_at "lk"
    refine s_tupL hNL6 fun tN H7 s7 _ htN => ?_
    walk_at "lk"
    refine ⟨rfl, ?_⟩
    have S7 := S6.same s7
    refine ⟨x, tN, k, ns, rs, cts, crs, sts, nums, (0, List.replicate ns.length 0, []), rfl, S7.cx, W, k2, .inr (SqT.of htN), by omega, hcw, fun u H5 s5 hu => ?_⟩
    obtain ⟨b2, D2, _, hu1, hu2, hu3⟩ := hu
    walk_at "lk"
    refine snw (Nat.le_of_ble_eq_true rfl) fun u2 hu2' => ?_
    have s6 := same_new (o := .tup [.int (crun k rs crs (0, sts, []) nums).1, .ref b, .ref TE]) hu2'
    have s56 := s7.trans (s5.trans s6)
    walk_at "lk"
    refine s_neTd (SqT.of (s6 _ _ hu1)) (SqT.of (s6 _ _ hu2)) (SqL.of (s6 _ _ hu3)) (SqT.of upd_same) (SqT.of (s56 _ _ hb6)) (SqL.of (s56 _ _ hTE6)) ?_
    have S8 := S6.same s56
    have hNL8 := s56 _ _ hNL6
    generalize upd H5 u2 (.tup [.int (crun k rs crs (0, sts, []) nums).1, .ref b, .ref TE]) = H8 at S8 hNL8 ⊢
    clear s5 s6 s56 hu1 hu2 hu3 hu2' S6 S7 s7 htN hNL6 hb6 hTE6
    walk_at "lk"
    refine iff_ rfl ?_
    refine snx ?_
    dsimp only
    refine s_litL [some (.ref p), some (.int (k : Int)), some (.int (m : Int)), some (.ref l), some (.ref RL), some (.ref CL), some (.ref D), some (.ref st), some (.ref x), some (.ref NL), some (.int (crun k rs crs (0, sts, []) nums).1), some (.ref b1), some (.ref Ds), some (.int (crun k rs crs (0, sts, []) nums).1), some (.ref b), some (.ref TE), e16, none, none, none, none, none, e22, none] rfl ?_
    refine ssq ?_
    walk_at "lk"
    refine ⟨p, CL, D, st, NL, k, ns, rs, cts, vs, crs, sts, nums, (0, List.replicate ns.length 0, []), rfl, k1, k2, S8.w.2, nCL, nD, nNL, S8.ec, S8.ed, S8.fd, S8.es, hNL8, by omega, hcw, hst2, fun H9 w9 => ?_⟩
    have S9 := S8.wk w9 nl nRL nCL nD
    have hNL9 := w9.at nNL hNL8
    clear S8 hNL8 w9
    walk_at "lk"
    refine iff_ rfl ?_
    refine snx ?_
    dsimp only
    refine s_litL [some (.ref p), some (.int (k : Int)), some (.int (m : Int)), some (.ref l), some (.ref RL), some (.ref CL), some (.ref D), some (.ref st), some (.ref x), some (.ref NL), some (.int (crun k rs crs (0, sts, []) nums).1), some (.ref b1), some (.ref Ds), some (.int (crun k rs crs (0, sts, []) nums).1), some (.ref b), some (.ref TE), e16, none, none, none, none, none, e22, none] rfl ?_
    refine ssq ?_
    walk_at "lk"
    refine ⟨k, l, RL, ns, us, rs, rs.length, rfl, S9.en, nl1, by omega, S9.er, S9.fr, by omega, hrok, fun up pc PD ps pvs H10 s10 hup hpc hPD hpf hps => ?_⟩
    have S10 := S9.same s10
    have hNL10 := s10 _ _ hNL9
    clear S9 hNL9 s10
    refine sgn ?_
    dsimp only
    refine s_litL [some (.ref p), some (.int (k : Int)), some (.int (m : Int)), some (.ref l), some (.ref RL), some (.ref CL), some (.ref D), some (.ref st), some (.ref x), some (.ref NL), some (.int (crun k rs crs (0, sts, []) nums).1), some (.ref b1), some (.ref Ds), some (.int (crun k rs crs (0, sts, []) nums).1), some (.ref b), some (.ref TE), e16, some (.ref up), none, none, none, none, e22, none] rfl ?_
    refine ssq ?_
    walk_at "lk"
    refine s_newP k1 k2 (SqL.of S10.en) hnk (.inl (SqL.of S10.er)) S10.fr ⟨by omega, by omega, hrok⟩ fun xp H11 s11 hxp hzp => ?_
    rw [map_id_of hrlow] at hxp
    walk_at "lk"
    refine ⟨xp, NL, k, ns, rs, nums, rfl, hxp, hzp, hrlow, by omega, nl1, by omega, k2, .inl (SqL.of (s11 _ _ hNL10)), by omega, hcw.way, fun ud H12 s12 hud => ?_⟩
    obtain ⟨bd, Dd, _, hd1, hd2, hd3⟩ := hud
    have s1012 := s11.trans s12
    have S12 := S10.same s1012
    have hNL12 := s1012 _ _ hNL10
    replace hup := s1012 _ _ hup
    replace hpc := s1012 _ _ hpc
    replace hPD := s1012 _ _ hPD
    replace hps := s1012 _ _ hps
    replace hpf := hpf.mono fun _ _ z => CRowH.ts (Ts.of s1012) z
    clear S10 hNL10 s11 s12 s1012 hxp hzp
    refine sgn ?_
    dsimp only
    refine s_litL [some (.ref p), some (.int (k : Int)), some (.int (m : Int)), some (.ref l), some (.ref RL), some (.ref CL), some (.ref D), some (.ref st), some (.ref x), some (.ref NL), some (.int (crun k rs crs (0, sts, []) nums).1), some (.ref b1), some (.ref Ds), some (.int (crun k rs crs (0, sts, []) nums).1), some (.ref b), some (.ref TE), e16, some (.ref up), some (.ref ud), none, none, none, e22, none] rfl ?_
    have WP := plain_W k1 nl1 (by omega) (by omega) (by omega) hrok hrlow
    have gP : GoodC k (List.replicate rs.length (ns.length : Int)) (0, List.replicate ns.length 0, []) := ⟨Int.le_refl 0, by rw [List.length_replicate]; show (0 : Int) < (rs.length : Int); omega, WP.ok.sl, g0.inr⟩
    have hcwP : CWay k ns rs (List.replicate rs.length (ns.length : Int)) (rs.map (plainR ns)) (List.replicate ns.length 0) (0, List.replicate ns.length 0, []) (0, List.replicate ns.length 0, []) nums := ⟨WP, gP, rfl, g0, hfit⟩
    have hpl : crun k rs (rs.map (plainR ns)) (0, List.replicate ns.length 0, []) nums = runF k ns rs (0, List.replicate ns.length 0, []) nums := by
      have := crun_plain hcw.way nums.length (Nat.le_refl _)
      rwa [List.take_length] at this
    refine ssq ?_
    walk_at "lk"
    refine sft (SqT.of hup) rfl ?_
    walk_at "lk"
    refine sft (SqT.of hup) rfl ?_
    walk_at "lk"
    refine sft (SqT.of hup) rfl ?_
    walk_at "lk"
    refine s_newC k1 k2 (.inl (SqL.of hpc)) (.inl (SqL.of hPD)) hpf (SqT.of hps) WP.ok fun xq H13 s13 hxq => ?_
    rw [list_low WP.low, inR_map g0.inr] at hxq
    walk_at "lk"
    refine ⟨xq, NL, k, ns, rs, List.replicate rs.length (ns.length : Int), rs.map (plainR ns), List.replicate ns.length 0, nums, (0, List.replicate ns.length 0, []), rfl, hxq, WP, k2, .inl (SqL.of (s13 _ _ hNL12)), by omega, hcwP, fun u H5 s5 hu => ?_⟩
    obtain ⟨b2, D2, _, hu1, hu2, hu3⟩ := hu
    rw [hpl] at hu1 hu2 hu3
    have s14 := s13.trans s5
    have S14 := S12.same s14
    have hNL14 := s14 _ _ hNL12
    walk_at "lk"
    refine s_neTd (SqT.of hu1) (SqT.of hu2) (SqL.of hu3) (SqT.of (s14 _ _ hd1)) (SqT.of (s14 _ _ hd2)) (SqL.of (s14 _ _ hd3)) ?_
    clear S12 hNL12 s13 s5 s14 hu1 hu2 hu3 hd1 hd2 hd3 hup hpc hPD hps hpf hxq WP gP hcwP hpl
    walk_at "lk"
    refine iff_ rfl ?_
    refine snx ?_
    dsimp only
    refine s_litL [some (.ref p), some (.int (k : Int)), some (.int (m : Int)), some (.ref l), some (.ref RL), some (.ref CL), some (.ref D), some (.ref st), some (.ref x), some (.ref NL), some (.int (crun k rs crs (0, sts, []) nums).1), some (.ref b1), some (.ref Ds), some (.int (crun k rs crs (0, sts, []) nums).1), some (.ref b), some (.ref TE), e16, some (.ref up), some (.ref ud), none, none, none, e22, none] rfl ?_
    refine ssq ?_
    refine for_lit (P := fun H v => Nv K H v none) (n := 4) (fun {_ _ _} s h => Nv.same s h)
      (mv_cons (fun {_ _ _} s h => Nv.same s h) (mv_c fun _ => .no (.dp .non) rfl rfl)
        (mv_cons (fun {_ _ _} s h => Nv.same s h) (mv_dct fun H a e => .no (.dct e) rfl rfl)
        (mv_cons (fun {_ _ _} s h => Nv.same s h) (mv_c fun _ => .no (.dp (.str "0")) rfl rfl)
        (mv_cons (fun {_ _ _} s h => Nv.same s h) (mv_c fun _ => .no (.dp (.int 0)) rfl rfl)
        mv_nil)))) (Nat.le_of_ble_eq_true rfl) ⟨_, rfl⟩ (fun HB v H' hb hs hv => ?_) (fun e19 HL sL => ?_)
    · have SA := S14.same (hb.trans hs)
      walk_at "lk"
      refine ⟨x, v, k, ns, rs, cts, crs, sts, none, -1, rfl, SA.cx, W, by omega, k2, hv, rfl, fun H2 s' => ?_⟩
      walk_at "lk"
      refine sNe rfl ?_
      walk_at "lk"
      refine iff_ (by decide +kernel) ?_
      refine snx ?_
      exact ⟨⟨_, rfl⟩, hs.trans s'⟩
    have S15 := S14.same sL
    have hNL15 := sL _ _ hNL14
    clear S14 hNL14 sL
    dsimp only
    refine s_litL [some (.ref p), some (.int (k : Int)), some (.int (m : Int)), some (.ref l), some (.ref RL), some (.ref CL), some (.ref D), some (.ref st), some (.ref x), some (.ref NL), some (.int (crun k rs crs (0, sts, []) nums).1), some (.ref b1), some (.ref Ds), some (.int (crun k rs crs (0, sts, []) nums).1), some (.ref b), some (.ref TE), e16, some (.ref up), some (.ref ud), e19, none, none, e22, none] rfl ?_
    have hgE := hcw.good nums.length (Nat.le_refl _)
    rw [List.take_length] at hgE
    have hr0' := hgE.r0
    have hr1' := hgE.r1
    obtain ⟨r0, hr0⟩ : ∃ r, rs[(crun k rs crs (0, sts, []) nums).1.toNat]? = some r := ⟨_, List.getElem?_eq_getElem (by omega)⟩
    refine seq_mid (fun σ' H' => σ' = [some (.ref p), some (.int (k : Int)), some (.int (m : Int)), some (.ref l), some (.ref RL), some (.ref CL), some (.ref D), some (.ref st), some (.ref x), some (.ref NL), some (.int (crun k rs crs (0, sts, []) nums).1), some (.ref b1), some (.ref Ds), some (.int (crun k rs crs (0, sts, []) nums).1), some (.ref b), some (.ref TE), e16, some (.ref up), some (.ref ud), e19, none, none, e22, none] ∧ Same HL H') ?_ ?_
    rotate_left
    · intro N hN
      obtain ⟨rv, hrv, hrr⟩ := (f2_rows S15.fr).get hr0
      obtain ⟨ra, xs, rfl, hra, h0⟩ := row_tup hrr
      walk_at "lk"
      refine sfr (SqL.of S15.er) (by rw [← Int.toNat_of_nonneg hr0']; exact Lk.atI_nat hrv) ?_
      walk_at "lk"
      refine sft (SqT.of hra) h0 ?_
      walk_at "lk"
      refine sEq rfl ?_
      walk_at "lk"
      by_cases hs : r0 = .stop
      · refine itt_ (decide_eq_true (by rw [hs]; rfl)) ?_
        walk_at "lk"
        refine snw (Nat.le_of_ble_eq_true rfl) fun m2 hm2 => ?_
        have s2 : Same HL (upd HL m2 (.lst [.int 0, .non])) := same_new hm2
        have e2 : (upd HL m2 (.lst [.int 0, .non])) m2 = some (.lst [.int 0, .non]) := upd_same
        generalize upd HL m2 (.lst [.int 0, .non]) = H2 at s2 e2 ⊢
        refine ⟨NL, m2, _, _, rfl, rfl, s2 _ _ hNL15, e2, Nat.le_of_lt (small1000 (by rw [List.length_map]; show nums.length + 2 ≤ 1000; omega)), fun m3 hm3 => ?_⟩
        have s3 : Same H2 (upd H2 m3 (.lst (nums.map V.int ++ [.int 0, .non]))) := same_new hm3
        have e3 : (upd H2 m3 (.lst (nums.map V.int ++ [.int 0, .non]))) m3 = some (.lst (nums.map V.int ++ [.int 0, .non])) := upd_same
        generalize upd H2 m3 (.lst (nums.map V.int ++ [.int 0, .non])) = H3 at s3 e3 ⊢
        have s23 := s2.trans s3
        have hwr : wrongO rs 0 (some (nums.map PyData.int ++ [.int 0, .none])) = some (nums.length : Int) := by
          show wrongL rs 0 _ 0 = _
          rw [wrongL_app nums (0, List.replicate ns.length 0, []) _ 0 hfit, hpos, wrongL_at hr0 (by subst hs; exact fitD_out fun z => z), Nat.zero_add]
        walk_at "lk"
        refine ⟨x, .ref m3, k, ns, rs, cts, crs, sts, _, _, rfl, (S15.same s23).cx, W, by omega, k2, .seq (.inl (SqL.of e3)) ((dg_ints nums).append (.cons (.dp (.int 0)) (.cons (.dp .non) .nil))), hwr, fun H4 s4 => ?_⟩
        walk_at "lk"
        refine ⟨NL, _, rfl, .inl (SqL.of ((s23.trans s4) _ _ hNL15)), ?_⟩
        rw [List.length_map]
        walk_at "lk"
        refine sNe rfl ?_
        walk_at "lk"
        refine iff_ (by rw [decide_eq_true rfl]; rfl) ?_
        refine snx ?_
        exact hN _ _ ⟨rfl, s23.trans s4⟩
      · refine iff_ (decide_eq_false fun z => hs (rk_stop (V.str.inj z))) ?_
        refine iff_ rfl ?_
        refine snx ?_
        exact hN _ _ ⟨rfl, Same.refl _⟩
    rintro σ' H16 ⟨rfl, s16⟩
    have S16 := S15.same s16
    have hNL16 := s16 _ _ hNL15
    clear S15 hNL15 s16
    refine seq_mid (fun σ' H' => σ' = [some (.ref p), some (.int (k : Int)), some (.int (m : Int)), some (.ref l), some (.ref RL), some (.ref CL), some (.ref D), some (.ref st), some (.ref x), some (.ref NL), some (.int (crun k rs crs (0, sts, []) nums).1), some (.ref b1), some (.ref Ds), some (.int (crun k rs crs (0, sts, []) nums).1), some (.ref b), some (.ref TE), e16, some (.ref up), some (.ref ud), e19, none, none, e22, none] ∧ Same H16 H' ∧ nums ≠ []) ?_ ?_
    rotate_left
    · intro N hN
      walk_at "lk"
      refine snw (Nat.le_of_ble_eq_true rfl) fun m2 hm2 => ?_
      have s2 : Same H16 (upd H16 m2 (.lst [])) := same_new hm2
      walk_at "lk"
      refine s_eqNil (SqL.of (s2 _ _ hNL16)) (SqL.of upd_same) (fun hnil => ?_) (fun hnil => ?_)
      · walk_at "lk"
        refine itt_ rfl ?_
        walk_at "lk"
        exact q _ (S16.w.st s2)
      · walk_at "lk"
        refine iff_ rfl ?_
        refine snx ?_
        exact hN _ _ ⟨rfl, s2, hnil⟩
    rintro σ' H17 ⟨rfl, s17, hne⟩
    have S17 := S16.same s17
    have hNL17 := s17 _ _ hNL16
    clear S16 hNL16 s17
    have hnp : 0 < nums.length := List.length_pos_iff.mpr hne
    refine ssq ?_
    walk_at "lk"
    refine ⟨NL, _, rfl, .inl (SqL.of hNL17), ?_⟩
    rw [List.length_map]
    walk_at "lk"
    refine ⟨p, (nums.length : Int), rfl, by omega, Nat.lt_of_le_of_lt (show ((nums.length : Nat) : Int).natAbs ≤ 40 by omega) (by decide), S17.w.2, fun hh H18 hh0 hh1 w18 => ?_⟩
    obtain ⟨h, rfl⟩ : ∃ h : Nat, hh = (h : Int) := ⟨hh.toNat, by omega⟩
    have hlt : h < nums.length := by omega
    have S18 := S17.wk w18 nl nRL nCL nD
    have hNL18 := w18.at nNL hNL17
    clear S17 hNL17 w18
    refine sgn ?_
    dsimp only
    refine s_litL [some (.ref p), some (.int (k : Int)), some (.int (m : Int)), some (.ref l), some (.ref RL), some (.ref CL), some (.ref D), some (.ref st), some (.ref x), some (.ref NL), some (.int (crun k rs crs (0, sts, []) nums).1), some (.ref b1), some (.ref Ds), some (.int (crun k rs crs (0, sts, []) nums).1), some (.ref b), some (.ref TE), e16, some (.ref up), some (.ref ud), e19, some (.int (h : Int)), none, e22, none] rfl ?_
    have hfth := fits_take hfit h
    have hcwh : CWay k ns rs cts crs sts (0, sts, []) (0, List.replicate ns.length 0, []) (nums.take h) := ⟨W, gC, rfl, g0, hfth⟩
    have hltk : (nums.take h).length = h := by rw [List.length_take]; omega
    obtain ⟨rh, hrh, hfh⟩ := hfit h _ (List.getElem?_eq_getElem hlt)
    have hwr := wrongL_app (k := k) (ns := ns) (rs := rs) (nums.take h) (0, List.replicate ns.length 0, [])
    have hposh : (runF k ns rs (0, List.replicate ns.length 0, []) (nums.take h)).1 = (crun k rs crs (0, sts, []) (nums.take h)).1 := (crun_pos W (q := (0, sts, [])) (q' := (0, List.replicate ns.length 0, [])) rfl hfit h (by omega)).symm
    rw [hposh] at hrh
    have hgh := hcw.good h (by omega)
    have hgh0 := hgh.r0
    refine ssq ?_
    walk_at "lk"
    refine ⟨NL, _, rfl, SqL.of hNL18, fun ph hph => ?_⟩
    rw [cut_takeLe (by rw [List.length_map]; omega), ← List.map_take]
    have s21 := same_new (o := .lst ((nums.take h).map V.int)) hph
    have e21 : (upd H18 ph (.lst ((nums.take h).map V.int))) ph = some (.lst ((nums.take h).map V.int)) := upd_same
    generalize upd H18 ph (.lst ((nums.take h).map V.int)) = H21 at s21 e21 ⊢
    walk_at "lk"
    refine ⟨x, ph, k, ns, rs, cts, crs, sts, nums.take h, (0, List.replicate ns.length 0, []), rfl, (S18.same s21).cx, W, k2, .inl (SqL.of e21), by omega, hcwh, fun u H5 s5 hu => ?_⟩
    obtain ⟨b2, D2, _, hu1, hu2, hu3⟩ := hu
    walk_at "lk"
    refine sft (SqT.of hu1) rfl ?_
    have s22 := s21.trans s5
    have S22 := S18.same s22
    have hNL22 := s22 _ _ hNL18
    clear S18 hNL18 s21 s5 s22 e21 hph hu1 hu2 hu3
    obtain ⟨here, hhere⟩ : ∃ z : Int, z = (crun k rs crs (0, sts, []) (nums.take h)).1 := ⟨_, rfl⟩
    rw [← hhere] at hrh hgh0 hposh ⊢
    refine sgn ?_
    dsimp only
    refine s_litL [some (.ref p), some (.int (k : Int)), some (.int (m : Int)), some (.ref l), some (.ref RL), some (.ref CL), some (.ref D), some (.ref st), some (.ref x), some (.ref NL), some (.int (crun k rs crs (0, sts, []) nums).1), some (.ref b1), some (.ref Ds), some (.int (crun k rs crs (0, sts, []) nums).1), some (.ref b), some (.ref TE), e16, some (.ref up), some (.ref ud), e19, some (.int (h : Int)), some (.int here), e22, none] rfl ?_
    walk_at "lk"
    refine ⟨NL, _, rfl, SqL.of hNL22, fun ph hph => ?_⟩
    rw [cut_takeLe (by rw [List.length_map]; omega), ← List.map_take]
    have s21 := same_new (o := .lst ((nums.take h).map V.int)) hph
    have e21 : (upd H5 ph (.lst ((nums.take h).map V.int))) ph = some (.lst ((nums.take h).map V.int)) := upd_same
    have nph : ph ≠ p := ne_new S22.w.2 hph
    have S23 := S22.same s21
    generalize upd H5 ph (.lst ((nums.take h).map V.int)) = H21 at s21 e21 S23 ⊢
    obtain ⟨rv, hrv, hrr⟩ := (f2_rows S23.fr).get hrh
    walk_at "lk"
    refine sfr (SqL.of S23.er) (by rw [← Int.toNat_of_nonneg hgh0]; exact Lk.atI_nat hrv) ?_
    walk_at "lk"
    refine ⟨p, rv, ns, rs.length, rh, rfl, S23.w.2, hrr, hrok rh (List.mem_of_getElem? hrh), fun z => (by rw [z] at hfh; exact hfh), fun u9 d9 H24 w24 hu9 hf9 => ?_⟩
    have S24 := S23.wk w24 nl nRL nCL nD
    have e24 := w24.at nph e21
    walk_at "lk"
    refine snw (Nat.le_of_ble_eq_true rfl) fun m2 hm2 => ?_
    have s2 : Same H24 (upd H24 m2 (.lst [u9, .non])) := same_new hm2
    have e2 : (upd H24 m2 (.lst [u9, .non])) m2 = some (.lst [u9, .non]) := upd_same
    generalize upd H24 m2 (.lst [u9, .non]) = H2 at s2 e2 ⊢
    refine ⟨ph, m2, _, _, rfl, rfl, s2 _ _ e24, e2, Nat.le_of_lt (small1000 (by rw [List.length_map, hltk]; show h + 2 ≤ 1000; omega)), fun m3 hm3 => ?_⟩
    have s3 : Same H2 (upd H2 m3 (.lst ((nums.take h).map V.int ++ [u9, .non]))) := same_new hm3
    have e3 : (upd H2 m3 (.lst ((nums.take h).map V.int ++ [u9, .non]))) m3 = some (.lst ((nums.take h).map V.int ++ [u9, .non])) := upd_same
    generalize upd H2 m3 (.lst ((nums.take h).map V.int ++ [u9, .non])) = H3 at s3 e3 ⊢
    have s23 := s2.trans s3
    have hwrd : wrongO rs 0 (some ((nums.take h).map PyData.int ++ [d9, .none])) = some (h : Int) := by
      show wrongL rs 0 _ 0 = _
      have z := hwr [d9, .none] 0 hfth
      rw [hposh, wrongL_at hrh hf9, Nat.zero_add, hltk] at z
      exact z
    refine ⟨x, .ref m3, k, ns, rs, cts, crs, sts, _, _, rfl, (S24.same s23).cx, W, by omega, k2, .seq (.inl (SqL.of e3)) ((dg_ints _).append (.cons (hu9.same s23).dg (.cons (.dp .non) .nil))), hwrd, fun H4 s4 => ?_⟩
    walk_at "lk"
    refine sEq rfl ?_
    rw [decide_eq_true rfl]
    walk_at "lk"
    exact q _ (S24.w.st (s23.trans s4))
end
end K42

namespace K42
open PySem PySem.Spec PyProof.Rows L2 RZ Lk
local macro_rules | `(tactic| walk_at "lk") => `(tactic| (repeat (first
  | with_reducible refine ssq ?_ | with_reducible refine sas ?_ | with_reducible refine sgn ?_ | ((with_reducible show tVar _ _ _ _); refine sv rfl ?_) | with_reducible refine sc ?_ | with_reducible refine sop ?_ | with_reducible refine sun ?_
  | with_reducible refine sI0 ?_ | with_reducible refine sU ?_ | with_reducible refine stt ?_ | with_reducible refine stB ?_ | with_reducible refine sbl ?_ | with_reducible refine snt ?_ | with_reducible refine sif ?_ | with_reducible refine scB ?_
  | with_reducible refine scn ?_ | with_reducible refine snl ?_ | with_reducible refine scl ?_ | with_reducible refine stu ?_ | with_reducible refine sli ?_ | with_reducible refine sdr ?_ | with_reducible refine srt ?_ | with_reducible refine snx ?_ | with_reducible refine sfor ?_ | with_reducible refine sils ?_ | with_reducible refine sien ?_ | with_reducible refine sor ?_ | with_reducible refine sfg ?_
  | with_reducible refine sav ?_ | with_reducible refine sov ?_ | with_reducible refine snv ?_ | with_reducible refine sch ?_ | with_reducible refine san ?_ | with_reducible refine ssll ?_ | with_reducible refine spt ?_ | with_reducible refine snp ?_ | with_reducible refine sin ?_ | with_reducible refine sfl ?_ | with_reducible refine sfd ?_ | with_reducible refine sbm ?_ | with_reducible refine sifx ?_ | with_reducible refine smk ?_ | with_reducible refine ssli ?_ | with_reducible refine sbz ?_
  | ((with_reducible show Or _ _); first | refine Or.inl ⟨_, rfl, ?_⟩ | refine Or.inr ⟨_, rfl, ?_⟩))))

def spLaw (K : PySem.W.Frag) : Sp := fun vs H Q _ => ∃ (a : Addr) (ns : List Int), vs = [.ref a] ∧ SqL K H a (ns.map V.int) ∧ ns.length ≤ 63 ∧ ∀ H', Q (.bl true) H'

section
variable {P : Program} {w : World} {K : PySem.W.Frag} {mg : Str → Option Value} {base : Heap} {A : Ad}
abbrev s_law : Stmt := top 84
theorem sc_law : FnScope ["_law_script", "_law_k", "_law_cell", "_law_well"] ["_law_script"] (defScope s_law) := ⟨rfl, rfl, rfl, by decide +kernel, rfl, by decide +kernel, by decide +kernel⟩
theorem ok_law {f : Addr} {fd : FuncData} (F : Fun K "law" "law" s_law f fd) (T : Txt P w K mg base A) (c__law_right : Cal P w K mg base 10 "_law_right" ["_law_well"] spRight) : FnOk P w K mg base CX0 11 f fd ["_law_script"] (spLaw K) := by
  refine F.ok sc_law (fun vs H Q E h => ?_) (fun cdv Ar outer s H vs Q E hr h => ?_)
  · obtain ⟨a, ns, rfl, _⟩ := h
    rfl
  · obtain ⟨a, ns, rfl, hS, hlen, k⟩ := h
    refine ⟨_, (pss_cons (ps_for PassesOwn.never rfl (pi_enum (by rfl) T.z_enumerate (pa_cons (pe_slice sl_list (pe_op op_catL (pv 0) (pe_lst (pa_cons pe_int pa_nil))) po_none (po_some pe_int)) pa_nil)) (pg_tup rfl (pgs_cons (pg_name (i := 1) sc_law.nd rfl (Or.inl rfl)) (pgs_cons (pg_name (i := 2) sc_law.nd rfl (Or.inl rfl)) pgs_nil))) (pss_cons (ps_set (i := 3) sc_law.nd rfl (Or.inl rfl) (pe_lst (pa_cons (pe_op op_mul (pv 2) (pe_callTy call_int1 (by rfl) T.z_int (by decide +kernel) (pa_cons (pe_cmpR op_ge (pv 2) (pe_op op_pow pe_int pe_int) (nomark _)) pa_nil))) (pa_cons (pe_op op_add (pe_op op_mod (pe_callTy call_int1 (by rfl) T.z_int (by decide +kernel) (pa_cons (pv 2) pa_nil)) pe_int) (pe_op op_mul pe_int (pv 1))) (pa_cons pe_int pa_nil)))))
        (pss_one (ps_if (pt_not (pt_val (pcal c__law_right hr (by decide) (pa_cons (pv 3) pa_nil)))) (pss_one (ps_ret pe_bl)) pss_nil))))
        (pss_one (ps_ret pe_bl))), ?_⟩
    walk_at "lk"
    refine snw (Nat.le_of_ble_eq_true rfl) fun z hz => ?_
    refine ⟨a, z, _, _, rfl, rfl, (same_new hz).seq hS, upd_same, Nat.le_of_lt (small1000 (by rw [List.length_map]; show ns.length + 1 ≤ 1000; omega)), fun l1 hl1 => ?_⟩
    walk_at "lk"
    refine ⟨l1, _, rfl, SqL.of upd_same, fun l2 hl2 => ?_⟩
    have ois : ∀ y ∈ cutV (ns.map V.int ++ [V.int 0]) none (some 5), ∃ n, y = V.int n := fun y hy => by
      have h1 : y ∈ ns.map V.int ++ [V.int 0] := List.mem_of_mem_drop (List.mem_of_mem_take hy)
      rcases List.mem_append.mp h1 with h2 | h2
      · obtain ⟨n, _, rfl⟩ := List.mem_map.mp h2
        exact ⟨n, rfl⟩
      · exact ⟨0, List.mem_singleton.mp h2⟩
    generalize cutV (ns.map V.int ++ [V.int 0]) none (some 5) = xs at ois ⊢
    walk_at "lk"
    refine ⟨l2, xs, rfl, SqL.of upd_same, ?_⟩
    generalize hHL : upd (upd (upd H z (.lst [.int 0])) l1 (.lst (ns.map V.int ++ [V.int 0]))) l2 (.lst xs) = HL
    have e2 : HL l2 = some (.lst xs) := by rw [← hHL, upd_same]
    refine en_by (fun i σ H' => (∃ e1 e2 e3, σ = [some (.ref a), e1, e2, e3]) ∧ Same HL H') ⟨⟨_, _, _, rfl⟩, Same.refl _⟩ (fun i σ H' _ h => SqL.of (h.2 _ _ e2)) ?_ ?_
    · rintro i y p σ H1 hi ⟨⟨u1, u2, u3, rfl⟩, s1⟩ hp
      obtain ⟨n, rfl⟩ := ois y (List.mem_of_getElem? hi)
      refine g_pair (SqT.of upd_same) ?_
      have s2 : Same HL (upd H1 p (.tup [.int (i : Nat), .int n])) := s1.trans (same_new hp)
      generalize upd H1 p (.tup [.int (i : Nat), .int n]) = H2 at s2 ⊢
      walk_at "lk"
      refine sI ⟨by decide, by decide, by decide⟩ ?_
      walk_at "lk"
      refine sI (.inr ⟨by split <;> decide, by split <;> decide⟩) ?_
      walk_at "lk"
      refine sI (by decide) ?_
      walk_at "lk"
      refine sI (.inl ⟨by decide, by decide⟩) ?_
      walk_at "lk"
      refine snw (Nat.le_of_ble_eq_true rfl) fun q hq => ?_
      walk_at "lk"
      refine ⟨q, rfl, ⟨_, _, _, upd_same⟩, fun H3 fr => ?_⟩
      walk_at "lk"
      refine iteF ?_
      walk_at "lk"
      refine ⟨⟨_, _, _, rfl⟩, fun b o e => fr.1 b o ?_ ?_⟩
      · exact ne_of_none (s2 b o e) hq
      · exact same_new hq _ _ (s2 b o e)
    · rintro σ H1 ⟨⟨u1, u2, u3, rfl⟩, s1⟩
      walk_at "lk"
      exact k _
end
end K42

namespace K42
open PySem PySem.Spec PyProof.Rows L2 Lk
theorem all_mk {P : PySem.Program} {w : World} {K : PySem.W.Frag} {h : Heap} {mg : Str → Option Value} {fa : Addr} {A : Ad} (X : K.In h) (G0 : h.Ns mainGlobals mg) (hfa : mg "law" = some (.ref fa)) (TT : ∀ base, Txt P w K mg base A)
    {f0 : Addr} {od0 an0 : Option Addr} {sl0 : Array (Option Value)} {oc0 kV0 dc0 pm0 cd0 ct0 : Value} (a0 : PySem.W.nsIn K mainGlobals "is_integer" = some (some (.ref f0))) (l0 : K.lookup f0 = some ⟨oc0, od0, .func (PySem.W.fnOf "is_integer" "is_integer" (defArgs s_is_integer) (defBody s_is_integer) (defScope s_is_integer) .none kV0 dc0 pm0 an0 cd0 ct0), sl0⟩) (c0 : PySem.W.codeIn K cd0 "is_integer" = true) (k0 : PySem.W.keepIn K (.ref f0) = true)
    {f1 : Addr} {od1 an1 : Option Addr} {sl1 : Array (Option Value)} {oc1 kV1 dc1 pm1 cd1 ct1 : Value} (a1 : PySem.W.nsIn K mainGlobals "is_within" = some (some (.ref f1))) (l1 : K.lookup f1 = some ⟨oc1, od1, .func (PySem.W.fnOf "is_within" "is_within" (defArgs s_is_within) (defBody s_is_within) (defScope s_is_within) .none kV1 dc1 pm1 an1 cd1 ct1), sl1⟩) (c1 : PySem.W.codeIn K cd1 "is_within" = true) (k1 : PySem.W.keepIn K (.ref f1) = true)
    {f2 : Addr} {od2 an2 : Option Addr} {sl2 : Array (Option Value)} {oc2 kV2 dc2 pm2 cd2 ct2 : Value} (a2 : PySem.W.nsIn K mainGlobals "is_width" = some (some (.ref f2))) (l2 : K.lookup f2 = some ⟨oc2, od2, .func (PySem.W.fnOf "is_width" "is_width" (defArgs s_is_width) (defBody s_is_width) (defScope s_is_width) .none kV2 dc2 pm2 an2 cd2 ct2), sl2⟩) (c2 : PySem.W.codeIn K cd2 "is_width" = true) (k2 : PySem.W.keepIn K (.ref f2) = true)
    {f3 : Addr} {od3 an3 : Option Addr} {sl3 : Array (Option Value)} {oc3 kV3 dc3 pm3 cd3 ct3 : Value} (a3 : PySem.W.nsIn K mainGlobals "is_sequence" = some (some (.ref f3))) (l3 : K.lookup f3 = some ⟨oc3, od3, .func (PySem.W.fnOf "is_sequence" "is_sequence" (defArgs s_is_sequence) (defBody s_is_sequence) (defScope s_is_sequence) .none kV3 dc3 pm3 an3 cd3 ct3), sl3⟩) (c3 : PySem.W.codeIn K cd3 "is_sequence" = true) (k3 : PySem.W.keepIn K (.ref f3) = true)
    {f4 : Addr} {od4 an4 : Option Addr} {sl4 : Array (Option Value)} {oc4 kV4 dc4 pm4 cd4 ct4 : Value} (a4 : PySem.W.nsIn K mainGlobals "are_integers" = some (some (.ref f4))) (l4 : K.lookup f4 = some ⟨oc4, od4, .func (PySem.W.fnOf "are_integers" "are_integers" (defArgs s_are_integers) (defBody s_are_integers) (defScope s_are_integers) .none kV4 dc4 pm4 an4 cd4 ct4), sl4⟩) (c4 : PySem.W.codeIn K cd4 "are_integers" = true) (k4 : PySem.W.keepIn K (.ref f4) = true)
    {f5 : Addr} {od5 an5 : Option Addr} {sl5 : Array (Option Value)} {oc5 kV5 dc5 pm5 cd5 ct5 : Value} (a5 : PySem.W.nsIn K mainGlobals "wrong_integer" = some (some (.ref f5))) (l5 : K.lookup f5 = some ⟨oc5, od5, .func (PySem.W.fnOf "wrong_integer" "wrong_integer" (defArgs s_wrong_integer) (defBody s_wrong_integer) (defScope s_wrong_integer) .none kV5 dc5 pm5 an5 cd5 ct5), sl5⟩) (c5 : PySem.W.codeIn K cd5 "wrong_integer" = true) (k5 : PySem.W.keepIn K (.ref f5) = true)
    {f6 : Addr} {od6 an6 : Option Addr} {sl6 : Array (Option Value)} {oc6 kV6 dc6 pm6 cd6 ct6 : Value} (a6 : PySem.W.nsIn K mainGlobals "is_form" = some (some (.ref f6))) (l6 : K.lookup f6 = some ⟨oc6, od6, .func (PySem.W.fnOf "is_form" "is_form" (defArgs s_is_form) (defBody s_is_form) (defScope s_is_form) .none kV6 dc6 pm6 an6 cd6 ct6), sl6⟩) (c6 : PySem.W.codeIn K cd6 "is_form" = true) (k6 : PySem.W.keepIn K (.ref f6) = true)
    {f7 : Addr} {od7 an7 : Option Addr} {sl7 : Array (Option Value)} {oc7 kV7 dc7 pm7 cd7 ct7 : Value} (a7 : PySem.W.nsIn K mainGlobals "lowered" = some (some (.ref f7))) (l7 : K.lookup f7 = some ⟨oc7, od7, .func (PySem.W.fnOf "lowered" "lowered" (defArgs s_lowered) (defBody s_lowered) (defScope s_lowered) .none kV7 dc7 pm7 an7 cd7 ct7), sl7⟩) (c7 : PySem.W.codeIn K cd7 "lowered" = true) (k7 : PySem.W.keepIn K (.ref f7) = true)
    {f8 : Addr} {od8 an8 : Option Addr} {sl8 : Array (Option Value)} {oc8 kV8 dc8 pm8 cd8 ct8 : Value} (a8 : PySem.W.nsIn K mainGlobals "unit_row" = some (some (.ref f8))) (l8 : K.lookup f8 = some ⟨oc8, od8, .func (PySem.W.fnOf "unit_row" "unit_row" (defArgs s_unit_row) (defBody s_unit_row) (defScope s_unit_row) .none kV8 dc8 pm8 an8 cd8 ct8), sl8⟩) (c8 : PySem.W.codeIn K cd8 "unit_row" = true) (k8 : PySem.W.keepIn K (.ref f8) = true)
    {f9 : Addr} {od9 an9 : Option Addr} {sl9 : Array (Option Value)} {oc9 kV9 dc9 pm9 cd9 ct9 : Value} (a9 : PySem.W.nsIn K mainGlobals "product_of" = some (some (.ref f9))) (l9 : K.lookup f9 = some ⟨oc9, od9, .func (PySem.W.fnOf "product_of" "product_of" (defArgs s_product_of) (defBody s_product_of) (defScope s_product_of) .none kV9 dc9 pm9 an9 cd9 ct9), sl9⟩) (c9 : PySem.W.codeIn K cd9 "product_of" = true) (k9 : PySem.W.keepIn K (.ref f9) = true)
    {f10 : Addr} {od10 an10 : Option Addr} {sl10 : Array (Option Value)} {oc10 kV10 dc10 pm10 cd10 ct10 : Value} (a10 : PySem.W.nsIn K mainGlobals "are_nexts" = some (some (.ref f10))) (l10 : K.lookup f10 = some ⟨oc10, od10, .func (PySem.W.fnOf "are_nexts" "are_nexts" (defArgs s_are_nexts) (defBody s_are_nexts) (defScope s_are_nexts) .none kV10 dc10 pm10 an10 cd10 ct10), sl10⟩) (c10 : PySem.W.codeIn K cd10 "are_nexts" = true) (k10 : PySem.W.keepIn K (.ref f10) = true)
    {f11 : Addr} {od11 an11 : Option Addr} {sl11 : Array (Option Value)} {oc11 kV11 dc11 pm11 cd11 ct11 : Value} (a11 : PySem.W.nsIn K mainGlobals "next_row" = some (some (.ref f11))) (l11 : K.lookup f11 = some ⟨oc11, od11, .func (PySem.W.fnOf "next_row" "next_row" (defArgs s_next_row) (defBody s_next_row) (defScope s_next_row) .none kV11 dc11 pm11 an11 cd11 ct11), sl11⟩) (c11 : PySem.W.codeIn K cd11 "next_row" = true) (k11 : PySem.W.keepIn K (.ref f11) = true)
    {f12 : Addr} {od12 an12 : Option Addr} {sl12 : Array (Option Value)} {oc12 kV12 dc12 pm12 cd12 ct12 : Value} (a12 : PySem.W.nsIn K mainGlobals "fits" = some (some (.ref f12))) (l12 : K.lookup f12 = some ⟨oc12, od12, .func (PySem.W.fnOf "fits" "fits" (defArgs s_fits) (defBody s_fits) (defScope s_fits) .none kV12 dc12 pm12 an12 cd12 ct12), sl12⟩) (c12 : PySem.W.codeIn K cd12 "fits" = true) (k12 : PySem.W.keepIn K (.ref f12) = true)
    {f13 : Addr} {od13 an13 : Option Addr} {sl13 : Array (Option Value)} {oc13 kV13 dc13 pm13 cd13 ct13 : Value} (a13 : PySem.W.nsIn K mainGlobals "wrong_number" = some (some (.ref f13))) (l13 : K.lookup f13 = some ⟨oc13, od13, .func (PySem.W.fnOf "wrong_number" "wrong_number" (defArgs s_wrong_number) (defBody s_wrong_number) (defScope s_wrong_number) .none kV13 dc13 pm13 an13 cd13 ct13), sl13⟩) (c13 : PySem.W.codeIn K cd13 "wrong_number" = true) (k13 : PySem.W.keepIn K (.ref f13) = true)
    {f14 : Addr} {od14 an14 : Option Addr} {sl14 : Array (Option Value)} {oc14 kV14 dc14 pm14 cd14 ct14 : Value} (a14 : PySem.W.nsIn K mainGlobals "check_numbers" = some (some (.ref f14))) (l14 : K.lookup f14 = some ⟨oc14, od14, .func (PySem.W.fnOf "check_numbers" "check_numbers" (defArgs s_check_numbers) (defBody s_check_numbers) (defScope s_check_numbers) .none kV14 dc14 pm14 an14 cd14 ct14), sl14⟩) (c14 : PySem.W.codeIn K cd14 "check_numbers" = true) (k14 : PySem.W.keepIn K (.ref f14) = true)
    {f15 : Addr} {od15 an15 : Option Addr} {sl15 : Array (Option Value)} {oc15 kV15 dc15 pm15 cd15 ct15 : Value} (a15 : PySem.W.nsIn K mainGlobals "code_graph" = some (some (.ref f15))) (l15 : K.lookup f15 = some ⟨oc15, od15, .func (PySem.W.fnOf "code_graph" "code_graph" (defArgs s_code_graph) (defBody s_code_graph) (defScope s_code_graph) .none kV15 dc15 pm15 an15 cd15 ct15), sl15⟩) (c15 : PySem.W.codeIn K cd15 "code_graph" = true) (k15 : PySem.W.keepIn K (.ref f15) = true)
    {f16 : Addr} {od16 an16 : Option Addr} {sl16 : Array (Option Value)} {oc16 kV16 dc16 pm16 cd16 ct16 : Value} (a16 : PySem.W.nsIn K mainGlobals "code_said" = some (some (.ref f16))) (l16 : K.lookup f16 = some ⟨oc16, od16, .func (PySem.W.fnOf "code_said" "code_said" (defArgs s_code_said) (defBody s_code_said) (defScope s_code_said) .none kV16 dc16 pm16 an16 cd16 ct16), sl16⟩) (c16 : PySem.W.codeIn K cd16 "code_said" = true) (k16 : PySem.W.keepIn K (.ref f16) = true)
    {f17 : Addr} {od17 an17 : Option Addr} {sl17 : Array (Option Value)} {oc17 kV17 dc17 pm17 cd17 ct17 : Value} (a17 : PySem.W.nsIn K mainGlobals "code_stepped" = some (some (.ref f17))) (l17 : K.lookup f17 = some ⟨oc17, od17, .func (PySem.W.fnOf "code_stepped" "code_stepped" (defArgs s_code_stepped) (defBody s_code_stepped) (defScope s_code_stepped) .none kV17 dc17 pm17 an17 cd17 ct17), sl17⟩) (c17 : PySem.W.codeIn K cd17 "code_stepped" = true) (k17 : PySem.W.keepIn K (.ref f17) = true)
    {f18 : Addr} {od18 an18 : Option Addr} {sl18 : Array (Option Value)} {oc18 kV18 dc18 pm18 cd18 ct18 : Value} (a18 : PySem.W.nsIn K mainGlobals "run_code" = some (some (.ref f18))) (l18 : K.lookup f18 = some ⟨oc18, od18, .func (PySem.W.fnOf "run_code" "run_code" (defArgs s_run_code) (defBody s_run_code) (defScope s_run_code) .none kV18 dc18 pm18 an18 cd18 ct18), sl18⟩) (c18 : PySem.W.codeIn K cd18 "run_code" = true) (k18 : PySem.W.keepIn K (.ref f18) = true)
    {f19 : Addr} {od19 an19 : Option Addr} {sl19 : Array (Option Value)} {oc19 kV19 dc19 pm19 cd19 ct19 : Value} (a19 : PySem.W.nsIn K mainGlobals "_check_head" = some (some (.ref f19))) (l19 : K.lookup f19 = some ⟨oc19, od19, .func (PySem.W.fnOf "_check_head" "_check_head" (defArgs s__check_head) (defBody s__check_head) (defScope s__check_head) .none kV19 dc19 pm19 an19 cd19 ct19), sl19⟩) (c19 : PySem.W.codeIn K cd19 "_check_head" = true) (k19 : PySem.W.keepIn K (.ref f19) = true)
    {f20 : Addr} {od20 an20 : Option Addr} {sl20 : Array (Option Value)} {oc20 kV20 dc20 pm20 cd20 ct20 : Value} (a20 : PySem.W.nsIn K mainGlobals "_check_nexts" = some (some (.ref f20))) (l20 : K.lookup f20 = some ⟨oc20, od20, .func (PySem.W.fnOf "_check_nexts" "_check_nexts" (defArgs s__check_nexts) (defBody s__check_nexts) (defScope s__check_nexts) .none kV20 dc20 pm20 an20 cd20 ct20), sl20⟩) (c20 : PySem.W.codeIn K cd20 "_check_nexts" = true) (k20 : PySem.W.keepIn K (.ref f20) = true)
    {f21 : Addr} {od21 an21 : Option Addr} {sl21 : Array (Option Value)} {oc21 kV21 dc21 pm21 cd21 ct21 : Value} (a21 : PySem.W.nsIn K mainGlobals "_check_says" = some (some (.ref f21))) (l21 : K.lookup f21 = some ⟨oc21, od21, .func (PySem.W.fnOf "_check_says" "_check_says" (defArgs s__check_says) (defBody s__check_says) (defScope s__check_says) .none kV21 dc21 pm21 an21 cd21 ct21), sl21⟩) (c21 : PySem.W.codeIn K cd21 "_check_says" = true) (k21 : PySem.W.keepIn K (.ref f21) = true)
    {f22 : Addr} {od22 an22 : Option Addr} {sl22 : Array (Option Value)} {oc22 kV22 dc22 pm22 cd22 ct22 : Value} (a22 : PySem.W.nsIn K mainGlobals "are_forms" = some (some (.ref f22))) (l22 : K.lookup f22 = some ⟨oc22, od22, .func (PySem.W.fnOf "are_forms" "are_forms" (defArgs s_are_forms) (defBody s_are_forms) (defScope s_are_forms) .none kV22 dc22 pm22 an22 cd22 ct22), sl22⟩) (c22 : PySem.W.codeIn K cd22 "are_forms" = true) (k22 : PySem.W.keepIn K (.ref f22) = true)
    {f23 : Addr} {od23 an23 : Option Addr} {sl23 : Array (Option Value)} {oc23 kV23 dc23 pm23 cd23 ct23 : Value} (a23 : PySem.W.nsIn K mainGlobals "_check_changes" = some (some (.ref f23))) (l23 : K.lookup f23 = some ⟨oc23, od23, .func (PySem.W.fnOf "_check_changes" "_check_changes" (defArgs s__check_changes) (defBody s__check_changes) (defScope s__check_changes) .none kV23 dc23 pm23 an23 cd23 ct23), sl23⟩) (c23 : PySem.W.codeIn K cd23 "_check_changes" = true) (k23 : PySem.W.keepIn K (.ref f23) = true)
    {f24 : Addr} {od24 an24 : Option Addr} {sl24 : Array (Option Value)} {oc24 kV24 dc24 pm24 cd24 ct24 : Value} (a24 : PySem.W.nsIn K mainGlobals "_check_row" = some (some (.ref f24))) (l24 : K.lookup f24 = some ⟨oc24, od24, .func (PySem.W.fnOf "_check_row" "_check_row" (defArgs s__check_row) (defBody s__check_row) (defScope s__check_row) .none kV24 dc24 pm24 an24 cd24 ct24), sl24⟩) (c24 : PySem.W.codeIn K cd24 "_check_row" = true) (k24 : PySem.W.keepIn K (.ref f24) = true)
    {f25 : Addr} {od25 an25 : Option Addr} {sl25 : Array (Option Value)} {oc25 kV25 dc25 pm25 cd25 ct25 : Value} (a25 : PySem.W.nsIn K mainGlobals "_lowered_row" = some (some (.ref f25))) (l25 : K.lookup f25 = some ⟨oc25, od25, .func (PySem.W.fnOf "_lowered_row" "_lowered_row" (defArgs s__lowered_row) (defBody s__lowered_row) (defScope s__lowered_row) .none kV25 dc25 pm25 an25 cd25 ct25), sl25⟩) (c25 : PySem.W.codeIn K cd25 "_lowered_row" = true) (k25 : PySem.W.keepIn K (.ref f25) = true)
    {f26 : Addr} {od26 an26 : Option Addr} {sl26 : Array (Option Value)} {oc26 kV26 dc26 pm26 cd26 ct26 : Value} (a26 : PySem.W.nsIn K mainGlobals "is_name" = some (some (.ref f26))) (l26 : K.lookup f26 = some ⟨oc26, od26, .func (PySem.W.fnOf "is_name" "is_name" (defArgs s_is_name) (defBody s_is_name) (defScope s_is_name) .none kV26 dc26 pm26 an26 cd26 ct26), sl26⟩) (c26 : PySem.W.codeIn K cd26 "is_name" = true) (k26 : PySem.W.keepIn K (.ref f26) = true)
    {f27 : Addr} {od27 an27 : Option Addr} {sl27 : Array (Option Value)} {oc27 kV27 dc27 pm27 cd27 ct27 : Value} (a27 : PySem.W.nsIn K mainGlobals "is_variable" = some (some (.ref f27))) (l27 : K.lookup f27 = some ⟨oc27, od27, .func (PySem.W.fnOf "is_variable" "is_variable" (defArgs s_is_variable) (defBody s_is_variable) (defScope s_is_variable) .none kV27 dc27 pm27 an27 cd27 ct27), sl27⟩) (c27 : PySem.W.codeIn K cd27 "is_variable" = true) (k27 : PySem.W.keepIn K (.ref f27) = true)
    {f28 : Addr} {od28 an28 : Option Addr} {sl28 : Array (Option Value)} {oc28 kV28 dc28 pm28 cd28 ct28 : Value} (a28 : PySem.W.nsIn K mainGlobals "lowered_row" = some (some (.ref f28))) (l28 : K.lookup f28 = some ⟨oc28, od28, .func (PySem.W.fnOf "lowered_row" "lowered_row" (defArgs s_lowered_row) (defBody s_lowered_row) (defScope s_lowered_row) .none kV28 dc28 pm28 an28 cd28 ct28), sl28⟩) (c28 : PySem.W.codeIn K cd28 "lowered_row" = true) (k28 : PySem.W.keepIn K (.ref f28) = true)
    {f29 : Addr} {od29 an29 : Option Addr} {sl29 : Array (Option Value)} {oc29 kV29 dc29 pm29 cd29 ct29 : Value} (a29 : PySem.W.nsIn K mainGlobals "is_row" = some (some (.ref f29))) (l29 : K.lookup f29 = some ⟨oc29, od29, .func (PySem.W.fnOf "is_row" "is_row" (defArgs s_is_row) (defBody s_is_row) (defScope s_is_row) .none kV29 dc29 pm29 an29 cd29 ct29), sl29⟩) (c29 : PySem.W.codeIn K cd29 "is_row" = true) (k29 : PySem.W.keepIn K (.ref f29) = true)
    {f30 : Addr} {od30 an30 : Option Addr} {sl30 : Array (Option Value)} {oc30 kV30 dc30 pm30 cd30 ct30 : Value} (a30 : PySem.W.nsIn K mainGlobals "_check_variables" = some (some (.ref f30))) (l30 : K.lookup f30 = some ⟨oc30, od30, .func (PySem.W.fnOf "_check_variables" "_check_variables" (defArgs s__check_variables) (defBody s__check_variables) (defScope s__check_variables) .none kV30 dc30 pm30 an30 cd30 ct30), sl30⟩) (c30 : PySem.W.codeIn K cd30 "_check_variables" = true) (k30 : PySem.W.keepIn K (.ref f30) = true)
    {f31 : Addr} {od31 an31 : Option Addr} {sl31 : Array (Option Value)} {oc31 kV31 dc31 pm31 cd31 ct31 : Value} (a31 : PySem.W.nsIn K mainGlobals "_check_rows" = some (some (.ref f31))) (l31 : K.lookup f31 = some ⟨oc31, od31, .func (PySem.W.fnOf "_check_rows" "_check_rows" (defArgs s__check_rows) (defBody s__check_rows) (defScope s__check_rows) .none kV31 dc31 pm31 an31 cd31 ct31), sl31⟩) (c31 : PySem.W.codeIn K cd31 "_check_rows" = true) (k31 : PySem.W.keepIn K (.ref f31) = true)
    {f32 : Addr} {od32 an32 : Option Addr} {sl32 : Array (Option Value)} {oc32 kV32 dc32 pm32 cd32 ct32 : Value} (a32 : PySem.W.nsIn K mainGlobals "check_row" = some (some (.ref f32))) (l32 : K.lookup f32 = some ⟨oc32, od32, .func (PySem.W.fnOf "check_row" "check_row" (defArgs s_check_row) (defBody s_check_row) (defScope s_check_row) .none kV32 dc32 pm32 an32 cd32 ct32), sl32⟩) (c32 : PySem.W.codeIn K cd32 "check_row" = true) (k32 : PySem.W.keepIn K (.ref f32) = true)
    {f33 : Addr} {od33 an33 : Option Addr} {sl33 : Array (Option Value)} {oc33 kV33 dc33 pm33 cd33 ct33 : Value} (a33 : PySem.W.nsIn K mainGlobals "kind_and_nexts" = some (some (.ref f33))) (l33 : K.lookup f33 = some ⟨oc33, od33, .func (PySem.W.fnOf "kind_and_nexts" "kind_and_nexts" (defArgs s_kind_and_nexts) (defBody s_kind_and_nexts) (defScope s_kind_and_nexts) .none kV33 dc33 pm33 an33 cd33 ct33), sl33⟩) (c33 : PySem.W.codeIn K cd33 "kind_and_nexts" = true) (k33 : PySem.W.keepIn K (.ref f33) = true)
    {f34 : Addr} {od34 an34 : Option Addr} {sl34 : Array (Option Value)} {oc34 kV34 dc34 pm34 cd34 ct34 : Value} (a34 : PySem.W.nsIn K mainGlobals "graph_of" = some (some (.ref f34))) (l34 : K.lookup f34 = some ⟨oc34, od34, .func (PySem.W.fnOf "graph_of" "graph_of" (defArgs s_graph_of) (defBody s_graph_of) (defScope s_graph_of) .none kV34 dc34 pm34 an34 cd34 ct34), sl34⟩) (c34 : PySem.W.codeIn K cd34 "graph_of" = true) (k34 : PySem.W.keepIn K (.ref f34) = true)
    {f35 : Addr} {od35 an35 : Option Addr} {sl35 : Array (Option Value)} {oc35 kV35 dc35 pm35 cd35 ct35 : Value} (a35 : PySem.W.nsIn K mainGlobals "place_of" = some (some (.ref f35))) (l35 : K.lookup f35 = some ⟨oc35, od35, .func (PySem.W.fnOf "place_of" "place_of" (defArgs s_place_of) (defBody s_place_of) (defScope s_place_of) .none kV35 dc35 pm35 an35 cd35 ct35), sl35⟩) (c35 : PySem.W.codeIn K cd35 "place_of" = true) (k35 : PySem.W.keepIn K (.ref f35) = true)
    {f36 : Addr} {od36 an36 : Option Addr} {sl36 : Array (Option Value)} {oc36 kV36 dc36 pm36 cd36 ct36 : Value} (a36 : PySem.W.nsIn K mainGlobals "forms_said" = some (some (.ref f36))) (l36 : K.lookup f36 = some ⟨oc36, od36, .func (PySem.W.fnOf "forms_said" "forms_said" (defArgs s_forms_said) (defBody s_forms_said) (defScope s_forms_said) .none kV36 dc36 pm36 an36 cd36 ct36), sl36⟩) (c36 : PySem.W.codeIn K cd36 "forms_said" = true) (k36 : PySem.W.keepIn K (.ref f36) = true)
    {f37 : Addr} {od37 an37 : Option Addr} {sl37 : Array (Option Value)} {oc37 kV37 dc37 pm37 cd37 ct37 : Value} (a37 : PySem.W.nsIn K mainGlobals "said_at" = some (some (.ref f37))) (l37 : K.lookup f37 = some ⟨oc37, od37, .func (PySem.W.fnOf "said_at" "said_at" (defArgs s_said_at) (defBody s_said_at) (defScope s_said_at) .none kV37 dc37 pm37 an37 cd37 ct37), sl37⟩) (c37 : PySem.W.codeIn K cd37 "said_at" = true) (k37 : PySem.W.keepIn K (.ref f37) = true)
    {f38 : Addr} {od38 an38 : Option Addr} {sl38 : Array (Option Value)} {oc38 kV38 dc38 pm38 cd38 ct38 : Value} (a38 : PySem.W.nsIn K mainGlobals "stepped" = some (some (.ref f38))) (l38 : K.lookup f38 = some ⟨oc38, od38, .func (PySem.W.fnOf "stepped" "stepped" (defArgs s_stepped) (defBody s_stepped) (defScope s_stepped) .none kV38 dc38 pm38 an38 cd38 ct38), sl38⟩) (c38 : PySem.W.codeIn K cd38 "stepped" = true) (k38 : PySem.W.keepIn K (.ref f38) = true)
    {f39 : Addr} {od39 an39 : Option Addr} {sl39 : Array (Option Value)} {oc39 kV39 dc39 pm39 cd39 ct39 : Value} (a39 : PySem.W.nsIn K mainGlobals "_behind" = some (some (.ref f39))) (l39 : K.lookup f39 = some ⟨oc39, od39, .func (PySem.W.fnOf "_behind" "_behind" (defArgs s__behind) (defBody s__behind) (defScope s__behind) .none kV39 dc39 pm39 an39 cd39 ct39), sl39⟩) (c39 : PySem.W.codeIn K cd39 "_behind" = true) (k39 : PySem.W.keepIn K (.ref f39) = true)
    {f40 : Addr} {od40 an40 : Option Addr} {sl40 : Array (Option Value)} {oc40 kV40 dc40 pm40 cd40 ct40 : Value} (a40 : PySem.W.nsIn K mainGlobals "run" = some (some (.ref f40))) (l40 : K.lookup f40 = some ⟨oc40, od40, .func (PySem.W.fnOf "run" "run" (defArgs s_run) (defBody s_run) (defScope s_run) .none kV40 dc40 pm40 an40 cd40 ct40), sl40⟩) (c40 : PySem.W.codeIn K cd40 "run" = true) (k40 : PySem.W.keepIn K (.ref f40) = true)
    {f41 : Addr} {od41 an41 : Option Addr} {sl41 : Array (Option Value)} {oc41 kV41 dc41 pm41 cd41 ct41 : Value} (a41 : PySem.W.nsIn K mainGlobals "_law_draw" = some (some (.ref f41))) (l41 : K.lookup f41 = some ⟨oc41, od41, .func (PySem.W.fnOf "_law_draw" "_law_draw" (defArgs s__law_draw) (defBody s__law_draw) (defScope s__law_draw) .none kV41 dc41 pm41 an41 cd41 ct41), sl41⟩) (c41 : PySem.W.codeIn K cd41 "_law_draw" = true) (k41 : PySem.W.keepIn K (.ref f41) = true)
    {f42 : Addr} {od42 an42 : Option Addr} {sl42 : Array (Option Value)} {oc42 kV42 dc42 pm42 cd42 ct42 : Value} (a42 : PySem.W.nsIn K mainGlobals "_law_one" = some (some (.ref f42))) (l42 : K.lookup f42 = some ⟨oc42, od42, .func (PySem.W.fnOf "_law_one" "_law_one" (defArgs s__law_one) (defBody s__law_one) (defScope s__law_one) .none kV42 dc42 pm42 an42 cd42 ct42), sl42⟩) (c42 : PySem.W.codeIn K cd42 "_law_one" = true) (k42 : PySem.W.keepIn K (.ref f42) = true)
    {f43 : Addr} {od43 an43 : Option Addr} {sl43 : Array (Option Value)} {oc43 kV43 dc43 pm43 cd43 ct43 : Value} (a43 : PySem.W.nsIn K mainGlobals "_law_number" = some (some (.ref f43))) (l43 : K.lookup f43 = some ⟨oc43, od43, .func (PySem.W.fnOf "_law_number" "_law_number" (defArgs s__law_number) (defBody s__law_number) (defScope s__law_number) .none kV43 dc43 pm43 an43 cd43 ct43), sl43⟩) (c43 : PySem.W.codeIn K cd43 "_law_number" = true) (k43 : PySem.W.keepIn K (.ref f43) = true)
    {f44 : Addr} {od44 an44 : Option Addr} {sl44 : Array (Option Value)} {oc44 kV44 dc44 pm44 cd44 ct44 : Value} (a44 : PySem.W.nsIn K mainGlobals "_law_form" = some (some (.ref f44))) (l44 : K.lookup f44 = some ⟨oc44, od44, .func (PySem.W.fnOf "_law_form" "_law_form" (defArgs s__law_form) (defBody s__law_form) (defScope s__law_form) .none kV44 dc44 pm44 an44 cd44 ct44), sl44⟩) (c44 : PySem.W.codeIn K cd44 "_law_form" = true) (k44 : PySem.W.keepIn K (.ref f44) = true)
    {f45 : Addr} {od45 an45 : Option Addr} {sl45 : Array (Option Value)} {oc45 kV45 dc45 pm45 cd45 ct45 : Value} (a45 : PySem.W.nsIn K mainGlobals "_law_row" = some (some (.ref f45))) (l45 : K.lookup f45 = some ⟨oc45, od45, .func (PySem.W.fnOf "_law_row" "_law_row" (defArgs s__law_row) (defBody s__law_row) (defScope s__law_row) .none kV45 dc45 pm45 an45 cd45 ct45), sl45⟩) (c45 : PySem.W.codeIn K cd45 "_law_row" = true) (k45 : PySem.W.keepIn K (.ref f45) = true)
    {f46 : Addr} {od46 an46 : Option Addr} {sl46 : Array (Option Value)} {oc46 kV46 dc46 pm46 cd46 ct46 : Value} (a46 : PySem.W.nsIn K mainGlobals "_law_rows" = some (some (.ref f46))) (l46 : K.lookup f46 = some ⟨oc46, od46, .func (PySem.W.fnOf "_law_rows" "_law_rows" (defArgs s__law_rows) (defBody s__law_rows) (defScope s__law_rows) .none kV46 dc46 pm46 an46 cd46 ct46), sl46⟩) (c46 : PySem.W.codeIn K cd46 "_law_rows" = true) (k46 : PySem.W.keepIn K (.ref f46) = true)
    {f47 : Addr} {od47 an47 : Option Addr} {sl47 : Array (Option Value)} {oc47 kV47 dc47 pm47 cd47 ct47 : Value} (a47 : PySem.W.nsIn K mainGlobals "_law_value" = some (some (.ref f47))) (l47 : K.lookup f47 = some ⟨oc47, od47, .func (PySem.W.fnOf "_law_value" "_law_value" (defArgs s__law_value) (defBody s__law_value) (defScope s__law_value) .none kV47 dc47 pm47 an47 cd47 ct47), sl47⟩) (c47 : PySem.W.codeIn K cd47 "_law_value" = true) (k47 : PySem.W.keepIn K (.ref f47) = true)
    {f48 : Addr} {od48 an48 : Option Addr} {sl48 : Array (Option Value)} {oc48 kV48 dc48 pm48 cd48 ct48 : Value} (a48 : PySem.W.nsIn K mainGlobals "_law_stepped" = some (some (.ref f48))) (l48 : K.lookup f48 = some ⟨oc48, od48, .func (PySem.W.fnOf "_law_stepped" "_law_stepped" (defArgs s__law_stepped) (defBody s__law_stepped) (defScope s__law_stepped) .none kV48 dc48 pm48 an48 cd48 ct48), sl48⟩) (c48 : PySem.W.codeIn K cd48 "_law_stepped" = true) (k48 : PySem.W.keepIn K (.ref f48) = true)
    {f49 : Addr} {od49 an49 : Option Addr} {sl49 : Array (Option Value)} {oc49 kV49 dc49 pm49 cd49 ct49 : Value} (a49 : PySem.W.nsIn K mainGlobals "_law_picked" = some (some (.ref f49))) (l49 : K.lookup f49 = some ⟨oc49, od49, .func (PySem.W.fnOf "_law_picked" "_law_picked" (defArgs s__law_picked) (defBody s__law_picked) (defScope s__law_picked) .none kV49 dc49 pm49 an49 cd49 ct49), sl49⟩) (c49 : PySem.W.codeIn K cd49 "_law_picked" = true) (k49 : PySem.W.keepIn K (.ref f49) = true)
    {f50 : Addr} {od50 an50 : Option Addr} {sl50 : Array (Option Value)} {oc50 kV50 dc50 pm50 cd50 ct50 : Value} (a50 : PySem.W.nsIn K mainGlobals "_law_walked" = some (some (.ref f50))) (l50 : K.lookup f50 = some ⟨oc50, od50, .func (PySem.W.fnOf "_law_walked" "_law_walked" (defArgs s__law_walked) (defBody s__law_walked) (defScope s__law_walked) .none kV50 dc50 pm50 an50 cd50 ct50), sl50⟩) (c50 : PySem.W.codeIn K cd50 "_law_walked" = true) (k50 : PySem.W.keepIn K (.ref f50) = true)
    {f51 : Addr} {od51 an51 : Option Addr} {sl51 : Array (Option Value)} {oc51 kV51 dc51 pm51 cd51 ct51 : Value} (a51 : PySem.W.nsIn K mainGlobals "_law_units" = some (some (.ref f51))) (l51 : K.lookup f51 = some ⟨oc51, od51, .func (PySem.W.fnOf "_law_units" "_law_units" (defArgs s__law_units) (defBody s__law_units) (defScope s__law_units) .none kV51 dc51 pm51 an51 cd51 ct51), sl51⟩) (c51 : PySem.W.codeIn K cd51 "_law_units" = true) (k51 : PySem.W.keepIn K (.ref f51) = true)
    {f52 : Addr} {od52 an52 : Option Addr} {sl52 : Array (Option Value)} {oc52 kV52 dc52 pm52 cd52 ct52 : Value} (a52 : PySem.W.nsIn K mainGlobals "_law_plain" = some (some (.ref f52))) (l52 : K.lookup f52 = some ⟨oc52, od52, .func (PySem.W.fnOf "_law_plain" "_law_plain" (defArgs s__law_plain) (defBody s__law_plain) (defScope s__law_plain) .none kV52 dc52 pm52 an52 cd52 ct52), sl52⟩) (c52 : PySem.W.codeIn K cd52 "_law_plain" = true) (k52 : PySem.W.keepIn K (.ref f52) = true)
    {f53 : Addr} {od53 an53 : Option Addr} {sl53 : Array (Option Value)} {oc53 kV53 dc53 pm53 cd53 ct53 : Value} (a53 : PySem.W.nsIn K mainGlobals "_law_code_step" = some (some (.ref f53))) (l53 : K.lookup f53 = some ⟨oc53, od53, .func (PySem.W.fnOf "_law_code_step" "_law_code_step" (defArgs s__law_code_step) (defBody s__law_code_step) (defScope s__law_code_step) .none kV53 dc53 pm53 an53 cd53 ct53), sl53⟩) (c53 : PySem.W.codeIn K cd53 "_law_code_step" = true) (k53 : PySem.W.keepIn K (.ref f53) = true)
    {f54 : Addr} {od54 an54 : Option Addr} {sl54 : Array (Option Value)} {oc54 kV54 dc54 pm54 cd54 ct54 : Value} (a54 : PySem.W.nsIn K mainGlobals "_law_drawn" = some (some (.ref f54))) (l54 : K.lookup f54 = some ⟨oc54, od54, .func (PySem.W.fnOf "_law_drawn" "_law_drawn" (defArgs s__law_drawn) (defBody s__law_drawn) (defScope s__law_drawn) .none kV54 dc54 pm54 an54 cd54 ct54), sl54⟩) (c54 : PySem.W.codeIn K cd54 "_law_drawn" = true) (k54 : PySem.W.keepIn K (.ref f54) = true)
    {f55 : Addr} {od55 an55 : Option Addr} {sl55 : Array (Option Value)} {oc55 kV55 dc55 pm55 cd55 ct55 : Value} (a55 : PySem.W.nsIn K mainGlobals "_law_raised" = some (some (.ref f55))) (l55 : K.lookup f55 = some ⟨oc55, od55, .func (PySem.W.fnOf "_law_raised" "_law_raised" (defArgs s__law_raised) (defBody s__law_raised) (defScope s__law_raised) .none kV55 dc55 pm55 an55 cd55 ct55), sl55⟩) (c55 : PySem.W.codeIn K cd55 "_law_raised" = true) (k55 : PySem.W.keepIn K (.ref f55) = true)
    {f56 : Addr} {od56 an56 : Option Addr} {sl56 : Array (Option Value)} {oc56 kV56 dc56 pm56 cd56 ct56 : Value} (a56 : PySem.W.nsIn K mainGlobals "_law_odd" = some (some (.ref f56))) (l56 : K.lookup f56 = some ⟨oc56, od56, .func (PySem.W.fnOf "_law_odd" "_law_odd" (defArgs s__law_odd) (defBody s__law_odd) (defScope s__law_odd) .none kV56 dc56 pm56 an56 cd56 ct56), sl56⟩) (c56 : PySem.W.codeIn K cd56 "_law_odd" = true) (k56 : PySem.W.keepIn K (.ref f56) = true)
    {f57 : Addr} {od57 an57 : Option Addr} {sl57 : Array (Option Value)} {oc57 kV57 dc57 pm57 cd57 ct57 : Value} (a57 : PySem.W.nsIn K mainGlobals "_law_free_right" = some (some (.ref f57))) (l57 : K.lookup f57 = some ⟨oc57, od57, .func (PySem.W.fnOf "_law_free_right" "_law_free_right" (defArgs s__law_free_right) (defBody s__law_free_right) (defScope s__law_free_right) .none kV57 dc57 pm57 an57 cd57 ct57), sl57⟩) (c57 : PySem.W.codeIn K cd57 "_law_free_right" = true) (k57 : PySem.W.keepIn K (.ref f57) = true)
    {f58 : Addr} {od58 an58 : Option Addr} {sl58 : Array (Option Value)} {oc58 kV58 dc58 pm58 cd58 ct58 : Value} (a58 : PySem.W.nsIn K mainGlobals "_law_right" = some (some (.ref f58))) (l58 : K.lookup f58 = some ⟨oc58, od58, .func (PySem.W.fnOf "_law_right" "_law_right" (defArgs s__law_right) (defBody s__law_right) (defScope s__law_right) .none kV58 dc58 pm58 an58 cd58 ct58), sl58⟩) (c58 : PySem.W.codeIn K cd58 "_law_right" = true) (k58 : PySem.W.keepIn K (.ref f58) = true)
    {f59 : Addr} {od59 an59 : Option Addr} {sl59 : Array (Option Value)} {oc59 kV59 dc59 pm59 cd59 ct59 : Value} (a59 : PySem.W.nsIn K mainGlobals "law" = some (some (.ref f59))) (l59 : K.lookup f59 = some ⟨oc59, od59, .func (PySem.W.fnOf "law" "law" (defArgs s_law) (defBody s_law) (defScope s_law) .none kV59 dc59 pm59 an59 cd59 ct59), sl59⟩) (c59 : PySem.W.codeIn K cd59 "law" = true) (k59 : PySem.W.keepIn K (.ref f59) = true)
    {fm0 : Addr} {odm0 anm0 : Option Addr} {slm0 : Array (Option Value)} {ocm0 kVm0 dcm0 pmm0 cdm0 ctm0 : Value} (am0 : PySem.W.findIn K (.ref A.Program) "__init__" = some (some (.ref fm0))) (tm0 : PySem.W.isFn K (.ref fm0) = true) (lm0 : K.lookup fm0 = some ⟨ocm0, odm0, .func (PySem.W.fnOf "__init__" "Program.__init__" (defArgs s_Program___init__) (defBody s_Program___init__) (defScope s_Program___init__) .none kVm0 dcm0 pmm0 anm0 cdm0 ctm0), slm0⟩) (cm0 : PySem.W.codeIn K cdm0 "Program.__init__" = true) (km0 : PySem.W.keepIn K (.ref fm0) = true)
    {fm1 : Addr} {odm1 anm1 : Option Addr} {slm1 : Array (Option Value)} {ocm1 kVm1 dcm1 pmm1 cdm1 ctm1 : Value} (am1 : PySem.W.findIn K (.ref A.Program) "__eq__" = some (some (.ref fm1))) (tm1 : PySem.W.isFn K (.ref fm1) = true) (lm1 : K.lookup fm1 = some ⟨ocm1, odm1, .func (PySem.W.fnOf "__eq__" "Program.__eq__" (defArgs s_Program___eq__) (defBody s_Program___eq__) (defScope s_Program___eq__) .none kVm1 dcm1 pmm1 anm1 cdm1 ctm1), slm1⟩) (cm1 : PySem.W.codeIn K cdm1 "Program.__eq__" = true) (km1 : PySem.W.keepIn K (.ref fm1) = true)
    {fm2 : Addr} {odm2 anm2 : Option Addr} {slm2 : Array (Option Value)} {ocm2 kVm2 dcm2 pmm2 cdm2 ctm2 : Value} (am2 : PySem.W.findIn K (.ref A.Program) "__len__" = some (some (.ref fm2))) (tm2 : PySem.W.isFn K (.ref fm2) = true) (lm2 : K.lookup fm2 = some ⟨ocm2, odm2, .func (PySem.W.fnOf "__len__" "Program.__len__" (defArgs s_Program___len__) (defBody s_Program___len__) (defScope s_Program___len__) .none kVm2 dcm2 pmm2 anm2 cdm2 ctm2), slm2⟩) (cm2 : PySem.W.codeIn K cdm2 "Program.__len__" = true) (km2 : PySem.W.keepIn K (.ref fm2) = true)
    {fm3 : Addr} {odm3 anm3 : Option Addr} {slm3 : Array (Option Value)} {ocm3 kVm3 dcm3 pmm3 cdm3 ctm3 : Value} (am3 : PySem.W.findIn K (.ref A.Program) "__getitem__" = some (some (.ref fm3))) (tm3 : PySem.W.isFn K (.ref fm3) = true) (lm3 : K.lookup fm3 = some ⟨ocm3, odm3, .func (PySem.W.fnOf "__getitem__" "Program.__getitem__" (defArgs s_Program___getitem__) (defBody s_Program___getitem__) (defScope s_Program___getitem__) .none kVm3 dcm3 pmm3 anm3 cdm3 ctm3), slm3⟩) (cm3 : PySem.W.codeIn K cdm3 "Program.__getitem__" = true) (km3 : PySem.W.keepIn K (.ref fm3) = true)
    {fm4 : Addr} {odm4 anm4 : Option Addr} {slm4 : Array (Option Value)} {ocm4 kVm4 dcm4 pmm4 cdm4 ctm4 : Value} (am4 : PySem.W.findIn K (.ref A.Code) "__init__" = some (some (.ref fm4))) (tm4 : PySem.W.isFn K (.ref fm4) = true) (lm4 : K.lookup fm4 = some ⟨ocm4, odm4, .func (PySem.W.fnOf "__init__" "Code.__init__" (defArgs s_Code___init__) (defBody s_Code___init__) (defScope s_Code___init__) .none kVm4 dcm4 pmm4 anm4 cdm4 ctm4), slm4⟩) (cm4 : PySem.W.codeIn K cdm4 "Code.__init__" = true) (km4 : PySem.W.keepIn K (.ref fm4) = true)
    (pm : PySem.W.makesIn K A.Program = true) (pk : PySem.W.keepIn K (.ref A.Program) = true) (pf : PySem.W.fnIn K fm3 = true) (pmC : PySem.W.makesIn K A.Code = true) (pkC : PySem.W.keepIn K (.ref A.Code) = true)
    : ∃ fd : FuncData, (∀ (s : Shared) (v : Value), BindsTo s fd ⟨[v], []⟩ [("_law_script", v)]) ∧ ∀ base : Heap, K.In base → base.Ns mainGlobals mg → FnOk P w K mg base CX0 11 fa fd ["_law_script"] (spLaw K) := by
  have e := hfa.symm.trans (PySem.W.mg_of X G0 a59)
  cases e
  refine ⟨PySem.W.fnOf "law" "law" (defArgs s_law) (defBody s_law) (defScope s_law) .none kV59 dc59 pm59 an59 cd59 ct59, fun s v => .of_eq rfl, fun base _ _ => ?_⟩
  have T := TT base
  have F0 := fun_mk (st := s_is_integer) l0 c0 k0
  have b0 := F0.binds (ps := ["value"]) fun _ _ _ _ _ _ us hl => match us, hl with | [_], _ => rfl
  have c_is_integer : Cal P w K mg base 1 "is_integer" ["value"] (spIsInt K) := ⟨_, _, PySem.W.mg_of X G0 a0, k0, b0, ok_is_integer F0 T⟩
  have c_is_integerG : Cal P w K mg base 1 "is_integer" ["value"] (spIntG K) := ⟨_, _, PySem.W.mg_of X G0 a0, k0, b0, ok_is_integerG F0 T⟩
  have F1 := fun_mk (st := s_is_within) l1 c1 k1
  have b1 := F1.binds (ps := ["value", "least", "most"]) fun _ _ _ _ _ _ us hl => match us, hl with | [_, _, _], _ => rfl
  have c_is_within : Cal P w K mg base 2 "is_within" ["value", "least", "most"] (spWithin K) := ⟨_, _, PySem.W.mg_of X G0 a1, k1, b1, ok_is_within F1 T c_is_integer⟩
  have c_is_withinG : Cal P w K mg base 2 "is_within" ["value", "least", "most"] (spWithG K) := ⟨_, _, PySem.W.mg_of X G0 a1, k1, b1, ok_is_withinG F1 T c_is_integerG⟩
  have F2 := fun_mk (st := s_is_width) l2 c2 k2
  have b2 := F2.binds (ps := ["value"]) fun _ _ _ _ _ _ us hl => match us, hl with | [_], _ => rfl
  have c_is_width : Cal P w K mg base 3 "is_width" ["value"] (spWidth K) := ⟨_, _, PySem.W.mg_of X G0 a2, k2, b2, ok_is_width F2 T c_is_within⟩
  have F3 := fun_mk (st := s_is_sequence) l3 c3 k3
  have b3 := F3.binds (ps := ["value", "least", "most"]) fun _ _ _ _ _ _ us hl => match us, hl with | [_, _, _], _ => rfl
  have c_is_sequence : Cal P w K mg base 1 "is_sequence" ["value", "least", "most"] (spSeq K) := ⟨_, _, PySem.W.mg_of X G0 a3, k3, b3, ok_is_sequence F3 T⟩
  have F4 := fun_mk (st := s_are_integers) l4 c4 k4
  have b4 := F4.binds (ps := ["items"]) fun _ _ _ _ _ _ us hl => match us, hl with | [_], _ => rfl
  have c_are_integers : Cal P w K mg base 2 "are_integers" ["items"] (spAreInts K) := ⟨_, _, PySem.W.mg_of X G0 a4, k4, b4, ok_are_integers F4 T c_is_integer⟩
  have F5 := fun_mk (st := s_wrong_integer) l5 c5 k5
  have b5 := F5.binds (ps := ["value", "size"]) fun _ _ _ _ _ _ us hl => match us, hl with | [_, _], _ => rfl
  have c_wrong_integer : Cal P w K mg base 2 "wrong_integer" ["value", "size"] (spWrongI K) := ⟨_, _, PySem.W.mg_of X G0 a5, k5, b5, ok_wrong_integerC F5 T c_is_sequence c_is_integer⟩
  have F6 := fun_mk (st := s_is_form) l6 c6 k6
  have b6 := F6.binds (ps := ["value", "size"]) fun _ _ _ _ _ _ us hl => match us, hl with | [_, _], _ => rfl
  have c_is_form : Cal P w K mg base 3 "is_form" ["value", "size"] (spForm K) := ⟨_, _, PySem.W.mg_of X G0 a6, k6, b6, ok_is_form F6 T c_are_integers⟩
  have F7 := fun_mk (st := s_lowered) l7 c7 k7
  have b7 := F7.binds (ps := ["numbers", "width"]) fun _ _ _ _ _ _ us hl => match us, hl with | [_, _], _ => rfl
  have c_lowered : Cal P w K mg base 1 "lowered" ["numbers", "width"] (spLow K) := ⟨_, _, PySem.W.mg_of X G0 a7, k7, b7, ok_lowered F7 T⟩
  have c_loweredE : Cal P w K mg base 1 "lowered" ["numbers", "width"] (spLowE K) := ⟨_, _, PySem.W.mg_of X G0 a7, k7, b7, ok_loweredE F7 T⟩
  have F8 := fun_mk (st := s_unit_row) l8 c8 k8
  have b8 := F8.binds (ps := ["place", "size"]) fun _ _ _ _ _ _ us hl => match us, hl with | [_, _], _ => rfl
  have c_unit_row : Cal P w K mg base 1 "unit_row" ["place", "size"] spUnit := ⟨_, _, PySem.W.mg_of X G0 a8, k8, b8, ok_unit F8 T⟩
  have F9 := fun_mk (st := s_product_of) l9 c9 k9
  have b9 := F9.binds (ps := ["row", "other", "width"]) fun _ _ _ _ _ _ us hl => match us, hl with | [_, _, _], _ => rfl
  have c_product_of : Cal P w K mg base 1 "product_of" ["row", "other", "width"] (spProd K) := ⟨_, _, PySem.W.mg_of X G0 a9, k9, b9, ok_product F9 T⟩
  have F10 := fun_mk (st := s_are_nexts) l10 c10 k10
  have b10 := F10.binds (ps := ["value", "least", "most", "many"]) fun _ _ _ _ _ _ us hl => match us, hl with | [_, _, _, _], _ => rfl
  have c_are_nexts : Cal P w K mg base 3 "are_nexts" ["value", "least", "most", "many"] (spNexts K) := ⟨_, _, PySem.W.mg_of X G0 a10, k10, b10, ok_are_nexts F10 T c_is_within⟩
  have F11 := fun_mk (st := s_next_row) l11 c11 k11
  have b11 := F11.binds (ps := ["graph", "row", "number"]) fun _ _ _ _ _ _ us hl => match us, hl with | [_, _, _], _ => rfl
  have c_next_row : Cal P w K mg base 1 "next_row" ["graph", "row", "number"] spNext := ⟨_, _, PySem.W.mg_of X G0 a11, k11, b11, ok_next F11 T⟩
  have F12 := fun_mk (st := s_fits) l12 c12 k12
  have b12 := F12.binds (ps := ["exits", "number"]) fun _ _ _ _ _ _ us hl => match us, hl with | [_, _], _ => rfl
  have c_fits : Cal P w K mg base 3 "fits" ["exits", "number"] spFits := ⟨_, _, PySem.W.mg_of X G0 a12, k12, b12, ok_fits F12 T c_is_integer c_is_within⟩
  have c_fitsD : Cal P w K mg base 3 "fits" ["exits", "number"] (spFitsD K) := ⟨_, _, PySem.W.mg_of X G0 a12, k12, b12, ok_fitsD F12 T c_is_integerG c_is_withinG⟩
  have F13 := fun_mk (st := s_wrong_number) l13 c13 k13
  have b13 := F13.binds (ps := ["graph", "row", "numbers"]) fun _ _ _ _ _ _ us hl => match us, hl with | [_, _, _], _ => rfl
  have c_wrong_number : Cal P w K mg base 4 "wrong_number" ["graph", "row", "numbers"] (spWrNum K) := ⟨_, _, PySem.W.mg_of X G0 a13, k13, b13, ok_wrong_number F13 T c_fits c_next_row⟩
  have c_wrong_numberD : Cal P w K mg base 4 "wrong_number" ["graph", "row", "numbers"] (spWrongD K) := ⟨_, _, PySem.W.mg_of X G0 a13, k13, b13, ok_wrongD F13 T c_fitsD c_next_row⟩
  have F14 := fun_mk (st := s_check_numbers) l14 c14 k14
  have b14 := F14.binds (ps := ["graph", "row", "numbers"]) fun _ _ _ _ _ _ us hl => match us, hl with | [_, _, _], _ => rfl
  have c_check_numbers : Cal P w K mg base 5 "check_numbers" ["graph", "row", "numbers"] (spWrNum K) := ⟨_, _, PySem.W.mg_of X G0 a14, k14, b14, ok_check_numbers F14 T c_wrong_number⟩
  have c_check_numbersX : Cax P w K mg base 5 "check_numbers" ["graph", "row", "numbers"] (spChX K A) := ⟨_, _, PySem.W.mg_of X G0 a14, k14, b14, ok_check_numbersX F14 T c_wrong_numberD⟩
  have F15 := fun_mk (st := s_code_graph) l15 c15 k15
  have b15 := F15.binds (ps := ["code"]) fun _ _ _ _ _ _ us hl => match us, hl with | [_], _ => rfl
  have c_code_graph : Cal P w K mg base 1 "code_graph" ["code"] (spCGraph K A) := ⟨_, _, PySem.W.mg_of X G0 a15, k15, b15, ok_code_graph F15 T⟩
  have F16 := fun_mk (st := s_code_said) l16 c16 k16
  have b16 := F16.binds (ps := ["code", "row", "vector"]) fun _ _ _ _ _ _ us hl => match us, hl with | [_, _, _], _ => rfl
  have c_code_said : Cal P w K mg base 2 "code_said" ["code", "row", "vector"] (spCSaid K A) := ⟨_, _, PySem.W.mg_of X G0 a16, k16, b16, ok_code_said F16 T c_product_of⟩
  have F17 := fun_mk (st := s_code_stepped) l17 c17 k17
  have b17 := F17.binds (ps := ["code", "row", "vector", "number"]) fun _ _ _ _ _ _ us hl => match us, hl with | [_, _, _, _], _ => rfl
  have c_code_stepped : Cal P w K mg base 2 "code_stepped" ["code", "row", "vector", "number"] (spCStep K A) := ⟨_, _, PySem.W.mg_of X G0 a17, k17, b17, ok_code_stepped F17 T c_product_of⟩
  have F18 := fun_mk (st := s_run_code) l18 c18 k18
  have b18 := F18.binds (ps := ["code", "numbers"]) fun _ _ _ _ _ _ us hl => match us, hl with | [_, _], _ => rfl
  have c_run_code : Cal P w K mg base 6 "run_code" ["code", "numbers"] (spRunG K A) := ⟨_, _, PySem.W.mg_of X G0 a18, k18, b18, ok_run_codeG F18 T c_code_graph c_check_numbers c_code_said c_code_stepped c_next_row⟩
  have c_run_codeX : Cax P w K mg base 6 "run_code" ["code", "numbers"] (spRunC K A) := ⟨_, _, PySem.W.mg_of X G0 a18, k18, b18, ok_run_code F18 T c_code_graph c_check_numbersX c_code_said c_code_stepped c_next_row⟩
  have c_run_codeK : Cak P w K mg base 6 "run_code" ["code", "numbers"] ["numbers", "code"] (spRunG K A) := ⟨_, _, PySem.W.mg_of X G0 a18, k18, kb_rev0 fun ws h => match ws, h with | [_, _], _ => rfl, ok_run_codeG F18 T c_code_graph c_check_numbers c_code_said c_code_stepped c_next_row⟩
  have F19 := fun_mk (st := s__check_head) l19 c19 k19
  have b19 := F19.binds (ps := ["width", "counts", "rows", "start"]) fun _ _ _ _ _ _ us hl => match us, hl with | [_, _, _, _], _ => rfl
  have c__check_head : Cal P w K mg base 4 "_check_head" ["width", "counts", "rows", "start"] (spHead K) := ⟨_, _, PySem.W.mg_of X G0 a19, k19, b19, ok_check_head F19 T c_is_width c_is_sequence c_is_within c_wrong_integer⟩
  have F20 := fun_mk (st := s__check_nexts) l20 c20 k20
  have b20 := F20.binds (ps := ["row", "kind", "nexts", "many"]) fun _ _ _ _ _ _ us hl => match us, hl with | [_, _, _, _], _ => rfl
  have c__check_nexts : Cal P w K mg base 4 "_check_nexts" ["row", "kind", "nexts", "many"] (spNxs K) := ⟨_, _, PySem.W.mg_of X G0 a20, k20, b20, ok_check_nexts F20 T c_is_within⟩
  have F21 := fun_mk (st := s__check_says) l21 c21 k21
  have b21 := F21.binds (ps := ["row", "says", "size"]) fun _ _ _ _ _ _ us hl => match us, hl with | [_, _, _], _ => rfl
  have c__check_says : Cal P w K mg base 4 "_check_says" ["row", "says", "size"] (spSays K) := ⟨_, _, PySem.W.mg_of X G0 a21, k21, b21, ok_check_says F21 T c_is_form⟩
  have F22 := fun_mk (st := s_are_forms) l22 c22 k22
  have b22 := F22.binds (ps := ["forms", "many", "size"]) fun _ _ _ _ _ _ us hl => match us, hl with | [_, _, _], _ => rfl
  have c_are_forms : Cal P w K mg base 4 "are_forms" ["forms", "many", "size"] (spFormsC K) := ⟨_, _, PySem.W.mg_of X G0 a22, k22, b22, ok_are_forms F22 T c_is_form⟩
  have F23 := fun_mk (st := s__check_changes) l23 c23 k23
  have b23 := F23.binds (ps := ["row", "changes", "counts", "size"]) fun _ _ _ _ _ _ us hl => match us, hl with | [_, _, _, _], _ => rfl
  have c__check_changes : Cal P w K mg base 5 "_check_changes" ["row", "changes", "counts", "size"] (spChanges K) := ⟨_, _, PySem.W.mg_of X G0 a23, k23, b23, ok_check_changes F23 T c_are_forms⟩
  have F24 := fun_mk (st := s__check_row) l24 c24 k24
  have b24 := F24.binds (ps := ["counts", "row", "item"]) fun _ _ _ _ _ _ us hl => match us, hl with | [_, _, _], _ => rfl
  have c__check_row : Cal P w K mg base 6 "_check_row" ["counts", "row", "item"] (spCRow K) := ⟨_, _, PySem.W.mg_of X G0 a24, k24, b24, ok_check_rowC F24 T c__check_nexts c__check_says c__check_changes⟩
  have F25 := fun_mk (st := s__lowered_row) l25 c25 k25
  have b25 := F25.binds (ps := ["item", "width"]) fun _ _ _ _ _ _ us hl => match us, hl with | [_, _], _ => rfl
  have c__lowered_row : Cal P w K mg base 2 "_lowered_row" ["item", "width"] (spLowRowC K) := ⟨_, _, PySem.W.mg_of X G0 a25, k25, b25, ok_lowered_rowC F25 T c_lowered⟩
  have F26 := fun_mk (st := s_is_name) l26 c26 k26
  have b26 := F26.binds (ps := ["value"]) fun _ _ _ _ _ _ us hl => match us, hl with | [_], _ => rfl
  have c_is_name : Cal P w K mg base 1 "is_name" ["value"] (spIsName K) := ⟨_, _, PySem.W.mg_of X G0 a26, k26, b26, ok_is_name F26 T⟩
  have F27 := fun_mk (st := s_is_variable) l27 c27 k27
  have b27 := F27.binds (ps := ["value", "variables"]) fun _ _ _ _ _ _ us hl => match us, hl with | [_, _], _ => rfl
  have c_is_variable : Cal P w K mg base 1 "is_variable" ["value", "variables"] (spIsVar K) := ⟨_, _, PySem.W.mg_of X G0 a27, k27, b27, ok_is_variable F27 T⟩
  have F28 := fun_mk (st := s_lowered_row) l28 c28 k28
  have b28 := F28.binds (ps := ["item", "width"]) fun _ _ _ _ _ _ us hl => match us, hl with | [_, _], _ => rfl
  have c_lowered_row : Cal P w K mg base 2 "lowered_row" ["item", "width"] (spLowRow K) := ⟨_, _, PySem.W.mg_of X G0 a28, k28, b28, ok_lowered_row F28 T c_lowered⟩
  have F29 := fun_mk (st := s_is_row) l29 c29 k29
  have b29 := F29.binds (ps := ["item", "variables", "many"]) fun _ _ _ _ _ _ us hl => match us, hl with | [_, _, _], _ => rfl
  have c_is_row : Cal P w K mg base 4 "is_row" ["item", "variables", "many"] (spIsRow K) := ⟨_, _, PySem.W.mg_of X G0 a29, k29, b29, ok_is_row F29 T c_is_variable c_is_form c_is_within c_are_nexts⟩
  have F30 := fun_mk (st := s__check_variables) l30 c30 k30
  have b30 := F30.binds (ps := ["variables"]) fun _ _ _ _ _ _ us hl => match us, hl with | [_], _ => rfl
  have c__check_variables : Cal P w K mg base 2 "_check_variables" ["variables"] (spCheckVars K) := ⟨_, _, PySem.W.mg_of X G0 a30, k30, b30, ok_check_variables F30 T c_is_sequence c_is_name⟩
  have F31 := fun_mk (st := s__check_rows) l31 c31 k31
  have b31 := F31.binds (ps := ["variables", "rows"]) fun _ _ _ _ _ _ us hl => match us, hl with | [_, _], _ => rfl
  have c__check_rows : Cal P w K mg base 5 "_check_rows" ["variables", "rows"] (spCheckRows K) := ⟨_, _, PySem.W.mg_of X G0 a31, k31, b31, ok_check_rows F31 T c_is_sequence c_is_row⟩
  have F32 := fun_mk (st := s_check_row) l32 c32 k32
  have b32 := F32.binds (ps := ["program", "row"]) fun _ _ _ _ _ _ us hl => match us, hl with | [_, _], _ => rfl
  have c_check_row : Cal P w K mg base 3 "check_row" ["program", "row"] (spCheckRow K A) := ⟨_, _, PySem.W.mg_of X G0 a32, k32, b32, ok_check_row F32 T c_is_within⟩
  have F33 := fun_mk (st := s_kind_and_nexts) l33 c33 k33
  have b33 := F33.binds (ps := ["item"]) fun _ _ _ _ _ _ us hl => match us, hl with | [_], _ => rfl
  have c_kind_and_nexts : Cal P w K mg base 1 "kind_and_nexts" ["item"] spKN := ⟨_, _, PySem.W.mg_of X G0 a33, k33, b33, ok_kn F33 T⟩
  have F34 := fun_mk (st := s_graph_of) l34 c34 k34
  have b34 := F34.binds (ps := ["program"]) fun _ _ _ _ _ _ us hl => match us, hl with | [_], _ => rfl
  have c_graph_of : Cal P w K mg base 2 "graph_of" ["program"] (spGraph K A) := ⟨_, _, PySem.W.mg_of X G0 a34, k34, b34, ok_graph F34 T c_kind_and_nexts⟩
  have F35 := fun_mk (st := s_place_of) l35 c35 k35
  have b35 := F35.binds (ps := ["program", "item"]) fun _ _ _ _ _ _ us hl => match us, hl with | [_, _], _ => rfl
  have c_place_of : Cal P w K mg base 1 "place_of" ["program", "item"] (spPlace K A) := ⟨_, _, PySem.W.mg_of X G0 a35, k35, b35, ok_place F35 T⟩
  have F36 := fun_mk (st := s_forms_said) l36 c36 k36
  have b36 := F36.binds (ps := ["program", "row"]) fun _ _ _ _ _ _ us hl => match us, hl with | [_, _], _ => rfl
  have c_forms_said : Cal P w K mg base 2 "forms_said" ["program", "row"] (spForms K A) := ⟨_, _, PySem.W.mg_of X G0 a36, k36, b36, ok_forms F36 T c_unit_row⟩
  have F37 := fun_mk (st := s_said_at) l37 c37 k37
  have b37 := F37.binds (ps := ["program", "row", "vector"]) fun _ _ _ _ _ _ us hl => match us, hl with | [_, _, _], _ => rfl
  have c_said_at : Cal P w K mg base 3 "said_at" ["program", "row", "vector"] (spSaid K A) := ⟨_, _, PySem.W.mg_of X G0 a37, k37, b37, ok_said F37 T c_product_of c_forms_said⟩
  have F38 := fun_mk (st := s_stepped) l38 c38 k38
  have b38 := F38.binds (ps := ["program", "row", "vector", "number"]) fun _ _ _ _ _ _ us hl => match us, hl with | [_, _, _, _], _ => rfl
  have c_stepped : Cal P w K mg base 2 "stepped" ["program", "row", "vector", "number"] (spStep K A) := ⟨_, _, PySem.W.mg_of X G0 a38, k38, b38, ok_step F38 T c_product_of c_place_of⟩
  have F39 := fun_mk (st := s__behind) l39 c39 k39
  have b39 := F39.binds (ps := ["program", "row", "state", "numbers"]) fun _ _ _ _ _ _ us hl => match us, hl with | [_, _, _, _], _ => rfl
  have c__behind : Cal P w K mg base 6 "_behind" ["program", "row", "state", "numbers"] (spBehind K A) := ⟨_, _, PySem.W.mg_of X G0 a39, k39, b39, ok_behind F39 T c_graph_of c_check_numbers c_loweredE c_said_at c_stepped c_next_row⟩
  have F40 := fun_mk (st := s_run) l40 c40 k40
  have b40 := F40.binds (ps := ["program", "numbers"]) fun _ _ _ _ _ _ us hl => match us, hl with | [_, _], _ => rfl
  have c_run : Cal P w K mg base 7 "run" ["program", "numbers"] (spRun K A) := ⟨_, _, PySem.W.mg_of X G0 a40, k40, b40, ok_run F40 T c__behind⟩
  have Fm0 := fun_mk (st := s_Program___init__) lm0 cm0 km0
  have bm0 := Fm0.binds (ps := ["self", "width", "variables", "rows"]) fun _ _ _ _ _ _ us hl => match us, hl with | [_, _, _, _], _ => rfl
  have om0 : FnOk P w K mg base CX0 6 fm0 _ ["self", "width", "variables", "rows"] (spInit K A) := ok_init Fm0 T c_is_width c__check_variables c__check_rows c_lowered_row
  have Fm1 := fun_mk (st := s_Program___eq__) lm1 cm1 km1
  have bm1 := Fm1.binds (ps := ["self", "other"]) fun _ _ _ _ _ _ us hl => match us, hl with | [_, _], _ => rfl
  have om1 : FnOk P w K mg base CX0 1 fm1 _ ["self", "other"] (spEqP K A) := ok_eq Fm1 T
  have Fm2 := fun_mk (st := s_Program___len__) lm2 cm2 km2
  have bm2 := Fm2.binds (ps := ["self"]) fun _ _ _ _ _ _ us hl => match us, hl with | [_], _ => rfl
  have om2 : FnOk P w K mg base CX0 1 fm2 _ ["self"] (spLen K A) := ok_len Fm2 T
  have Fm3 := fun_mk (st := s_Program___getitem__) lm3 cm3 km3
  have bm3 := Fm3.binds (ps := ["self", "at"]) fun _ _ _ _ _ _ us hl => match us, hl with | [_, _], _ => rfl
  have om3 : FnOk P w K mg base CX0 4 fm3 _ ["self", "at"] (spItem K A) := ok_item Fm3 T c_check_row
  have Fm4 := fun_mk (st := s_Code___init__) lm4 cm4 km4
  have bm4 := Fm4.binds (ps := ["self", "width", "counts", "rows", "start"]) fun _ _ _ _ _ _ us hl => match us, hl with | [_, _, _, _, _], _ => rfl
  have om4 : FnOk P w K mg base CX0 7 fm4 _ ["self", "width", "counts", "rows", "start"] (spInitC K A) := ok_initC Fm4 T c__check_head c__check_row c__lowered_row c_lowered
  have GP : Prg P w K mg base A := ⟨⟨_, _, ⟨pm, am0, tm0, pk⟩, om0, bm0, kb_rev fun us ws h1 h2 => match us, ws, h1, h2 with | [_], [_, _, _], _, _ => rfl⟩, ⟨_, _, am1, tm1, om1, bm1⟩, ⟨_, _, am2, tm2, om2, bm2⟩, ⟨_, _, am3, pf, tm3, om3, bm3⟩⟩
  have G : CdeC P w K mg base A := ⟨⟨_, _, ⟨pmC, am4, tm4, pkC⟩, om4, bm4⟩⟩
  have F41 := fun_mk (st := s__law_draw) l41 c41 k41
  have b41 := F41.binds (ps := ["_law_well", "_law_many"]) fun _ _ _ _ _ _ us hl => match us, hl with | [_, _], _ => rfl
  have c__law_draw : Cal P w K mg base 1 "_law_draw" ["_law_well", "_law_many"] spDraw := ⟨_, _, PySem.W.mg_of X G0 a41, k41, b41, ok_draw F41 T⟩
  have F42 := fun_mk (st := s__law_one) l42 c42 k42
  have b42 := F42.binds (ps := ["_law_well", "_law_some"]) fun _ _ _ _ _ _ us hl => match us, hl with | [_, _], _ => rfl
  have c__law_one : Cal P w K mg base 2 "_law_one" ["_law_well", "_law_some"] spOne := ⟨_, _, PySem.W.mg_of X G0 a42, k42, b42, ok_one F42 T c__law_draw⟩
  have F43 := fun_mk (st := s__law_number) l43 c43 k43
  have b43 := F43.binds (ps := ["_law_well", "_law_width"]) fun _ _ _ _ _ _ us hl => match us, hl with | [_, _], _ => rfl
  have c__law_number : Cal P w K mg base 2 "_law_number" ["_law_well", "_law_width"] spNumber := ⟨_, _, PySem.W.mg_of X G0 a43, k43, b43, ok_number F43 T c__law_draw⟩
  have F44 := fun_mk (st := s__law_form) l44 c44 k44
  have b44 := F44.binds (ps := ["_law_well", "_law_width", "_law_many"]) fun _ _ _ _ _ _ us hl => match us, hl with | [_, _, _], _ => rfl
  have c__law_form : Cal P w K mg base 3 "_law_form" ["_law_well", "_law_width", "_law_many"] spForm0 := ⟨_, _, PySem.W.mg_of X G0 a44, k44, b44, ok_form F44 T c__law_draw c__law_number⟩
  have F45 := fun_mk (st := s__law_row) l45 c45 k45
  have b45 := F45.binds (ps := ["_law_well", "_law_width", "_law_names", "_law_total", "_law_k"]) fun _ _ _ _ _ _ us hl => match us, hl with | [_, _, _, _, _], _ => rfl
  have c__law_row : Cal P w K mg base 4 "_law_row" ["_law_well", "_law_width", "_law_names", "_law_total", "_law_k"] spRow := ⟨_, _, PySem.W.mg_of X G0 a45, k45, b45, ok_row F45 T c__law_draw c__law_one c__law_form⟩
  have F46 := fun_mk (st := s__law_rows) l46 c46 k46
  have b46 := F46.binds (ps := ["_law_well", "_law_width", "_law_names", "_law_total"]) fun _ _ _ _ _ _ us hl => match us, hl with | [_, _, _, _], _ => rfl
  have c__law_rows : Cal P w K mg base 5 "_law_rows" ["_law_well", "_law_width", "_law_names", "_law_total"] spRows := ⟨_, _, PySem.W.mg_of X G0 a46, k46, b46, ok_rows F46 T c__law_row⟩
  have F47 := fun_mk (st := s__law_value) l47 c47 k47
  have b47 := F47.binds (ps := ["_law_width", "_law_form_here", "_law_state"]) fun _ _ _ _ _ _ us hl => match us, hl with | [_, _, _], _ => rfl
  have c__law_value : Cal P w K mg base 1 "_law_value" ["_law_width", "_law_form_here", "_law_state"] (spVal K) := ⟨_, _, PySem.W.mg_of X G0 a47, k47, b47, ok_law_value F47 T⟩
  have F48 := fun_mk (st := s__law_stepped) l48 c48 k48
  have b48 := F48.binds (ps := ["_law_width", "_law_names", "_law_row_here", "_law_state", "_law_number_here"]) fun _ _ _ _ _ _ us hl => match us, hl with | [_, _, _, _, _], _ => rfl
  have c__law_stepped : Cal P w K mg base 2 "_law_stepped" ["_law_width", "_law_names", "_law_row_here", "_law_state", "_law_number_here"] (spStepL K) := ⟨_, _, PySem.W.mg_of X G0 a48, k48, b48, ok_law_stepped F48 T c__law_value⟩
  have F49 := fun_mk (st := s__law_picked) l49 c49 k49
  have b49 := F49.binds (ps := ["_law_well", "_law_row_here"]) fun _ _ _ _ _ _ us hl => match us, hl with | [_, _], _ => rfl
  have c__law_picked : Cal P w K mg base 3 "_law_picked" ["_law_well", "_law_row_here"] spPick := ⟨_, _, PySem.W.mg_of X G0 a49, k49, b49, ok_law_picked F49 T c__law_draw c__law_one⟩
  have F50 := fun_mk (st := s__law_walked) l50 c50 k50
  have b50 := F50.binds (ps := ["_law_well", "_law_width", "_law_names", "_law_rows_here", "_law_spot", "_law_state", "_law_most"]) fun _ _ _ _ _ _ us hl => match us, hl with | [_, _, _, _, _, _, _], _ => rfl
  have c__law_walked : Cal P w K mg base 4 "_law_walked" ["_law_well", "_law_width", "_law_names", "_law_rows_here", "_law_spot", "_law_state", "_law_most"] (spWalk K) := ⟨_, _, PySem.W.mg_of X G0 a50, k50, b50, ok_law_walked F50 T c__law_picked c__law_stepped⟩
  have F51 := fun_mk (st := s__law_units) l51 c51 k51
  have b51 := F51.binds (ps := ["_law_many"]) fun _ _ _ _ _ _ us hl => match us, hl with | [_], _ => rfl
  have c__law_units : Cal P w K mg base 1 "_law_units" ["_law_many"] spUnits := ⟨_, _, PySem.W.mg_of X G0 a51, k51, b51, ok_law_units F51 T⟩
  have F52 := fun_mk (st := s__law_plain) l52 c52 k52
  have b52 := F52.binds (ps := ["_law_width", "_law_names", "_law_rows_here"]) fun _ _ _ _ _ _ us hl => match us, hl with | [_, _, _], _ => rfl
  have c__law_plain : Cal P w K mg base 2 "_law_plain" ["_law_width", "_law_names", "_law_rows_here"] spPlain := ⟨_, _, PySem.W.mg_of X G0 a52, k52, b52, ok_law_plain F52 T c__law_units⟩
  have F53 := fun_mk (st := s__law_code_step) l53 c53 k53
  have b53 := F53.binds (ps := ["_law_width", "_law_row_here", "_law_registers", "_law_number_here"]) fun _ _ _ _ _ _ us hl => match us, hl with | [_, _, _, _], _ => rfl
  have c__law_code_step : Cal P w K mg base 2 "_law_code_step" ["_law_width", "_law_row_here", "_law_registers", "_law_number_here"] (spCodeStep K) := ⟨_, _, PySem.W.mg_of X G0 a53, k53, b53, ok_law_code_step F53 T c__law_value⟩
  have F54 := fun_mk (st := s__law_drawn) l54 c54 k54
  have b54 := F54.binds (ps := ["_law_well", "_law_width", "_law_names", "_law_rows_here", "_law_counts"]) fun _ _ _ _ _ _ us hl => match us, hl with | [_, _, _, _, _], _ => rfl
  have c__law_drawn : Cal P w K mg base 4 "_law_drawn" ["_law_well", "_law_width", "_law_names", "_law_rows_here", "_law_counts"] spDrawn := ⟨_, _, PySem.W.mg_of X G0 a54, k54, b54, ok_drawn F54 T c__law_form c__law_number⟩
  have F55 := fun_mk (st := s__law_raised) l55 c55 k55
  have b55 := F55.binds (ps := ["_law_code_so", "_law_numbers_so"]) fun _ _ _ _ _ _ us hl => match us, hl with | [_, _], _ => rfl
  have c__law_raised : Cal P w K mg base 7 "_law_raised" ["_law_code_so", "_law_numbers_so"] (spRaisedC K A) := ⟨_, _, PySem.W.mg_of X G0 a55, k55, b55, ok_law_raised F55 T c_run_codeX⟩
  have F56 := fun_mk (st := s__law_odd) l56 c56 k56
  have b56 := F56.binds (ps := ["_law_well", "_law_row_here"]) fun _ _ _ _ _ _ us hl => match us, hl with | [_, _], _ => rfl
  have c__law_odd : Cal P w K mg base 3 "_law_odd" ["_law_well", "_law_row_here"] spOdd := ⟨_, _, PySem.W.mg_of X G0 a56, k56, b56, ok_law_odd F56 T c__law_draw c__law_one⟩
  have F57 := fun_mk (st := s__law_free_right) l57 c57 k57
  have b57 := F57.binds (ps := ["_law_well", "_law_width", "_law_counts", "_law_lines", "_law_start", "_law_some"]) fun _ _ _ _ _ _ us hl => match us, hl with | [_, _, _, _, _, _], _ => rfl
  have c__law_free_right : Cal P w K mg base 9 "_law_free_right" ["_law_well", "_law_width", "_law_counts", "_law_lines", "_law_start", "_law_some"] (spFree K A) := ⟨_, _, PySem.W.mg_of X G0 a57, k57, b57, ok_law_free F57 T c__law_draw c__law_form c__law_code_step c_run_code G⟩
  have F58 := fun_mk (st := s__law_right) l58 c58 k58
  have b58 := F58.binds (ps := ["_law_well"]) fun _ _ _ _ _ _ us hl => match us, hl with | [_], _ => rfl
  have c__law_right : Cal P w K mg base 10 "_law_right" ["_law_well"] spRight := ⟨_, _, PySem.W.mg_of X G0 a58, k58, b58, ok_right F58 T c__law_draw c__law_one c__law_rows c__law_drawn c__law_walked c__law_code_step c_run_code c_run_codeK c__law_free_right c__law_plain c_run c__law_raised c__law_odd G GP⟩
  exact ok_law (fun_mk (st := s_law) l59 c59 k59) T c__law_right
theorem walk {l : PySem.W.OpenLaw} {q : PySem.Program} {loose : List Str} {XP : (Str → Option Value) → Heap → Prop} {YP : World → Heap → Prop} {d : DefRec} {K : Params → PySem.W.Frag} (hn : l.most = some 63) (hdf : d.params.defaults = [])
    (hY : ∀ (w : World) (h : Heap), YP w h → (K w.params).In h)
    (F : ∀ (w : World) (mg : Str → Option Value) (fa : Addr) (h : Heap), (K w.params).In h → h.Ns mainGlobals mg → mg d.name = some (.ref fa) →
      ∃ fd : FuncData, (∀ (s : Shared) (u : Value), BindsTo s fd ⟨[u], []⟩ [("_law_script", u)]) ∧ ∀ base : Heap, (K w.params).In base → base.Ns mainGlobals mg → FnOk l.prog w (K w.params) mg base CX0 11 fa fd ["_law_script"] (spLaw (K w.params))) :
    PySem.W.WalkO q loose XP YP l.row.toRowW d [] (fun f vs => PySem.call f vs) :=
  L2.walk_of (n := 63) (k := 11) (x := "_law_script") (CX := fun _ => CX0) (sp := fun w => spLaw (K w.params)) hn (by decide) hdf ⟨rfl, by decide, by decide⟩ hY F (fun _ _ a ns hl _ hS => ⟨a, ns, rfl, hS, hl, fun _ => rfl⟩) fun _ _ _ _ _ z => z
theorem sq_of {K : PySem.W.Frag} {p : Addr} {a b : Int} {od : Option Addr} {n ta tb : Nat} {sl : Array (Option Value)} (h : K.lookup p = some ⟨.type "tuple", od, .seq #[.int a ta, .int b tb] n, sl⟩) (H : Hp) : SqT K H p [.int a, .int b] :=
  .inr ⟨_, #[.int a ta, .int b tb], n, h, rfl, rfl, Nat.le_of_lt (small1000 (by simp)), .cons ⟨_, rfl⟩ (.cons ⟨_, rfl⟩ .nil)⟩
theorem nexts_of {K : PySem.W.Frag} {d : Addr} {p0 p1 p2 p3 : Addr} {od0 od1 od2 od3 : Option Addr} {np0 np1 np2 np3 ta0 tb0 ta1 tb1 ta2 tb2 ta3 tb3 : Nat} {sp0 sp1 sp2 sp3 : Array (Option Value)}
    (v0 : PySem.W.nsIn K d "go" = some (some (.ref p0))) (u0 : K.lookup p0 = some ⟨.type "tuple", od0, .seq #[.int 1 ta0, .int 1 tb0] np0, sp0⟩) (v1 : PySem.W.nsIn K d "ask" = some (some (.ref p1))) (u1 : K.lookup p1 = some ⟨.type "tuple", od1, .seq #[.int 1 ta1, .int 1 tb1] np1, sp1⟩)
    (v2 : PySem.W.nsIn K d "choose" = some (some (.ref p2))) (u2 : K.lookup p2 = some ⟨.type "tuple", od2, .seq #[.int 1 ta2, .int 6 tb2] np2, sp2⟩) (v3 : PySem.W.nsIn K d "stop" = some (some (.ref p3))) (u3 : K.lookup p3 = some ⟨.type "tuple", od3, .seq #[.int 0 ta3, .int 0 tb3] np3, sp3⟩) :
    ∀ z a b, ndLim z = some (a, b) → ∃ p, PySem.W.nsIn K d z = some (some (.ref p)) ∧ ∀ H, SqT K H p [.int a, .int b] := fun z a b h => by
  unfold ndLim at h
  split at h
  · rename_i e
    cases h
    subst e
    exact ⟨p0, v0, sq_of u0⟩
  · split at h
    · rename_i e
      cases h
      subst e
      exact ⟨p1, v1, sq_of u1⟩
    · split at h
      · rename_i e
        cases h
        subst e
        exact ⟨p2, v2, sq_of u2⟩
      · split at h
        · rename_i e
          cases h
          subst e
          exact ⟨p3, v3, sq_of u3⟩
        · cases h
theorem txt_mk {P : PySem.Program} {w : World} {K : PySem.W.Frag} {mg : Str → Option Value} {h : Heap} {cKeepError cNoRun cNoCode cCode cNoProgram cNoRow cProgram : Addr} (X : K.In h) (G : h.Ns mainGlobals mg)
    (z_int : PySem.W.nsIn K mainGlobals "int" = some none) (z_bool : PySem.W.nsIn K mainGlobals "bool" = some none) (z_str : PySem.W.nsIn K mainGlobals "str" = some none) (z_list : PySem.W.nsIn K mainGlobals "list" = some none) (z_tuple : PySem.W.nsIn K mainGlobals "tuple" = some none) (z_len : PySem.W.nsIn K mainGlobals "len" = some none) (z_isinstance : PySem.W.nsIn K mainGlobals "isinstance" = some none) (z_range : PySem.W.nsIn K mainGlobals "range" = some none) (z_enumerate : PySem.W.nsIn K mainGlobals "enumerate" = some none) (z_all : PySem.W.nsIn K mainGlobals "all" = some none) (z_TypeError : PySem.W.nsIn K mainGlobals "TypeError" = some none) (z_zip : PySem.W.nsIn K mainGlobals "zip" = some none) (z_sum : PySem.W.nsIn K mainGlobals "sum" = some none)
    (g_KeepError : PySem.W.nsIn K mainGlobals "KeepError" = some (some (.ref cKeepError))) (g_NoRun : PySem.W.nsIn K mainGlobals "NoRun" = some (some (.ref cNoRun))) (g_NoCode : PySem.W.nsIn K mainGlobals "NoCode" = some (some (.ref cNoCode))) (g_Code : PySem.W.nsIn K mainGlobals "Code" = some (some (.ref cCode))) (g_NoProgram : PySem.W.nsIn K mainGlobals "NoProgram" = some (some (.ref cNoProgram))) (g_NoRow : PySem.W.nsIn K mainGlobals "NoRow" = some (some (.ref cNoRow))) (g_Program : PySem.W.nsIn K mainGlobals "Program" = some (some (.ref cProgram)))
    (pg : PySem.W.plainGet K cProgram Str.empty = true) (hd : PySem.W.hasDictIn K cProgram = true) (po : PySem.W.plainOver K cProgram = true) (sa : PySem.W.findIn K (.ref cProgram) "__setattr__" = some (some (.builtin "object.__setattr__")))
    (i_cls : PySem.W.findIn K (.ref cProgram) "__class__" = some (some (.builtin "object.__class__")))
    (i_get : PySem.W.specialIn K (.builtin "object.__class__") "__get__" = some (some (.builtin "getset_descriptor.__get__")))
    (i_tk : PySem.W.takesIn K (.builtin "object.__class__") = some true)
    (i_mro : PySem.W.mroIn K cProgram (.type "object") = some true)
    (i_self : PySem.W.kitOne K (.ref cProgram) (.ref cProgram) = some true)
    (i_tup : PySem.W.kitOne K (.type "tuple") (.ref cProgram) = some false)
    (o_nf : PySem.W.notFirst K cProgram (.type "tuple") = true)
    (o_ne : PySem.W.findIn K (.ref cProgram) "__ne__" = some (some (.builtin "object.__ne__")))
    (n_width : PySem.W.findIn K (.ref cProgram) "width" = some none)
    (n_variables : PySem.W.findIn K (.ref cProgram) "variables" = some none)
    (n_rows : PySem.W.findIn K (.ref cProgram) "rows" = some none)
    {tWIDEST : Nat} (g_WIDEST : PySem.W.nsIn K mainGlobals "WIDEST" = some (some (.int 64 tWIDEST)))
    {tMOST_VARIABLES : Nat} (g_MOST_VARIABLES : PySem.W.nsIn K mainGlobals "MOST_VARIABLES" = some (some (.int 6 tMOST_VARIABLES)))
    {tMOST_ROWS_programs : Nat} (g_MOST_ROWS_programs : PySem.W.nsIn K mainGlobals "MOST_ROWS_programs" = some (some (.int 25 tMOST_ROWS_programs)))
    {tMOST_NEXTS : Nat} (g_MOST_NEXTS : PySem.W.nsIn K mainGlobals "MOST_NEXTS" = some (some (.int 6 tMOST_NEXTS)))
    {tLONGEST_NAME : Nat} (g_LONGEST_NAME : PySem.W.nsIn K mainGlobals "LONGEST_NAME" = some (some (.int 8 tLONGEST_NAME)))
    (eN : ∀ base, Ec1 P w K mg base "NoRun" cKeepError cNoRun "index")
    (z_dict : PySem.W.nsIn K mainGlobals "dict" = some none) {cNEXTS : Addr} (g_NEXTS : PySem.W.nsIn K mainGlobals "NEXTS" = some (some (.ref cNEXTS)))
    (pgC : PySem.W.plainGet K cCode Str.empty = true) (hdC : PySem.W.hasDictIn K cCode = true) (poC : PySem.W.plainOver K cCode = true) (saC : PySem.W.findIn K (.ref cCode) "__setattr__" = some (some (.builtin "object.__setattr__")))
    (m_width : PySem.W.findIn K (.ref cCode) "width" = some none)
    (m_counts : PySem.W.findIn K (.ref cCode) "counts" = some none)
    (m_rows : PySem.W.findIn K (.ref cCode) "rows" = some none)
    (m_start : PySem.W.findIn K (.ref cCode) "start" = some none)
    {tMOST_ROWS_codes : Nat} (g_MOST_ROWS_codes : PySem.W.nsIn K mainGlobals "MOST_ROWS_codes" = some (some (.int 200 tMOST_ROWS_codes)))
    {tMOST_REGISTERS : Nat} (g_MOST_REGISTERS : PySem.W.nsIn K mainGlobals "MOST_REGISTERS" = some (some (.int 64 tMOST_REGISTERS)))
    {es : Array DictEntry} {ne : Nat} (xN : K.lookup cNEXTS = some ⟨.type "dict", none, .dict es ne, #[]⟩) (xL : PySem.W.KeysLit w.params es.toList) (xS : (cNEXTS == sysModules) = false)
    {p0 : Addr} {od0 : Option Addr} {np0 : Nat} {sp0 : Array (Option Value)} {ta0 tb0 : Nat} (v0 : PySem.W.nsIn K cNEXTS "go" = some (some (.ref p0))) (u0 : K.lookup p0 = some ⟨.type "tuple", od0, .seq #[.int 1 ta0, .int 1 tb0] np0, sp0⟩)
    {p1 : Addr} {od1 : Option Addr} {np1 : Nat} {sp1 : Array (Option Value)} {ta1 tb1 : Nat} (v1 : PySem.W.nsIn K cNEXTS "ask" = some (some (.ref p1))) (u1 : K.lookup p1 = some ⟨.type "tuple", od1, .seq #[.int 1 ta1, .int 1 tb1] np1, sp1⟩)
    {p2 : Addr} {od2 : Option Addr} {np2 : Nat} {sp2 : Array (Option Value)} {ta2 tb2 : Nat} (v2 : PySem.W.nsIn K cNEXTS "choose" = some (some (.ref p2))) (u2 : K.lookup p2 = some ⟨.type "tuple", od2, .seq #[.int 1 ta2, .int 6 tb2] np2, sp2⟩)
    {p3 : Addr} {od3 : Option Addr} {np3 : Nat} {sp3 : Array (Option Value)} {ta3 tb3 : Nat} (v3 : PySem.W.nsIn K cNEXTS "stop" = some (some (.ref p3))) (u3 : K.lookup p3 = some ⟨.type "tuple", od3, .seq #[.int 0 ta3, .int 0 tb3] np3, sp3⟩)
    (base : Heap) : Txt P w K mg base ⟨cKeepError, cNoRun, cNoCode, cCode, cNEXTS, cNoProgram, cNoRow, cProgram⟩ :=
  ⟨PySem.W.mg_none_of X G z_int, PySem.W.mg_none_of X G z_bool, PySem.W.mg_none_of X G z_str, PySem.W.mg_none_of X G z_list, PySem.W.mg_none_of X G z_tuple, PySem.W.mg_none_of X G z_len, PySem.W.mg_none_of X G z_isinstance, PySem.W.mg_none_of X G z_range, PySem.W.mg_none_of X G z_enumerate, PySem.W.mg_none_of X G z_all, PySem.W.mg_none_of X G z_TypeError, PySem.W.mg_of X G g_NoProgram, PySem.W.mg_of X G g_NoRow, PySem.W.mg_of X G g_Program, ⟨pg, hd, po, sa⟩, i_cls, i_get, i_tk, i_mro, i_self, i_tup, o_nf, o_ne, n_width, n_variables, n_rows, ⟨_, PySem.W.mg_of X G g_WIDEST⟩, ⟨_, PySem.W.mg_of X G g_MOST_VARIABLES⟩, ⟨_, PySem.W.mg_of X G g_MOST_ROWS_programs⟩, ⟨_, PySem.W.mg_of X G g_MOST_NEXTS⟩, ⟨_, PySem.W.mg_of X G g_LONGEST_NAME⟩, PySem.W.mg_none_of X G z_zip, PySem.W.mg_none_of X G z_sum, eN base, PySem.W.mg_none_of X G z_dict, PySem.W.mg_of X G g_NoCode, PySem.W.mg_of X G g_Code, ⟨pgC, hdC, poC, saC⟩, m_width, m_counts, m_rows, m_start, ⟨_, PySem.W.mg_of X G g_MOST_ROWS_codes⟩, ⟨_, PySem.W.mg_of X G g_MOST_REGISTERS⟩, PySem.W.mg_of X G g_NEXTS, ⟨_, _, ⟨xN, xL, xS⟩⟩, nexts_of v0 u0 v1 u1 v2 u2 v3 u3⟩
section
variable {P : PySem.Program} {w : World} {K : PySem.W.Frag} {mg : Str → Option Value} {base : Heap} {h : Heap}
theorem erk_mk {x nm q : Str} {C B N : Addr} {bs : List Value} {sn : List Str} {sub : List Value} {ab : Bool} {col : Option Bool} {dd : Option Addr} {m0 m1 m2 m3 m5 : Option Value} (X : K.In h) (G : h.Ns mainGlobals mg)
    (aC : PySem.W.nsIn K mainGlobals x = some (some (.ref C))) (xL : K.lookup C = some (excClassObj nm q C N bs [.ref B, .type "ValueError", .type "Exception", .type "BaseException", .type "object"] true sn sub ab col dd m0 m1 m2 m3 m5 "ValueError.__new__"))
    (sa : PySem.W.findIn K (.ref C) "__setattr__" = some (some (.builtin "object.__setattr__"))) (ty : PySem.W.typeIn K (.ref C) = some (.type "type")) (kp : PySem.W.keepIn K (.ref C) = true)
    (ga : PySem.W.findIn K (.ref C) "__getattribute__" = some (some (.builtin "BaseException.__getattribute__"))) (gt : PySem.W.findIn K (.ref C) "__getattr__" = some none) (su : PySem.W.subIn K (.ref C) (.type "BaseException") = some true)
    (ca : PySem.W.findIn K (.ref C) "__class__" = some (some (.builtin "object.__class__"))) (sp : PySem.W.specialIn K (.builtin "object.__class__") "__get__" = some (some (.builtin "getset_descriptor.__get__"))) (tk : PySem.W.takesIn K (.builtin "object.__class__") = some true)
    (mo : PySem.W.mroIn K C (.type "object") = some true) : ErK K mg x C B :=
  ⟨PySem.W.mg_of X G aC, ⟨nm, q, N, bs, sn, sub, ab, col, dd, m0, m1, m2, m3, m5, xL⟩, sa, ty, kp, ⟨by unfold PySem.W.clsIn; rw [xL]; rfl, ga, gt, su, ca, sp, tk, mo⟩⟩
abbrev s_NoRun : Stmt := inClass (top 4) 0
theorem sc_NoRun : FnScope ["self", "index"] ["self", "index"] (defScope s_NoRun) := ⟨rfl, rfl, rfl, by decide +kernel, rfl, by decide +kernel, by decide +kernel⟩
theorem ini_NoRun {f C : Addr} {fd : FuncData} (F : Fun K "__init__" "NoRun.__init__" s_NoRun f fd) (T : OexC K C) (n0 : PySem.W.findIn K (.ref C) "index" = some none) : FnOk P w K mg base CX0 1 f fd ["self", "index"] (spI1 C "index") := by
  refine F.ok sc_NoRun (fun vs H Q E h => ?_) (fun cdv A outer s H vs Q E hr h => ?_)
  · obtain ⟨a, x, rfl, _⟩ := h
    rfl
  · obtain ⟨a, x, rfl, ha, k⟩ := h
    exact ⟨_, (pss_one (ps_ost (pv 0) (pv 1))), rd1 T n0 rfl rfl ha k⟩
theorem ec1_mk {x qual : Str} {B C fI : Addr} {f : Str} {st : Stmt} {oc kV doc pm cdv ct : Value} {od an : Option Addr} {osl : Array (Option Value)} (E : ErK K mg x C B) (hd : PySem.W.hasDictIn K C = true)
    (a1 : PySem.W.findIn K (.ref C) "__init__" = some (some (.ref fI))) (t1 : PySem.W.typeIn K (.ref fI) = some (.type "function")) (l1 : K.lookup fI = some ⟨oc, od, .func (PySem.W.fnOf "__init__" qual (defArgs st) (defBody st) (defScope st) .none kV doc pm an cdv ct), osl⟩)
    (c1 : PySem.W.codeIn K cdv qual = true) (kf : PySem.W.keepIn K (.ref fI) = true) (nf : PySem.W.findIn K (.ref C) f = some none)
    (hini : ∀ {fa : Addr} {fda : FuncData}, Fun K "__init__" qual st fa fda → OexC K C → FnOk P w K mg base CX0 1 fa fda ["self", f] (spI1 C f))
    (hb : ∀ (kV doc pm : Value) (an : Option Addr) (cdv ct : Value) (us : List Value), us.length = (["self", f] : List Str).length → bindArgs (PySem.W.fnOf "__init__" qual (defArgs st) (defBody st) (defScope st) .none kV doc pm an cdv ct) ⟨us, []⟩ = pure ((["self", f] : List Str).zip us)) :
    Ec1 P w K mg base x B C f := by
  have F := fun_mk (st := st) l1 c1 kf
  exact ⟨E, ⟨_, _, a1, t1, hini F E.ox, F.binds hb⟩, hd, nf⟩
end
end K42
open PySem PySem.W PyProof.Rows in
set_option maxRecDepth 100000 in
set_option maxHeartbeats 0 in
theorem PySem.Challenge.cw_leastkeep_k42_runs_of_codes_holds : PySem.Challenge.rw_leastkeep_k42_runs_of_codes.Holds := by
  w_on; o_law; k_head; (case hw => w_witness2)
  k_fill
  refine K42.walk (l := PySem.Challenge.rw_leastkeep_k42_runs_of_codes) rfl rfl (fun w h Y => PySem.W.kIn_of Y) ?F
  case F =>
    intro w mg fa h KX G hmg
    refine' K42.all_mk KX G hmg (K42.txt_mk KX G ?z_int ?z_bool ?z_str ?z_list ?z_tuple ?z_len ?z_isinstance ?z_range ?z_enumerate ?z_all ?z_TypeError ?z_zip ?z_sum ?g_KeepError ?g_NoRun ?g_NoCode ?g_Code ?g_NoProgram ?g_NoRow ?g_Program ?pg ?hd ?po ?sa ?i_cls ?i_get ?i_tk ?i_mro ?i_self ?i_tup ?o_nf ?o_ne ?n_width ?n_variables ?n_rows ?g_WIDEST ?g_MOST_VARIABLES ?g_MOST_ROWS_programs ?g_MOST_NEXTS ?g_LONGEST_NAME ?eN ?z_dict ?g_NEXTS ?pgC ?hdC ?poC ?saC ?m_width ?m_counts ?m_rows ?m_start ?g_MOST_ROWS_codes ?g_MOST_REGISTERS ?xN ?xL ?xS ?v0 ?u0 ?v1 ?u1 ?v2 ?u2 ?v3 ?u3) ?a0 ?l0 ?c0 ?k0 ?a1 ?l1 ?c1 ?k1 ?a2 ?l2 ?c2 ?k2 ?a3 ?l3 ?c3 ?k3 ?a4 ?l4 ?c4 ?k4 ?a5 ?l5 ?c5 ?k5 ?a6 ?l6 ?c6 ?k6 ?a7 ?l7 ?c7 ?k7 ?a8 ?l8 ?c8 ?k8 ?a9 ?l9 ?c9 ?k9 ?a10 ?l10 ?c10 ?k10 ?a11 ?l11 ?c11 ?k11 ?a12 ?l12 ?c12 ?k12 ?a13 ?l13 ?c13 ?k13 ?a14 ?l14 ?c14 ?k14 ?a15 ?l15 ?c15 ?k15 ?a16 ?l16 ?c16 ?k16 ?a17 ?l17 ?c17 ?k17 ?a18 ?l18 ?c18 ?k18 ?a19 ?l19 ?c19 ?k19 ?a20 ?l20 ?c20 ?k20 ?a21 ?l21 ?c21 ?k21 ?a22 ?l22 ?c22 ?k22 ?a23 ?l23 ?c23 ?k23 ?a24 ?l24 ?c24 ?k24 ?a25 ?l25 ?c25 ?k25 ?a26 ?l26 ?c26 ?k26 ?a27 ?l27 ?c27 ?k27 ?a28 ?l28 ?c28 ?k28 ?a29 ?l29 ?c29 ?k29 ?a30 ?l30 ?c30 ?k30 ?a31 ?l31 ?c31 ?k31 ?a32 ?l32 ?c32 ?k32 ?a33 ?l33 ?c33 ?k33 ?a34 ?l34 ?c34 ?k34 ?a35 ?l35 ?c35 ?k35 ?a36 ?l36 ?c36 ?k36 ?a37 ?l37 ?c37 ?k37 ?a38 ?l38 ?c38 ?k38 ?a39 ?l39 ?c39 ?k39 ?a40 ?l40 ?c40 ?k40 ?a41 ?l41 ?c41 ?k41 ?a42 ?l42 ?c42 ?k42 ?a43 ?l43 ?c43 ?k43 ?a44 ?l44 ?c44 ?k44 ?a45 ?l45 ?c45 ?k45 ?a46 ?l46 ?c46 ?k46 ?a47 ?l47 ?c47 ?k47 ?a48 ?l48 ?c48 ?k48 ?a49 ?l49 ?c49 ?k49 ?a50 ?l50 ?c50 ?k50 ?a51 ?l51 ?c51 ?k51 ?a52 ?l52 ?c52 ?k52 ?a53 ?l53 ?c53 ?k53 ?a54 ?l54 ?c54 ?k54 ?a55 ?l55 ?c55 ?k55 ?a56 ?l56 ?c56 ?k56 ?a57 ?l57 ?c57 ?k57 ?a58 ?l58 ?c58 ?k58 ?a59 ?l59 ?c59 ?k59 ?am0 ?tm0 ?lm0 ?cm0 ?km0 ?am1 ?tm1 ?lm1 ?cm1 ?km1 ?am2 ?tm2 ?lm2 ?cm2 ?km2 ?am3 ?tm3 ?lm3 ?cm3 ?km3 ?am4 ?tm4 ?lm4 ?cm4 ?km4 ?pm ?pk ?pf ?pmC ?pkC
    (case g_KeepError => k_is); (case g_NoRun => k_is); (case g_NoCode => k_is); (case g_Code => k_is); (case g_NoProgram => k_is); (case g_NoRow => k_is); (case g_Program => k_is); (case g_WIDEST => k_is); (case g_MOST_VARIABLES => k_is); (case g_MOST_ROWS_programs => k_is); (case g_MOST_NEXTS => k_is); (case g_LONGEST_NAME => k_is); (case g_NEXTS => k_is); (case g_MOST_ROWS_codes => k_is); (case g_MOST_REGISTERS => k_is)
    (case z_int => k_is); (case z_bool => k_is); (case z_str => k_is); (case z_list => k_is); (case z_tuple => k_is); (case z_len => k_is); (case z_isinstance => k_is); (case z_range => k_is); (case z_enumerate => k_is); (case z_all => k_is); (case z_TypeError => k_is); (case z_zip => k_is); (case z_sum => k_is); (case pg => k_is); (case hd => k_is); (case po => k_is); (case sa => k_is); (case i_cls => k_is); (case i_get => k_is); (case i_tk => k_is); (case i_mro => k_is); (case i_self => kit_is); (case i_tup => kit_is); (case o_nf => k_is); (case o_ne => k_is); (case n_width => k_is); (case n_variables => k_is); (case n_rows => k_is); (case z_dict => k_is); (case pgC => k_is); (case hdC => k_is); (case poC => k_is); (case saC => k_is); (case m_width => k_is); (case m_counts => k_is); (case m_rows => k_is); (case m_start => k_is); (case xN => k_is); (case xL => exact ⟨⟨_, _, rfl, rfl⟩, ⟨_, _, rfl, rfl⟩, ⟨_, _, rfl, rfl⟩, ⟨_, _, rfl, rfl⟩, trivial⟩); (case xS => rfl); (case v0 => k_is); (case u0 => k_is); (case v1 => k_is); (case u1 => k_is); (case v2 => k_is); (case u2 => k_is); (case v3 => k_is); (case u3 => k_is)
    (case eN => (intro base; refine' K42.ec1_mk (st := K42.s_NoRun) (K42.erk_mk KX G ?q0 ?q1 ?q2 ?q3 ?q4 ?q5 ?q6 ?q7 ?q8 ?q9 ?q10 ?q11) ?ehd ?er0 ?er1 ?er2 ?er3 ?er4 ?en0 (fun F T => K42.ini_NoRun F T ?en0) (fun _ _ _ _ _ _ us hl => match us, hl with | [_, _], _ => rfl); (case q0 => k_is); (case q1 => k_is); (case q2 => k_is); (case q3 => k_is); (case q4 => k_is); (case q5 => k_is); (case q6 => k_is); (case q7 => k_is); (case q8 => k_is); (case q9 => k_is); (case q10 => k_is); (case q11 => k_is); (case ehd => k_is); (case er0 => k_is); (case er1 => k_is); (case er2 => k_is); (case er3 => k_is); (case er4 => k_is); (case en0 => k_is)))
    (case a0 => k_is); (case a1 => k_is); (case a2 => k_is); (case a3 => k_is); (case a4 => k_is); (case a5 => k_is); (case a6 => k_is); (case a7 => k_is); (case a8 => k_is); (case a9 => k_is); (case a10 => k_is); (case a11 => k_is); (case a12 => k_is); (case a13 => k_is); (case a14 => k_is); (case a15 => k_is); (case a16 => k_is); (case a17 => k_is); (case a18 => k_is); (case a19 => k_is); (case a20 => k_is); (case a21 => k_is); (case a22 => k_is); (case a23 => k_is); (case a24 => k_is); (case a25 => k_is); (case a26 => k_is); (case a27 => k_is); (case a28 => k_is); (case a29 => k_is); (case a30 => k_is); (case a31 => k_is); (case a32 => k_is); (case a33 => k_is); (case a34 => k_is); (case a35 => k_is); (case a36 => k_is); (case a37 => k_is); (case a38 => k_is); (case a39 => k_is); (case a40 => k_is); (case a41 => k_is); (case a42 => k_is); (case a43 => k_is); (case a44 => k_is); (case a45 => k_is); (case a46 => k_is); (case a47 => k_is); (case a48 => k_is); (case a49 => k_is); (case a50 => k_is); (case a51 => k_is); (case a52 => k_is); (case a53 => k_is); (case a54 => k_is); (case a55 => k_is); (case a56 => k_is); (case a57 => k_is); (case a58 => k_is); (case a59 => k_is); (case am0 => k_is); (case am1 => k_is); (case am2 => k_is); (case am3 => k_is); (case am4 => k_is)
    (case l0 => k_is); (case l1 => k_is); (case l2 => k_is); (case l3 => k_is); (case l4 => k_is); (case l5 => k_is); (case l6 => k_is); (case l7 => k_is); (case l8 => k_is); (case l9 => k_is); (case l10 => k_is); (case l11 => k_is); (case l12 => k_is); (case l13 => k_is); (case l14 => k_is); (case l15 => k_is); (case l16 => k_is); (case l17 => k_is); (case l18 => k_is); (case l19 => k_is); (case l20 => k_is); (case l21 => k_is); (case l22 => k_is); (case l23 => k_is); (case l24 => k_is); (case l25 => k_is); (case l26 => k_is); (case l27 => k_is); (case l28 => k_is); (case l29 => k_is); (case l30 => k_is); (case l31 => k_is); (case l32 => k_is); (case l33 => k_is); (case l34 => k_is); (case l35 => k_is); (case l36 => k_is); (case l37 => k_is); (case l38 => k_is); (case l39 => k_is); (case l40 => k_is); (case l41 => k_is); (case l42 => k_is); (case l43 => k_is); (case l44 => k_is); (case l45 => k_is); (case l46 => k_is); (case l47 => k_is); (case l48 => k_is); (case l49 => k_is); (case l50 => k_is); (case l51 => k_is); (case l52 => k_is); (case l53 => k_is); (case l54 => k_is); (case l55 => k_is); (case l56 => k_is); (case l57 => k_is); (case l58 => k_is); (case l59 => k_is); (case lm0 => k_is); (case lm1 => k_is); (case lm2 => k_is); (case lm3 => k_is); (case lm4 => k_is)
    (case c0 => k_is); (case k0 => k_is); (case c1 => k_is); (case k1 => k_is); (case c2 => k_is); (case k2 => k_is); (case c3 => k_is); (case k3 => k_is); (case c4 => k_is); (case k4 => k_is); (case c5 => k_is); (case k5 => k_is); (case c6 => k_is); (case k6 => k_is); (case c7 => k_is); (case k7 => k_is); (case c8 => k_is); (case k8 => k_is); (case c9 => k_is); (case k9 => k_is); (case c10 => k_is); (case k10 => k_is); (case c11 => k_is); (case k11 => k_is); (case c12 => k_is); (case k12 => k_is); (case c13 => k_is); (case k13 => k_is); (case c14 => k_is); (case k14 => k_is); (case c15 => k_is); (case k15 => k_is); (case c16 => k_is); (case k16 => k_is); (case c17 => k_is); (case k17 => k_is); (case c18 => k_is); (case k18 => k_is); (case c19 => k_is); (case k19 => k_is); (case c20 => k_is); (case k20 => k_is); (case c21 => k_is); (case k21 => k_is); (case c22 => k_is); (case k22 => k_is); (case c23 => k_is); (case k23 => k_is); (case c24 => k_is); (case k24 => k_is); (case c25 => k_is); (case k25 => k_is); (case c26 => k_is); (case k26 => k_is); (case c27 => k_is); (case k27 => k_is); (case c28 => k_is); (case k28 => k_is); (case c29 => k_is); (case k29 => k_is); (case c30 => k_is); (case k30 => k_is); (case c31 => k_is); (case k31 => k_is); (case c32 => k_is); (case k32 => k_is); (case c33 => k_is); (case k33 => k_is); (case c34 => k_is); (case k34 => k_is); (case c35 => k_is); (case k35 => k_is); (case c36 => k_is); (case k36 => k_is); (case c37 => k_is); (case k37 => k_is); (case c38 => k_is); (case k38 => k_is); (case c39 => k_is); (case k39 => k_is); (case c40 => k_is); (case k40 => k_is); (case c41 => k_is); (case k41 => k_is); (case c42 => k_is); (case k42 => k_is); (case c43 => k_is); (case k43 => k_is); (case c44 => k_is); (case k44 => k_is); (case c45 => k_is); (case k45 => k_is); (case c46 => k_is); (case k46 => k_is); (case c47 => k_is); (case k47 => k_is); (case c48 => k_is); (case k48 => k_is); (case c49 => k_is); (case k49 => k_is); (case c50 => k_is); (case k50 => k_is); (case c51 => k_is); (case k51 => k_is); (case c52 => k_is); (case k52 => k_is); (case c53 => k_is); (case k53 => k_is); (case c54 => k_is); (case k54 => k_is); (case c55 => k_is); (case k55 => k_is); (case c56 => k_is); (case k56 => k_is); (case c57 => k_is); (case k57 => k_is); (case c58 => k_is); (case k58 => k_is); (case c59 => k_is); (case k59 => k_is); (case tm0 => k_is); (case cm0 => k_is); (case km0 => k_is); (case tm1 => k_is); (case cm1 => k_is); (case km1 => k_is); (case tm2 => k_is); (case cm2 => k_is); (case km2 => k_is); (case tm3 => k_is); (case cm3 => k_is); (case km3 => k_is); (case tm4 => k_is); (case cm4 => k_is); (case km4 => k_is); (case pm => k_is); (case pk => k_is); (case pf => k_is); (case pmC => k_is); (case pkC => k_is)
