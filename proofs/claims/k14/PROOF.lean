import PyProof.Rows.All
import Wide.All
import OpenK.AllK
import Wide.FinOn
import HandS.Base
import HandS.Call
import HandS.List
import HandS.Comp
import HandS.Iter
import HandS.Ends
import HandS.Words
import HandS.WordsList
import HandS.Exc
import HandS.ExcInit
import HandS.ExcValue
import HandS.ExcField
import HandS.IsInst
import HandS.Defaults
import HandS.MakeKwOnly
import KE.KExcIs
import HandS.Walk
import PyProof.Rows.SeqMore
import KE.GoesMore
import HandS.Wide
import HandS.WideBits
import HandS.TupMul
import HandS.TupAny
import HandS.Text
import HandS.Flow
import HandS.OwnEq
import HandS.More
import OpenK.KOps
import OpenK.KMeth
import PyProof.InstNe
import PyProof.P3Eq
import HandS.Zip
import HandS.Strs
import HandS.ExcOwn
import HandS.WordsExc
import HandS.Rev
import HandS.SortInts
import HandS.Conv
import HandS.TupLen
import HandS.TupSets
import KE.KDictDisplayH
import KE.GoesZip
import PyProof.ConsumeWalk
import PyProof.WalksMore
import PyProof.PureInt
import PyProof.Rows.SetFrom
import PyProof.SetRoads
import HandS.Deep
import KE.KeyNested
import PyProof.P3In
import PySem.Challenge.RW_leastkeep_k14_invariant_factors
import KE.RegKIsAll
set_option Elab.async false
set_option linter.all false
set_option maxRecDepth 100000
set_option maxHeartbeats 4000000
namespace Lk
open PySem PySem.Spec PyProof.Rows L2
/-- a def that may be called by its name: it lets no error out -/
structure Cal (P : Program) (w : World) (K : PySem.W.Frag) (mg : Str → Option Value) (base : Heap) (k : Nat) (x : Str) (ps : List Str) (sp : Sp) : Prop where
  ex : ∃ f fd, mg x = some (.ref f) ∧ PySem.W.keepIn K (.ref f) = true ∧ Binds K fd ps [] ∧ FnOk P w K mg base CX0 k f fd ps sp
theorem pcal {X : Cx} {k j : Nat} {x : Str} {ps : List Str} {sp : Sp} {e : Expr} {es : List Expr} {t : TA} {p pos : Pos} (c : Cal X.prog X.w X.K X.mg X.base k x ps sp) (hr : Room j X.A) (hk : k ≤ j) (ha : PA X (e :: es) t) (hg : Gl X x := by rfl)
    (hdb : (x == ("__debug__" : Str)) = false := by decide) (he : starEach (e :: es) X.env = (false, eval e X.env) :: starEach es X.env := by rfl) (hpl : (backTo pos (starEach es X.env)).any (·.1) = false := by rfl) :
    PE X (.Call (.Name x p) (e :: es) [] pos) (tCall sp [] E0 t) := by
  obtain ⟨f, fd, hm, kp, b, F⟩ := c.ex
  exact pe_call F (hr.mono hk) hg hm kp b .nil pass0 ha hdb he hpl
section
variable {σ : L2.St} {H : Hp} {i j : Nat} {v x y : V} {Q : VK} {D : Ends} {ta tb te : TE} {t u : TS} {tt tu : TT} {tl tr : TA} {r : R2} {g : TG}
theorem sv (h : σ[i]? = some (some v)) (q : Q v H) : tVar i σ H Q := ⟨v, h, q⟩
theorem sc (q : Q v H) : tC v σ H Q := q
theorem ssq (q : t { D with nx := u D } σ H) : tSeq t u D σ H := q
theorem snx (q : D.nx σ H) : tNext D σ H := q
theorem sas (q : te σ H fun x H1 => g x σ H1 D.nx) : tAsg te g D σ H := q
theorem sgn {K : L2.St → Hp → Prop} (q : K (σ.set i (some v)) H) : gName i v σ H K := q
theorem sdr (q : te σ H fun _ H1 => D.nx σ H1) : tDrop te D σ H := q
theorem srt (q : te σ H D.rt) : tRet te D σ H := q
theorem sop (q : ta σ H fun x H1 => tb σ H1 fun y H2 => r x y H2 Q) : tOp r ta tb σ H Q := q
theorem sun {r : V → Hp → VK → Prop} (q : ta σ H fun x H1 => r x H1 Q) : tUn r ta σ H Q := q
theorem sI0 {f : Int → Int → V} {a b : Int} (q : Q (f a b) H) : rI0 f (.int a) (.int b) H Q := ⟨a, b, rfl, rfl, q⟩
theorem sI {C : Int → Int → Prop} {f : Int → Int → V} {a b : Int} (h : C a b) (q : Q (f a b) H) : rI C f (.int a) (.int b) H Q := ⟨a, b, rfl, rfl, h, q⟩
theorem sU {f : Int → V} {a : Int} (q : Q (f a) H) : rU f (.int a) H Q := ⟨a, rfl, q⟩
theorem sEq (h : scal x y = true) (q : Q (.bl (decide (x = y))) H) : rEq x y H Q := ⟨h, q⟩
theorem sNe (h : scal x y = true) (q : Q (.bl (!decide (x = y))) H) : rNe x y H Q := ⟨h, q⟩
theorem stt {Q : Bool → Hp → Prop} (q : te σ H fun x H' => ∃ k, x = .bl k ∧ Q k H') : tTest te σ H Q := q
theorem stB {Q : Bool → Hp → Prop} (q : te σ H fun x H' => ∃ k, x = .bl k ∧ Q k H') : tB te σ H Q := q
theorem sbl {b : Bool} {Q : Bool → Prop} (q : Q b) : ∃ k, V.bl b = .bl k ∧ Q k := ⟨b, rfl, q⟩
theorem snt {Q : Bool → Hp → Prop} (q : tt σ H fun c H1 => Q (!c) H1) : tNot tt σ H Q := q
theorem sif (q : tt σ H fun b H1 => if b = true then t D σ H1 else u D σ H1) : tIfS tt t u D σ H := q
theorem scB {r : List V → Hp → VK → Prop} (q : tl σ H fun vs H1 => r vs H1 Q) : tCB r tl σ H Q := q
theorem scn {Q : List V → Hp → Prop} (q : ta σ H fun x H1 => tr σ H1 fun xs H2 => Q (x :: xs) H2) : tCons ta tr σ H Q := q
theorem snl {Q : List V → Hp → Prop} (q : Q [] H) : tNil σ H Q := q
theorem scl {sp : Sp} {E : XK} (q : tl σ H fun vs H1 => sp (vs ++ []) H1 Q E) : tCall sp [] E tl σ H Q := q
theorem stu (q : tl σ H fun xs H1 => xs.length ≤ sizeLine ∧ ∀ p, H1 p = none → Q (.ref p) (upd H1 p (.tup xs))) : tTup tl σ H Q := q
theorem sli (q : tl σ H fun xs H1 => xs.length ≤ sizeLine ∧ ∀ p, H1 p = none → Q (.ref p) (upd H1 p (.lst xs))) : tLst tl σ H Q := q
theorem snw {n : Nat} {R : Addr → Prop} (h : n ≤ 1000) (q : ∀ p, H p = none → R p) : n ≤ sizeLine ∧ ∀ p, H p = none → R p := ⟨Nat.le_of_lt (small1000 h), q⟩
theorem sfr {K : PySem.W.Frag} {p : Addr} {xs : List V} {z : Int} (hp : SqL K H p xs) (hz : atI xs z = some v) (q : Q v H) : rIxL K (.ref p) (.int z) H Q := ⟨p, xs, z, v, rfl, rfl, hp, hz, q⟩
theorem sfg {s : TSet} {K : L2.St → Hp → Prop} (q : ta σ H fun o H1 => tb σ H1 fun z H2 => s o z v H2 fun H3 => K σ H3) : gSub ta tb s v σ H K := q
theorem ssl {p : Addr} {xs : List V} {z : Int} {j : Nat} {K : Hp → Prop} (hp : H p = some (.lst xs)) (hz : ixN xs.length z = some j) (q : K (upd H p (.lst (xs.set j v)))) : rSetL (.ref p) (.int z) v H K := ⟨p, xs, z, j, rfl, rfl, hp, hz, q⟩
theorem sI1 {a : Int} (q : Q (.int a) H) : (∃ i, [V.int a] = [.int i] ∧ Q (.int i) H) ∨ ∃ k, [V.int a] = [.bl k] ∧ Q (.int (if k then 1 else 0)) H := .inl ⟨a, rfl, q⟩
theorem sI2 {b : Bool} (q : Q (.int (if b then 1 else 0)) H) : (∃ i, [V.bl b] = [.int i] ∧ Q (.int i) H) ∨ ∃ k, [V.bl b] = [.bl k] ∧ Q (.int (if k then 1 else 0)) H := .inr ⟨b, rfl, q⟩
end
end Lk

/-! ### an error class with its own __init__, called with keywords: the keywords go by the base's __new__ and reach the own __init__ -/
namespace PySem.HandSPX
open Builtin Builtin.ObjectAttr
section
variable {prog : Program} {w : World} {Ar : Around} {E : Value → Shared → Prop} {R : Result → Shared → Prop} {hp : Heap} {gs : Array GenState} {dr : Drawn} {tk : Nat} {os : OsState}
variable {nm qn : Str} {C N : Addr} {bs bm bmB : List Value} {hdct ab : Bool} {sn : List Str} {sub us : List Value} {col : Option Bool} {dd : Option Addr} {m0 m1 m2 m3 m5 : Option Value} {B nid iid : String} {kw : List (Str × Value)}
/-- the check ahead of __new__ passes any keywords -/
theorem kw_check (F : ExcBaseFacts B nid iid bmB) (tl : ∀ Y : String, bm.contains (.type Y) = bmB.contains (.type Y)) (oC : hp.get? C = some (excClassObj nm qn C N bs bm hdct sn sub ab col dd m0 m1 m2 m3 m5 nid)) {Q : Unit → Shared → Prop} (q : Q () ⟨hp, gs, dr, tk, os⟩) :
    wpAny (model prog w) Ar (checkBuiltinCall nid ⟨.ref C :: us, kw⟩) Q E ⟨hp, gs, dr, tk, os⟩ := by
  have inB : (Value.ref C :: bm).contains (.type B) = true := (List.contains_cons).trans (by rw [tl, F.hasB]; exact Bool.or_true _)
  have star := F.noStar
  simp only [checkBuiltinCall, F.newSplit, F.newKind, F.newRow]
  repeat first
    | (refine wpAny_isSubtype_exc oC ?_
       rw [inB])
    | refine wpAny_madeBy_exc oC ?_
    | refine wpAny_staticBase_exc oC ?_
    | refine wpAny_loadPart_at oC ?_
    | simp only [Bool.false_eq_true, if_false, bne_self_eq_false]
    | wp_step
  exact q
/-- __new__ lays the args and the error, and looks at no keyword -/
theorem kw_new (F : ExcBaseFacts B nid iid bmB) (tl : ∀ Y : String, bm.contains (.type Y) = bmB.contains (.type Y)) (oC : hp.get? C = some (excClassObj nm qn C N bs bm hdct sn sub ab col dd m0 m1 m2 m3 m5 nid)) (len : us.length ≤ sizeLine)
    (q : R (.ok (.ret (.ref (hp.objs.size + 1)))) ⟨(hp.push (W.kdv_tup us)).push (excO C hp.objs.size), gs, dr, tk, os⟩) : codeAny (model prog w) Ar (.builtin nid ⟨.ref C :: us, kw⟩) R ⟨hp, gs, dr, tk, os⟩ := by
  have in1 : (Value.ref C :: bm).contains (.type B) = true := (List.contains_cons).trans (by rw [tl, F.hasB]; exact Bool.or_true _)
  have in2 : (Value.ref C :: bm).contains (.type "NameError") = false := (List.contains_cons).trans (by rw [tl, F.noName]; rfl)
  have in3 : (Value.ref C :: bm).contains (.type "AttributeError") = false := (List.contains_cons).trans (by rw [tl, F.noAttr]; rfl)
  have fin := F.ends
  refine codeAny_builtinAt F.entry ?_
  unfold Builtin.«BaseException.__new__»
  refine wpAt_bind (show wpAt _ _ _ (stack >>= _) _ _ _ from wpAt_bind (wpAt_stack fun _ _ => wpAt_of_wpAny ?_))
  wp_walk
  refine wpAt_of_wpAny ?_
  rw [F.owner]
  repeat first
    | with_reducible refine wpAny_loadPart_at oC ?_
    | with_reducible refine wpAny_madeHere_exc F.canon oC ?_
    | (with_reducible refine wpAny_isSubtype_exc oC ?_
       first | rw [in1] | rw [in2] | rw [in3])
    | wp_step
  show R _ _
  rw [Heap.size_push]
  exact q
/-- the whole call -/
theorem call_kw (F : ExcBaseFacts B nid iid bmB) (tl : ∀ Y : String, bm.contains (.type Y) = bmB.contains (.type Y)) {fI : Addr} (oC : hp.get? C = some (excClassObj nm qn C N bs bm hdct sn sub ab col dd m0 m1 m2 m3 m5 nid))
    (li : W.Looks (model prog w) hp (typeLookup (.ref C) "__init__") (some (.ref fI))) (lb : ∀ self, W.Looks (model prog w) hp (bindSpecial (.ref fI) self) (.ref fI, [self])) (len : us.length ≤ sizeLine)
    (q : codeAny (model prog w) (Ar.under (.builtin "type.__call__" ⟨.ref C :: us, kw⟩)) (.call (.ref fI) ⟨.ref (hp.objs.size + 1) :: us, kw⟩) (W.InitBack (hp.objs.size + 1) R) ⟨(hp.push (W.kdv_tup us)).push (excO C hp.objs.size), gs, dr, tk, os⟩) :
    codeAny (model prog w) Ar (.call (.ref C) ⟨us, kw⟩) R ⟨hp, gs, dr, tk, os⟩ := by
  have old : ∀ b o, hp.get? b = some o → ((hp.push (W.kdv_tup us)).push (excO C hp.objs.size)).get? b = some o := fun b o z => Heap.get?_push_of_some _ (Heap.get?_push_of_some _ z)
  have oE : ((hp.push (W.kdv_tup us)).push (excO C hp.objs.size)).get? (hp.objs.size + 1) = some (excO C hp.objs.size) := by heap_get
  have oC' := old _ _ oC
  have inC : (Value.ref C :: bm).contains (.ref C) = true := by simp
  have c1 := tc_lookup
  have c2 := tc_bind (.ref C)
  have c3 : (⟨hp, gs, dr, tk, os⟩ : Shared).TypeIs (.ref C) "type" := ⟨_, oC, rfl⟩
  refine codeAny_of_tree (show wpAny _ _ (callAny (.ref C) _) _ _ _ from ?_)
  repeat (any_goals (first | with_reducible refine wpAny_loadPart_at oC ?_ | assumption | wp_step))
  refine ⟨rfl, codeAny_call_builtin_at (Code.quiet_builtin _ (by decide +kernel)) entry_typeCall (wpAny_check_type_call_sub oC ?_)⟩
  repeat (first | with_reducible refine wpAny_madeBy_exc oC ?_ | with_reducible refine wpAny_loadPart_at oC ?_ | wp_step)
  refine codeAny_call_builtin_code (Code.quiet_builtin _ F.quiet) (kw_check (us := us) F tl oC (kw_new (us := us) F tl oC len ?_))
  show wpAny _ _ _ _ _ _
  unfold isInstance
  repeat first
    | with_reducible refine wpAny_loadPart_at oE ?_
    | (with_reducible refine wpAny_isSubtype_exc oC' ?_
       rw [inC])
    | wp_step
  show wpAny _ _ (typeLookup (.ref C) _) _ _ _
  refine (li.keeps old).at (wpAny_holding (wpAny_bind (((lb (.ref (hp.objs.size + 1))).keeps old).at (wpAny_bind (wpAny_call (codeAny_mono q fun r s' z => ?_))))))
  cases r with
  | error e => exact z
  | ok fl =>
    cases fl with
    | ret v =>
      obtain ⟨ev, z⟩ := z
      subst ev
      first
        | exact wpAny_pure (wpAny_pure z)
        | (wp_walk; exact z)
    | next => exact z.elim
    | brk => exact z.elim
    | cont => exact z.elim
end
end PySem.HandSPX

namespace Lk
open PySem PySem.Spec PyProof.Rows L2
/-- one error class of the program: its object, its own __init__, what isinstance and reading ask -/
structure ErC (K : PySem.W.Frag) (C fI : Addr) : Prop where
  ox : OexC K C
  ini : PySem.W.findIn K (.ref C) "__init__" = some (some (.ref fI))
  tyI : PySem.W.typeIn K (.ref fI) = some (.type "function")
/-- a made error of the class at C: the object at a, its dict, its fields -/
def erAt (H : Hp) (a C : Addr) (fs : List (Str × V)) : Prop := ∃ d, H a = some (exo a C (some d)) ∧ H d = some (exd d fs)
def tXm (C : Addr) (sp : Sp) (t : TA) : TE := fun σ H Q => t σ H fun vs H1 => vs.length ≤ 1000 ∧ ∀ a, H1 a = none → sp (.ref a :: vs) (upd H1 a (exo a C none)) (fun v H2 => v = .non ∧ Q (.ref a) H2) E0
def tXk (C : Addr) (m : Nat) (sp : Sp) (gV : List V → List V → List V) (tk : TA) : TE := fun σ H Q => tk σ H fun zs H1 => zs.length = m ∧ ∀ a, H1 a = none → sp (gV [.ref a] zs) (upd H1 a (exo a C none)) (fun v H2 => v = .non ∧ Q (.ref a) H2) E0
section
variable {X : Cx} {k : Nat} {fI C : Addr} {fd : FuncData} {ps ks : List Str} {sp : Sp} {x : Str} {p pos : Pos} {e : Expr} {es : List Expr} {kws : List Keyword} {t tk : TA} {g : List Value → List Value → List Value} {gV : List V → List V → List V}
theorem run_xm {pins : List (Addr × Obj)} {σ : L2.St} {H : Hp} {s : Shared} {Q : VK} {us : List Value} {kw : List (Str × Value)} {ls : List Value} {vv : Addr → List V} (T : ErC X.K C fI)
    (F1 : FnOk X.prog X.w X.K X.mg X.base CX0 k fI fd ps sp) (hr : Room (k + 1) X.A) (I : Inv X pins σ H s) (hus : us.length ≤ sizeLine)
    (hb : ∀ s' : Shared, X.K.In s'.heap → BindsTo s' fd ⟨.ref (s.heap.objs.size + 1) :: us, kw⟩ (ps.zip ls)) (hv : Vals (vv (s.heap.objs.size + 1)) ls)
    (h : ∀ a, H a = none → sp (vv a) (upd H a (exo a C none)) (fun v H2 => v = .non ∧ Q (.ref a) H2) E0) :
    wpAny (model X.prog X.w) X.A (call (.ref C) us kw) (EP X pins σ Q) X.xe s := by
  obtain ⟨nm, q, N, bs, bm, sn, sub, ab, col, dd, k0, k1, k2, k3, k5, hC, hbm⟩ := T.ox.cls
  obtain ⟨hp, gg, dr, tk, os⟩ := s
  have nw : H (hp.objs.size + 1) = none := I.hok.fresh (Nat.le_succ _)
  have kk : ∀ b o, hp.get? b = some o → ((hp.push (PySem.W.kdv_tup us)).push (PySem.HandSPX.excO C hp.objs.size)).get? b = some o := fun b o z => Heap.get?_push_of_some _ (Heap.get?_push_of_some _ z)
  have ob : ((hp.push (PySem.W.kdv_tup us)).push (PySem.HandSPX.excO C hp.objs.size)).get? (hp.objs.size + 1) = some (PySem.HandSPX.excO C hp.objs.size) := by heap_get
  have J : Inv X pins σ (upd H (hp.objs.size + 1) (exo (hp.objs.size + 1) C none)) ⟨(hp.push (PySem.W.kdv_tup us)).push (PySem.HandSPX.excO C hp.objs.size), gg, dr, tk, os⟩ := I.laid (t' := tk) kk (Nat.le_succ _) (exo_ok ob)
  refine wpAny_call (PySem.HandSPX.call_kw F.excBase_ValueError (fun Y => PySem.HandSPX.refsVE_contains Y bm hbm) (I.kIn _ _ hC) (PySem.W.looks_findIn I.kIn T.ini) (fun self => PySem.W.bind_fn I.kIn self T.tyI) hus
    (codeAny_mono (F1.run _ X.stack _ _ _ ls _ _ E0 (hr.make C us kw) (J.env0.make C us kw) (hb _ J.kIn) hv (h _ nw)) fun r s' z => ?_))
  cases r with
  | error er => exact z.elim
  | ok fl =>
    cases fl with
    | ret u =>
      obtain ⟨v, H', I3, rv, ev, q3⟩ := J.after z
      subst ev
      exact ⟨rv, ⟨.ref (hp.objs.size + 1), H', I3, rfl, q3⟩⟩
    | next => exact z.elim
    | brk => exact z.elim
    | cont => exact z.elim
/-- C(e, ..) as a value -/
theorem pe_xm (T : ErC X.K C fI) (F1 : FnOk X.prog X.w X.K X.mg X.base CX0 k fI fd ps sp) (hr : Room (k + 1) X.A) (hb : Binds X.K fd ps []) (hm : X.mg x = some (.ref C)) (ha : PA X (e :: es) t) (hg : Gl X x := by rfl)
    (hdb : (x == ("__debug__" : Str)) = false := by decide) (he : starEach (e :: es) X.env = (false, eval e X.env) :: starEach es X.env := by rfl) (hpl : (backTo pos (starEach es X.env)).any (·.1) = false := by rfl) :
    PE X (.Call (.Name x p) (e :: es) [] pos) (tXm C sp t) := by
  refine ⟨fun pins s σ H Q I h => wpAny_Call_Name_kw (ld_glob I hg hm ?_ hdb)⟩
  refine PySem.W.callWith_K (h₀ := X.base) I.ok.mod.kin T.ox.kC (thn (ha.run pos pins s σ H _ I h) fun us s1 ⟨vs, H1, I1, r1, hz, q1⟩ => ⟨I1.kIn, ?_⟩) he hpl
  have l1 : us.length ≤ sizeLine := by
    rw [← Paired.length r1, sizeLine_eq]
    omega
  have l2 : vs.length + 1 = ps.length := F1.len _ _ _ _ (q1 _ (I1.hok.fresh (Nat.le_refl _)))
  refine run_xm (vv := fun a => .ref a :: vs) (ls := .ref (s1.heap.objs.size + 1) :: us) T F1 hr I1 l1 (fun s' ks => ?_) (.cons rfl r1) q1
  have z := hb s' (.ref (s1.heap.objs.size + 1) :: us) ks (by rw [List.append_nil, List.length_cons, ← r1.length]; exact l2)
  rw [List.append_nil] at z
  exact z
/-- C(k = e, ..) as a value -/
theorem pe_xk (T : ErC X.K C fI) (F1 : FnOk X.prog X.w X.K X.mg X.base CX0 k fI fd ps sp) (hr : Room (k + 1) X.A) (hb : KBn X.K fd ps 1 ks g gV) (hm : X.mg x = some (.ref C)) (hkw : PK X kws tk) (hg : Gl X x := by rfl)
    (hall : (backToKw pos (keywordEach kws X.env)).all (·.1.isSome) = true := by rfl) (hks : (backToKw pos (keywordEach kws X.env)).filterMap (·.1) = ks := by rfl) (hdb : (x == ("__debug__" : Str)) = false := by decide)
    (hpl : ((backTo pos (starEach [] X.env)).any (·.1) || (backToKw pos (keywordEach kws X.env)).any (·.1.isNone)) = false := by rfl) :
    PE X (.Call (.Name x p) [] kws pos) (tXk C ks.length sp gV tk) := by
  refine ⟨fun pins s σ H Q I h => wpAny_Call_Name_kw (ld_glob I hg hm ?_ hdb)⟩
  refine PySem.W.callWith_KW0 (h₀ := X.base) I.ok.mod.kin T.ox.kC hall ?_ hpl
  refine thn (hkw.run pos pins s σ H _ I h) fun ws s2 ⟨zs, H2, I2, rz, l2, q2⟩ => ⟨I2.kIn, ?_⟩
  rw [hks]
  have r1 : Vals [V.ref (s2.heap.objs.size + 1)] [Value.ref (s2.heap.objs.size + 1)] := .cons rfl .nil
  exact run_xm (vv := fun a => gV [.ref a] zs) (us := []) T F1 hr I2 (Nat.zero_le _) (fun s' kin => hb.to s' _ ws kin rfl (rz.length.symm.trans l2)) (hb.rel r1 rz) q2
/-- C(), the class has no __init__ of its own -/
theorem pe_x0 {bmB : List Value} {B newId initId : String} (F : ExcBaseFacts B newId initId bmB) (q : PySem.W.excIn X.K C bmB newId = true) (gC : X.mg x = some (.ref C)) (kC : PySem.W.keepIn X.K (.ref C) = true) (hg : Gl X x := by rfl) (hdb : (x == ("__debug__" : Str)) = false := by decide) :
    PE X (.Call (.Name x p) [] [] pos) (fun σ H Q => ∀ a, H a = none → Q (.ref a) (upd H a (ExO (.ref C) a))) := by
  refine ⟨fun pins s σ H Q I h => wpAny_Call_Name_kw (ld_glob I hg gC ?_ hdb)⟩
  refine PySem.W.callWith_K0 I.kIn kC ?_
  show wpAny _ _ (call (.ref C) []) _ _ _
  obtain ⟨bm, N, nm, qn, bs, hdct, sn, sub, ab, col, dd, k0, k1, k2, k3, k5, mN, hC, hN, hni, T⟩ := exc_obj I.kIn q
  refine wpAny_call_exc_subT F T hC hN hni (fun h' a mk => ?_) (Nat.zero_le _)
  obtain ⟨t, ht, _, _⟩ := mk.there
  have nw : H a = none := I.hok.gone mk.new
  exact ⟨.ref a, _, I.laidN mk.keeps mk.new nw (exO_ok ht ⟨rfl, rfl⟩ rfl rfl rfl (show 4 < 6 by decide)), rfl, h a nw⟩
/-- ValueError(e) -/
def VeO (a : Addr) : HO := .ext fun h => PySem.W.KitAt a "ValueError" h
theorem pe_ve (hm : X.mg "ValueError" = none) (ha : PA X (e :: es) t) (hg : Gl X "ValueError" := by rfl)
    (he : starEach (e :: es) X.env = (false, eval e X.env) :: starEach es X.env := by rfl) (hpl : (backTo pos (starEach es X.env)).any (·.1) = false := by rfl) :
    PE X (.Call (.Name "ValueError" p) (e :: es) [] pos) (fun σ H Q => t σ H fun vs H1 => vs.length ≤ 1000 ∧ ∀ a, H1 a = none → Q (.ref a) (upd H1 a (VeO a))) := by
  refine ⟨fun pins s σ H Q I h => wpAny_Call_Name_kw (ld_blt I hg hm (u := .type "ValueError") (by decide +kernel) ?_)⟩
  refine PyProof.Rows.callWith_type1 (thn (ha.run pos pins s σ H _ I h) fun us s1 ⟨vs, H1, I1, r1, hz, q1⟩ => ?_) he hpl
  have l1 : us.length ≤ sizeLine := by
    rw [← Paired.length r1, sizeLine_eq]
    omega
  obtain ⟨hp, gg, dr, tk, os⟩ := s1
  refine wpAny_call_exc PySem.F.excCall_ValueError (fun h' a mk => ?_) l1
  obtain ⟨t0, ht, _, _⟩ := (PySem.Heap.MadeExc.of mk).there
  have nw : H1 a = none := I1.hok.gone mk.new
  refine ⟨.ref a, _, I1.laidN mk.keeps mk.new nw (o := VeO a) ⟨⟨_, ht, rfl⟩, ⟨_, ht⟩, fun h1 h2 ⟨o, z1, z2⟩ kp => ⟨o, kp o z1, z2⟩⟩, rfl, q1 a nw⟩
end
/-! ### what is asked of made errors -/
/-- an error that stands: its class, with a dict of its own or without -/
inductive ErV (H : Hp) : V → Addr → Prop where
  | d {a C d : Addr} {fs : List (Str × V)} (h : H a = some (exo a C (some d))) (h2 : H d = some (exd d fs)) : ErV H (.ref a) C
  | n {a C : Addr} (h : H a = some (ExO (.ref C) a)) : ErV H (.ref a) C
/-- what the class must say, so that isinstance asks its errors rightly -/
structure EkC (K : PySem.W.Frag) (C : Addr) : Prop where
  cl : (PySem.W.clsIn K C).isSome = true
  ga : PySem.W.findIn K (.ref C) "__getattribute__" = some (some (.builtin "BaseException.__getattribute__"))
  gt : PySem.W.findIn K (.ref C) "__getattr__" = some none
  su : PySem.W.subIn K (.ref C) (.type "BaseException") = some true
  ca : PySem.W.findIn K (.ref C) "__class__" = some (some (.builtin "object.__class__"))
  sp : PySem.W.specialIn K (.builtin "object.__class__") "__get__" = some (some (.builtin "getset_descriptor.__get__"))
  tk : PySem.W.takesIn K (.builtin "object.__class__") = some true
  mo : PySem.W.mroIn K C (.type "object") = some true
def rIsX (K : PySem.W.Frag) : List V → Hp → VK → Prop := fun xs H Q => ∃ (x c : V) (D : Addr) (cv : Value) (b : Bool), xs = [x, c] ∧ ErV H x D ∧ EkC K D ∧ ClsV c cv ∧ PySem.W.kitOne K (.ref D) cv = some b ∧ Q (.bl b) H
theorem call_isX {X : Cx} : CallR X (.builtin "isinstance") (rIsX X.K) := by
  intro pins s σ H xs us Q I r h
  obtain ⟨x, c, D, cv, b, rfl, hx, T, hc, e, q⟩ := h
  cases r with
  | cons r1 rr =>
    cases rr with
    | cons r2 rr =>
      cases rr
      have ec := hc.eq r2
      subst ec
      cases hx with
      | d h h2 =>
        cases r1
        obtain ⟨t1, g1⟩ := exo_at I.hok h
        obtain ⟨mA, ⟨od, es, ep, g2, _⟩, _⟩ := exd_at I.hok h2
        have J : PySem.W.InstAt s.heap _ _ D (some od) := ⟨g1, rfl, rfl, g2⟩
        exact PySem.W.kia_one (PySem.W.kitx_exc T.cl T.ga T.gt T.su T.ca T.sp T.tk T.mo) I.kIn J e (fun z => nomatch z) fun tk => ⟨.bl b, H, I.kept (t' := tk) fun _ _ z => z, rfl, q⟩
      | n h =>
        cases r1
        rename_i a0
        obtain ⟨⟨oe, vs, g1, hz, hd, _⟩, _, _⟩ := I.hok _ _ h
        have J : PySem.W.InstAt s.heap a0 oe D none := by
          obtain ⟨oc, od, oda, osl⟩ := oe
          obtain ⟨z1, z2⟩ := hz
          dsimp only at z1 z2 hd
          subst z1 z2 hd
          exact ⟨g1, rfl, rfl, trivial⟩
        exact PySem.W.kia_one (PySem.W.kitx_exc T.cl T.ga T.gt T.su T.ca T.sp T.tk T.mo) I.kIn J e (fun z => nomatch z) fun tk => ⟨.bl b, H, I.kept (t' := tk) fun _ _ z => z, rfl, q⟩
def rIsVe (K : PySem.W.Frag) : List V → Hp → VK → Prop := fun xs H Q => ∃ (a : Addr) (c : V) (cv : Value) (b : Bool), xs = [.ref a, c] ∧ H a = some (VeO a) ∧ ClsV c cv ∧ PySem.W.kitOne K (.type "ValueError") cv = some b ∧ Q (.bl b) H
theorem call_isVe {X : Cx} : CallR X (.builtin "isinstance") (rIsVe X.K) := by
  intro pins s σ H xs us Q I r h
  obtain ⟨a, c, cv, b, rfl, hx, hc, e, q⟩ := h
  cases r with
  | cons r1 rr =>
    cases rr with
    | cons r2 rr =>
      cases rr
      have ec := hc.eq r2
      subst ec
      cases r1
      obtain ⟨p, _, _⟩ := I.hok _ _ hx
      exact PySem.W.kia_one (PySem.W.kitx_bexc PySem.F.excAttr_ValueError PySem.F.lkClass_ValueError PySem.F.soClass_ValueError (by decide)) I.kIn p e (fun z => nomatch z) fun tk => ⟨.bl b, H, I.kept (t' := tk) fun _ _ z => z, rfl, q⟩
/-- e.f of a made error -/
structure EfC (K : PySem.W.Frag) (C : Addr) (f : Str) : Prop where
  k : EkC K C
  hd : PySem.W.hasDictIn K C = true
  no : PySem.W.findIn K (.ref C) f = some none
def tEf (K : PySem.W.Frag) (f : Str) (te : TE) : TE := fun σ H Q => te σ H fun x H1 => ∃ (a C d : Addr) (fs : List (Str × V)) (v : V), x = .ref a ∧ H1 a = some (exo a C (some d)) ∧ H1 d = some (exd d fs) ∧ EfC K C f ∧ fs.lookup f = some v ∧ Q v H1
theorem pe_ef {X : Cx} {e : Expr} {te : TE} {f : Str} {pos : Pos} (he : PE X e te) (hb : attributeBase e f X.env (eval e X.env) = eval e X.env := by rfl) : PE X (.Attribute e f pos) (tEf X.K f te) := by
  refine ⟨fun pins s σ H Q I h => attr_of hb (thn (he.run pins s σ H _ I h) fun u s1 ⟨x, H1, I1, rx, a, C, d, fs, v, ex, h1, h2, T, l, q⟩ => ?_)⟩
  subst ex
  obtain rfl : u = Value.ref a := rx
  obtain ⟨t1, g1⟩ := exo_at I1.hok h1
  obtain ⟨mA, hns, hrel⟩ := exd_at I1.hok h2
  obtain ⟨od, ho, hl⟩ := lookIn_ns hns
  obtain ⟨u, hu, ru⟩ := RelO.some_of (v := v) (o := mA f) (by rw [← l]; exact hrel f)
  have J : PySem.W.InstAt s1.heap a _ C (some od) := ⟨g1, rfl, rfl, ho⟩
  exact HandSPX.exc_get I1.kIn J T.k.ga T.k.gt T.k.su (PySem.W.findObj_own T.hd T.no rfl (by rw [hl, hu])) (handed_of ru) ⟨v, H1, I1.tok _, ru, q⟩
end Lk

namespace Lk
open PySem PySem.Spec PyProof.Rows L2
/-! ### the promises of __init__: one, two, three fields -/
def spI1 (C : Addr) (f : Str) : Sp := fun vs H Q _ => ∃ (a : Addr) (x : V), vs = [.ref a, x] ∧ H a = some (exo a C none) ∧
  ∀ (d : Addr) (H' : Hp), H d = none → d ≠ a → H' a = some (exo a C (some d)) → H' d = some (exd d [(f, x)]) → (∀ b, b ≠ a → b ≠ d → H' b = H b) → Q .non H'
def spI2 (C : Addr) (f g : Str) : Sp := fun vs H Q _ => ∃ (a : Addr) (x y : V), vs = [.ref a, x, y] ∧ H a = some (exo a C none) ∧
  ∀ (d : Addr) (H' : Hp), H d = none → d ≠ a → H' a = some (exo a C (some d)) → H' d = some (exd d [(g, y), (f, x)]) → (∀ b, b ≠ a → b ≠ d → H' b = H b) → Q .non H'
def spI3 (C : Addr) (f g h : Str) : Sp := fun vs H Q _ => ∃ (a : Addr) (x y z : V), vs = [.ref a, x, y, z] ∧ H a = some (exo a C none) ∧
  ∀ (d : Addr) (H' : Hp), H d = none → d ≠ a → H' a = some (exo a C (some d)) → H' d = some (exd d [(h, z), (g, y), (f, x)]) → (∀ b, b ≠ a → b ≠ d → H' b = H b) → Q .non H'
/-- the reading of the first store, of a later one -/
theorem st0 {K : PySem.W.Frag} {C a : Addr} {f : Str} {i j : Nat} {x : V} {D : Ends} {σ : L2.St} {H : Hp} (T : OexC K C) (n : PySem.W.findIn K (.ref C) f = some none) (hi : σ[i]? = some (some (.ref a))) (hj : σ[j]? = some (some x)) (ha : H a = some (exo a C none))
    (q : ∀ d, H d = none → d ≠ a → D.nx σ (upd (upd H d (exd d [(f, x)])) a (exo a C (some d)))) : tOst K f (tVar i) (tVar j) D σ H :=
  ⟨x, hj, .ref a, hi, a, C, rfl, T, n, .inl ⟨ha, q⟩⟩
theorem st1 {K : PySem.W.Frag} {C a d : Addr} {f : Str} {i j : Nat} {x : V} {fs : List (Str × V)} {D : Ends} {σ : L2.St} {H : Hp} (T : OexC K C) (n : PySem.W.findIn K (.ref C) f = some none) (hi : σ[i]? = some (some (.ref a))) (hj : σ[j]? = some (some x)) (ha : H a = some (exo a C (some d)))
    (hd : H d = some (exd d fs)) (hl : fs.length ≤ 900) (q : D.nx σ (upd H d (exd d ((f, x) :: fs)))) : tOst K f (tVar i) (tVar j) D σ H :=
  ⟨x, hj, .ref a, hi, a, C, rfl, T, n, .inr ⟨d, fs, ha, hd, hl, q⟩⟩
section
variable {K : PySem.W.Frag} {C a : Addr} {f g h : Str} {i1 i2 i3 : Nat} {x y z : V} {D : Ends} {σ : L2.St} {H : Hp}
theorem rd1 (T : OexC K C) (n : PySem.W.findIn K (.ref C) f = some none) (h0 : σ[0]? = some (some (.ref a))) (h1 : σ[1]? = some (some x)) (ha : H a = some (exo a C none))
    (k : ∀ (d : Addr) (H' : Hp), H d = none → d ≠ a → H' a = some (exo a C (some d)) → H' d = some (exd d [(f, x)]) → (∀ b, b ≠ a → b ≠ d → H' b = H b) → D.nx σ H') : tOst K f (tVar 0) (tVar 1) D σ H := by
  refine st0 T n h0 h1 ha fun d hd hne => k d _ hd hne upd_same (by rw [upd_ne hne, upd_same]) fun b n1 n2 => by rw [upd_ne n1, upd_ne n2]
theorem rd2 (T : OexC K C) (n : PySem.W.findIn K (.ref C) f = some none) (m : PySem.W.findIn K (.ref C) g = some none) (h0 : σ[0]? = some (some (.ref a))) (h1 : σ[1]? = some (some x)) (h2 : σ[2]? = some (some y)) (ha : H a = some (exo a C none))
    (k : ∀ (d : Addr) (H' : Hp), H d = none → d ≠ a → H' a = some (exo a C (some d)) → H' d = some (exd d [(g, y), (f, x)]) → (∀ b, b ≠ a → b ≠ d → H' b = H b) → D.nx σ H') :
    tSeq (tOst K f (tVar 0) (tVar 1)) (tOst K g (tVar 0) (tVar 2)) D σ H := by
  refine rd1 T n h0 h1 ha fun d H' hd hne e1 e2 e3 => ?_
  refine st1 T m h0 h2 e1 e2 (by show 1 ≤ 900; decide) (k d _ hd hne (by rw [upd_ne (Ne.symm hne)]; exact e1) upd_same fun b n1 n2 => by rw [upd_ne n2]; exact e3 b n1 n2)
theorem rd3 (T : OexC K C) (n : PySem.W.findIn K (.ref C) f = some none) (m : PySem.W.findIn K (.ref C) g = some none) (o : PySem.W.findIn K (.ref C) h = some none) (h0 : σ[0]? = some (some (.ref a))) (h1 : σ[1]? = some (some x)) (h2 : σ[2]? = some (some y)) (h3 : σ[3]? = some (some z)) (ha : H a = some (exo a C none))
    (k : ∀ (d : Addr) (H' : Hp), H d = none → d ≠ a → H' a = some (exo a C (some d)) → H' d = some (exd d [(h, z), (g, y), (f, x)]) → (∀ b, b ≠ a → b ≠ d → H' b = H b) → D.nx σ H') :
    tSeq (tOst K f (tVar 0) (tVar 1)) (tSeq (tOst K g (tVar 0) (tVar 2)) (tOst K h (tVar 0) (tVar 3))) D σ H := by
  refine rd2 T n m h0 h1 h2 ha fun d H' hd hne e1 e2 e3 => ?_
  refine st1 T o h0 h3 e1 e2 (by show 2 ≤ 900; decide) (k d _ hd hne (by rw [upd_ne (Ne.symm hne)]; exact e1) upd_same fun b n1 n2 => by rw [upd_ne n2]; exact e3 b n1 n2)
end
/-! ### keywords handed in the other way round -/
theorem vals_rev : ∀ {vs : List V} {us : List Value}, Vals vs us → Vals vs.reverse us.reverse
  | _, _, .nil => .nil
  | _, _, .cons r t => by
    rw [List.reverse_cons, List.reverse_cons]
    exact (vals_rev t).append (.cons r .nil)
theorem kb_rev {K : PySem.W.Frag} {fd : FuncData} {ps ks : List Str} (h : ∀ us ws : List Value, us.length = 1 → ws.length = ks.length → bindArgs fd ⟨us, ks.zip ws⟩ = pure (ps.zip (us ++ ws.reverse))) :
    KBn K fd ps 1 ks (fun us ws => us ++ ws.reverse) (fun us ws => us ++ ws.reverse) :=
  ⟨fun s us ws _ h1 h2 => .of_eq (h us ws h1 h2), fun r1 r2 => r1.append (vals_rev r2)⟩
/-! ### an error class as the top has left it -/
structure ErK (K : PySem.W.Frag) (mg : Str → Option Value) (x : Str) (C B : Addr) : Prop where
  g : mg x = some (.ref C)
  ob : ∃ nm q N bs sn sub ab col dd k0 k1 k2 k3 k5, K.lookup C = some (excClassObj nm q C N bs [.ref B, .type "ValueError", .type "Exception", .type "BaseException", .type "object"] true sn sub ab col dd k0 k1 k2 k3 k5 "ValueError.__new__")
  sa : PySem.W.findIn K (.ref C) "__setattr__" = some (some (.builtin "object.__setattr__"))
  ty : PySem.W.typeIn K (.ref C) = some (.type "type")
  kp : PySem.W.keepIn K (.ref C) = true
  ek : EkC K C
theorem ErK.ox {K : PySem.W.Frag} {mg : Str → Option Value} {x : Str} {C B : Addr} (E : ErK K mg x C B) : OexC K C := by
  obtain ⟨nm, q, N, bs, sn, sub, ab, col, dd, k0, k1, k2, k3, k5, h⟩ := E.ob
  exact ⟨⟨nm, q, N, bs, _, sn, sub, ab, col, dd, k0, k1, k2, k3, k5, h, rfl⟩, E.sa, E.ek.su, E.ty, E.kp⟩
theorem erk_cls {K : PySem.W.Frag} {mg : Str → Option Value} {x : Str} {C B : Addr} (E : ErK K mg x C B) : ∃ cd, PySem.W.clsIn K C = some cd ∧ cd.mro = [.ref C, .ref B, .type "ValueError", .type "Exception", .type "BaseException", .type "object"] := by
  obtain ⟨nm, q, N, bs, sn, sub, ab, col, dd, k0, k1, k2, k3, k5, h⟩ := E.ob
  refine ⟨_, by unfold PySem.W.clsIn; rw [h], rfl⟩
theorem rne {a b : Addr} (h : a ≠ b) : (Value.ref a == Value.ref b) = false := beq_eq_false_iff_ne.mpr fun z => h (Value.ref.inj z)
theorem rty {a : Addr} {n : String} : (Value.ref a == Value.type n) = false := beq_eq_false_iff_ne.mpr fun z => by cases z
/-- isinstance of an error of the class D, asked of another of these classes -/
theorem kit_er {K : PySem.W.Frag} {mg : Str → Option Value} {x y : Str} {C D B : Addr} (E : ErK K mg x D B) (F : ErK K mg y C B) (hn : C ≠ B) : PySem.W.kitOne K (.ref D) (.ref C) = some (decide (D = C)) := by
  obtain ⟨cd, e1, e2⟩ := erk_cls E
  obtain ⟨cd', e3, _⟩ := erk_cls F
  unfold PySem.W.kitOne
  by_cases h : D = C
  · subst h
    rw [if_pos (by simp), decide_eq_true rfl]
  · have h1 : ¬ ((Value.ref D == Value.ref C) = true) := fun z => h (Value.ref.inj (beq_iff_eq.mp z))
    rw [if_neg h1, decide_eq_false h]
    unfold PySem.W.kitCls
    have h2 : ((PySem.W.clsIn K C).isSome && PySem.W.typeIn K (.ref C) == some (.type "type")) = true := by rw [e3, F.ty]; rfl
    simp only []
    rw [if_pos h2]
    show PySem.W.mroIn K D (.ref C) = some false
    unfold PySem.W.mroIn
    rw [e1, Option.bind_some, e2]
    have h3 : ¬ C = D := fun z => h z.symm
    simp [List.contains, List.elem, rne h3, rne hn, rty]
theorem kit_ve {K : PySem.W.Frag} {mg : Str → Option Value} {x : Str} {D B : Addr} (E : ErK K mg x D B) : PySem.W.kitOne K (.ref D) (.type "ValueError") = some true := by
  obtain ⟨cd, e1, e2⟩ := erk_cls E
  unfold PySem.W.kitOne
  rw [if_neg (by intro z; cases beq_iff_eq.mp z)]
  unfold PySem.W.kitCls
  simp only []
  rw [if_pos (by decide +kernel)]
  show PySem.W.mroIn K D _ = some true
  unfold PySem.W.mroIn
  rw [e1, Option.bind_some, e2]
  rfl
/-- asked of their base -/
theorem kit_base {K : PySem.W.Frag} {mg : Str → Option Value} {x : Str} {D B : Addr} (E : ErK K mg x D B) (h1 : (PySem.W.clsIn K B).isSome = true) (h2 : PySem.W.typeIn K (.ref B) = some (.type "type")) (hn : D ≠ B) : PySem.W.kitOne K (.ref D) (.ref B) = some true := by
  obtain ⟨cd, e1, e2⟩ := erk_cls E
  unfold PySem.W.kitOne
  rw [if_neg (fun z => hn (Value.ref.inj (beq_iff_eq.mp z)))]
  unfold PySem.W.kitCls
  simp only []
  rw [if_pos (by rw [h1, h2]; rfl)]
  show PySem.W.mroIn K D _ = some true
  unfold PySem.W.mroIn
  rw [e1, Option.bind_some, e2]
  simp [List.contains, List.elem]
  cases Value.ref B == Value.ref D <;> rfl
theorem kit_veB {K : PySem.W.Frag} {B : Addr} (h1 : (PySem.W.clsIn K B).isSome = true) (h2 : PySem.W.typeIn K (.ref B) = some (.type "type")) : PySem.W.kitOne K (.type "ValueError") (.ref B) = some false := by
  unfold PySem.W.kitOne
  rw [if_neg (by intro z; cases beq_iff_eq.mp z)]
  unfold PySem.W.kitCls
  simp only []
  rw [if_pos (by rw [h1, h2]; rfl)]
  show (PySem.fastBuiltinMro "ValueError").map _ = some false
  have e : ∃ l, PySem.fastBuiltinMro "ValueError" = some l ∧ l = [.type "ValueError", .type "Exception", .type "BaseException", .type "object"] := ⟨_, by decide +kernel, rfl⟩
  obtain ⟨l, e, rfl⟩ := e
  rw [e]
  simp [List.contains, List.elem, rty]
end Lk

namespace Lk
open PySem PySem.Spec PyProof.Rows L2
theorem lkA {f : Str} {v : V} {r : List (Str × V)} : List.lookup f ((f, v) :: r) = some v := by simp [List.lookup]
theorem lkB {f g : Str} {v w : V} {r : List (Str × V)} (h : ¬ f = g) (t : List.lookup f r = some v) : List.lookup f ((g, w) :: r) = some v := by
  have e : (f == g) = false := by simpa using h
  simp [List.lookup, e, t]
theorem same_new {H : Hp} {p : Addr} {o : HO} (h : H p = none) : Same H (upd H p o) := fun b u e => by
  rw [upd_ne (ne_of_none e h)]
  exact e
theorem erv_same {H H' : Hp} {x : V} {C : Addr} (s : Same H H') (h : ErV H x C) : ErV H' x C := by
  cases h with
  | d h h2 => exact .d (s _ _ h) (s _ _ h2)
  | n h => exact .n (s _ _ h)
theorem erat_same {H H' : Hp} {a C : Addr} {fs : List (Str × V)} (s : Same H H') (h : erAt H a C fs) : erAt H' a C fs := by
  obtain ⟨d, h1, h2⟩ := h
  exact ⟨d, s _ _ h1, s _ _ h2⟩
/-! ### a value, a list of values, that leaves the heap as it is -/
def Pv (te : TE) (σ : L2.St) (H : Hp) (v : V) : Prop := ∀ H', Same H H' → ∀ Q : VK, Q v H' → te σ H' Q
def Pl (ta : TA) (σ : L2.St) (H : Hp) (vs : List V) : Prop := ∀ H', Same H H' → ∀ Q : List V → Hp → Prop, Q vs H' → ta σ H' Q
section
variable {σ : L2.St} {H : Hp} {te ta tb : TE} {tl : TA} {v : V} {vs us : List V} {i : Nat} {D : Ends} {p : Addr}
theorem pv_var (h : σ[i]? = some (some v)) : Pv (tVar i) σ H v := fun _ _ _ q => ⟨v, h, q⟩
theorem pv_c : Pv (tC v) σ H v := fun _ _ _ q => q
theorem pv_neg {n : Int} (h : Pv te σ H (.int n)) : Pv (tUn (rU fun i => .int (-i)) te) σ H (.int (-n)) := fun H' s Q q => h H' s _ ⟨n, rfl, q⟩
theorem pl_nil : Pl tNil σ H [] := fun _ _ _ q => q
theorem pl_cons (h : Pv te σ H v) (t : Pl tl σ H vs) : Pl (tCons te tl) σ H (v :: vs) := fun H' s Q q => h H' s _ (t H' s _ q)
theorem pv_isx {K : PySem.W.Frag} {x c : V} {D : Addr} {cv : Value} {b : Bool} (ha : Pv ta σ H x) (hb : Pv tb σ H c) (hx : ErV H x D) (hk : EkC K D) (hc : ClsV c cv) (e : PySem.W.kitOne K (.ref D) cv = some b) : Pv (tCB (rIsX K) (tCons ta (tCons tb tNil))) σ H (.bl b) := fun H' s Q q =>
  ha H' s _ (hb H' s _ ⟨x, c, D, cv, b, rfl, erv_same s hx, hk, hc, e, q⟩)
/-- x = [..]; x = x + [..] -/
theorem as_new (h : Pl tl σ H vs) (hl : vs.length ≤ 1000) (q : ∀ p H', Same H H' → H p = none → H' p = some (.lst vs) → D.nx (σ.set i (some (.ref p))) H') : tAsg (tLst tl) (gName i) D σ H :=
  h H (Same.refl H) _ ⟨Nat.le_of_lt (small1000 hl), fun p hp => q p _ (same_new hp) hp upd_same⟩
theorem as_cat (hi : σ[i]? = some (some (.ref p))) (hp : H p = some (.lst us)) (h : Pl tl σ H vs) (hl : us.length + vs.length ≤ 1000)
    (q : ∀ r H', Same H H' → H r = none → H' r = some (.lst (us ++ vs)) → D.nx (σ.set i (some (.ref r))) H') : tAsg (tOp rCat (tVar i) (tLst tl)) (gName i) D σ H := by
  refine ⟨_, hi, h H (Same.refl H) _ ⟨Nat.le_of_lt (small1000 (by omega)), fun b hb => ?_⟩⟩
  have s1 : Same H (upd H b (.lst vs)) := same_new hb
  refine ⟨p, b, us, vs, rfl, rfl, s1 _ _ hp, upd_same, Nat.le_of_lt (small1000 hl), fun r hr => q r _ (s1.trans (same_new hr)) (s1.free hr) upd_same⟩
end
section
variable {σ : L2.St} {H : Hp} {tl : TA} {vs us : List V} {i : Nat} {D : Ends} {p : Addr} {u : TS}
theorem ss_new (h : Pl tl σ H vs) (hl : vs.length ≤ 1000) (q : ∀ p H', Same H H' → H p = none → H' p = some (.lst vs) → u D (σ.set i (some (.ref p))) H') : tSeq (tAsg (tLst tl) (gName i)) u D σ H := as_new h hl q
theorem ss_cat (hi : σ[i]? = some (some (.ref p))) (hp : H p = some (.lst us)) (h : Pl tl σ H vs) (hl : us.length + vs.length ≤ 1000)
    (q : ∀ r H', Same H H' → H r = none → H' r = some (.lst (us ++ vs)) → u D (σ.set i (some (.ref r))) H') : tSeq (tAsg (tOp rCat (tVar i) (tLst tl)) (gName i)) u D σ H := as_cat hi hp h hl q
end
/-! ### errors that are made -/
def Mds (H : Hp) : List Addr → List (Addr × List (Str × V)) → Prop
  | [], [] => True
  | a :: as, r :: rs => erAt H a r.1 r.2 ∧ Mds H as rs
  | _, _ => False
theorem Mds.same {H H' : Hp} (s : Same H H') : ∀ {as : List Addr} {rs : List (Addr × List (Str × V))}, Mds H as rs → Mds H' as rs
  | [], [], _ => trivial
  | _ :: _, _ :: _, h => ⟨erat_same s h.1, Mds.same s h.2⟩
  | [], _ :: _, h => h.elim
  | _ :: _, [], h => h.elim
theorem Mds.append {H : Hp} : ∀ {as bs : List Addr} {rs qs : List (Addr × List (Str × V))}, Mds H as rs → Mds H bs qs → Mds H (as ++ bs) (rs ++ qs)
  | [], _, [], _, _, k => k
  | _ :: _, _, _ :: _, _, h, k => ⟨h.1, Mds.append h.2 k⟩
  | [], _, _ :: _, _, h, _ => h.elim
  | _ :: _, _, [], _, h, _ => h.elim
theorem Mds.len {H : Hp} : ∀ {as : List Addr} {rs : List (Addr × List (Str × V))}, Mds H as rs → as.length = rs.length
  | [], [], _ => rfl
  | _ :: _, _ :: _, h => congrArg Nat.succ (Mds.len h.2)
  | [], _ :: _, h => h.elim
  | _ :: _, [], h => h.elim
theorem Mds.at {H : Hp} : ∀ {as : List Addr} {rs : List (Addr × List (Str × V))} {i : Nat} {r : Addr × List (Str × V)}, Mds H as rs → rs[i]? = some r → ∃ a, as[i]? = some a ∧ erAt H a r.1 r.2
  | [], [], _, _, _, e => by simp at e
  | a :: _, _ :: _, 0, _, h, e => by
    simp at e
    subst e
    exact ⟨a, rfl, h.1⟩
  | _ :: as, _ :: rs, i + 1, _, h, e => by
    obtain ⟨a, e1, e2⟩ := Mds.at (as := as) (rs := rs) (i := i) h.2 (by simpa using e)
    exact ⟨a, by simpa using e1, e2⟩
  | [], _ :: _, _, _, h, _ => h.elim
  | _ :: _, [], _, _, h, _ => h.elim
def Mk1 (te : TE) (σ : L2.St) (C : Addr) (fs : List (Str × V)) : Prop := ∀ (H : Hp) (Q : VK), (∀ a H', Same H H' → erAt H' a C fs → Q (.ref a) H') → te σ H Q
def MkL (ta : TA) (σ : L2.St) (rs : List (Addr × List (Str × V))) : Prop := ∀ (H : Hp) (Q : List V → Hp → Prop), (∀ as H', Same H H' → Mds H' as rs → Q (as.map V.ref) H') → ta σ H Q
section
variable {σ : L2.St} {H : Hp} {te : TE} {tl : TA} {C : Addr} {fs : List (Str × V)} {rs qs : List (Addr × List (Str × V))} {i : Nat} {D : Ends} {p : Addr} {as : List Addr}
theorem mkl_nil : MkL tNil σ [] := fun H Q q => q [] H (Same.refl H) trivial
theorem mkl_cons (h : Mk1 te σ C fs) (t : MkL tl σ rs) : MkL (tCons te tl) σ ((C, fs) :: rs) := fun H Q q =>
  h H _ fun a H1 s1 e1 => t H1 _ fun as H2 s2 e2 => q (a :: as) H2 (s1.trans s2) ⟨erat_same s2 e1, e2⟩
theorem er_made {H H' : Hp} {a d : Addr} (ha : H a = none) (hd : upd H a (exo a C none) d = none) (hne : d ≠ a) (e3 : ∀ b, b ≠ a → b ≠ d → H' b = upd H a (exo a C none) b) : Same H H' := fun b o e => by
  have n1 : b ≠ a := ne_of_none e ha
  have n2 : b ≠ d := fun z => by
    rw [z] at e
    rw [upd_ne hne, e] at hd
    cases hd
  rw [e3 b n1 n2, upd_ne n1]
  exact e
theorem mk1 {f : Str} {x : V} {t : TA} (h : ∀ H, Pl t σ H [x]) : Mk1 (tXm C (spI1 C f) t) σ C [(f, x)] := fun H Q q => h H H (Same.refl H) _ ⟨by simp, fun a ha =>
  ⟨a, x, rfl, upd_same, fun d H' hd hne e1 e2 e3 => ⟨rfl, q a H' (er_made ha hd hne e3) ⟨d, e1, e2⟩⟩⟩⟩
theorem mk2 {f g : Str} {x y : V} {t : TA} (h : ∀ H, Pl t σ H [x, y]) : Mk1 (tXm C (spI2 C f g) t) σ C [(g, y), (f, x)] := fun H Q q => h H H (Same.refl H) _ ⟨by simp, fun a ha =>
  ⟨a, x, y, rfl, upd_same, fun d H' hd hne e1 e2 e3 => ⟨rfl, q a H' (er_made ha hd hne e3) ⟨d, e1, e2⟩⟩⟩⟩
theorem mk3 {f g l : Str} {x y z : V} {t : TA} (h : ∀ H, Pl t σ H [x, y, z]) : Mk1 (tXm C (spI3 C f g l) t) σ C [(l, z), (g, y), (f, x)] := fun H Q q => h H H (Same.refl H) _ ⟨by simp, fun a ha =>
  ⟨a, x, y, z, rfl, upd_same, fun d H' hd hne e1 e2 e3 => ⟨rfl, q a H' (er_made ha hd hne e3) ⟨d, e1, e2⟩⟩⟩⟩
theorem mk1k {f : Str} {x : V} {t : TA} (h : ∀ H, Pl t σ H [x]) : Mk1 (tXk C 1 (spI1 C f) (fun us ws => us ++ ws.reverse) t) σ C [(f, x)] := fun H Q q => h H H (Same.refl H) _ ⟨rfl, fun a ha =>
  ⟨a, x, rfl, upd_same, fun d H' hd hne e1 e2 e3 => ⟨rfl, q a H' (er_made ha hd hne e3) ⟨d, e1, e2⟩⟩⟩⟩
theorem mk2k {f g : Str} {x y : V} {t : TA} (h : ∀ H, Pl t σ H [y, x]) : Mk1 (tXk C 2 (spI2 C f g) (fun us ws => us ++ ws.reverse) t) σ C [(g, y), (f, x)] := fun H Q q => h H H (Same.refl H) _ ⟨rfl, fun a ha =>
  ⟨a, x, y, rfl, upd_same, fun d H' hd hne e1 e2 e3 => ⟨rfl, q a H' (er_made ha hd hne e3) ⟨d, e1, e2⟩⟩⟩⟩
theorem mk3k {f g l : Str} {x y z : V} {t : TA} (h : ∀ H, Pl t σ H [z, y, x]) : Mk1 (tXk C 3 (spI3 C f g l) (fun us ws => us ++ ws.reverse) t) σ C [(l, z), (g, y), (f, x)] := fun H Q q => h H H (Same.refl H) _ ⟨rfl, fun a ha =>
  ⟨a, x, y, z, rfl, upd_same, fun d H' hd hne e1 e2 e3 => ⟨rfl, q a H' (er_made ha hd hne e3) ⟨d, e1, e2⟩⟩⟩⟩
theorem as_mk (h : MkL tl σ rs) (hl : rs.length ≤ 1000) (q : ∀ p as H', Same H H' → H' p = some (.lst (as.map V.ref)) → Mds H' as rs → D.nx (σ.set i (some (.ref p))) H') : tAsg (tLst tl) (gName i) D σ H := by
  refine h H _ fun as H1 s1 e1 => ⟨Nat.le_of_lt (small1000 (by rw [List.length_map, e1.len]; exact hl)), fun p hp => ?_⟩
  exact q p as _ (s1.trans (same_new hp)) upd_same (e1.same (same_new hp))
theorem as_mkcat (hi : σ[i]? = some (some (.ref p))) (hp : H p = some (.lst (as.map V.ref))) (hm : Mds H as rs) (h : MkL tl σ qs) (hl : rs.length + qs.length ≤ 1000)
    (q : ∀ r bs H', Same H H' → H' r = some (.lst (bs.map V.ref)) → Mds H' bs (rs ++ qs) → D.nx (σ.set i (some (.ref r))) H') : tAsg (tOp rCat (tVar i) (tLst tl)) (gName i) D σ H := by
  refine ⟨_, hi, h H _ fun bs H1 s1 e1 => ⟨Nat.le_of_lt (small1000 (by rw [List.length_map, e1.len]; omega)), fun b hb => ?_⟩⟩
  have s2 : Same H1 (upd H1 b (.lst (bs.map V.ref))) := same_new hb
  refine ⟨p, b, as.map V.ref, bs.map V.ref, rfl, rfl, s2 _ _ (s1 _ _ hp), upd_same, Nat.le_of_lt (small1000 (by rw [List.length_map, List.length_map, hm.len, e1.len]; exact hl)), fun r hr => ?_⟩
  have s3 := (s1.trans s2).trans (same_new (o := .lst (as.map V.ref ++ bs.map V.ref)) hr)
  refine q r (as ++ bs) _ s3 (by rw [upd_same, List.map_append]) ((hm.same s3).append (e1.same (s2.trans (same_new hr))))
theorem ss_mk {u : TS} (h : MkL tl σ rs) (hl : rs.length ≤ 1000) (q : ∀ p as H', Same H H' → H' p = some (.lst (as.map V.ref)) → Mds H' as rs → u D (σ.set i (some (.ref p))) H') : tSeq (tAsg (tLst tl) (gName i)) u D σ H := as_mk h hl q
theorem ss_mkcat {u : TS} (hi : σ[i]? = some (some (.ref p))) (hp : H p = some (.lst (as.map V.ref))) (hm : Mds H as rs) (h : MkL tl σ qs) (hl : rs.length + qs.length ≤ 1000)
    (q : ∀ r bs H', Same H H' → H' r = some (.lst (bs.map V.ref)) → Mds H' bs (rs ++ qs) → u D (σ.set i (some (.ref r))) H') : tSeq (tAsg (tOp rCat (tVar i) (tLst tl)) (gName i)) u D σ H := as_mkcat hi hp hm h hl q
/-- e.f of the i-th -/
theorem pv_ef {K : PySem.W.Frag} {f : Str} {l : Addr} {j n : Nat} {v : V} (hi : σ[j]? = some (some (.ref l))) (hl : SqL K H l (as.map V.ref)) (hm : Mds H as rs) (hr : rs[n]? = some (C, fs)) (T : EfC K C f) (hf : fs.lookup f = some v) : Pv (tEf K f (tOp (rIxL K) (tVar j) (tC (.int (n : Nat))))) σ H v := fun H' s Q q => by
  obtain ⟨a, e1, d, h1, h2⟩ := hm.at hr
  refine ⟨_, hi, l, as.map V.ref, _, .ref a, rfl, rfl, s.seq hl, atI_nat (by rw [List.getElem?_map, e1]; rfl), a, C, d, fs, v, rfl, s _ _ h1, s _ _ h2, T, hf, q⟩
end
end Lk

namespace Lk
open PySem PySem.Spec PyProof.Rows L2
section
variable {K : PySem.W.Frag} {tl : TE} {ta : TA} {g : TG} {tb : TS} {D : Ends} {σ : L2.St} {H : Hp}
theorem sfor {wi : TI} (q : wi σ H fun J H1 => ∃ W : Nat → Nat → L2.St → Hp → Prop, (∃ m, W 0 m σ H1) ∧ ∀ i m σ H, W i m σ H →
    (J.stop i H ∧ D.nx σ H) ∨ (J.go i H ∧ ∃ N : L2.St → Hp → Prop, (∀ σ' H', N σ' H' → ∃ m', m' < m ∧ W (i + 1) m' σ' H') ∧ ∀ x H', J.yld i H x H' → g x σ H' fun σ2 H2 => tb { D with nx := N, ct := N, bk := D.nx } σ2 H2)) : tFor wi g tb D σ H := q
theorem sils {R : It → Hp → Prop} (q : tl σ H fun x H1 => ∃ a, x = .ref a ∧ (∃ xs, SqL K H1 a xs) ∧ R (Itl K a) H1) : iList K tl σ H R := q
theorem sien {R : It → Hp → Prop} (q : ta σ H fun vs H1 => ∃ a xs, vs = [.ref a] ∧ SqL K H1 a xs ∧ R (Ite K a) H1) : iEnum K ta σ H R := q
theorem en_by {a : Addr} {xs : List V} (I : Nat → L2.St → Hp → Prop) (h0 : I 0 σ H) (hl : ∀ i σ H, i ≤ xs.length → I i σ H → SqL K H a xs)
    (ht : ∀ i x p σ H, xs[i]? = some x → I i σ H → H p = none → g (.ref p) σ (upd H p (.tup [.int (i : Nat), x])) fun σ2 H2 => tb { D with nx := I (i + 1), ct := I (i + 1), bk := D.nx } σ2 H2) (hd : ∀ σ H, I xs.length σ H → D.nx σ H) :
    ∃ W : Nat → Nat → L2.St → Hp → Prop, (∃ m, W 0 m σ H) ∧ ∀ i m σ H, W i m σ H →
      ((Ite K a).stop i H ∧ D.nx σ H) ∨ ((Ite K a).go i H ∧ ∃ N : L2.St → Hp → Prop, (∀ σ' H', N σ' H' → ∃ m', m' < m ∧ W (i + 1) m' σ' H') ∧ ∀ x H', (Ite K a).yld i H x H' → g x σ H' fun σ2 H2 => tb { D with nx := N, ct := N, bk := D.nx } σ2 H2) := by
  refine for_it walk_enum I h0 hl (fun i v σ H H' hi hI hy => ?_) hd
  obtain ⟨T, x, y, rfl, hT, rfl, e1, e2⟩ := hy
  cases Option.some.inj e1
  exact ht i y T σ H e2 hI hT
/-- i, x = (i, x) -/
theorem g_pair {i j : Nat} {x y : V} {p : Addr} {R : L2.St → Hp → Prop} (h : SqT K H p [x, y]) (q : R ((σ.set i (some x)).set j (some y)) H) : gTup K 2 (gCons (gName i) (gCons (gName j) gNil)) (.ref p) σ H R :=
  ⟨p, [x, y], rfl, h, rfl, x, [y], rfl, y, [], rfl, rfl, q⟩
/-! ### data -/
theorem dp_same {H' : Hp} (s : Same H H') : ∀ {d : PyData} {v : V}, Dp K H v d → Dp K H' v d := fun {d v} h => by
  refine Dp.rec (motive_1 := fun v d _ => Dp K H' v d) (motive_2 := fun vs ds _ => DpAll K H' vs ds) .non .bl .int .str (fun hl _ ih => .lst (s.seq hl) ih) (fun ht _ ih => .tup ?_ ih) .nil (fun _ _ a b => .cons a b) h
  rcases ht with (e | ⟨o, e⟩) | e
  · exact .inl (.inl (s _ _ e))
  · exact .inl (.inr ⟨o, s _ _ e⟩)
  · exact .inr e
theorem dp_bools : ∀ bs : List Bool, DpAll K H (bs.map V.bl) (bs.map PyData.bool)
  | [] => .nil
  | b :: bs => .cons (.bl b) (dp_bools bs)
end
section
variable {tc tu : TT} {t u : TS} {D : Ends} {σ : L2.St} {H : Hp} {Q : Bool → Hp → Prop}
theorem sor (q : tc σ H fun c H1 => if c = true then Q true H1 else tu σ H1 Q) : tOr tc tu σ H Q := q
theorem san (q : tc σ H fun c H1 => if c = true then tu σ H1 Q else Q false H1) : tAnd tc tu σ H Q := q
end
end Lk

namespace Lk
open PySem PySem.Spec PyProof.Rows L2
/-- xs + ys, xs any list that may be read -/
def rCatL (K : PySem.W.Frag) : R2 := fun x y H Q => ∃ (l b : Addr) (xs zs : List V), x = .ref l ∧ y = .ref b ∧ SqL K H l xs ∧ H b = some (.lst zs) ∧ xs.length + zs.length ≤ sizeLine ∧ ∀ r, H r = none → Q (.ref r) (upd H r (.lst (xs ++ zs)))
theorem op_catL {X : Cx} : OpR X (binaryOp .Add) (rCatL X.K) := by
  intro pins s σ H x y v u Q I rx ry ⟨l, b, xs, zs, ex, ey, hS, hB, hz, q⟩
  subst ex ey
  cases rx
  cases ry
  obtain ⟨us, r1, ⟨⟨c1, d1, e1, f1⟩, n1, g1, h1, i1, j1⟩, _⟩ := I.list hS
  obtain ⟨_, ws, n2, r2, l2, g2⟩ := I.lstM hB
  dsimp only at h1 i1 j1
  subst h1 i1 j1
  have hl : us.toArray.size + ws.toArray.size ≤ sizeLine := by
    rw [List.size_toArray, List.size_toArray, ← r1.length, ← l2]
    exact hz
  refine concat_meets ⟨_, g1, rfl⟩ ⟨_, g2, rfl⟩ noFill_list_add seq_list_add
    PySem.F.slot_list_add PySem.F.entry_list_add (PySem.F.args_list_add_2 _ _)
    (list_addW l b us.toArray ws.toArray n1 n2 none none f1 #[] hl) ⟨g1, g2, ?_⟩
  rw [show us.toArray ++ ws.toArray = (us ++ ws).toArray by simp]
  exact ⟨.ref _, _, I.lnew (t' := s.toks) (r1.append r2) (by rw [List.length_append]; exact hz), rfl, q _ I.fresh⟩
end Lk

/-! ### enumerate(tuple) -/
namespace Lk
open PySem PySem.Spec PyProof.Rows L2
open AutoSeq1 (wpAny_loadPart')
theorem enum_newT (t : Addr) (its : Array Value) (o : Obj) (hc : o.cls = .type "tuple") (hd : ∃ n, o.data = .seq its n) :
    Meets (Builtin.«enumerate.__new__» ⟨[.type "enumerate", .ref t], []⟩) (fun _ R s => s.heap.get? t = some o ∧
      R (.ok (.ret (.ref (s.heap.push { cls := .type "tuple_iterator", data := .fields #[.ref t, .int 0 0] }).objs.size)))
        { s with heap := (s.heap.push { cls := .type "tuple_iterator", data := .fields #[.ref t, .int 0 0] }).push { cls := .type "enumerate", data := .fields #[.none, .bool false, .ref s.heap.objs.size, rawInt 0, .none, .none] } }) :=
  .of_wp fun prog w A R s ⟨hl, h⟩ => by
    obtain ⟨n, hd⟩ := hd
    have hsub := sub_enumerate
    have hT : s.heap.IsTuple t its := ⟨o, hl, hc, n, hd⟩
    obtain ⟨hp, g, d, tk, os⟩ := s
    wp_walk using wpAny_loadPart' hl
    refine wpAny_stack_any fun st => wpAny_pure ?_
    split
    · rename_i c _ _ _ _ _
      cases (c == Value.type "enumerate") <;>
        (wp_walk using wpAny_loadPart' hl, wpAny_pyIter_tuple hT
         exact ⟨_, rfl, h⟩)
    · wp_walk using wpAny_loadPart' hl, wpAny_pyIter_tuple hT
      exact ⟨_, rfl, h⟩
section
variable {prog : Program} {w : World} {A : Around} {E : Value → Shared → Prop} {s : Shared}
theorem call_enumT {t : Addr} {its : Array Value} {Q : Value → Shared → Prop} (hT : s.heap.IsTuple t its)
    (h : ∀ h', IsEnum h' (s.heap.objs.size + 1) s.heap.objs.size 0 .none → h'.IsTupleIter s.heap.objs.size t 0 → (∀ b o, s.heap.get? b = some o → h'.get? b = some o) → Q (.ref (s.heap.objs.size + 1)) { s with heap := h' }) :
    wpAny (model prog w) A (call (.type "enumerate") [.ref t]) Q E s := by
  obtain ⟨o, ho, hc, hd⟩ := hT
  refine callType_new F.called_enumerate (by decide) (F.typeCall_enumerate_1 _) (F.newCall_enumerate_1 _) (fun obj => F.args_object_init_2 obj _) F.entry_enumerate_new (enum_newT t its o hc hd) ⟨ho, ?_⟩
  have z : (s.heap.push { cls := .type "tuple_iterator", data := .fields #[.ref t, .int 0 0] }).objs.size = s.heap.objs.size + 1 := Heap.size_push ..
  show _ ∧ _
  rw [z]
  have e : IsEnum ((s.heap.push { cls := .type "tuple_iterator", data := .fields #[.ref t, .int 0 0] }).push { cls := .type "enumerate", data := .fields #[.none, .bool false, .ref s.heap.objs.size, rawInt 0, .none, .none] }) (s.heap.objs.size + 1) s.heap.objs.size 0 .none := by
    have q := Heap.get?_push_size (s.heap.push { cls := .type "tuple_iterator", data := .fields #[.ref t, .int 0 0] }) (o := { cls := .type "enumerate", data := .fields #[.none, .bool false, .ref s.heap.objs.size, rawInt 0, .none, .none] }) rfl
    rw [z] at q
    exact q
  exact ⟨⟨_, e, rfl⟩, h _ e ⟨_, Heap.get?_push_of_some _ (Heap.get?_push_size _ rfl), rfl, rfl⟩ fun b o x => Heap.get?_push_of_some _ (Heap.get?_push_of_some _ x)⟩
theorem enum_endT {e it t : Addr} {i : Nat} {its : Array Value} {old : Value} {Q : Option Value → Shared → Prop} (hh : A.handled = none) (he : IsEnum s.heap e it i old) (hit : s.heap.IsTupleIter it t i) (ht : s.heap.IsTuple t its) (hx : its[i]? = none)
    (q : ∀ h', Heap.ExtBut it s.heap h' → Q none { s with heap := h' }) : wpAny (model prog w) A (pyNext (.ref e)) Q E s := by
  have ty : s.TypeIs (.ref e) "enumerate" := ⟨_, he, rfl⟩
  unfold pyNext
  refine wpAny_bind (wpAny_attempt (wpAny_callSpecial?_slot (name := Str.ofString "__next__") ty F.slot_enumerate_next (wpAny_call_entry F.slot_enumerate_next ty F.entry_enumerate_next (show wpAny _ _ (field (.ref e) 2 >>= _) _ _ _ from wpAny_bind (wpAny_field he rfl (x := .ref it) rfl ?_)) (F.args_enumerate_next_1 _))))
  refine wpAny_bind (wpAny_nextOf_tuple_end hh hit ht hx fun h' x k ⟨o, ho, hc⟩ => wpAny_bind (wpAny_isInstance (T := "StopIteration") (b := true) ⟨o, ho, hc⟩ isSubtype_stop (wpAny_pure (q _ k))))
end
/-- the tuple at a, each item in a new pair -/
def Itet (K : PySem.W.Frag) (a : Addr) : It :=
  ⟨fun i H => ∃ (xs : List V) (x : V), SqT K H a xs ∧ xs[i]? = some x, fun i H v H' => ∃ T x, v = .ref T ∧ H T = none ∧ H' = upd H T (.tup [.int (i : Nat), x]) ∧ ∀ xs, SqT K H a xs → xs[i]? = some x, fun i H => ∃ xs : List V, SqT K H a xs ∧ xs.length ≤ i⟩
theorem turn_enumT {P : Program} {w : World} {K : PySem.W.Frag} {elts : List Expr} {kk : Nat} {tpos : Pos} (a e it : Addr) (hai : a ≠ it) (hae : e ≠ a) :
    Turn P w K (.Tuple elts kk tpos) (Itet K a) [e, it] e (fun i h => (∃ old, IsEnum h e it ((i : Nat) : Int) old) ∧ h.IsTupleIter it a i ∧ e ≠ it) where
  mem := by simp
  obj := fun i h ⟨⟨old, he⟩, ⟨o, ho, hc, hd⟩, _⟩ b hb => by
    simp only [List.mem_cons, List.not_mem_nil, or_false] at hb
    rcases hb with rfl | rfl
    · exact ⟨_, he, fun v q => nomatch q⟩
    · exact ⟨o, ho, fun v q => by rw [hd] at q; cases q⟩
  keep := fun i h h' ⟨⟨old, he⟩, hi, hne⟩ k => ⟨⟨old, k e (by simp) _ he⟩, hi.at fun o q => k it (by simp) o q, hne⟩
  item := by
    intro X hP hw hK hc i pins s σ H E I hf ⟨⟨old, he⟩, hit, hne⟩ ⟨xs, x, hq, hx⟩
    subst hP hw hK
    obtain ⟨its, rv, p, hz⟩ := I.tuple hq
    obtain ⟨u, hu, ru⟩ := rv.get hx
    have hel : e < s.heap.objs.size := Heap.lt_size he
    have hil : it < s.heap.objs.size := by
      obtain ⟨_, q, _⟩ := hit
      exact Heap.lt_size q
    have hui : its.toArray[i]? = some u := by simpa using hu
    have D : Draws X.prog X.w X.A.in1 it [it, a] its.toArray.size (fun i v => its.toArray[i]? = some v) (fun i h => h.IsTupleIter it a i ∧ h.IsTuple a its.toArray) := Draws.tuple (show X.A.in1.handled = none from I.ok.hd hc) it a hai its.toArray
    refine wpAny_pyNext_enum_itemD D he ⟨hit, p⟩ (Array.getElem?_eq_some_iff.mp hui).1 hne (by simp [hne, hae]) fun y h' tk hy ho hs' hT hsz hk => ?_
    rw [hui] at hy
    cases hy
    refine ⟨_, rfl, wpAny_letOwnedTupleGo_enum (s := { s with heap := h', toks := tk + 1 }) ho fun h'' he' sb => ?_⟩
    have hT2 : h''.get? s.heap.objs.size = some { cls := .type "tuple", data := .seq #[.int i tk, u] } := (sb.2 _ (Nat.ne_of_gt hel)).trans hT
    have new : ObjOk X.prog X.w (upd H s.heap.objs.size (.tup [.int (i : Nat), x])) h'' s.heap.objs.size (.tup [.int (i : Nat), x]) :=
      ⟨by show 2 ≤ sizeLine; decide, [.int i tk, u], .cons ⟨_, rfl⟩ (.cons ru .nil), ⟨_, hT2, rfl, _, rfl⟩⟩
    have I1 : Inv X pins σ (upd H s.heap.objs.size (.tup [.int (i : Nat), x])) { s with heap := h'', toks := tk + 1 } :=
      I.turnedNew (ch := [e, it]) (fun b ob hb q => (sb.2 b (fun z => hb (by simp [z]))).trans (hk b ob (fun z => hb (by simp [z])) (fun z => hb (by simp [z])) q)) hf (Nat.le_refl _) new
    refine ⟨.ref s.heap.objs.size, _, I1, rfl, ⟨_, x, rfl, I.hok.fresh (Nat.le_refl _), rfl, fun ys hy => by rw [I.tuple_inj hy hq]; exact hx⟩, ⟨⟨u, ?_⟩, hs'.1.at fun o q => (sb.2 it (Ne.symm hne)).trans q, hne⟩, fun b hb => ?_⟩
    · rw [show ((i + 1 : Nat) : Int) = (i : Int) + 1 by omega]
      exact he'
    · have hb' : b < s.heap.objs.size := by
        simp only [List.mem_cons, List.not_mem_nil, or_false] at hb
        rcases hb with rfl | rfl
        · exact hel
        · exact hil
      rw [upd_ne (Nat.ne_of_lt hb')]
      exact (hf b hb).1
  done := by
    intro X hP hw hK hc i pins s σ H E I hf ⟨⟨old, he⟩, hit, hne⟩ ⟨xs, hq, hx⟩
    subst hP hw hK
    obtain ⟨its, rv, p, hz⟩ := I.tuple hq
    obtain ⟨f0, f1, f2, f3, f4, f5⟩ := hf it (by simp)
    have out : its.toArray[i]? = none := List.getElem?_toArray ▸ rv.none_of (List.getElem?_eq_none hx)
    exact enum_endT (I.ok.hd hc) he hit p out fun h' eb => ⟨rfl, I.turned (t' := s.toks) (fun b o hb q => eb b o hb q) f0 f1 f3 f4 f5⟩
  self := fun A i s Q E ⟨⟨_, he⟩, _⟩ h => wpAny_pyIter_enum he h
def iEnumT (K : PySem.W.Frag) (ta : TA) : TI := fun σ H R => ta σ H fun vs H1 => ∃ a xs, vs = [.ref a] ∧ SqT K H1 a xs ∧ R (Itet K a) H1
theorem pi_enumT {X : Cx} {e : Expr} {ta : TA} {p pos tpos : Pos} {elts : List Expr} {kk : Nat} (hg : Gl X "enumerate") (hm : X.mg "enumerate" = none) (ha : PA X [e] ta) (hs : starEach [e] X.env = [(false, eval e X.env)] := by rfl) :
    PI X (.Tuple elts kk tpos) (.Call (.Name "enumerate" p) [e] [] pos) (iEnumT X.K ta) := by
  refine ⟨fun pins s σ H R I h => Call_ (ld_blt I hg hm boot_enumerate (PyProof.Rows.callWith_type1 (thn (ha.run pos pins s σ H _ I h) fun us s1 ⟨vs, H1, I1, r1, a, xs, ex, hq, q⟩ => ?_) hs rfl))⟩
  subst ex
  cases r1 with
  | cons r rr =>
    cases rr
    cases r
    obtain ⟨its, rv, p', hz⟩ := I1.tuple hq
    have la : a < s1.heap.objs.size := p'.lt
    refine call_enumT p' fun h' he hit hk => wpAny_pyIter_enum he ?_
    refine ⟨s1.heap.objs.size + 1, [s1.heap.objs.size + 1, s1.heap.objs.size], _, _, H1, rfl, I1.kept (t' := s1.toks) hk, turn_enumT a (s1.heap.objs.size + 1) s1.heap.objs.size (Nat.ne_of_lt la) (Nat.ne_of_gt (Nat.lt_succ_of_lt la)), ⟨⟨.none, he⟩, hit, Nat.succ_ne_self _⟩, fun b hb => ?_, q⟩
    have hle : s1.heap.objs.size ≤ b := by
      simp only [List.mem_cons, List.not_mem_nil, or_false] at hb
      rcases hb with rfl | rfl
      · exact Nat.le_succ _
      · exact Nat.le_refl _
    exact I1.fpOk hle (I1.hok.fresh hle)
theorem walk_enumT {K : PySem.W.Frag} {a : Addr} {xs : List V} : Walk (Itet K a) xs.length (fun H => SqT K H a xs) (YPair (fun i => some (.int (i : Nat))) (fun i => xs[i]?)) :=
  ⟨fun i _ hi q => ⟨xs, xs[i], q, by simp [hi]⟩, fun _ q => ⟨xs, q, Nat.le_refl _⟩, fun i H v H' _ q ⟨T, x, h1, h2, h3, h4⟩ => ⟨T, .int (i : Nat), x, h1, h2, h3, rfl, h4 xs q⟩⟩
end Lk

namespace Lk
open PySem PySem.Spec PyProof.Rows L2
/-! ### data made of tuples alone -/
/-- tuples stay -/
def Ts (H H' : Hp) : Prop := ∀ a xs, H a = some (.tup xs) → H' a = some (.tup xs)
theorem Ts.refl (H : Hp) : Ts H H := fun _ _ e => e
theorem Ts.trans {H H1 H2 : Hp} (s : Ts H H1) (t : Ts H1 H2) : Ts H H2 := fun a xs e => t a xs (s a xs e)
theorem Ts.of {H H' : Hp} (s : Same H H') : Ts H H' := fun a xs e => s _ _ e
theorem Ts.new {H : Hp} {p : Addr} {o : HO} (h : H p = none) : Ts H (upd H p o) := Ts.of (same_new h)
theorem Ts.lst {H : Hp} {p : Addr} {xs : List V} {o : HO} (h : H p = some (.lst xs)) : Ts H (upd H p o) := fun a ys e => by
  rw [upd_ne (fun z => by rw [z, h] at e; cases e)]
  exact e
mutual
inductive Dt (H : Hp) : V → PyData → Prop
  | non : Dt H .non .none
  | bl (b : Bool) : Dt H (.bl b) (.bool b)
  | int (i : Int) : Dt H (.int i) (.int i)
  | str (x : Str) : Dt H (.str x) (.str x)
  | tup {a : Addr} {xs : List V} {ds : List PyData} : H a = some (.tup xs) → DtAll H xs ds → Dt H (.ref a) (.tuple ds)
inductive DtAll (H : Hp) : List V → List PyData → Prop
  | nil : DtAll H [] []
  | cons {v : V} {vs : List V} {d : PyData} {ds : List PyData} : Dt H v d → DtAll H vs ds → DtAll H (v :: vs) (d :: ds)
end
section
variable {K : PySem.W.Frag} {H H' : Hp}
theorem Dt.ts (s : Ts H H') {d : PyData} {v : V} (h : Dt H v d) : Dt H' v d := by
  refine Dt.rec (motive_1 := fun v d _ => Dt H' v d) (motive_2 := fun vs ds _ => DtAll H' vs ds) .non .bl .int .str (fun hl _ ih => .tup (s _ _ hl) ih) .nil (fun _ _ a b => .cons a b) h
theorem DtAll.ts (s : Ts H H') {ds : List PyData} {vs : List V} (h : DtAll H vs ds) : DtAll H' vs ds := by
  refine DtAll.rec (motive_1 := fun v d _ => Dt H' v d) (motive_2 := fun vs ds _ => DtAll H' vs ds) .non .bl .int .str (fun hl _ ih => .tup (s _ _ hl) ih) .nil (fun _ _ a b => .cons a b) h
theorem Dt.dp {d : PyData} {v : V} (h : Dt H v d) : Dp K H v d := by
  refine Dt.rec (motive_1 := fun v d _ => Dp K H v d) (motive_2 := fun vs ds _ => DpAll K H vs ds) .non .bl .int .str (fun hl _ ih => .tup (.inl (.inl hl)) ih) .nil (fun _ _ a b => .cons a b) h
theorem DtAll.dp {ds : List PyData} {vs : List V} (h : DtAll H vs ds) : DpAll K H vs ds := by
  refine DtAll.rec (motive_1 := fun v d _ => Dp K H v d) (motive_2 := fun vs ds _ => DpAll K H vs ds) .non .bl .int .str (fun hl _ ih => .tup (.inl (.inl hl)) ih) .nil (fun _ _ a b => .cons a b) h
theorem dpa_same (s : Same H H') : ∀ {ds : List PyData} {vs : List V}, DpAll K H vs ds → DpAll K H' vs ds
  | _, _, .nil => .nil
  | _, _, .cons h t => .cons (dp_same s h) (dpa_same s t)
theorem dpa_len : ∀ {vs : List V} {ds : List PyData}, DpAll K H vs ds → vs.length = ds.length
  | _, _, .nil => rfl
  | _, _, .cons _ t => congrArg Nat.succ (dpa_len t)
theorem dpa_at : ∀ {vs : List V} {ds : List PyData} {i : Nat} {v : V}, DpAll K H vs ds → vs[i]? = some v → ∃ d, ds[i]? = some d ∧ Dp K H v d
  | _, _, _, _, .nil, e => by simp at e
  | _, _, 0, _, .cons h _, e => by
    simp at e
    subst e
    exact ⟨_, rfl, h⟩
  | _, _, i + 1, _, .cons _ t, e => by
    obtain ⟨d, e1, e2⟩ := dpa_at (i := i) t (by simpa using e)
    exact ⟨d, by simpa using e1, e2⟩
theorem DtAll.len : ∀ {vs : List V} {ds : List PyData}, DtAll H vs ds → vs.length = ds.length
  | _, _, .nil => rfl
  | _, _, .cons _ t => congrArg Nat.succ t.len
theorem DtAll.at : ∀ {vs : List V} {ds : List PyData} {i : Nat} {v : V}, DtAll H vs ds → vs[i]? = some v → ∃ d, ds[i]? = some d ∧ Dt H v d
  | _, _, _, _, .nil, e => by simp at e
  | _, _, 0, _, .cons h _, e => by
    simp at e
    subst e
    exact ⟨_, rfl, h⟩
  | _, _, i + 1, _, .cons _ t, e => by
    obtain ⟨d, e1, e2⟩ := DtAll.at (i := i) t (by simpa using e)
    exact ⟨d, by simpa using e1, e2⟩
theorem DtAll.append : ∀ {vs us : List V} {ds es : List PyData}, DtAll H vs ds → DtAll H us es → DtAll H (vs ++ us) (ds ++ es)
  | _, _, _, _, .nil, k => k
  | _, _, _, _, .cons h t, k => .cons h (t.append k)
theorem dt_ints : ∀ xs : List Int, DtAll H (xs.map V.int) (xs.map PyData.int)
  | [] => .nil
  | x :: xs => .cons (.int x) (dt_ints xs)
/-! ### isinstance of data -/
def tyn : PyData → String
  | .none => "NoneType"
  | .bool _ => "bool"
  | .int _ => "int"
  | .str _ => "str"
  | .list _ => "list"
  | .tuple _ => "tuple"
  | .dict _ => "dict"
theorem tyx_dp {v : V} {d : PyData} (h : Dp K H v d) : TyX K H v (.type (tyn d)) := by
  cases h with
  | non => exact .base .non
  | bl b => exact .base (.bl b)
  | int i => exact .base (.int i)
  | str x => exact .base (.str x)
  | lst hs _ =>
    rcases hs with (e | ⟨o, e⟩) | ⟨o, its, n, e, c, _⟩
    · exact .base (.lst e)
    · exact .base (.frz e)
    · exact .kList e c
  | tup hs _ =>
    rcases hs with (e | ⟨o, e⟩) | ⟨o, its, n, e, c, _⟩
    · exact .base (.tup e)
    · exact .fTuple e
    · exact .kTuple e c
def isIntI : PyData → Bool
  | .bool _ => true
  | .int _ => true
  | _ => false
def isBoolD : PyData → Bool
  | .bool _ => true
  | _ => false
def isStrD : PyData → Bool
  | .str _ => true
  | _ => false
def isTupD : PyData → Bool
  | .tuple _ => true
  | _ => false
def isListD : PyData → Bool
  | .list _ => true
  | _ => false
theorem ki_int (d : PyData) : kitB (tyn d) "int" = some (isIntI d) := by cases d <;> simp only [tyn, isIntI] <;> decide +kernel
theorem ki_bool (d : PyData) : kitB (tyn d) "bool" = some (isBoolD d) := by cases d <;> simp only [tyn, isBoolD] <;> decide +kernel
theorem ki_str (d : PyData) : kitB (tyn d) "str" = some (isStrD d) := by cases d <;> simp only [tyn, isStrD] <;> decide +kernel
theorem ki_tup (d : PyData) : kitB (tyn d) "tuple" = some (isTupD d) := by cases d <;> simp only [tyn, isTupD] <;> decide +kernel
theorem ki_list (d : PyData) : kitB (tyn d) "list" = some (isListD d) := by cases d <;> simp only [tyn, isListD] <;> decide +kernel
theorem s_isi {v : V} {d : PyData} {n : String} {b : Bool} {Q : VK} (h : Dp K H v d) (e : kitB (tyn d) n = some b) (q : Q (.bl b) H) : rIsi K [v, .ty n] H Q := ⟨v, _, _, _, b, rfl, .ty n, tyx_dp h, kit_ty e, q⟩
theorem ki_lt (d : PyData) : PySem.W.kitAny K (.type (tyn d)) [.type "list", .type "tuple"] = some (isListD d || isTupD d) := by
  refine kitAny_cons (kit_ty (ki_list d)) (fun _ => kitAny_cons (kit_ty (ki_tup d)) (fun z => ?_) fun z => by rw [z, Bool.or_true]) fun z => by rw [z, Bool.true_or]
  rename_i y
  rw [y, z]
  rfl
theorem s_isiLT {v : V} {d : PyData} {t : Addr} {Q : VK} (h : Dp K H v d) (ht : H t = some (.tup [.ty "list", .ty "tuple"])) (q : Q (.bl (isListD d || isTupD d)) H) : rIsiT K [v, .ref t] H Q :=
  ⟨v, t, _, _, _, _, rfl, ht, .cons (.ty _) (.cons (.ty _) .nil), tyx_dp h, ki_lt d, q⟩
/-! ### what the checks tell -/
def isIntD : PyData → Bool
  | .int _ => true
  | _ => false
def withinD (d : PyData) (a b : Int) : Bool := match d with
  | .int x => decide (a ≤ x) && decide (x ≤ b)
  | _ => false
def seqD (d : PyData) (a b : Int) : Bool := match d with
  | .list ds => decide (a ≤ ds.length) && decide ((ds.length : Int) ≤ b)
  | .tuple ds => decide (a ≤ ds.length) && decide ((ds.length : Int) ≤ b)
  | _ => false
def formD (d : PyData) (n : Int) : Bool := match d with
  | .tuple ds => decide ((ds.length : Int) = n + 1) && ds.all isIntD
  | _ => false
def nextsD (d : PyData) (a b m : Int) : Bool := match d with
  | .tuple ds => decide (a ≤ ds.length) && decide ((ds.length : Int) ≤ b) && ds.all fun e => withinD e 0 (m - 1)
  | _ => false
end
section
variable {σ : L2.St} {H : Hp} {ta tb tc : TE} {Q : VK} {r r' : R2}
theorem sav (q : ta σ H fun x H1 => ∃ c, x = .bl c ∧ if c = true then tb σ H1 Q else Q (.bl false) H1) : tAndV ta tb σ H Q := q
theorem sov (q : ta σ H fun x H1 => ∃ c, x = .bl c ∧ if c = true then Q (.bl true) H1 else tb σ H1 Q) : tOrV ta tb σ H Q := q
theorem snv (q : ta σ H fun x H1 => ∃ c, x = .bl c ∧ Q (.bl (!c)) H1) : tNotV ta σ H Q := q
theorem sch (q : ta σ H fun x H1 => tb σ H1 fun y H2 => r x y H2 fun z H3 => ∃ k, z = .bl k ∧ if k = true then tc σ H3 fun z' H4 => r' y z' H4 Q else Q (.bl false) H3) : tChain r r' ta tb tc σ H Q := q
theorem pe_gint {X : Cx} {x : Str} {i : Int} {pos : Pos} (hg : Gl X x) (hm : ∃ t, X.mg x = some (.int i t)) (hd : (x == ("__debug__" : Str)) = false := by decide) : PE X (.Name x pos) (tC (.int i)) := by
  obtain ⟨t, h⟩ := hm
  exact pe_glob hg h ⟨t, rfl⟩ hd
end
section
variable {K : PySem.W.Frag} {H : Hp} {Q : VK}
theorem s_lenL {v : V} {ds : List PyData} (h : Dp K H v (.list ds)) (q : Q (.int ds.length) H) : ∃ p ys, [v] = [V.ref p] ∧ (SqL K H p ys ∨ SqT K H p ys) ∧ Q (.int ys.length) H := by
  cases h with
  | lst hs ha => exact ⟨_, _, rfl, .inl hs, by rw [dpa_len ha]; exact q⟩
theorem s_lenT {v : V} {ds : List PyData} (h : Dp K H v (.tuple ds)) (q : Q (.int ds.length) H) : ∃ p ys, [v] = [V.ref p] ∧ (SqL K H p ys ∨ SqT K H p ys) ∧ Q (.int ys.length) H := by
  cases h with
  | tup hs ha => exact ⟨_, _, rfl, .inr hs, by rw [dpa_len ha]; exact q⟩
/-- a <= i <= b, the second part behind the first one -/
theorem two_le {a i b : Int} (q : Q (.bl (decide (a ≤ i) && decide (i ≤ b))) H) : if decide (a ≤ i) = true then Q (.bl (decide (i ≤ b))) H else Q (.bl false) H := by
  by_cases h : a ≤ i
  · rw [if_pos (decide_eq_true h)]
    rw [decide_eq_true h, Bool.true_and] at q
    exact q
  · rw [if_neg (by simpa using h)]
    rw [decide_eq_false h, Bool.false_and] at q
    exact q
end
end Lk

namespace Lk
open PySem PySem.Spec PyProof.Rows L2
section
variable {K : PySem.W.Frag} {H H' : Hp}
theorem same_sqT {a : Addr} {xs : List V} (s : Same H H') (h : SqT K H a xs) : SqT K H' a xs := by
  rcases h with (e | ⟨o, e⟩) | e
  · exact .inl (.inl (s _ _ e))
  · exact .inl (.inr ⟨o, s _ _ e⟩)
  · exact .inr e
theorem dp_listI {v : V} {ds : List PyData} (h : Dp K H v (.list ds)) : ∃ a xs, v = .ref a ∧ SqL K H a xs ∧ DpAll K H xs ds := by
  cases h with
  | lst hs ha => exact ⟨_, _, rfl, hs, ha⟩
theorem dp_tupI {v : V} {ds : List PyData} (h : Dp K H v (.tuple ds)) : ∃ a xs, v = .ref a ∧ SqT K H a xs ∧ DpAll K H xs ds := by
  cases h with
  | tup hs ha => exact ⟨_, _, rfl, hs, ha⟩
theorem dp_intI {v : V} {i : Int} (h : Dp K H v (.int i)) : v = .int i := by cases h; rfl
theorem dp_strI {v : V} {x : Str} (h : Dp K H v (.str x)) : v = .str x := by cases h; rfl
/-- [e for x in t], t a tuple: item by item, where only objects are made -/
theorem tlc_mapT {σ : L2.St} {a : Addr} {xs ys : List V} {j k : Nat} {te : TE} {vs : List Nat} {Q : VK} (hj : σ[j]? = some (some (.ref a))) (hx : SqT K H a xs) (hl : ys.length = xs.length) (h3 : xs.length ≤ 1000)
    (hw : ∀ x, wipe ((wipe σ vs).set k (some x)) vs = wipe σ vs)
    (he : ∀ (i : Nat) (x y : V) (H' : Hp), xs[i]? = some x → ys[i]? = some y → Same H H' → ∀ R : VK, (∀ H'', Same H' H'' → R y H'') → te ((wipe σ vs).set k (some x)) H' R)
    (q : ∀ D H', Same H H' → H D = none → H' D = some (.lst ys) → Q (.ref D) H') : tLc (iTup K (tVar j)) (gName k) tYes te vs σ H Q := by
  refine ⟨_, hj, a, rfl, ⟨xs, hx⟩, fun D hD => lc_tup (fun i H' => Same H H' ∧ H' D = some (.lst (ys.take i))) ⟨same_new hD, upd_same⟩ (fun i H' _ h => same_sqT h.1 hx) (fun i x H' hi h => ?_) (fun H' h => ?_)⟩
  · have hlt : i < ys.length := by
      rw [hl]
      exact (List.getElem?_eq_some_iff.mp hi).1
    refine ⟨hw x, ?_⟩
    unfold tYes
    simp only [if_true]
    refine he i x ys[i] H' hi (List.getElem?_eq_getElem hlt) h.1 _ fun H2 s2 => ⟨_, s2 _ _ h.2, ?_, fun b o e => ?_, ?_⟩
    · rw [List.length_take]
      exact small1000 (by omega)
    · rw [upd_ne (ne_of_none e hD)]
      exact s2 _ _ (h.1 _ _ e)
    · rw [upd_same, List.take_succ, List.getElem?_eq_getElem hlt]
      rfl
  · rw [← hl, List.take_length] at h
    exact q D H' h.1 hD h.2
/-- the same over a list -/
theorem tlc_mapL {σ : L2.St} {a : Addr} {xs ys : List V} {j k : Nat} {te : TE} {vs : List Nat} {Q : VK} (hj : σ[j]? = some (some (.ref a))) (hx : SqL K H a xs) (hl : ys.length = xs.length) (h3 : xs.length ≤ 1000)
    (hw : ∀ x, wipe ((wipe σ vs).set k (some x)) vs = wipe σ vs)
    (he : ∀ (i : Nat) (x y : V) (H' : Hp), xs[i]? = some x → ys[i]? = some y → Same H H' → ∀ R : VK, (∀ H'', Same H' H'' → R y H'') → te ((wipe σ vs).set k (some x)) H' R)
    (q : ∀ D H', Same H H' → H D = none → H' D = some (.lst ys) → Q (.ref D) H') : tLc (iList K (tVar j)) (gName k) tYes te vs σ H Q := by
  refine ⟨_, hj, a, rfl, ⟨xs, hx⟩, fun D hD => lc_list (fun i H' => Same H H' ∧ H' D = some (.lst (ys.take i))) ⟨same_new hD, upd_same⟩ (fun i H' _ h => h.1.seq hx) (fun i x H' hi h => ?_) (fun H' h => ?_)⟩
  · have hlt : i < ys.length := by
      rw [hl]
      exact (List.getElem?_eq_some_iff.mp hi).1
    refine ⟨hw x, ?_⟩
    unfold tYes
    simp only [if_true]
    refine he i x ys[i] H' hi (List.getElem?_eq_getElem hlt) h.1 _ fun H2 s2 => ⟨_, s2 _ _ h.2, ?_, fun b o e => ?_, ?_⟩
    · rw [List.length_take]
      exact small1000 (by omega)
    · rw [upd_ne (ne_of_none e hD)]
      exact s2 _ _ (h.1 _ _ e)
    · rw [upd_same, List.take_succ, List.getElem?_eq_getElem hlt]
      rfl
  · rw [← hl, List.take_length] at h
    exact q D H' h.1 hD h.2
theorem sft {p : Addr} {xs : List V} {z : Int} {v : V} {Q : VK} (hp : SqT K H p xs) (hz : atI xs z = some v) (q : Q v H) : rIxT K (.ref p) (.int z) H Q := ⟨p, xs, z, v, rfl, rfl, hp, hz, q⟩
theorem itt_ {c : Bool} {A B : Prop} (h : c = true) (q : A) : if c = true then A else B := by rw [if_pos h]; exact q
theorem iff_ {c : Bool} {A B : Prop} (h : c = false) (q : B) : if c = true then A else B := by rw [if_neg (by rw [h]; decide)]; exact q
theorem ssll {r : V → Option Int → Option Int → Hp → VK → Prop} {te : TE} {tl th : TO} {σ : L2.St} {Q : VK} (q : te σ H fun x H1 => tl σ H1 fun l H2 => th σ H2 fun u H3 => r x l u H3 Q) : tSl r te tl th σ H Q := q
theorem spt {t : TE} {σ : L2.St} {Q : Option Int → Hp → Prop} (q : t σ H fun x H1 => ∃ i, x = .int i ∧ Q (some i) H1) : tPart t σ H Q := q
theorem snp {σ : L2.St} {Q : Option Int → Hp → Prop} (q : Q none H) : tNoPart σ H Q := q
theorem sin {i : Int} {Q : Int → Prop} (q : Q i) : ∃ j, V.int i = .int j ∧ Q j := ⟨i, rfl, q⟩
/-- t[1:] -/
theorem s_cut {a : Addr} {x : V} {ys : List V} {Q : VK} (ha : SqT K H a (x :: ys)) (q : ∀ p, H p = none → Q (.ref p) (upd H p (.tup ys))) : rSlA K (.ref a) (some 1) none H Q := by
  have e0 : HT.sIx (x :: ys).length 0 (some 1) = 1 := by
    have := HT.sIx_nat (x :: ys).length 0 1
    rw [show ((1 : Nat) : Int) = 1 from rfl] at this
    rw [this]
    simp
  have e1 : HT.sIx (x :: ys).length (x :: ys).length none = (x :: ys).length := rfl
  refine ⟨a, x :: ys, rfl, ha, fun z => ?_, fun _ p hp => ?_⟩
  · rw [e0] at z
    exact absurd z.1 (by decide)
  · have e2 : cutV (x :: ys) (some 1) none = ys := by
      unfold cutV
      rw [e0, e1]
      simp
    rw [e2]
    exact q p hp
/-- what all tells of such a list -/
theorem all_bls {ds : List PyData} {p : PyData → Bool} {D : Addr} {Q : VK} (h : H D = some (.lst (ds.map fun d => V.bl (p d)))) (q : Q (.bl (ds.all p)) H) : rAll K [V.ref D] H Q := by
  refine ⟨D, ds.map p, rfl, .inl (.inl (by rw [h, List.map_map]; rfl)), ?_⟩
  rw [List.all_map]
  exact q
end
end Lk

namespace Lk
open PySem PySem.Spec PyProof.Rows L2
/-! ### rows of programs -/
inductive LRow where
  | set (n : Str) (f : List Int) (k : Int)
  | say (f : List Int) (k : Int)
  | ask (n : Str) (k : Int)
  | choose (ks : List Int)
  | look (k : Int)
  | stop
def intsD (xs : List Int) : PyData := .tuple (xs.map .int)
def LRow.d : LRow → PyData
  | .set n f k => .tuple [.str "set", .str n, intsD f, .int k]
  | .say f k => .tuple [.str "say", intsD f, .int k]
  | .ask n k => .tuple [.str "ask", .str n, .int k]
  | .choose ks => .tuple [.str "choose", intsD ks]
  | .look k => .tuple [.str "look", .int k]
  | .stop => .tuple [.str "stop"]
/-- the row as it lies in the heap -/
def RowH (H : Hp) (v : V) : LRow → Prop
  | .set n f k => ∃ a b, v = .ref a ∧ H a = some (.tup [.str "set", .str n, .ref b, .int k]) ∧ H b = some (.tup (f.map .int))
  | .say f k => ∃ a b, v = .ref a ∧ H a = some (.tup [.str "say", .ref b, .int k]) ∧ H b = some (.tup (f.map .int))
  | .ask n k => ∃ a, v = .ref a ∧ H a = some (.tup [.str "ask", .str n, .int k])
  | .choose ks => ∃ a b, v = .ref a ∧ H a = some (.tup [.str "choose", .ref b]) ∧ H b = some (.tup (ks.map .int))
  | .look k => ∃ a, v = .ref a ∧ H a = some (.tup [.str "look", .int k])
  | .stop => ∃ a, v = .ref a ∧ H a = some (.tup [.str "stop"])
/-- what a row must be over these variables, among m rows -/
def RowOk (names : List Str) (m : Int) : LRow → Prop
  | .set n f k => n ∈ names ∧ f.length = names.length + 1 ∧ 0 ≤ k ∧ k < m
  | .say f k => f.length = names.length + 1 ∧ 0 ≤ k ∧ k < m
  | .ask n k => n ∈ names ∧ 0 ≤ k ∧ k < m
  | .choose ks => 1 ≤ ks.length ∧ ks.length ≤ 6 ∧ ∀ k ∈ ks, 0 ≤ k ∧ k < m
  | .look k => 0 ≤ k ∧ k < m
  | .stop => True
/-- its numbers reduced -/
def LRow.low (w : Nat) : LRow → LRow
  | .set n f k => .set n (f.map (· % 2 ^ w)) k
  | .say f k => .say (f.map (· % 2 ^ w)) k
  | r => r
section
variable {K : PySem.W.Frag} {H H' : Hp}
theorem RowH.ts (s : Ts H H') {v : V} {r : LRow} (h : RowH H v r) : RowH H' v r := by
  cases r with
  | set n f k => obtain ⟨a, b, e, h1, h2⟩ := h; exact ⟨a, b, e, s _ _ h1, s _ _ h2⟩
  | say f k => obtain ⟨a, b, e, h1, h2⟩ := h; exact ⟨a, b, e, s _ _ h1, s _ _ h2⟩
  | ask n k => obtain ⟨a, e, h1⟩ := h; exact ⟨a, e, s _ _ h1⟩
  | choose ks => obtain ⟨a, b, e, h1, h2⟩ := h; exact ⟨a, b, e, s _ _ h1, s _ _ h2⟩
  | look k => obtain ⟨a, e, h1⟩ := h; exact ⟨a, e, s _ _ h1⟩
  | stop => obtain ⟨a, e, h1⟩ := h; exact ⟨a, e, s _ _ h1⟩
theorem dt_intsT {b : Addr} {xs : List Int} (h : H b = some (.tup (xs.map .int))) : Dt H (.ref b) (intsD xs) := .tup h (dt_ints xs)
theorem RowH.dt {v : V} {r : LRow} (h : RowH H v r) : Dt H v r.d := by
  cases r with
  | set n f k => obtain ⟨a, b, rfl, h1, h2⟩ := h; exact .tup h1 (.cons (.str _) (.cons (.str _) (.cons (dt_intsT h2) (.cons (.int _) .nil))))
  | say f k => obtain ⟨a, b, rfl, h1, h2⟩ := h; exact .tup h1 (.cons (.str _) (.cons (dt_intsT h2) (.cons (.int _) .nil)))
  | ask n k => obtain ⟨a, rfl, h1⟩ := h; exact .tup h1 (.cons (.str _) (.cons (.str _) (.cons (.int _) .nil)))
  | choose ks => obtain ⟨a, b, rfl, h1, h2⟩ := h; exact .tup h1 (.cons (.str _) (.cons (dt_intsT h2) .nil))
  | look k => obtain ⟨a, rfl, h1⟩ := h; exact .tup h1 (.cons (.str _) (.cons (.int _) .nil))
  | stop => obtain ⟨a, rfl, h1⟩ := h; exact .tup h1 (.cons (.str _) .nil)
theorem RowH.ref {v : V} {r : LRow} (h : RowH H v r) : ∃ a xs, v = .ref a ∧ H a = some (.tup xs) := by
  cases r with
  | set n f k => obtain ⟨a, b, e, h1, h2⟩ := h; exact ⟨a, _, e, h1⟩
  | say f k => obtain ⟨a, b, e, h1, h2⟩ := h; exact ⟨a, _, e, h1⟩
  | ask n k => obtain ⟨a, e, h1⟩ := h; exact ⟨a, _, e, h1⟩
  | choose ks => obtain ⟨a, b, e, h1, h2⟩ := h; exact ⟨a, _, e, h1⟩
  | look k => obtain ⟨a, e, h1⟩ := h; exact ⟨a, _, e, h1⟩
  | stop => obtain ⟨a, e, h1⟩ := h; exact ⟨a, _, e, h1⟩
/-- a list of rows -/
inductive RowsH (H : Hp) : List V → List LRow → Prop
  | nil : RowsH H [] []
  | cons {v : V} {vs : List V} {r : LRow} {rs : List LRow} : RowH H v r → RowsH H vs rs → RowsH H (v :: vs) (r :: rs)
theorem RowsH.ts (s : Ts H H') : ∀ {vs : List V} {rs : List LRow}, RowsH H vs rs → RowsH H' vs rs
  | _, _, .nil => .nil
  | _, _, .cons h t => .cons (h.ts s) (t.ts s)
theorem RowsH.len : ∀ {vs : List V} {rs : List LRow}, RowsH H vs rs → vs.length = rs.length
  | _, _, .nil => rfl
  | _, _, .cons _ t => congrArg Nat.succ t.len
theorem RowsH.at : ∀ {vs : List V} {rs : List LRow} {i : Nat} {v : V}, RowsH H vs rs → vs[i]? = some v → ∃ r, rs[i]? = some r ∧ RowH H v r
  | _, _, _, _, .nil, e => by simp at e
  | _, _, 0, _, .cons h _, e => by
    simp at e
    subst e
    exact ⟨_, rfl, h⟩
  | _, _, i + 1, _, .cons _ t, e => by
    obtain ⟨d, e1, e2⟩ := RowsH.at (i := i) t (by simpa using e)
    exact ⟨d, by simpa using e1, e2⟩
theorem RowsH.get : ∀ {vs : List V} {rs : List LRow} {i : Nat} {r : LRow}, RowsH H vs rs → rs[i]? = some r → ∃ v, vs[i]? = some v ∧ RowH H v r
  | _, _, _, _, .nil, e => by simp at e
  | _, _, 0, _, .cons h _, e => by
    simp at e
    subst e
    exact ⟨_, rfl, h⟩
  | _, _, i + 1, _, .cons _ t, e => by
    obtain ⟨d, e1, e2⟩ := RowsH.get (i := i) t (by simpa using e)
    exact ⟨d, by simpa using e1, e2⟩
theorem atI_nat {α : Type} {xs : List α} {i : Nat} {x : α} (h : xs[i]? = some x) : atI xs (i : Int) = some x := by
  have hlt := (List.getElem?_eq_some_iff.mp h).1
  unfold atI ixN
  rw [if_pos (by omega), if_pos (by omega)]
  exact h
theorem RowsH.append : ∀ {vs us : List V} {rs qs : List LRow}, RowsH H vs rs → RowsH H us qs → RowsH H (vs ++ us) (rs ++ qs)
  | _, _, _, _, .nil, k => k
  | _, _, _, _, .cons h t, k => .cons h (t.append k)
theorem RowsH.dt : ∀ {vs : List V} {rs : List LRow}, RowsH H vs rs → DtAll H vs (rs.map LRow.d)
  | _, _, .nil => .nil
  | _, _, .cons h t => .cons h.dt t.dt
/-! ### names -/
def letD (c : Nat) : Bool := decide (97 ≤ c) && decide (c ≤ 122)
def nameS (s : Str) : Bool := decide (1 ≤ s.length) && decide (s.length ≤ 8) && s.cps.toList.all letD
def nameD : PyData → Bool
  | .str s => nameS s
  | _ => false
theorem lex1 (a b : Nat) : decide ([a] < [b]) = decide (a < b) := by
  refine decide_eq_decide.mpr ⟨fun h => ?_, fun h => ?_⟩
  · cases h with
    | rel h => exact h
    | cons h => cases h
  · exact .rel h
/-- [e for c in s] -/
theorem tlc_mapS {σ : L2.St} {z : Str} {ys : List V} {j k : Nat} {te : TE} {vs : List Nat} {Q : VK} (hj : σ[j]? = some (some (.str z))) (hl : ys.length = z.cps.size) (h3 : z.cps.size ≤ 1000)
    (hw : ∀ x, wipe ((wipe σ vs).set k (some x)) vs = wipe σ vs)
    (he : ∀ (i c : Nat) (y : V) (H' : Hp), z.cps[i]? = some c → ys[i]? = some y → Same H H' → ∀ R : VK, (∀ H'', Same H' H'' → R y H'') → te ((wipe σ vs).set k (some (.str ⟨#[c]⟩))) H' R)
    (q : ∀ D H', Same H H' → H D = none → H' D = some (.lst ys) → Q (.ref D) H') : tLc (iStr (tVar j)) (gName k) tYes te vs σ H Q := by
  refine ⟨_, hj, z, rfl, fun D hD => lc_it walk_str (fun i H' => Same H H' ∧ H' D = some (.lst (ys.take i))) ⟨same_new hD, upd_same⟩ (fun _ _ _ _ => trivial) (fun i x H1 H' hi h hy => ?_) (fun H' h => ?_)⟩
  · obtain ⟨rfl, c, hc, rfl⟩ := hy
    have hlt : i < ys.length := by
      rw [hl]
      exact hi
    refine ⟨hw _, ?_⟩
    unfold tYes
    simp only [if_true]
    refine he i c ys[i] H' hc (List.getElem?_eq_getElem hlt) h.1 _ fun H2 s2 => ⟨_, s2 _ _ h.2, ?_, fun b o e => ?_, ?_⟩
    · rw [List.length_take]
      exact small1000 (by omega)
    · rw [upd_ne (ne_of_none e hD)]
      exact s2 _ _ (h.1 _ _ e)
    · rw [upd_same, List.take_succ, List.getElem?_eq_getElem hlt]
      rfl
  · rw [← hl, List.take_length] at h
    exact q D H' h.1 hD h.2
/-- a list or a tuple -/
def SqE (K : PySem.W.Frag) (H : Hp) (p : Addr) (xs : List V) : Prop := SqL K H p xs ∨ SqT K H p xs
theorem SqE.same (s : Same H H') {p : Addr} {xs : List V} (h : SqE K H p xs) : SqE K H' p xs := h.imp s.seq (same_sqT s)
theorem inV_str {x : Str} : ∀ {ns : List Str}, x ∈ ns → inV (.str x) (ns.map V.str) = true
  | [], h => by cases h
  | n :: ns, h => by
    rw [List.map_cons]
    unfold inV
    rw [List.any_cons, Bool.or_eq_true]
    rcases List.mem_cons.mp h with rfl | h
    · exact .inl (by show (x == x) = true; exact beq_self_eq_true x)
    · exact .inr (inV_str h)
theorem flat_strs (ns : List Str) : (ns.map V.str).all flatV = true := by
  rw [List.all_map]
  exact List.all_eq_true.mpr fun _ _ => rfl
end
end Lk

namespace Lk
open PySem PySem.Spec PyProof.Rows L2
/-! ### a list or a tuple, whichever was handed in -/
section
variable {X : Cx} {tg e : Expr} {te : TE}
def rSlE (K : PySem.W.Frag) : V → Option Int → Option Int → Hp → VK → Prop := fun x lo hi H Q => rSlL K x lo hi H Q ∨ rSlA K x lo hi H Q
theorem sl_either : SlR X (rSlE X.K) := sl_list.or sl_tupA
def rTupOf (K : PySem.W.Frag) : List V → Hp → VK → Prop := fun xs H Q => ∃ p ys, xs = [.ref p] ∧ ((SqL K H p ys ∧ ∀ l, H l = none → Q (.ref l) (upd H l (.tup ys))) ∨ (SqT K H p ys ∧ Q (.ref p) H))
theorem call_tupOf : CallR X (.type "tuple") (rTupOf X.K) := call_tuple_of
def iEither (K : PySem.W.Frag) (te : TE) : TI := fun σ H R => iList K te σ H R ∨ iTup K te σ H R
theorem pi_either (he : PE X e te) : PI X tg e (iEither X.K te) := ⟨fun pins s σ H R I h => h.elim ((pi_list he).run pins s σ H R I) ((pi_tup he).run pins s σ H R I)⟩
def iEnumE (K : PySem.W.Frag) (ta : TA) : TI := fun σ H R => iEnum K ta σ H R ∨ iEnumT K ta σ H R
theorem pi_enumE {ta : TA} {p pos tpos : Pos} {elts : List Expr} {kk : Nat} (hg : Gl X "enumerate") (hm : X.mg "enumerate" = none) (ha : PA X [e] ta) (hs : starEach [e] X.env = [(false, eval e X.env)] := by rfl) :
    PI X (.Tuple elts kk tpos) (.Call (.Name "enumerate" p) [e] [] pos) (iEnumE X.K ta) := ⟨fun pins s σ H R I h => h.elim ((pi_enum hg hm ha hs).run pins s σ H R I) ((pi_enumT hg hm ha hs).run pins s σ H R I)⟩
end
section
variable {K : PySem.W.Frag} {H H' : Hp} {σ : L2.St} {a : Addr} {xs : List V}
theorem sIx_take {n i : Nat} (hi : i < n) : HT.sIx n n (some (i : Int)) = i := by
  rw [HT.sIx_nat]
  omega
theorem cut_take {i : Nat} (hi : i < xs.length) : cutV xs none (some (i : Int)) = xs.take i := by
  unfold cutV
  rw [sIx_take hi, show HT.sIx xs.length 0 none = 0 from rfl]
  simp
/-- xs[:i] -/
theorem s_take {i : Nat} {Q : VK} (hx : SqE K H a xs) (hi : i < xs.length) (q : ∀ p H', Same H H' → SqE K H' p (xs.take i) → Q (.ref p) H') : rSlE K (.ref a) none (some (i : Int)) H Q := by
  rcases hx with hx | hx
  · refine .inl ⟨a, xs, rfl, hx, fun p hp => ?_⟩
    rw [cut_take hi]
    exact q p _ (same_new hp) (.inl (SqL.of upd_same))
  · refine .inr ⟨a, xs, rfl, hx, fun z => ?_, fun _ p hp => ?_⟩
    · have := z.2
      rw [sIx_take hi] at this
      omega
    · rw [cut_take hi]
      exact q p _ (same_new hp) (.inr (SqT.of upd_same))
/-- for i, x in enumerate(xs) -/
theorem for_enE {g : TG} {tb : TS} {D : Ends} {j : Nat} (I : Nat → L2.St → Hp → Prop) (hj : σ[j]? = some (some (.ref a))) (hx : SqE K H a xs) (h0 : I 0 σ H) (hS : ∀ i σ' H', I i σ' H' → Same H H')
    (ht : ∀ (i : Nat) (x : V) p σ' H', xs[i]? = some x → I i σ' H' → H' p = none → g (.ref p) σ' (upd H' p (.tup [.int (i : Nat), x])) fun σ2 H2 => tb { D with nx := I (i + 1), ct := I (i + 1), bk := D.nx } σ2 H2)
    (hd : ∀ σ' H', I xs.length σ' H' → D.nx σ' H') : tFor (iEnumE K (tCons (tVar j) tNil)) g tb D σ H := by
  rcases hx with hx | hx
  · exact .inl ⟨_, hj, a, xs, rfl, hx, en_by I h0 (fun i σ H' _ h => (hS i σ H' h).seq hx) ht hd⟩
  · refine .inr ⟨_, hj, a, xs, rfl, hx, for_it walk_enumT I h0 (fun i σ H' _ h => same_sqT (hS i σ H' h) hx) (fun i v σ' H1 H2 hi hI hy => ?_) hd⟩
    obtain ⟨T, x, y, rfl, hT, rfl, e1, e2⟩ := hy
    cases Option.some.inj e1
    exact ht i y T σ' H1 e2 hI hT
theorem tlc_mapE {ys : List V} {j k : Nat} {te : TE} {vs : List Nat} {Q : VK} (hj : σ[j]? = some (some (.ref a))) (hx : SqE K H a xs) (hl : ys.length = xs.length) (h3 : xs.length ≤ 1000)
    (hw : ∀ x, wipe ((wipe σ vs).set k (some x)) vs = wipe σ vs)
    (he : ∀ (i : Nat) (x y : V) (H' : Hp), xs[i]? = some x → ys[i]? = some y → Same H H' → ∀ R : VK, (∀ H'', Same H' H'' → R y H'') → te ((wipe σ vs).set k (some x)) H' R)
    (q : ∀ D H', Same H H' → H D = none → H' D = some (.lst ys) → Q (.ref D) H') : tLc (iEither K (tVar j)) (gName k) tYes te vs σ H Q := by
  rcases hx with hx | hx
  · exact Or.inl (tlc_mapL hj hx hl h3 hw he q)
  · exact Or.inr (tlc_mapT hj hx hl h3 hw he q)
/-- tuple(xs) -/
theorem s_tupE {R : VK} (hx : SqE K H a xs) (q : ∀ p H', Same H H' → SqT K H' p xs → R (.ref p) H') : rTupOf K [V.ref a] H R := by
  rcases hx with hx | hx
  · exact ⟨a, xs, rfl, .inl ⟨hx, fun l hl => q l _ (same_new hl) (SqT.of upd_same)⟩⟩
  · exact ⟨a, xs, rfl, .inr ⟨hx, q a _ (Same.refl _) hx⟩⟩
/-- [f(row, ..) for row in rows] -/
theorem tlc_rowsE {rs : List LRow} {j k : Nat} {te : TE} {vs : List Nat} {Q : VK} (f : LRow → LRow) (hj : σ[j]? = some (some (.ref a))) (hx : SqE K H a xs) (hr : RowsH H xs rs) (h3 : xs.length ≤ 1000)
    (hw : ∀ x, wipe ((wipe σ vs).set k (some x)) vs = wipe σ vs)
    (he : ∀ (i : Nat) (x : V) (r : LRow) (H' : Hp), rs[i]? = some r → RowH H' x r → Same H H' → ∀ R : VK, (∀ u H'', Same H' H'' → RowH H'' u (f r) → R u H'') → te ((wipe σ vs).set k (some x)) H' R)
    (q : ∀ D ys H', Same H H' → H D = none → H' D = some (.lst ys) → RowsH H' ys (rs.map f) → Q (.ref D) H') : tLc (iEither K (tVar j)) (gName k) tYes te vs σ H Q := by
  have step : ∀ D, H D = none → ∀ i x H', xs[i]? = some x → (Same H H' ∧ ∃ ys, H' D = some (.lst ys) ∧ RowsH H' ys ((rs.take i).map f)) → gName k x (wipe σ vs) H' fun σ2 H2 => wipe σ2 vs = wipe σ vs ∧ tYes σ2 H2 fun b H3 =>
      if b = true then te σ2 H3 fun y H4 => ∃ acc, H4 D = some (.lst acc) ∧ acc.length < sizeLine ∧ (Same H (upd H4 D (.lst (acc ++ [y]))) ∧ ∃ ys, (upd H4 D (.lst (acc ++ [y]))) D = some (.lst ys) ∧ RowsH (upd H4 D (.lst (acc ++ [y]))) ys ((rs.take (i + 1)).map f)) else (Same H H3 ∧ ∃ ys, H3 D = some (.lst ys) ∧ RowsH H3 ys ((rs.take (i + 1)).map f)) := by
    intro D hD i x H' hi h
    obtain ⟨s1, ys, hys, hrs⟩ := h
    obtain ⟨r, hri, hrv⟩ := hr.at hi
    have hlen := hrs.len
    refine ⟨hw _, ?_⟩
    unfold tYes
    simp only [if_true]
    refine he i x r H' hri (hrv.ts (Ts.of s1)) s1 _ fun u H2 s2 hu => ⟨ys, s2 _ _ hys, ?_, fun b o e => ?_, _, upd_same, ?_⟩
    · rw [hlen, List.length_map, List.length_take]
      have := hr.len
      exact small1000 (by omega)
    · rw [upd_ne (ne_of_none e hD)]
      exact s2 _ _ (s1 _ _ e)
    · have t1 : Ts H2 (upd H2 D (.lst (ys ++ [u]))) := Ts.lst (s2 _ _ hys)
      rw [List.take_succ, hri, List.map_append]
      exact ((hrs.ts (Ts.of s2)).ts t1).append (.cons (hu.ts t1) .nil)
  have start : ∀ D, H D = none → Same H (upd H D (.lst [])) ∧ ∃ ys, (upd H D (.lst [])) D = some (.lst ys) ∧ RowsH (upd H D (.lst [])) ys ((rs.take 0).map f) := fun D hD => ⟨same_new hD, [], upd_same, .nil⟩
  have fin : ∀ D, H D = none → ∀ H', (Same H H' ∧ ∃ ys, H' D = some (.lst ys) ∧ RowsH H' ys ((rs.take xs.length).map f)) → Q (.ref D) H' := fun D hD H' ⟨s1, ys, h1, h2⟩ => by
    rw [hr.len, List.take_length] at h2
    exact q D ys H' s1 hD h1 h2
  rcases hx with hx | hx
  · exact Or.inl ⟨_, hj, a, rfl, ⟨xs, hx⟩, fun D hD => lc_list (fun i H' => Same H H' ∧ ∃ ys, H' D = some (.lst ys) ∧ RowsH H' ys ((rs.take i).map f)) (start D hD) (fun i H' _ h => h.1.seq hx) (step D hD) (fin D hD)⟩
  · exact Or.inr ⟨_, hj, a, rfl, ⟨xs, hx⟩, fun D hD => lc_tup (fun i H' => Same H H' ∧ ∃ ys, H' D = some (.lst ys) ∧ RowsH H' ys ((rs.take i).map f)) (start D hD) (fun i H' _ h => same_sqT h.1 hx) (step D hD) (fin D hD)⟩
/-! ### all stays but for one object -/
def Bar (x : Addr) (H H' : Hp) : Prop := ∀ b o, b ≠ x → H b = some o → H' b = some o
theorem Bar.refl {x : Addr} : Bar x H H := fun _ _ _ e => e
theorem Bar.of {x : Addr} (s : Same H H') : Bar x H H' := fun b o _ e => s b o e
theorem Bar.upd {x : Addr} {o : HO} : Bar x H (upd H x o) := fun b u n e => by rw [upd_ne n]; exact e
theorem Bar.trans {x : Addr} {H1 : Hp} (s : Bar x H H1) (t : Bar x H1 H') : Bar x H H' := fun b o n e => t b o n (s b o n e)
theorem Bar.ts {x C dx : Addr} {fs : List (Str × V)} (s : Bar x H H') (hx : H x = some (.ins C dx fs)) : Ts H H' := fun b ys e => s b _ (fun z => by rw [z, hx] at e; cases e) e
theorem Bar.sqT {x C dx : Addr} {fs : List (Str × V)} (s : Bar x H H') (hx : H x = some (.ins C dx fs)) (h : SqT K H a xs) : SqT K H' a xs := by
  rcases h with (e | ⟨o, e⟩) | e
  · exact .inl (.inl (s _ _ (fun z => by rw [z, hx] at e; cases e) e))
  · exact .inl (.inr ⟨o, s _ _ (fun z => by rw [z, hx] at e; cases e) e⟩)
  · exact .inr e
theorem Bar.sqL {x C dx : Addr} {fs : List (Str × V)} (s : Bar x H H') (hx : H x = some (.ins C dx fs)) (h : SqL K H a xs) : SqL K H' a xs := by
  rcases h with (e | ⟨o, e⟩) | e
  · exact .inl (.inl (s _ _ (fun z => by rw [z, hx] at e; cases e) e))
  · exact .inl (.inr ⟨o, s _ _ (fun z => by rw [z, hx] at e; cases e) e⟩)
  · exact .inr e
theorem Bar.sqE {x C dx : Addr} {fs : List (Str × V)} (s : Bar x H H') (hx : H x = some (.ins C dx fs)) (h : SqE K H a xs) : SqE K H' a xs := h.imp (s.sqL hx) (s.sqT hx)
theorem sfl {ta tv : TE} {f : Str} {D : Ends} (q : tv σ H fun y H1 => ta σ H1 fun x H2 => ∃ a C dx fs, x = .ref a ∧ H2 a = some (.ins C dx fs) ∧ Cls K C ∧ NoAttr K C f ∧ fs.length < 1000 ∧ D.nx σ (L2.upd H2 a (.ins C dx (putF f y fs)))) : sFld K ta tv f D σ H := q
theorem sfd {ta : TE} {f : Str} {R : VK} (q : ta σ H fun x H1 => ∃ a C dx fs v, x = .ref a ∧ H1 a = some (.ins C dx fs) ∧ Cls K C ∧ NoAttr K C f ∧ fs.lookup f = some v ∧ R v H1) : tFld K ta f σ H R := q
/-- a program in the heap, its numbers reduced -/
def prF (w : Int) (tv tr : Addr) : List (Str × V) := [("width", .int w), ("variables", .ref tv), ("rows", .ref tr)]
def ProgO (K : PySem.W.Frag) (C : Addr) (H : Hp) (p : Addr) (w : Nat) (ns : List Str) (rs : List LRow) : Prop :=
  ∃ dx tv tr vs, H p = some (.ins C dx (prF w tv tr)) ∧ SqT K H tv (ns.map V.str) ∧ SqT K H tr vs ∧ RowsH H vs rs
theorem sqe_seq {ds : List PyData} (h : SqE K H a xs) (hd : DpAll K H xs ds) : ∃ d, Dp K H (.ref a) d ∧ ∀ lo hi : Int, lo ≤ ds.length → (ds.length : Int) ≤ hi → seqD d lo hi = true := by
  rcases h with h | h
  · exact ⟨_, .lst h hd, fun lo hi h1 h2 => by simp [seqD, h1, h2]⟩
  · exact ⟨_, .tup h hd, fun lo hi h1 h2 => by simp [seqD, h1, h2]⟩
theorem dp_strs : ∀ ns : List Str, DpAll K H (ns.map V.str) (ns.map PyData.str)
  | [] => .nil
  | n :: ns => .cons (.str n) (dp_strs ns)
theorem inV_not {x : Str} {ns : List Str} (h : x ∉ ns) : inV (.str x) (ns.map V.str) = false := by
  unfold inV
  rw [List.any_map, List.any_eq_false]
  intro y hy
  show ¬ (y == x) = true
  exact fun z => h (eq_of_beq z ▸ hy)
theorem nodup_take {ns : List Str} {i : Nat} {x : Str} (nd : ns.Nodup) (hx : ns[i]? = some x) : x ∉ ns.take i := fun h => by
  obtain ⟨j, hj⟩ := List.getElem?_of_mem h
  have hlt : j < i := by
    have := (List.getElem?_eq_some_iff.mp hj).1
    rw [List.length_take] at this
    omega
  rw [List.getElem?_take_of_lt hlt] at hj
  have h1 := (List.getElem?_eq_some_iff.mp hj).1
  have := (List.getElem?_inj h1 nd).mp (hj.trans hx.symm)
  omega
end
end Lk

/-! own == and != with either answer -/
namespace LkN
open PySem PySem.Spec PyProof.Rows PySem.SeqAt
section
variable {M : Model} {prog : Program} {w : World} {A : Around} {E : Value → Shared → Prop} {s : Shared} {K : PySem.W.Frag} {x y C f : Addr} {ox oy : Obj} {od oe : Option Obj}
theorem objNe_body (X : K.In s.heap) (I : PySem.W.InstAt s.heap x ox C od) (hs : PySem.W.findIn K (.ref C) "__eq__" = some (some (.ref f))) (hf : PySem.W.isFn K (.ref f) = true) (hu : A.units < cLine) {Q : Fin → Shared → Prop}
    (hcall : wpAny (model prog w) A (call (.ref f) [.ref x, .ref y]) (fun v s' => ∃ b, v = .bool b ∧ Q (.done (.ret (.bool (!b)))) s') E s) :
    wpAny (model prog w) A (Builtin.«object.__ne__» ⟨[.ref x, .ref y], []⟩) Q E s := by
  unfold Builtin.«object.__ne__»
  repeat (first
    | with_reducible refine wpAny_cRoomFor hu ?_
    | (refine wpAny_bind (m := callSpecialIfBound? (.ref x) (Str.ofString "__eq__") [.ref y])
        (PySem.W.ifBound_K X I hs hf (wpAny_mono hcall (fun r s' hr => by
          obtain ⟨b, rfl, hq⟩ := hr
          repeat (first | exact hq | exact wpAny_pure hq | exact wpAny_truthy_bool hq | (refine wpAny_bind (m := truthy (.bool _)) (wpAny_truthy_bool ?_)) | wp_step)) fun _ _ e => e)))
    | wp_step)
theorem call_objNe {Q : Value → Shared → Prop} (X : K.In s.heap) (I : PySem.W.InstAt s.heap x ox C od) (hm : PySem.W.mroIn K C (.type "object") = some true) (hs : PySem.W.findIn K (.ref C) "__eq__" = some (some (.ref f))) (hf : PySem.W.isFn K (.ref f) = true) (hu : A.in1.units < cLine)
    (hcall : wpAny (model prog w) A.in1 (call (.ref f) [.ref x, .ref y]) (fun v s' => ∃ b, v = .bool b ∧ Q (.bool (!b)) s') E s) :
    wpAny (model prog w) A (call (.builtin "object.__ne__") [.ref x, .ref y]) Q E s :=
  wpAny_call (codeAny_call_builtin F.cmp_object.ne.plain F.cmpEntry_ne (PySem.W.check_slot F.cmpKind_ne F.cmpSplit_ne (I.type.andThen (PySem.W.looks_mroIn X hm)) (F.cmpArgs_ne _ _)
    (objNe_body (A := A.in1) X I hs hf hu (wpAny_mono hcall (fun v s' hv => by obtain ⟨b, e, q⟩ := hv; exact ⟨b, e, q⟩) fun _ _ e => e))))
theorem ifBound_objNe {args : List Value} {Q : Option Value → Shared → Prop} (X : K.In s.heap) (I : PySem.W.InstAt s.heap x ox C od) (hs : PySem.W.findIn K (.ref C) "__ne__" = some (some (.builtin "object.__ne__")))
    (h : wpAny M A (call (.builtin "object.__ne__") (.ref x :: args)) (fun v => Q (some v)) E s) : wpAny M A (callSpecialIfBound? (.ref x) "__ne__" args) Q E s := by
  simp only [callSpecialIfBound?, bindSpecialIfBound?]
  refine wpAny_holding (wpAny_bind (wpAny_bind (wpAny_bind (I.type.here ((PySem.W.looks_findIn X hs).here ?_)))))
  refine wpAny_bind (wpAny_askSetting (wpAny_ite ?_))
  have fin : wpAny M A (call (.builtin "object.__ne__") ([.ref x] ++ args) >>= fun v => pure (some v)) Q E s := wpAny_bind (wpAny_mono h (fun v s' h' => wpAny_pure h') fun _ _ h' => h')
  split
  · exact wpAny_bind (wpAny_of_eq (F.cmp_object.ne.bind _) (wpAny_pure (by exact fin)))
  · exact wpAny_tryCatch (wpAny_bind (wpAny_of_eq (F.cmp_object.ne.bind _) (wpAny_pure (by exact fin))))
theorem rc_ne {Q : Value → Shared → Prop} (X : K.In s.heap) (I : PySem.W.InstAt s.heap x ox C od) (J : PySem.W.InstAt s.heap y oy C oe) (hm : PySem.W.mroIn K C (.type "object") = some true) (hs : PySem.W.findIn K (.ref C) "__eq__" = some (some (.ref f))) (hn : PySem.W.findIn K (.ref C) "__ne__" = some (some (.builtin "object.__ne__"))) (hf : PySem.W.isFn K (.ref f) = true) (hu : A.units + 1 < cLine)
    (hcall : wpAny (model prog w) A.in1 (call (.ref f) [.ref x, .ref y]) (fun v s' => ∃ b, v = .bool b ∧ Q (.bool (!b)) s') E s) :
    wpAny (model prog w) A (richCompare .NotEq (.ref x) (.ref y)) Q E s := by
  have one : wpAny (model prog w) A (tryCompare (.ref x) "__ne__" (.ref y)) (fun r s' => ∃ b, r = some (.bool b) ∧ Q (.bool b) s') E s := by
    unfold tryCompare
    refine wpAny_bind (ifBound_objNe X I hn (call_objNe X I hm hs hf hu (wpAny_mono hcall (fun v s' hv => ?_) fun _ _ e => e)))
    obtain ⟨b, rfl, hq⟩ := hv
    refine ⟨b, rfl, ?_⟩
    exact wpAny_pure ⟨!b, rfl, hq⟩
  simp only [richCompare, cmpInfo_NotEq, oneThing_ref]
  refine wpAny_holding (wpAny_bind (wpAny_cRoomFor (Nat.lt_of_succ_lt hu) ?_))
  refine wpAny_bind (I.type.here (wpAny_bind (J.type.here ?_)))
  rw [show (Value.ref C != Value.ref C) = false from by simp]
  simp only [Bool.false_eq_true, if_false]
  refine wpAny_bind (wpAny_pure ?_)
  simp only [Bool.false_eq_true, if_false]
  refine wpAny_bind (wpAny_mono one (fun r s' z => ?_) fun _ _ e => e)
  obtain ⟨b, rfl, hq⟩ := z
  first | exact wpAny_pure hq | exact wpAny_pure (wpAny_pure hq)
end
end LkN

namespace Lk
open PySem PySem.Spec PyProof.Rows L2
section
variable {X : Cx} {CX : CXT} {n : Nat} {C f : Addr} {fd : FuncData} {ps : List Str} {sp : Sp} {E : XK}
/-- the own == , called at A below the body X -/
theorem run_own {A : Around} {pins : List (Addr × Obj)} {σ : L2.St} {H : Hp} {s : Shared} {vs : List V} {us : List Value} {R : VK} (F : FnOk X.prog X.w X.K X.mg X.base CX n f fd ps sp) (hb : Binds X.K fd ps []) (hx : Passes CX X E) (sb : Sub X n A)
    (I : Inv X pins σ H s) (r2 : Vals vs us) (hsp : sp vs H R E) : wpAny (model X.prog X.w) A (call (.ref f) us) (fun r s' => ∃ z H', Inv X pins σ H' s' ∧ RelV z r ∧ R z H') X.xe s := by
  have e0 : Env0 X.prog X.w X.K X.mg X.base A X.stack s H := by
    have e := I.env0
    exact ⟨by rw [sb.fr]; exact e.frames, e.mod, e.bs, e.bsz, e.funs, e.frf, e.hok, e.bare⟩
  have hl := F.len _ _ _ _ hsp
  refine wpAny_call (codeAny_mono (F.run A X.stack s H ⟨us, []⟩ us vs _ E sb.room e0 (by
    have := hb s us I.kIn (by rw [List.append_nil, ← r2.length]; exact hl)
    simpa using this) r2 hsp) fun r s' hq => ?_)
  cases r with
  | error e => exact hx pins σ H s e s' I hq
  | ok fl =>
    cases fl with
    | ret w =>
      obtain ⟨z, H', I', rz, q⟩ := I.after hq
      exact ⟨z, H', I', rz, q⟩
    | next => exact False.elim hq
    | brk => exact False.elim hq
    | cont => exact False.elim hq
theorem run_eq {A : Around} {pins : List (Addr × Obj)} {σ : L2.St} {H : Hp} {s : Shared} {x y : V} {u v : Value} {R : VK} (F : FnOk X.prog X.w X.K X.mg X.base CX n f fd ps sp) (hb : Binds X.K fd ps []) (hx : Passes CX X E) (sb : Sub X n A)
    (I : Inv X pins σ H s) (rx : RelV x u) (ry : RelV y v) (hsp : sp [x, y] H R E) : wpAny (model X.prog X.w) A (call (.ref f) [u, v]) (fun r s' => ∃ z H', Inv X pins σ H' s' ∧ RelV z r ∧ R z H') X.xe s := run_own F hb hx sb I (.cons rx (.cons ry .nil)) hsp
/-- len(x) by the own __len__ -/
def rLenO (C : Addr) (sp : Sp) (E : XK) : List V → Hp → VK → Prop := fun xs H Q => ∃ a dx fs, xs = [.ref a] ∧ H a = some (.ins C dx fs) ∧ sp [.ref a] H (fun z H' => ∃ k : Nat, z = .int (k : Int) ∧ k ≤ 1000 ∧ Q (.int (k : Int)) H') E
theorem call_lenO (F : FnOk X.prog X.w X.K X.mg X.base CX n f fd ps sp) (hs : PySem.W.findIn X.K (.ref C) "__len__" = some (some (.ref f))) (hf : PySem.W.isFn X.K (.ref f) = true) (hb : Binds X.K fd ps []) (hx : Passes CX X E) (hr : Room (n + 1) X.A) : CallR X (.builtin "len") (rLenO C sp E) := by
  intro pins s σ H xs us Q I r h
  obtain ⟨a, dx, fs, rfl, ha, hsp⟩ := h
  obtain ⟨u, rfl, rx⟩ := vals1 r
  cases rx
  obtain ⟨mA, J, _⟩ := ins_get I.hok ha
  obtain ⟨od, J, _⟩ := J.look
  obtain ⟨m, hF⟩ := I.fr
  have sb : Sub X (n + 1) X.A := ⟨hr, rfl⟩
  refine PySem.W.len_K hF I.ok.mod.kin J hs hf (wpAny_mono (run_own F hb hx sb.in1 I (.cons (show RelV (.ref a) (.ref a) from rfl) .nil) hsp) (fun r s' z => ?_) fun _ _ e => e)
  obtain ⟨z, H', I', rz, k, ez, hk, q⟩ := z
  subst ez
  obtain ⟨t, rfl⟩ := rz
  exact ⟨⟨by omega, by omega⟩, .int (k : Int), H', I'.tok _, ⟨_, rfl⟩, q⟩
/-- x[y] by the own __getitem__ -/
def rIxO (C : Addr) (sp : Sp) (E : XK) : R2 := fun x y H Q => ∃ a dx fs, x = .ref a ∧ H a = some (.ins C dx fs) ∧ sp [x, y] H Q E
theorem pe_ixO {a b : Expr} {ta tb : TE} {pos : Pos} (F : FnOk X.prog X.w X.K X.mg X.base CX n f fd ps sp) (hs : PySem.W.findIn X.K (.ref C) "__getitem__" = some (some (.ref f))) (hfn : PySem.W.fnIn X.K f = true) (hf : PySem.W.isFn X.K (.ref f) = true) (hb' : Binds X.K fd ps []) (hx : Passes CX X E) (hr : Room (n + 1) X.A)
    (ha : PE X a ta) (hb : PE X b tb) (hsl : ∀ v u, subscripted b true v u = runValue (.builtin "lifetime.subscript" ⟨[v, u], []⟩) := by intros; with_unfolding_all rfl) : PE X (.Subscript a b pos) (tOp (rIxO C sp E) ta tb) := by
  refine ⟨fun pins s σ H Q I h => ?_⟩
  refine Subscript_ (binT ha hb I h fun v u s2 x y H2 I2 rx ry q => ?_)
  obtain ⟨a', dx, fs, rfl, ha', hsp⟩ := q
  cases rx
  obtain ⟨mA, J, _⟩ := ins_get I2.hok ha'
  obtain ⟨od, J, _⟩ := J.look
  obtain ⟨m, hF⟩ := I2.fr
  have sb : Sub X (n + 1) X.A := ⟨hr, rfl⟩
  exact PySem.W.sub_K hF I2.ok.mod.kin J hs hfn hf (wpAny_mono (run_own F hb' hx sb.in1 I2 (.cons (show RelV (.ref a') (.ref a') from rfl) (.cons ry .nil)) hsp) (fun r s' z => by
    obtain ⟨z, H', I', rz, q⟩ := z
    exact ⟨z, H', I', rz, q⟩) fun _ _ e => e) (hsl _ _)
/-- x == y by the own __eq__ of x's class; y an instance of the same class, or a tuple -/
def rEqO (K : PySem.W.Frag) (C : Addr) (sp : Sp) (E : XK) : R2 := fun x y H Q => ∃ a dx fs, x = .ref a ∧ H a = some (.ins C dx fs) ∧ ((∃ b dy gs, y = .ref b ∧ H b = some (.ins C dy gs)) ∨ ∃ b xs, y = .ref b ∧ H b = some (.tup xs)) ∧
  sp [x, y] H (fun z H' => ∃ b, z = .bl b ∧ Q (.bl b) H') E
def rNeO (C : Addr) (sp : Sp) (E : XK) : R2 := fun x y H Q => ∃ a dx fs b dy gs, x = .ref a ∧ H a = some (.ins C dx fs) ∧ y = .ref b ∧ H b = some (.ins C dy gs) ∧
  sp [x, y] H (fun z H' => ∃ k, z = .bl k ∧ Q (.bl (!k)) H') E
theorem op_eqO (F : FnOk X.prog X.w X.K X.mg X.base CX n f fd ps sp) (hs : PySem.W.findIn X.K (.ref C) "__eq__" = some (some (.ref f))) (hf : PySem.W.isFn X.K (.ref f) = true) (hb : Binds X.K fd ps []) (hx : Passes CX X E)
    (hn : PySem.W.notFirst X.K C (.type "tuple") = true) (hr : Room n X.A) : OpR X (compareOp .Eq) (rEqO X.K C sp E) := by
  intro pins s σ H x y v u Q I rx ry hq
  obtain ⟨a, dx, fs, rfl, ha, hy, hsp⟩ := hq
  show wpAny (model X.prog X.w) X.A (richCompare .Eq v u) (EP X pins σ Q) X.xe s
  cases rx
  obtain ⟨mA, J, _⟩ := ins_get I.hok ha
  obtain ⟨od, J, _⟩ := J.look
  obtain ⟨m, hF⟩ := I.fr
  have hu := hr.units0
  have back : wpAny (model X.prog X.w) X.A (call (.ref f) [.ref a, u]) (PySem.W.CmpBack (EP X pins σ Q)) X.xe s := wpAny_mono (run_eq (x := .ref a) F hb hx ⟨hr, rfl⟩ I (show RelV (.ref a) (.ref a) from rfl) ry hsp) (fun r s' z => by
    obtain ⟨z, H', I', rz, b, ez, q⟩ := z
    subst ez
    cases rz
    exact ⟨.bl b, H', I', rfl, q⟩) fun _ _ e => e
  rcases hy with ⟨b, dy, gs, rfl, hb'⟩ | ⟨b, xs, rfl, hb'⟩
  · cases ry
    obtain ⟨mB, J', _⟩ := ins_get I.hok hb'
    obtain ⟨od', J', _⟩ := J'.look
    exact PySem.W.cmp_K (op := .Eq) (tb := .ref C) hu hF I.ok.mod.kin J J'.type (by simp [PySem.W.notFirst]) hs hf back
  · cases ry
    obtain ⟨_, _, _, o, h1, h2, _⟩ := (show ObjOk X.prog X.w H s.heap b (.tup xs) from I.hok b _ hb')
    exact PySem.W.cmp_K (op := .Eq) (tb := .type "tuple") hu hF I.ok.mod.kin J (fun A Q E s k q => wpAny_typeOf_ref (k _ _ h1) (by rw [h2]; exact q)) hn hs hf back
theorem op_neO (F : FnOk X.prog X.w X.K X.mg X.base CX n f fd ps sp) (hs : PySem.W.findIn X.K (.ref C) "__eq__" = some (some (.ref f))) (hne : PySem.W.findIn X.K (.ref C) "__ne__" = some (some (.builtin "object.__ne__"))) (hm : PySem.W.mroIn X.K C (.type "object") = some true)
    (hf : PySem.W.isFn X.K (.ref f) = true) (hb : Binds X.K fd ps []) (hx : Passes CX X E) (hr : Room (n + 1) X.A) : OpR X (compareOp .NotEq) (rNeO C sp E) := by
  intro pins s σ H x y v u Q I rx ry hq
  obtain ⟨a, dx, fs, b, dy, gs, rfl, ha, rfl, hb', hsp⟩ := hq
  cases rx
  cases ry
  show wpAny (model X.prog X.w) X.A (richCompare .NotEq (.ref a) (.ref b)) (EP X pins σ Q) X.xe s
  obtain ⟨mA, J, _⟩ := ins_get I.hok ha
  obtain ⟨od, J, _⟩ := J.look
  obtain ⟨mB, J', _⟩ := ins_get I.hok hb'
  obtain ⟨od', J', _⟩ := J'.look
  have sb : Sub X (n + 1) X.A := ⟨hr, rfl⟩
  refine LkN.rc_ne I.kIn J J' hm hs hne hf sb.in1.room.units0 (wpAny_mono (run_eq (x := .ref a) (y := .ref b) F hb hx sb.in1 I (show RelV (.ref a) (.ref a) from rfl) (show RelV (.ref b) (.ref b) from rfl) hsp) (fun r s' z => ?_) fun _ _ e => e)
  obtain ⟨z, H', I', rz, k, ez, q⟩ := z
  subst ez
  cases rz
  exact ⟨k, rfl, .bl (!k), H', I', rfl, q⟩
end
end Lk

namespace Lk
open PySem PySem.Spec PyProof.Rows L2
/-! ### what may be compared -/
theorem cl_map {α : Type} {f : α → PyData} : ∀ {xs : List α}, (∀ x ∈ xs, (f x).canLay0 = true) → PyData.canLayAll0 (xs.map f) = true
  | [], _ => by simp [PyData.canLayAll0]
  | x :: xs, h => by
    rw [List.map_cons, PyData.canLayAll0, h x (List.mem_cons_self ..), cl_map fun y hy => h y (List.mem_cons_of_mem _ hy)]
    rfl
theorem dep_map {α : Type} {f : α → PyData} {n : Nat} : ∀ {xs : List α}, (∀ x ∈ xs, (f x).depth ≤ n) → PyData.depthAll (xs.map f) ≤ n
  | [], _ => by simp [PyData.depthAll]
  | x :: xs, h => by
    rw [List.map_cons, PyData.depthAll]
    have h1 := h x (List.mem_cons_self ..)
    have h2 := dep_map (xs := xs) fun y hy => h y (List.mem_cons_of_mem _ hy)
    omega
theorem nameS_str {x : Str} (h : nameS x = true) : (PyData.str x).canLay0 = true := by
  unfold nameS at h
  rw [Bool.and_eq_true] at h
  have h3 := List.all_eq_true.mp h.2
  rw [PyData.canLay0]
  unfold PyData.strOk
  rw [← Array.all_toList]
  refine List.all_eq_true.mpr fun c hc => ?_
  have := h3 c hc
  unfold letD at this
  rw [Bool.and_eq_true] at this
  have := of_decide_eq_true this.2
  exact decide_eq_true (by omega)
theorem ints_cl (xs : List Int) : (intsD xs).canLay0 = true := by
  unfold intsD
  rw [PyData.canLay0]
  exact cl_map fun _ _ => by rw [PyData.canLay0]
theorem ints_dep (xs : List Int) : (intsD xs).depth ≤ 1 := by
  unfold intsD
  rw [PyData.depth]
  have := dep_map (f := PyData.int) (n := 0) (xs := xs) fun _ _ => by simp [PyData.depth]
  omega
/-- the row's name is a name -/
def RowNm : LRow → Prop
  | .set n _ _ => nameS n = true
  | .ask n _ => nameS n = true
  | _ => True
theorem rowNm_of {ns : List Str} {m : Int} {r : LRow} (h : RowOk ns m r) (hn : ∀ x ∈ ns, nameS x = true) : RowNm r := by
  cases r with
  | set n f k => exact hn n h.1
  | ask n k => exact hn n h.1
  | _ => trivial
theorem rowNm_low {k : Nat} {r : LRow} (h : RowNm r) : RowNm (r.low k) := by
  cases r <;> exact h
theorem row_cl {r : LRow} (h : RowNm r) : r.d.canLay0 = true := by
  cases r with
  | set n f k =>
    have h1 := nameS_str h
    have h2 := ints_cl f
    have h3 : (PyData.str "set").canLay0 = true := by decide +kernel
    simp [LRow.d, PyData.canLay0, PyData.canLayAll0] at h1 h2 h3 ⊢
    exact ⟨h3, h1, h2⟩
  | say f k =>
    have h2 := ints_cl f
    have h3 : (PyData.str "say").canLay0 = true := by decide +kernel
    simp [LRow.d, PyData.canLay0, PyData.canLayAll0] at h2 h3 ⊢
    exact ⟨h3, h2⟩
  | ask n k =>
    have h1 := nameS_str h
    have h3 : (PyData.str "ask").canLay0 = true := by decide +kernel
    simp [LRow.d, PyData.canLay0, PyData.canLayAll0] at h1 h3 ⊢
    exact ⟨h3, h1⟩
  | choose ks =>
    have h2 := ints_cl ks
    have h3 : (PyData.str "choose").canLay0 = true := by decide +kernel
    simp [LRow.d, PyData.canLay0, PyData.canLayAll0] at h2 h3 ⊢
    exact ⟨h3, h2⟩
  | look k =>
    have h3 : (PyData.str "look").canLay0 = true := by decide +kernel
    simp [LRow.d, PyData.canLay0, PyData.canLayAll0] at h3 ⊢
    exact h3
  | stop => decide +kernel
theorem row_dep (r : LRow) : r.d.depth ≤ 2 := by
  cases r with
  | set n f k => have := ints_dep f; simp only [LRow.d, PyData.depth, PyData.depthAll]; omega
  | say f k => have := ints_dep f; simp only [LRow.d, PyData.depth, PyData.depthAll]; omega
  | ask n k => simp [LRow.d, PyData.depth, PyData.depthAll]
  | choose ks => have := ints_dep ks; simp only [LRow.d, PyData.depth, PyData.depthAll]; omega
  | look k => simp [LRow.d, PyData.depth, PyData.depthAll]
  | stop => simp [LRow.d, PyData.depth, PyData.depthAll]
def rowsD (rs : List LRow) : PyData := .tuple (rs.map LRow.d)
def namesD (ns : List Str) : PyData := .tuple (ns.map PyData.str)
theorem shaped_rows {rs : List LRow} (h : ∀ r ∈ rs, RowNm r) : SeqAt.shaped (rowsD rs) = true := by
  unfold SeqAt.shaped rowsD
  rw [PyData.canLay0, cl_map fun r hr => row_cl (h r hr), PyData.depth]
  have := dep_map (f := LRow.d) (n := 2) (xs := rs) fun r _ => row_dep r
  exact decide_eq_true (by omega)
theorem shaped_rowsL {rs : List LRow} (h : ∀ r ∈ rs, RowNm r) : SeqAt.shaped (.list (rs.map LRow.d)) = true := by
  unfold SeqAt.shaped
  rw [PyData.canLay0, cl_map fun r hr => row_cl (h r hr), PyData.depth]
  have := dep_map (f := LRow.d) (n := 2) (xs := rs) fun r _ => row_dep r
  exact decide_eq_true (by omega)
theorem shaped_row {r : LRow} (h : RowNm r) : SeqAt.shaped r.d = true := by
  unfold SeqAt.shaped
  rw [row_cl h]
  have := row_dep r
  exact decide_eq_true (by omega)
theorem shaped_names {ns : List Str} (h : ∀ x ∈ ns, nameS x = true) : SeqAt.shaped (namesD ns) = true := by
  unfold SeqAt.shaped namesD
  rw [PyData.canLay0, cl_map fun r hr => nameS_str (h r hr), PyData.depth]
  have := dep_map (f := PyData.str) (n := 0) (xs := ns) fun r _ => by simp [PyData.depth]
  exact decide_eq_true (by omega)
/-- whether two programs are equal -/
def prEq (k : Nat) (ns : List Str) (rs : List LRow) (k2 : Nat) (ns2 : List Str) (rs2 : List LRow) : Bool := decide (k = k2) && PyData.eqv (namesD ns) (namesD ns2) && PyData.eqv (rowsD rs) (rowsD rs2)
end Lk

namespace Lk
open PySem PySem.Spec PyProof.Rows L2
/-! ### the well of a law: a list of three numbers; all else stays -/
def Wl (H : Hp) (p : Addr) : Prop := ∃ a b c : Int, H p = some (.lst [.int a, .int b, .int c])
def Wk (p : Addr) (H H' : Hp) : Prop := Bar p H H' ∧ Wl H' p
section
variable {K : PySem.W.Frag} {H H1 H2 : Hp} {p a : Addr} {xs : List V}
theorem Wl.same (w : Wl H p) (s : Same H H1) : Wl H1 p := by
  obtain ⟨a, b, c, h⟩ := w
  exact ⟨a, b, c, s _ _ h⟩
theorem Wk.refl (w : Wl H p) : Wk p H H := ⟨Bar.refl, w⟩
theorem Wk.of (w : Wl H p) (s : Same H H1) : Wk p H H1 := ⟨Bar.of s, w.same s⟩
theorem Wk.trans (s : Wk p H H1) (t : Wk p H1 H2) : Wk p H H2 := ⟨s.1.trans t.1, t.2⟩
theorem Wk.st (s : Wk p H H1) (t : Same H1 H2) : Wk p H H2 := s.trans (Wk.of s.2 t)
theorem Wk.at {b : Addr} {o : HO} (s : Wk p H H1) (n : b ≠ p) (h : H b = some o) : H1 b = some o := s.1 b o n h
theorem Wk.upd {x y z : Int} : Wk p H (upd H p (.lst [.int x, .int y, .int z])) := ⟨Bar.upd, x, y, z, upd_same⟩
theorem Wk.ts (w : Wl H p) (s : Wk p H H1) : Ts H H1 := by
  obtain ⟨x, y, z, h⟩ := w
  exact fun b ys e => s.1 b _ (fun q => by rw [q, h] at e; cases e) e
theorem Wk.none {q : Addr} (w : Wl H p) (s : Wk p H H1) (h : H1 q = none) : H q = none := by
  cases e : H q with
  | none => rfl
  | some o =>
    exfalso
    by_cases n : q = p
    · obtain ⟨x, y, z, hw⟩ := s.2
      rw [n, hw] at h
      cases h
    · rw [s.1 q o n e] at h
      cases h
theorem Wk.sqT (w : Wl H p) (s : Wk p H H1) (h : SqT K H a xs) : SqT K H1 a xs := by
  obtain ⟨x, y, z, hw⟩ := w
  rcases h with (e | ⟨o, e⟩) | e
  · exact .inl (.inl (s.1 _ _ (fun q => by rw [q, hw] at e; cases e) e))
  · exact .inl (.inr ⟨o, s.1 _ _ (fun q => by rw [q, hw] at e; cases e) e⟩)
  · exact .inr e
theorem Wk.updD {q : Addr} {o : HO} (s : Wk p H H1) (hq : H q = Option.none) (n : q ≠ p) : Wk p H (L2.upd H1 q o) := by
  refine ⟨fun b u m e => ?_, ?_⟩
  · rw [upd_ne (ne_of_none e hq)]
    exact s.1 b u m e
  · obtain ⟨x, y, z, h⟩ := s.2
    exact ⟨x, y, z, by rw [upd_ne (Ne.symm n)]; exact h⟩
theorem ne_well {q : Addr} {o : HO} (w : Wl H p) (h : H q = some o) (n : ∀ x y z : Int, o ≠ .lst [.int x, .int y, .int z]) : q ≠ p := fun e => by
  obtain ⟨x, y, z, hw⟩ := w
  rw [e, hw] at h
  exact n x y z (Option.some.inj h).symm
theorem ne_new {q : Addr} (w : Wl H p) (h : H q = none) : q ≠ p := fun e => by
  obtain ⟨x, y, z, hw⟩ := w
  rw [e, hw] at h
  cases h
theorem mul01 {r : Int} {k : Nat} (c : Bool) (h0 : 0 ≤ r) (h1 : r < 2 ^ k) : 0 ≤ r * (if c = true then 1 else 0) ∧ r * (if c = true then 1 else 0) < 2 ^ k := by
  cases c with
  | true => simpa using ⟨h0, h1⟩
  | false =>
    have p0 : (0 : Int) < 2 ^ k := Int.pow_pos (by decide)
    simpa using p0
theorem cmul01 {r : Int} (c : Bool) : CMul r (if c = true then 1 else 0) := by
  refine .inr ?_
  cases c <;> exact ⟨by decide, by decide⟩
theorem lt31 {r : Int} (h0 : 0 ≤ r) (h : r < 2 ^ (31 : Int).toNat) : r.natAbs < 2 ^ 40 := by
  have e : ((2 : Int) ^ (31 : Int).toNat) = 2147483648 := by decide
  rw [e] at h
  exact Nat.lt_of_lt_of_le (show r.natAbs < 2147483648 by omega) (by decide)
theorem spr {i j : Nat} {ta : TA} {D : Ends} {σ : L2.St} (q : ta σ H fun vs H' => ∃ x y, vs = [x, y] ∧ D.nx ((σ.set i (some x)).set j (some y)) H') : tPar i j ta D σ H := q
theorem sbm {T : String} {r : V → List V → Hp → VK → Prop} {to : TE} {t : TA} {σ : L2.St} {Q : VK} (q : to σ H fun x H1 => tyV K T x H1 ∧ t σ H1 fun xs H2 => r x xs H2 Q) : tBM K T r to t σ H Q := q
end
end Lk

namespace L2
open PySem PySem.Spec PyProof.Rows MeetsSeq MeetsSeq2 MeetsSeq3 SeqRoads2
open AutoSeq1 (wpAny_loadPart')
theorem tuple_mul1 (l : Addr) (items : Array Value) (n : Nat) (dd : Option Addr) (sl : Array (Option Value)) (x : Int) (u : Tok) (c0 : (decide (x < -(2 ^ 63)) || decide (x ≥ 2 ^ 63)) = false) (c1 : (items.isEmpty || x == 1) = true) :
    Meets (Builtin.«tuple.__mul__» ⟨[.ref l, .int x u], []⟩) (fun _ R s => s.heap.get? l = some { cls := .type "tuple", dict := dd, data := .seq items n, slots := sl } ∧ R (.ok (.ret (Value.ref l))) s) :=
  .of_wp fun prog w A R s h => by
    obtain ⟨hp, g, d, tk, os⟩ := s
    obtain ⟨hl, h⟩ := h
    have f1 := AutoSeq1.idx_int
    wp_walk using wpAny_loadPart' hl
    repeat (first
      | (refine wpAny_ite_false (decide_eq_false (by rw [c0]; exact Bool.false_ne_true)) ?_; wp_walk using wpAny_loadPart' hl)
      | (refine wpAny_ite_true (decide_eq_true c1) ?_; wp_walk using wpAny_loadPart' hl))
    exact ⟨_, rfl, h⟩
/-- t * k, k at least 1; t * 1 is t itself -/
def rRepN (K : PySem.W.Frag) : R2 := fun x y H Q => ∃ l k xs, x = .ref l ∧ y = .int k ∧ SqT K H l xs ∧ xs ≠ [] ∧ 1 ≤ k ∧ k ≤ 1000 ∧ xs.length ≤ 1000 ∧ (k = 1 → Q (.ref l) H) ∧ (2 ≤ k → ∀ p, H p = none → Q (.ref p) (upd H p (.tup (List.replicate k.toNat xs).flatten)))
theorem op_repN {X : Cx} : OpR X (binaryOp .Mult) (rRepN X.K) := by
  intro pins s σ H x y v u Q I rx ry h
  obtain ⟨l, k, xs, rfl, rfl, hT, hne, h1, h2, hz, q1, q2⟩ := h
  by_cases hk : k = 1
  · subst hk
    cases rx
    obtain ⟨t, rfl⟩ := ry
    obtain ⟨its, r, ⟨⟨cls, dd, data, sl⟩, ho, hc, n, hd⟩, hs⟩ := I.tuple hT
    simp only at hc hd
    subst hc hd
    have c0 : (decide ((1 : Int) < -(2 ^ 63)) || decide ((1 : Int) ≥ 2 ^ 63)) = false := by decide
    have c1 : (its.toArray.isEmpty || (1 : Int) == 1) = true := by
      rw [show ((1 : Int) == 1) = true from rfl, Bool.or_true]
    exact wpAny_binaryOp_repeat_ref (T := "tuple") (U := "int") (by decide) ⟨_, ho, rfl⟩ (fun s' => typeIs_int s' 1 t) noFill_tuple_mul F.fills_int_mul F.slot_int_rmul repeat_tuple F.slot_int_index.lookup
      (call_meets F.slot_int_rmul (typeIs_int s 1 t) F.entry_int_rmul (F.args_int_rmul_2 _ _) (int_rmul_tuple 1 t l its.toArray n dd sl)
        ⟨ho, rfl, ⟨_, ho, rfl⟩, call_meets F.slot_tuple_mul ⟨_, ho, rfl⟩ F.entry_tuple_mul (F.args_tuple_mul_2 _ _) (tuple_mul1 l its.toArray n dd sl 1 t c0 c1) ⟨ho, .ref l, H, I, rfl, q1 rfl⟩⟩)
  · exact op_repT pins s σ H _ _ v u Q I rx ry ⟨l, k, xs, rfl, rfl, hT, hne, by omega, h2, hz, q2 (by omega)⟩
end L2
namespace Lk
open PySem PySem.Spec PyProof.Rows L2
theorem sifx {tc : TT} {ta tb : TE} {σ : L2.St} {H : Hp} {Q : VK} (q : tc σ H fun c H1 => if c = true then ta σ H1 Q else tb σ H1 Q) : tIf tc ta tb σ H Q := q
theorem flat_rep {α : Type} (x : α) : ∀ n : Nat, (List.replicate n [x]).flatten = List.replicate n x
  | 0 => rfl
  | n + 1 => by rw [List.replicate_succ, List.flatten_cons, flat_rep x n, List.replicate_succ]; rfl
theorem one_lt_pow {k : Nat} (h : 1 ≤ k) : (1 : Int) < 2 ^ k := by
  obtain ⟨j, rfl⟩ : ∃ j, k = j + 1 := ⟨k - 1, by omega⟩
  have p0 : (0 : Int) < 2 ^ j := Int.pow_pos (by decide)
  rw [Int.pow_succ]
  omega
theorem s_repN {K : PySem.W.Frag} {H : Hp} {l : Addr} {x : V} {n : Nat} {Q : VK} (h : SqT K H l [x]) (h1 : 1 ≤ n) (h2 : n ≤ 1000) (q : ∀ p H', Same H H' → SqT K H' p (List.replicate n x) → Q (.ref p) H') : rRepN K (.ref l) (.int (n : Int)) H Q := by
  refine ⟨l, n, [x], rfl, rfl, h, by simp, by omega, by omega, by simp, fun e => ?_, fun _ p hp => ?_⟩
  · have e1 : n = 1 := by omega
    subst e1
    exact q l H (Same.refl H) h
  · refine q p _ (same_new hp) (SqT.of ?_)
    rw [upd_same, Int.toNat_natCast, flat_rep]
theorem s_catA {K : PySem.W.Frag} {H : Hp} {a b : Addr} {xs ys : List V} {Q : VK} (h : SqT K H a xs) (h' : SqT K H b ys) (hx : xs ≠ []) (hy : ys ≠ []) (hl : xs.length + ys.length ≤ 1000) (q : ∀ p, H p = none → Q (.ref p) (upd H p (.tup (xs ++ ys)))) : rCatA K (.ref a) (.ref b) H Q :=
  ⟨a, b, xs, ys, rfl, rfl, h, h', Nat.le_of_lt (small1000 hl), fun e => absurd e hx, fun _ e => absurd e hy, fun _ _ => q⟩
end Lk

namespace Lk
open PySem PySem.Spec PyProof.Rows L2
mutual
def nbD : PyData → Bool
  | .none | .int _ | .str _ => true
  | .list xs | .tuple xs => nbAll xs
  | .bool _ | .dict _ => false
def nbAll : List PyData → Bool
  | [] => true
  | x :: xs => nbD x && nbAll xs
end
mutual
theorem eqv_eq : ∀ d e : PyData, nbD d = true → nbD e = true → PyData.eqv d e = true → d = e
  | .none, .none, _, _, _ => rfl
  | .int i, .int j, _, _, h => by
    rw [PyData.eqv] at h
    rw [eq_of_beq h]
  | .str x, .str y, _, _, h => by
    rw [PyData.eqv] at h
    rw [eq_of_beq h]
  | .list xs, .list ys, h1, h2, h => by
    rw [PyData.eqv] at h
    rw [nbD] at h1 h2
    rw [eqvAll_eq xs ys h1 h2 h]
  | .tuple xs, .tuple ys, h1, h2, h => by
    rw [PyData.eqv] at h
    rw [nbD] at h1 h2
    rw [eqvAll_eq xs ys h1 h2 h]
  | .bool _, _, h1, _, _ => by rw [nbD] at h1; cases h1
  | .dict _, _, h1, _, _ => by rw [nbD] at h1; cases h1
  | _, .bool _, _, h1, _ => by rw [nbD] at h1; cases h1
  | _, .dict _, _, h1, _ => by rw [nbD] at h1; cases h1
  | .none, .int _, _, _, h | .none, .str _, _, _, h | .none, .list _, _, _, h | .none, .tuple _, _, _, h => by rw [PyData.eqv] at h; cases h
  | .int _, .none, _, _, h | .int _, .str _, _, _, h | .int _, .list _, _, _, h | .int _, .tuple _, _, _, h => by rw [PyData.eqv] at h; cases h
  | .str _, .none, _, _, h | .str _, .int _, _, _, h | .str _, .list _, _, _, h | .str _, .tuple _, _, _, h => by rw [PyData.eqv] at h; cases h
  | .list _, .none, _, _, h | .list _, .int _, _, _, h | .list _, .str _, _, _, h | .list _, .tuple _, _, _, h => by rw [PyData.eqv] at h; cases h
  | .tuple _, .none, _, _, h | .tuple _, .int _, _, _, h | .tuple _, .str _, _, _, h | .tuple _, .list _, _, _, h => by rw [PyData.eqv] at h; cases h
theorem eqvAll_eq : ∀ xs ys : List PyData, nbAll xs = true → nbAll ys = true → PyData.eqvAll xs ys = true → xs = ys
  | [], [], _, _, _ => rfl
  | x :: xs, y :: ys, h1, h2, h => by
    rw [PyData.eqvAll, Bool.and_eq_true] at h
    rw [nbAll, Bool.and_eq_true] at h1 h2
    rw [eqv_eq x y h1.1 h2.1 h.1, eqvAll_eq xs ys h1.2 h2.2 h.2]
  | [], _ :: _, _, _, h => by rw [PyData.eqvAll] at h; cases h
  | _ :: _, [], _, _, h => by rw [PyData.eqvAll] at h; cases h
end
theorem nb_map {α : Type} {f : α → PyData} (h : ∀ x, nbD (f x) = true) : ∀ xs : List α, nbAll (xs.map f) = true
  | [] => by simp [nbAll]
  | x :: xs => by
    rw [List.map_cons, nbAll, h x, nb_map h xs]
    rfl
theorem nb_ints (f : List Int) : nbD (intsD f) = true := by
  unfold intsD
  rw [nbD]
  exact nb_map (fun _ => by rw [nbD]) f
theorem nb_row (r : LRow) : nbD r.d = true := by
  cases r with
  | set n f k => have := nb_ints f; simp [LRow.d, nbD, nbAll, this]
  | say f k => have := nb_ints f; simp [LRow.d, nbD, nbAll, this]
  | choose ks => have := nb_ints ks; simp [LRow.d, nbD, nbAll, this]
  | _ => simp [LRow.d, nbD, nbAll]
theorem intsD_inj {f g : List Int} (h : intsD f = intsD g) : f = g := by
  unfold intsD at h
  have h1 := PyData.tuple.inj h
  exact (List.map_inj_right (fun _ _ e => PyData.int.inj e)).mp h1
def LRow.kind : LRow → Str
  | .set .. => "set"
  | .say .. => "say"
  | .ask .. => "ask"
  | .choose .. => "choose"
  | .look .. => "look"
  | .stop => "stop"
theorem kind_of {r s : LRow} (h : r.d = s.d) : r.kind = s.kind := by
  have e : ∀ r : LRow, ∃ l, r.d = .tuple (.str r.kind :: l) := fun r => by cases r <;> exact ⟨_, rfl⟩
  obtain ⟨l, hl⟩ := e r
  obtain ⟨m, hm⟩ := e s
  rw [hl, hm] at h
  have h1 := PyData.tuple.inj h
  injection h1 with h2 _
  exact PyData.str.inj h2
theorem row_inj {r s : LRow} (h : r.d = s.d) : r = s := by
  have hk := kind_of h
  cases r with
  | set n f k =>
    cases s with
    | set n' f' k' =>
      have h1 := PyData.tuple.inj h
      injection h1 with _ h1
      injection h1 with h2 h1
      injection h1 with h3 h1
      injection h1 with h4 _
      rw [PyData.str.inj h2, intsD_inj h3, PyData.int.inj h4]
    | _ => exact absurd hk (by simp only [LRow.kind]; decide +kernel)
  | say f k =>
    cases s with
    | say f' k' =>
      have h1 := PyData.tuple.inj h
      injection h1 with _ h1
      injection h1 with h3 h1
      injection h1 with h4 _
      rw [intsD_inj h3, PyData.int.inj h4]
    | _ => exact absurd hk (by simp only [LRow.kind]; decide +kernel)
  | ask n k =>
    cases s with
    | ask n' k' =>
      have h1 := PyData.tuple.inj h
      injection h1 with _ h1
      injection h1 with h2 h1
      injection h1 with h4 _
      rw [PyData.str.inj h2, PyData.int.inj h4]
    | _ => exact absurd hk (by simp only [LRow.kind]; decide +kernel)
  | choose ks =>
    cases s with
    | choose ks' =>
      have h1 := PyData.tuple.inj h
      injection h1 with _ h1
      injection h1 with h3 _
      rw [intsD_inj h3]
    | _ => exact absurd hk (by simp only [LRow.kind]; decide +kernel)
  | look k =>
    cases s with
    | look k' =>
      have h1 := PyData.tuple.inj h
      injection h1 with _ h1
      injection h1 with h4 _
      rw [PyData.int.inj h4]
    | _ => exact absurd hk (by simp only [LRow.kind]; decide +kernel)
  | stop =>
    cases s with
    | stop => rfl
    | _ => exact absurd hk (by simp only [LRow.kind]; decide +kernel)
theorem rows_eqv {rs qs : List LRow} (h : PyData.eqv (rowsD rs) (rowsD qs) = true) : rs = qs := by
  have e := eqv_eq _ _ (by unfold rowsD; rw [nbD]; exact nb_map nb_row rs) (by unfold rowsD; rw [nbD]; exact nb_map nb_row qs) h
  unfold rowsD at e
  exact (List.map_inj_right (fun _ _ e => row_inj e)).mp (PyData.tuple.inj e)
theorem names_eqv {ns ms : List Str} (h : PyData.eqv (namesD ns) (namesD ms) = true) : ns = ms := by
  have e := eqv_eq _ _ (by unfold namesD; rw [nbD]; exact nb_map (fun _ => by rw [nbD]) ns) (by unfold namesD; rw [nbD]; exact nb_map (fun _ => by rw [nbD]) ms) h
  unfold namesD at e
  exact (List.map_inj_right (fun _ _ e => PyData.str.inj e)).mp (PyData.tuple.inj e)
theorem row_eqv {r s : LRow} (h : PyData.eqv r.d s.d = true) : r = s := row_inj (eqv_eq _ _ (nb_row r) (nb_row s) h)
theorem prEq_iff {k : Nat} {ns : List Str} {rs : List LRow} {k2 : Nat} {ns2 : List Str} {rs2 : List LRow} (h : prEq k ns rs k2 ns2 rs2 = true) : k = k2 ∧ ns = ns2 ∧ rs = rs2 := by
  unfold prEq at h
  rw [Bool.and_eq_true, Bool.and_eq_true] at h
  exact ⟨of_decide_eq_true h.1.1, names_eqv h.1.2, rows_eqv h.2⟩
theorem names_refl {ns : List Str} (hn : ∀ n ∈ ns, nameS n = true) : PyData.eqv (namesD ns) (namesD ns) = true := SeqAt.eqv_refl _ (SeqAt.canLay_of_shaped (shaped_names hn))
theorem rows_refl {rs : List LRow} (h : ∀ r ∈ rs, RowNm r) : PyData.eqv (rowsD rs) (rowsD rs) = true := SeqAt.eqv_refl _ (SeqAt.canLay_of_shaped (shaped_rows h))
theorem prEq_refl {k : Nat} {ns : List Str} {rs : List LRow} (hn : ∀ n ∈ ns, nameS n = true) (h : ∀ r ∈ rs, RowNm r) : prEq k ns rs k ns rs = true := by
  unfold prEq
  rw [decide_eq_true rfl, names_refl hn, rows_refl h]
  rfl
section
variable {K : PySem.W.Frag} {H : Hp} {b : Addr} {xs : List V} {x : V} {Q : VK}
/-- t[:-1] -/
theorem s_butlast (hb : SqT K H b (xs ++ [x])) (q : ∀ p, H p = none → Q (.ref p) (upd H p (.tup xs))) : rSlA K (.ref b) none (some (-1)) H Q := by
  have hl : (xs ++ [x]).length = xs.length + 1 := by rw [List.length_append]; rfl
  have e1 : HT.sIx (xs ++ [x]).length (xs ++ [x]).length (some (-1)) = xs.length := by
    show (if (-1 : Int) < 0 then ((-1 : Int) + ((xs ++ [x]).length : Int)).toNat else min (-1 : Int).toNat (xs ++ [x]).length) = _
    rw [if_pos (by decide), hl]
    omega
  have e0 : HT.sIx (xs ++ [x]).length 0 none = 0 := rfl
  refine ⟨b, xs ++ [x], rfl, hb, fun z => ?_, fun _ p hp => ?_⟩
  · have := z.2
    rw [e1, hl] at this
    omega
  · have e2 : cutV (xs ++ [x]) none (some (-1)) = xs := by
      unfold cutV
      rw [e0, e1]
      simp
    rw [e2]
    exact q p hp
theorem atI_last {α : Type} {xs : List α} {x : α} : atI (xs ++ [x]) (-1) = some x := by
  unfold atI ixN
  have hl : (xs ++ [x]).length = xs.length + 1 := by rw [List.length_append]; rfl
  rw [if_neg (by decide), hl, if_pos (by omega)]
  have e : ((-1 : Int) + ((xs.length + 1 : Nat) : Int)).toNat = xs.length := by omega
  show (xs ++ [x])[((-1 : Int) + ((xs.length + 1 : Nat) : Int)).toNat]? = some x
  rw [e]
  simp
end
theorem bump {z : Int} {k : Nat} (k1 : 1 ≤ k) (h0 : 0 ≤ z) (h1 : z < 2 ^ k) : (z + 1) % 2 ^ k ≠ z := fun h => by
  have p1 := one_lt_pow k1
  by_cases e : z + 1 < 2 ^ k
  · rw [Int.emod_eq_of_lt (by omega) e] at h
    omega
  · have e2 : z + 1 = 2 ^ k := by omega
    rw [e2, Int.emod_self] at h
    omega
end Lk

namespace Lk
open PySem PySem.Spec PyProof.Rows L2
section
variable {K : PySem.W.Frag} {H : Hp} {σ : L2.St} {a p : Addr} {xs : List V}
theorem cut_takeLe {i : Nat} (hi : i ≤ xs.length) : cutV xs none (some (i : Int)) = xs.take i := by
  unfold cutV
  rw [HT.sIx_nat, show HT.sIx xs.length 0 none = 0 from rfl, Nat.min_eq_left hi]
  simp
theorem cut_drop {i : Nat} (hi : i ≤ xs.length) : cutV xs (some (i : Int)) none = xs.drop i := by
  unfold cutV
  rw [HT.sIx_nat, show HT.sIx xs.length xs.length none = xs.length from rfl, Nat.min_eq_left hi]
  rw [List.take_of_length_le (by rw [List.length_drop]; omega)]
/-- [f(well, row, ..) for row in rows]: the well is drawn from -/
theorem tlc_rowsW {rs : List LRow} {j k : Nat} {te : TE} {vs : List Nat} {Q : VK} (R : LRow → LRow → Prop) (w : Wl H p) (np : a ≠ p) (hj : σ[j]? = some (some (.ref a))) (hx : H a = some (.lst xs)) (hr : RowsH H xs rs) (h3 : xs.length ≤ 1000)
    (hw : ∀ x, wipe ((wipe σ vs).set k (some x)) vs = wipe σ vs)
    (he : ∀ (i : Nat) (x : V) (r : LRow) (H' : Hp), rs[i]? = some r → RowH H' x r → Wk p H H' → ∀ S : VK, (∀ u r' H'', Wk p H' H'' → RowH H'' u r' → R r r' → S u H'') → te ((wipe σ vs).set k (some x)) H' S)
    (q : ∀ D ys qs H', Wk p H H' → H D = none → H' D = some (.lst ys) → RowsH H' ys qs → qs.length = rs.length → (∀ (i : Nat) r, rs[i]? = some r → ∃ r', qs[i]? = some r' ∧ R r r') → Q (.ref D) H') : tLc (iList K (tVar j)) (gName k) tYes te vs σ H Q := by
  have hlen := hr.len
  refine ⟨_, hj, a, rfl, ⟨xs, SqL.of hx⟩, fun D hD => ?_⟩
  have nD : D ≠ p := ne_new w hD
  refine lc_list (xs := xs) (fun i H' => Wk p H H' ∧ ∃ ys qs, H' D = some (.lst ys) ∧ RowsH H' ys qs ∧ qs.length = i ∧ ∀ (n : Nat) r, n < i → rs[n]? = some r → ∃ r', qs[n]? = some r' ∧ R r r') ⟨Wk.of w (same_new hD), [], [], upd_same, .nil, rfl, fun n r h _ => by omega⟩ (fun i H' _ h => SqL.of (h.1.at np hx)) (fun i x H' hi h => ?_) (fun H' h => ?_)
  · obtain ⟨w1, ys, qs, h1, h2, h4, h5⟩ := h
    obtain ⟨r, hri, hrv⟩ := hr.at hi
    refine ⟨hw _, ?_⟩
    unfold tYes
    simp only [if_true]
    refine he i x r H' hri (hrv.ts (w1.ts w)) w1 _ fun u r' H2 w2 hu hR => ?_
    have e2 := w2.at nD h1
    have t2 : Ts H2 (upd H2 D (.lst (ys ++ [u]))) := Ts.lst e2
    have hi' : i < xs.length := (List.getElem?_eq_some_iff.mp hi).1
    refine ⟨ys, e2, by rw [h2.len, h4]; exact small1000 (by omega), (w1.trans w2).updD hD nD, ys ++ [u], qs ++ [r'], upd_same, ((h2.ts (w2.ts w1.2)).ts t2).append (.cons (hu.ts t2) .nil), by rw [List.length_append, h4]; rfl, fun n r0 hn hr0 => ?_⟩
    by_cases hni : n < i
    · obtain ⟨r1, g1, g2⟩ := h5 n r0 hni hr0
      exact ⟨r1, by rw [List.getElem?_append_left (by omega)]; exact g1, g2⟩
    · have : n = i := by omega
      subst this
      rw [hri] at hr0
      cases hr0
      exact ⟨r', by rw [List.getElem?_append_right (by omega), h4]; simp, hR⟩
  · obtain ⟨w1, ys, qs, h1, h2, h4, h5⟩ := h
    rw [hlen] at h4 h5
    exact q D ys qs H' w1 hD h1 h2 h4 fun n r hr' => h5 n r (List.getElem?_eq_some_iff.mp hr').1 hr'
end
/-! ### lists may change, all else stays -/
def Lc (H H' : Hp) : Prop := ∀ b o, H b = some o → (∀ ys, o ≠ .lst ys) → H' b = some o
section
variable {K : PySem.W.Frag} {H H1 H2 : Hp} {p : Addr}
theorem Lc.of (s : Same H H1) : Lc H H1 := fun b o e _ => s b o e
theorem Lc.trans (s : Lc H H1) (t : Lc H1 H2) : Lc H H2 := fun b o e n => t b o (s b o e n) n
theorem Lc.wk (w : Wl H p) (s : Wk p H H1) : Lc H H1 := fun b o e n => s.1 b o (fun z => by
  obtain ⟨x, y, z', h⟩ := w
  rw [z, h] at e
  exact n _ (Option.some.inj e).symm) e
theorem Lc.upd {q : Addr} {xs : List V} {o : HO} (h : H q = some (.lst xs)) : Lc H (L2.upd H q o) := fun b u e n => by
  rw [upd_ne (fun z => by rw [z, h] at e; exact n _ (Option.some.inj e).symm)]
  exact e
theorem Lc.ts (s : Lc H H1) : Ts H H1 := fun a xs e => s a _ e (fun _ z => by cases z)
theorem Lc.sqT {a : Addr} {xs : List V} (s : Lc H H1) (h : SqT K H a xs) : SqT K H1 a xs := by
  rcases h with (e | ⟨o, e⟩) | e
  · exact .inl (.inl (s _ _ e (fun _ z => by cases z)))
  · exact .inl (.inr ⟨o, s _ _ e (fun _ z => by cases z)⟩)
  · exact .inr e
theorem ProgO.lc {C x : Addr} {k : Nat} {ns : List Str} {rs : List LRow} (s : Lc H H1) (h : ProgO K C H x k ns rs) : ProgO K C H1 x k ns rs := by
  obtain ⟨dx, tv, tr, vs, h1, h2, h3, h4⟩ := h
  exact ⟨dx, tv, tr, vs, s _ _ h1 (fun _ z => by cases z), s.sqT h2, s.sqT h3, h4.ts s.ts⟩
theorem good_low {k : Nat} : ∀ {rs : List LRow}, (∀ r ∈ rs, r.low k = r) → rs.map (·.low k) = rs
  | [], _ => rfl
  | r :: rs, h => by
    rw [List.map_cons, h r (List.mem_cons_self ..), good_low fun q hq => h q (List.mem_cons_of_mem _ hq)]
theorem RowsH.take : ∀ {vs : List V} {rs : List LRow} {n : Nat}, RowsH H vs rs → RowsH H (vs.take n) (rs.take n)
  | _, _, 0, _ => by simpa using RowsH.nil
  | _, _, n + 1, .nil => by simpa using RowsH.nil
  | _, _, n + 1, .cons h t => by
    rw [List.take_succ_cons, List.take_succ_cons]
    exact .cons h (RowsH.take (n := n) t)
theorem RowsH.drop : ∀ {vs : List V} {rs : List LRow} {n : Nat}, RowsH H vs rs → RowsH H (vs.drop n) (rs.drop n)
  | _, _, 0, h => h
  | _, _, n + 1, .nil => by simpa using RowsH.nil
  | _, _, n + 1, .cons h t => by
    rw [List.drop_succ_cons, List.drop_succ_cons]
    exact RowsH.drop (n := n) t
theorem snxd {u b c : L2.St → Hp → Prop} {r : VK} {σ : L2.St} (q : u σ H) : Ends.nx ⟨u, r, b, c⟩ σ H := q
/-- the rest once for all ways through a statement that stores nothing -/
theorem ss_cont {t u : TS} {D : Ends} {σ : L2.St} (I : Hp → Prop) (h1 : ∀ H', I H' → u D σ H') (h2 : (∀ H', I H' → u D σ H') → t { D with nx := u D } σ H) : tSeq t u D σ H := h2 h1
/-- width, variables, rows as one tuple -/
def triD (k : Nat) (ns : List Str) (rs : List LRow) : PyData := .tuple [.int (k : Int), namesD ns, rowsD rs]
theorem shaped_tri {k : Nat} {ns : List Str} {rs : List LRow} (hn : ∀ n ∈ ns, nameS n = true) (hr : ∀ r ∈ rs, RowNm r) : SeqAt.shaped (triD k ns rs) = true := by
  have h1 := SeqAt.canLay_of_shaped (shaped_names hn)
  have h2 := SeqAt.canLay_of_shaped (shaped_rows hr)
  have d1 : (namesD ns).depth ≤ 1 := by
    unfold namesD
    rw [PyData.depth]
    have := dep_map (f := PyData.str) (n := 0) (xs := ns) fun r _ => by simp [PyData.depth]
    omega
  have d2 : (rowsD rs).depth ≤ 3 := by
    unfold rowsD
    rw [PyData.depth]
    have := dep_map (f := LRow.d) (n := 2) (xs := rs) fun r _ => row_dep r
    omega
  unfold SeqAt.shaped triD
  rw [Bool.and_eq_true]
  constructor
  · simp [PyData.canLay0, PyData.canLayAll0, h1, h2]
  · refine decide_eq_true ?_
    simp only [PyData.depth, PyData.depthAll]
    omega
theorem tri_dp {a t v : Addr} {k : Nat} {ns : List Str} {rs : List LRow} {us : List V} (ha : H a = some (.tup [.int (k : Int), .ref t, .ref v])) (h1 : SqT K H t (ns.map V.str)) (h2 : SqT K H v us) (h3 : RowsH H us rs) : Dp K H (.ref a) (triD k ns rs) :=
  .tup (SqT.of ha) (.cons (.int _) (.cons (.tup h1 (dp_strs ns)) (.cons (.tup h2 h3.dt.dp) .nil)))
end
end Lk

namespace Lk
open PySem PySem.Spec PyProof.Rows L2
/-! ### what a run does -/
def dot (f v : List Int) : Int := (List.zipWith (· * ·) f v).sum
def valM (k : Nat) (f st : List Int) : Int := dot f (1 :: st) % 2 ^ k
def stM (k : Nat) (ns : List Str) (r : LRow) (st : List Int) (x : Int) : List Int := match r with
  | .set n f _ => st.set (ns.idxOf n) (valM k f st)
  | .ask n _ => st.set (ns.idxOf n) (x % 2 ^ k)
  | _ => st
def sdM (k : Nat) (r : LRow) (st : List Int) : List Int := match r with
  | .say f _ => [valM k f st]
  | .look _ => st
  | _ => []
def nxM (r : LRow) (x : Int) : Int := match r with
  | .set _ _ j => j
  | .say _ j => j
  | .ask _ j => j
  | .look j => j
  | .choose ks => ks.getD x.toNat 0
  | .stop => 0
def fitM (r : LRow) (x : Int) : Prop := match r with
  | .ask _ _ => True
  | .choose ks => 0 ≤ x ∧ x < ks.length
  | .stop => False
  | _ => x = 0
/-- the row that is next, the state, what was said -/
abbrev Q3 := Int × List Int × List Int
def stp (k : Nat) (ns : List Str) (rs : List LRow) (q : Q3) (x : Int) : Q3 := match rs[q.1.toNat]? with
  | some r => (nxM r x, stM k ns r q.2.1 x, q.2.2 ++ sdM k r q.2.1)
  | none => q
def runF (k : Nat) (ns : List Str) (rs : List LRow) (q : Q3) (nums : List Int) : Q3 := nums.foldl (stp k ns rs) q
/-- each number fits the row that is executed with it -/
def Fits (k : Nat) (ns : List Str) (rs : List LRow) (q : Q3) (nums : List Int) : Prop := ∀ i x, nums[i]? = some x → ∃ r, rs[(runF k ns rs q (nums.take i)).1.toNat]? = some r ∧ fitM r x
def InR (k : Nat) (st : List Int) : Prop := ∀ x ∈ st, 0 ≤ x ∧ x < 2 ^ k
section
variable {k : Nat} {ns : List Str} {rs : List LRow} {q : Q3} {nums more : List Int} {x : Int} {r : LRow} {st : List Int} {m : Int}
theorem runF_nil : runF k ns rs q [] = q := rfl
theorem runF_snoc : runF k ns rs q (nums ++ [x]) = stp k ns rs (runF k ns rs q nums) x := by
  unfold runF
  rw [List.foldl_append]
  rfl
theorem runF_append : runF k ns rs q (nums ++ more) = runF k ns rs (runF k ns rs q nums) more := by
  unfold runF
  rw [List.foldl_append]
theorem take_snoc {α : Type} {l : List α} {i : Nat} {y : α} (h : l[i]? = some y) : l.take (i + 1) = l.take i ++ [y] := by
  rw [List.take_succ, h]
  rfl
theorem runF_take {i : Nat} (h : nums[i]? = some x) : runF k ns rs q (nums.take (i + 1)) = stp k ns rs (runF k ns rs q (nums.take i)) x := by
  rw [take_snoc h, runF_snoc]
/-- what is said is put behind what was said -/
theorem stp_said {q' : Q3} (h1 : q.1 = q'.1) (h2 : q.2.1 = q'.2.1) : (stp k ns rs q x).1 = (stp k ns rs q' x).1 ∧ (stp k ns rs q x).2.1 = (stp k ns rs q' x).2.1 := by
  unfold stp
  rw [h1]
  cases rs[q'.1.toNat]? with
  | none => exact ⟨h1, h2⟩
  | some r => exact ⟨rfl, by rw [h2]⟩
theorem fits_nil : Fits k ns rs q [] := fun i x h => by simp at h
theorem fits_snoc (h : Fits k ns rs q nums) (hr : rs[(runF k ns rs q nums).1.toNat]? = some r) (hx : fitM r x) : Fits k ns rs q (nums ++ [x]) := fun i y hy => by
  by_cases hi : i < nums.length
  · rw [List.getElem?_append_left hi] at hy
    obtain ⟨r', e1, e2⟩ := h i y hy
    exact ⟨r', by rw [List.take_append_of_le_length (by omega)]; exact e1, e2⟩
  · have hle := (List.getElem?_eq_some_iff.mp hy).1
    rw [List.length_append, List.length_singleton] at hle
    have : i = nums.length := by omega
    subst this
    rw [List.getElem?_append_right (Nat.le_refl _)] at hy
    simp at hy
    subst hy
    exact ⟨r, by rw [List.take_left' rfl]; exact hr, hx⟩
theorem nx_ok (h : RowOk ns m r) (hx : fitM r x) : 0 ≤ nxM r x ∧ nxM r x < m := by
  cases r with
  | set n f j => exact ⟨h.2.2.1, h.2.2.2⟩
  | say f j => exact ⟨h.2.1, h.2.2⟩
  | ask n j => exact ⟨h.2.1, h.2.2⟩
  | look j => exact h
  | stop => exact hx.elim
  | choose ks =>
    obtain ⟨h1, h2, h3⟩ := h
    obtain ⟨x0, x1⟩ := hx
    show 0 ≤ ks.getD x.toNat 0 ∧ ks.getD x.toNat 0 < m
    have hlt : x.toNat < ks.length := by omega
    rw [List.getD_eq_getElem?_getD, List.getElem?_eq_getElem hlt]
    exact h3 _ (List.getElem_mem hlt)
theorem valM_in {f : List Int} : 0 ≤ valM k f st ∧ valM k f st < 2 ^ k := by
  have p0 : (0 : Int) < 2 ^ k := Int.pow_pos (by decide)
  exact ⟨Int.emod_nonneg _ (by omega), Int.emod_lt_of_pos _ p0⟩
theorem inR_set {i : Nat} {y : Int} (h : InR k st) (hy : 0 ≤ y ∧ y < 2 ^ k) : InR k (st.set i y) := fun z hz => by
  rcases List.mem_or_eq_of_mem_set hz with hz | rfl
  · exact h z hz
  · exact hy
theorem stM_in (h : InR k st) : InR k (stM k ns r st x) := by
  have p0 : (0 : Int) < 2 ^ k := Int.pow_pos (by decide)
  cases r with
  | set n f j => exact inR_set h valM_in
  | ask n j => exact inR_set h ⟨Int.emod_nonneg _ (by omega), Int.emod_lt_of_pos _ p0⟩
  | _ => exact h
theorem stM_len : (stM k ns r st x).length = st.length := by
  cases r with
  | set n f j => exact List.length_set
  | ask n j => exact List.length_set
  | _ => rfl
/-- what holds along a run -/
structure Good3 (k n : Nat) (m : Int) (q : Q3) : Prop where
  r0 : 0 ≤ q.1
  r1 : q.1 < m
  len : q.2.1.length = n
  inr : InR k q.2.1
theorem good_stp {n : Nat} (hok : ∀ r ∈ rs, RowOk ns m r) (h : Good3 k n m q) (hr : rs[q.1.toNat]? = some r) (hx : fitM r x) : Good3 k n m (stp k ns rs q x) := by
  have z := nx_ok (hok r (List.mem_of_getElem? hr)) hx
  unfold stp
  rw [hr]
  exact ⟨z.1, z.2, by show (stM k ns r q.2.1 x).length = n; rw [stM_len]; exact h.len, stM_in h.inr⟩
theorem good_run {n : Nat} (hok : ∀ r ∈ rs, RowOk ns m r) (h : Good3 k n m q) (hf : Fits k ns rs q nums) : ∀ i, i ≤ nums.length → Good3 k n m (runF k ns rs q (nums.take i))
  | 0, _ => h
  | i + 1, hi => by
    have hlt : i < nums.length := hi
    obtain ⟨r, h1, h2⟩ := hf i _ (List.getElem?_eq_getElem hlt)
    rw [runF_take (List.getElem?_eq_getElem hlt)]
    exact good_stp hok (good_run hok h hf i (Nat.le_of_lt hlt)) h1 h2
end
/-! ### ways out of rows, in the heap -/
def exR : LRow → Str × List Int
  | .stop => ("stop", [])
  | .choose ks => ("choose", ks)
  | .ask _ j => ("ask", [j])
  | .set _ _ j => ("go", [j])
  | .say _ j => ("go", [j])
  | .look j => ("go", [j])
def ExH (H : Hp) (v : V) (g : Str × List Int) : Prop := ∃ a b, v = .ref a ∧ H a = some (.tup [.str g.1, .ref b]) ∧ H b = some (.tup (g.2.map .int))
theorem ExH.ts {H H' : Hp} (s : Ts H H') {v : V} {g : Str × List Int} (h : ExH H v g) : ExH H' v g := by
  obtain ⟨a, b, e, h1, h2⟩ := h
  exact ⟨a, b, e, s _ _ h1, s _ _ h2⟩
/-! ### lists that are related item by item -/
inductive F2 {α : Type} (R : V → α → Prop) : List V → List α → Prop
  | nil : F2 R [] []
  | cons {v : V} {vs : List V} {a : α} {as : List α} : R v a → F2 R vs as → F2 R (v :: vs) (a :: as)
section
variable {α β : Type} {R S : V → α → Prop}
theorem F2.mono (h : ∀ v a, R v a → S v a) : ∀ {vs : List V} {as : List α}, F2 R vs as → F2 S vs as
  | _, _, .nil => .nil
  | _, _, .cons x t => .cons (h _ _ x) (t.mono h)
theorem F2.len : ∀ {vs : List V} {as : List α}, F2 R vs as → vs.length = as.length
  | _, _, .nil => rfl
  | _, _, .cons _ t => congrArg Nat.succ t.len
theorem F2.at : ∀ {vs : List V} {as : List α} {i : Nat} {v : V}, F2 R vs as → vs[i]? = some v → ∃ a, as[i]? = some a ∧ R v a
  | _, _, _, _, .nil, e => by simp at e
  | _, _, 0, _, .cons h _, e => by
    simp at e
    subst e
    exact ⟨_, rfl, h⟩
  | _, _, i + 1, _, .cons _ t, e => by
    obtain ⟨d, e1, e2⟩ := F2.at (i := i) t (by simpa using e)
    exact ⟨d, by simpa using e1, e2⟩
theorem F2.get : ∀ {vs : List V} {as : List α} {i : Nat} {a : α}, F2 R vs as → as[i]? = some a → ∃ v, vs[i]? = some v ∧ R v a
  | _, _, _, _, .nil, e => by simp at e
  | _, _, 0, _, .cons h _, e => by
    simp at e
    subst e
    exact ⟨_, rfl, h⟩
  | _, _, i + 1, _, .cons _ t, e => by
    obtain ⟨d, e1, e2⟩ := F2.get (i := i) t (by simpa using e)
    exact ⟨d, by simpa using e1, e2⟩
theorem F2.append : ∀ {vs us : List V} {as bs : List α}, F2 R vs as → F2 R us bs → F2 R (vs ++ us) (as ++ bs)
  | _, _, _, _, .nil, k => k
  | _, _, _, _, .cons h t, k => .cons h (t.append k)
theorem f2_rows {H : Hp} : ∀ {vs : List V} {rs : List LRow}, RowsH H vs rs → F2 (RowH H) vs rs
  | _, _, .nil => .nil
  | _, _, .cons h t => .cons h (f2_rows t)
theorem f2_ints : ∀ xs : List Int, F2 (fun v (x : Int) => v = .int x) (xs.map V.int) xs
  | [] => .nil
  | _ :: xs => .cons rfl (f2_ints xs)
theorem f2_ints_of : ∀ {vs : List V} {xs : List Int}, F2 (fun v (x : Int) => v = .int x) vs xs → vs = xs.map V.int
  | _, _, .nil => rfl
  | _, _, .cons h t => by rw [h, f2_ints_of t]; rfl
end
section
variable {K : PySem.W.Frag} {H : Hp} {σ : L2.St} {a : Addr} {xs : List V}
/-- [f(x) for x in t], t a tuple or a list, only objects made: the results are of one kind, which tuples alone tell -/
theorem tlc_core {α β : Type} {J : It} {as : List α} {k : Nat} {te : TE} {vs : List Nat} {Q : VK} {D : Addr} (Rin : Hp → V → α → Prop) (Rout : Hp → V → β → Prop) (f : α → β)
    (iS : ∀ {H H' v x}, Same H H' → Rin H v x → Rin H' v x) (oS : ∀ {H H' v x}, Ts H H' → Rout H v x → Rout H' v x) (hr : F2 (Rin H) xs as) (h3 : xs.length ≤ 1000) (hD : H D = none)
    (hw : ∀ x, wipe ((wipe σ vs).set k (some x)) vs = wipe σ vs)
    (he : ∀ (i : Nat) (x : V) (r : α) (H' : Hp), as[i]? = some r → Rin H' x r → Same H H' → ∀ R : VK, (∀ u H'', Same H' H'' → Rout H'' u (f r) → R u H'') → te ((wipe σ vs).set k (some x)) H' R)
    (lc : ∀ (Pv : Nat → Hp → Prop), Pv 0 (upd H D (.lst [])) → (∀ i H', Pv i H' → Same H H') → (∀ i x H', xs[i]? = some x → Pv i H' → gName k x (wipe σ vs) H' fun σ2 H2 => wipe σ2 vs = wipe σ vs ∧ tYes σ2 H2 fun b H3 =>
        if b = true then te σ2 H3 fun y H4 => ∃ acc, H4 D = some (.lst acc) ∧ acc.length < sizeLine ∧ Pv (i + 1) (upd H4 D (.lst (acc ++ [y]))) else Pv (i + 1) H3) → (∀ H', Pv xs.length H' → Q (.ref D) H') →
      ∃ W : Nat → Nat → Hp → Prop, (∃ m, W 0 m (upd H D (.lst []))) ∧ ∀ i m H, W i m H → (J.stop i H ∧ Q (.ref D) H) ∨ (J.go i H ∧ ∃ Nx : Hp → Prop, (∀ H', Nx H' → ∃ m', m' < m ∧ W (i + 1) m' H') ∧ ∀ x H', J.yld i H x H' → gName k x (wipe σ vs) H' fun σ2 H2 => wipe σ2 vs = wipe σ vs ∧ tYes σ2 H2 fun b H3 =>
        if b = true then te σ2 H3 fun y H4 => ∃ acc, H4 D = some (.lst acc) ∧ acc.length < sizeLine ∧ Nx (upd H4 D (.lst (acc ++ [y]))) else Nx H3))
    (q : ∀ ys H', Same H H' → H' D = some (.lst ys) → F2 (Rout H') ys (as.map f) → Q (.ref D) H') :
    ∃ W : Nat → Nat → Hp → Prop, (∃ m, W 0 m (upd H D (.lst []))) ∧ ∀ i m H, W i m H → (J.stop i H ∧ Q (.ref D) H) ∨ (J.go i H ∧ ∃ Nx : Hp → Prop, (∀ H', Nx H' → ∃ m', m' < m ∧ W (i + 1) m' H') ∧ ∀ x H', J.yld i H x H' → gName k x (wipe σ vs) H' fun σ2 H2 => wipe σ2 vs = wipe σ vs ∧ tYes σ2 H2 fun b H3 =>
        if b = true then te σ2 H3 fun y H4 => ∃ ac, H4 D = some (.lst ac) ∧ ac.length < sizeLine ∧ Nx (upd H4 D (.lst (ac ++ [y]))) else Nx H3) := by
  refine lc (fun i H' => Same H H' ∧ ∃ ys, H' D = some (.lst ys) ∧ F2 (Rout H') ys ((as.take i).map f)) ⟨same_new hD, [], upd_same, .nil⟩ (fun i H' h => h.1) ?_ ?_
  · rintro i x H' hi ⟨s1, ys, hys, hrs⟩
    obtain ⟨r, hri, hrv⟩ := hr.at hi
    have hlen := hrs.len
    refine ⟨hw _, ?_⟩
    unfold tYes
    simp only [if_true]
    refine he i x r H' hri (iS s1 hrv) s1 _ fun u H2 s2 hu => ⟨ys, s2 _ _ hys, ?_, fun b o e => ?_, _, upd_same, ?_⟩
    · rw [hlen, List.length_map, List.length_take]
      have := hr.len
      exact small1000 (by omega)
    · rw [upd_ne (ne_of_none e hD)]
      exact s2 _ _ (s1 _ _ e)
    · have t1 : Ts H2 (upd H2 D (.lst (ys ++ [u]))) := Ts.lst (s2 _ _ hys)
      rw [List.take_succ, hri, List.map_append]
      exact (hrs.mono fun v b h => oS t1 (oS (Ts.of s2) h)).append (.cons (oS t1 hu) .nil)
  · rintro H' ⟨s1, ys, h1, h2⟩
    rw [hr.len, List.take_length] at h2
    exact q ys H' s1 h1 h2
theorem tlc_F2E {α β : Type} {as : List α} {j k : Nat} {te : TE} {vs : List Nat} {Q : VK} (Rin : Hp → V → α → Prop) (Rout : Hp → V → β → Prop) (f : α → β)
    (iS : ∀ {H H' v x}, Same H H' → Rin H v x → Rin H' v x) (oS : ∀ {H H' v x}, Ts H H' → Rout H v x → Rout H' v x) (hj : σ[j]? = some (some (.ref a))) (hx : SqE K H a xs) (hr : F2 (Rin H) xs as) (h3 : xs.length ≤ 1000)
    (hw : ∀ x, wipe ((wipe σ vs).set k (some x)) vs = wipe σ vs)
    (he : ∀ (i : Nat) (x : V) (r : α) (H' : Hp), as[i]? = some r → Rin H' x r → Same H H' → ∀ R : VK, (∀ u H'', Same H' H'' → Rout H'' u (f r) → R u H'') → te ((wipe σ vs).set k (some x)) H' R)
    (q : ∀ D ys H', Same H H' → H D = none → H' D = some (.lst ys) → F2 (Rout H') ys (as.map f) → Q (.ref D) H') : tLc (iEither K (tVar j)) (gName k) tYes te vs σ H Q := by
  rcases hx with hx | hx
  · exact Or.inl ⟨_, hj, a, rfl, ⟨xs, hx⟩, fun D hD => tlc_core (J := Itl K a) (D := D) Rin Rout f iS oS hr h3 hD hw he (fun Pv p0 pS ht hd => lc_list Pv p0 (fun i H' _ h => (pS i H' h).seq hx) ht hd) fun ys H' s e h => q D ys H' s hD e h⟩
  · exact Or.inr ⟨_, hj, a, rfl, ⟨xs, hx⟩, fun D hD => tlc_core (J := Itt K a) (D := D) Rin Rout f iS oS hr h3 hD hw he (fun Pv p0 pS ht hd => lc_tup Pv p0 (fun i H' _ h => same_sqT (pS i H' h) hx) ht hd) fun ys H' s e h => q D ys H' s hD e h⟩
end
end Lk

namespace Lk
open PySem PySem.Spec PyProof.Rows L2
/-- an own error with two fields, as the top has left it -/
structure Ec2 (P : Program) (w : World) (K : PySem.W.Frag) (mg : Str → Option Value) (base : Heap) (x : Str) (B C : Addr) (f g : Str) : Prop where
  k : ErK K mg x C B
  i : ∃ fI fd, PySem.W.findIn K (.ref C) "__init__" = some (some (.ref fI)) ∧ PySem.W.typeIn K (.ref fI) = some (.type "function") ∧ FnOk P w K mg base CX0 1 fI fd ["self", f, g] (spI2 C f g) ∧ Binds K fd ["self", f, g] []
  hd : PySem.W.hasDictIn K C = true
  nf : PySem.W.findIn K (.ref C) f = some none
  ng : PySem.W.findIn K (.ref C) g = some none
theorem Ec2.xf {P : Program} {w : World} {K : PySem.W.Frag} {mg : Str → Option Value} {base : Heap} {x : Str} {B C : Addr} {f g : Str} (E : Ec2 P w K mg base x B C f g) : XfC K C := ⟨E.k.ek.ga, E.k.ek.gt, E.k.ek.su, E.hd⟩
/-- what is left to show once the error's fields are there -/
def rzP (C : Addr) (f g : Str) (W : WX) (σ : L2.St) (vs : List V) (H : Hp) : Prop := vs.length ≤ 1000 ∧ ∀ a, H a = none → spI2 C f g (.ref a :: (vs ++ [])) (upd H a (exo a C none))
  (fun v H2 => v = .non ∧ ∃ (d : Addr) (fs : List (Str × V)), H2 a = some (exo a C (some d)) ∧ H2 d = some (exd d fs) ∧ H d = none ∧ W (.ref C) (some d) σ (upd (del H2 a) d (.xd fs))) (fun _ _ _ => False)
def tRz (C : Addr) (f g : Str) (W : WX) (t : TA) : TS := fun _ σ H => t σ H fun vs H1 => rzP C f g W σ vs H1
theorem srz {C : Addr} {f g : Str} {W : WX} {t : TA} {D : Ends} {σ : L2.St} {H : Hp} (q : t σ H fun vs H1 => rzP C f g W σ vs H1) : tRz C f g W t D σ H := q
theorem s_rz {C : Addr} {f g : Str} {W : WX} {σ : L2.St} {H : Hp} {x y : V} (q : ∀ d H', Same H H' → H' d = some (.xd [(g, y), (f, x)]) → W (.ref C) (some d) σ H') : rzP C f g W σ [x, y] H := by
  refine ⟨Nat.le_of_ble_eq_true rfl, fun a ha => ⟨a, x, y, rfl, upd_same, fun d H2 hd hne e1 e2 e3 => ⟨rfl, d, _, e1, e2, by rwa [upd_ne hne] at hd, q d _ (fun b o e => ?_) upd_same⟩⟩⟩
  have nb : b ≠ a := ne_of_none e ha
  have nd : b ≠ d := fun z => by
    rw [z] at e
    rw [upd_ne hne, e] at hd
    cases hd
  rw [upd_ne nd, del_ne nb, e3 b nb nd, upd_ne nb]
  exact e
section
variable {X : Cx} {x : Str} {B C : Addr} {f g : Str} {e : Expr} {es : List Expr} {t : TA} {p pos pos2 : Pos} {W : WX} {j : Nat}
theorem ps_rz (E : Ec2 X.prog X.w X.K X.mg X.base x B C f g) (hr : Room j X.A) (hj : 2 ≤ j) (tk : Takes X W) (ha : PA X (e :: es) t) (hc : X.calm = true := by rfl) (hg : Gl X x := by rfl)
    (hdb : (x == ("__debug__" : Str)) = false := by decide) (he : starEach (e :: es) X.env = (false, eval e X.env) :: starEach es X.env := by rfl) (hpl : (backTo pos (starEach es X.env)).any (·.1) = false := by rfl) :
    PS X (.Raise (some (.Call (.Name x p) (e :: es) [] pos)) none pos2) (tRz C f g W t) := by
  obtain ⟨fI, fd, h1, h2, F, b⟩ := E.i
  exact ps_raise hc tk (pmk_oex E.k.ox h1 h2 F (hr.mono hj) b .nil pass0 hg E.k.g ha hdb he hpl)
end
/-- a def that may let an error out -/
structure Cax (P : Program) (w : World) (K : PySem.W.Frag) (mg : Str → Option Value) (base : Heap) (k : Nat) (x : Str) (ps : List Str) (sp : Sp) : Prop where
  ex : ∃ f fd, mg x = some (.ref f) ∧ PySem.W.keepIn K (.ref f) = true ∧ Binds K fd ps [] ∧ FnOk P w K mg base (L2.CX P w) k f fd ps sp
theorem pcax {X : Cx} {k j : Nat} {x : Str} {ps : List Str} {sp : Sp} {e : Expr} {es : List Expr} {t : TA} {p pos : Pos} {W : WX} (c : Cax X.prog X.w X.K X.mg X.base k x ps sp) (hr : Room j X.A) (hk : k ≤ j) (tk : Takes X W) (ha : PA X (e :: es) t) (hg : Gl X x := by rfl)
    (hdb : (x == ("__debug__" : Str)) = false := by decide) (he : starEach (e :: es) X.env = (false, eval e X.env) :: starEach es X.env := by rfl) (hpl : (backTo pos (starEach es X.env)).any (·.1) = false := by rfl) :
    PE X (.Call (.Name x p) (e :: es) [] pos) (tCallS sp (WE W) t) := by
  obtain ⟨f, fd, hm, kp, b, F⟩ := c.ex
  exact pe_callS F (hr.mono hk) hg hm kp b (fun σ => passAt tk σ) ha hdb he hpl
theorem scx {sp : Sp} {E : L2.St → XK} {tl : TA} {σ : L2.St} {H : Hp} {Q : VK} (q : tl σ H fun vs H1 => sp vs H1 Q (E σ)) : tCallS sp E tl σ H Q := q
/-- C(..), the errors of its __init__ wished for at the slots -/
def mkP (C : Addr) (sp : Sp) (E : XK) (vs : List V) (H : Hp) (Q : VK) : Prop := ∀ x dx, H x = none → H dx = none → dx ≠ x → sp (.ref x :: vs) (upd (upd H dx (.own x)) x (.ins C dx [])) (fun v H2 => v = .non ∧ Q (.ref x) H2) E
def tMakeX (C : Addr) (sp : Sp) (W : WX) (t : TA) : TE := fun σ H Q => t σ H fun vs H1 => mkP C sp (WE W σ) vs H1 Q
theorem smx {C : Addr} {sp : Sp} {W : WX} {t : TA} {σ : L2.St} {H : Hp} {Q : VK} (q : t σ H fun vs H1 => mkP C sp (WE W σ) vs H1 Q) : tMakeX C sp W t σ H Q := q
section
variable {X : Cx} {x : Str} {C f : Addr} {k : Nat} {fd : FuncData} {ps : List Str} {sp : Sp} {e : Expr} {es : List Expr} {t : TA} {p pos : Pos} {W : WX}
theorem pe_makeX (M : Mk X.K C f) (F : FnOk X.prog X.w X.K X.mg X.base (L2.CX X.prog X.w) k f fd ps sp) (hr : Room (k + 1) X.A) (hm : X.mg x = some (.ref C)) (hb : Binds X.K fd ps []) (tk : Takes X W) (ha : PA X (e :: es) t) (hg : Gl X x := by rfl)
    (hdb : (x == ("__debug__" : Str)) = false := by decide) (he : starEach (e :: es) X.env = (false, eval e X.env) :: starEach es X.env := by rfl) (hpl : (backTo pos (starEach es X.env)).any (·.1) = false := by rfl) :
    PE X (.Call (.Name x p) (e :: es) [] pos) (tMakeX C sp W t) := by
  refine ⟨fun pins s σ H Q I h => wpAny_Call_Name_kw (ld_glob I hg hm ?_ hdb)⟩
  refine PySem.W.callWith_K (h₀ := X.base) I.ok.mod.kin M.kp (thn (ha.run pos pins s σ H _ I h) fun us s1 hh => ?_) he hpl
  obtain ⟨vs, H1, I1, r, q⟩ := hh
  refine ⟨I1.kIn, ?_⟩
  obtain ⟨n, hn⟩ : ∃ n, n = s1.heap.objs.size := ⟨_, rfl⟩
  have fr0 : H1 n = none := by rw [hn]; exact I1.hok.fresh (Nat.le_refl _)
  have fr1 : H1 (n + 1) = none := by rw [hn]; exact I1.hok.fresh (Nat.le_succ _)
  have go := q (n + 1) n fr1 fr0 (Nat.ne_of_lt (Nat.lt_succ_self _))
  have J := Inv.made (C := C) I1
  rw [← hn] at J
  have rr : Vals (V.ref (n + 1) :: vs) (Value.ref (n + 1) :: us) := .cons rfl r
  have len : (Value.ref (n + 1) :: us).length = ps.length := by rw [← rr.length]; exact F.len _ _ _ _ go
  have bb := hb _ (Value.ref (n + 1) :: us) J.kIn (by rw [List.append_nil]; exact len)
  rw [List.append_nil] at bb
  rw [hn] at bb rr go J
  refine wpAny_call (make_map (f := f) I1.kIn M.makes M.init (beq_iff_eq.mp M.fn) ?_)
  refine codeAny_mono (F.run _ X.stack _ _ ⟨Value.ref (s1.heap.objs.size + 1) :: us, []⟩ (Value.ref (s1.heap.objs.size + 1) :: us) _ _ (WE W σ) (hr.make C us []) (J.env0.make C us []) bb rr go) fun r s' hq => ?_
  cases r with
  | error er => exact passAt tk σ pins _ _ er s' J hq
  | ok fl =>
    cases fl with
    | ret u =>
      obtain ⟨v, H', J3, rv, ev, q3⟩ := J.after hq
      subst ev
      exact ⟨rv, ⟨V.ref _, H', J3, rfl, q3⟩⟩
    | next => exact hq.elim
    | brk => exact hq.elim
    | cont => exact hq.elim
end
/-- e.f, e the error that the suite holds -/
theorem s_xf {a C dd : Addr} {f : Str} {i : Nat} {fs : List (Str × V)} {v : V} {σ : L2.St} {H : Hp} {Q : VK} (hi : σ[i]? = some (some (.ref a))) (hd : H dd = some (.xd fs)) (hl : fs.lookup f = some v) (q : Q v H) : tXf a (.ref C) (some dd) C f (tVar i) σ H Q :=
  ⟨.ref a, hi, rfl, rfl, dd, fs, v, rfl, hd, hl, q⟩
/-- «except C» takes an error of the class C -/
theorem exm_er {K : PySem.W.Frag} {mg : Str → Option Value} {x : Str} {C B : Addr} (E : ErK K mg x C B) : PySem.W.exmOne K (.ref C) (.ref C) = some true := by
  obtain ⟨cd, e1, e2⟩ := erk_cls E
  have a1 : (PySem.W.subIn K (.ref C) (.type "BaseException") == some true) = true := by rw [E.ek.su] <;> rfl
  have a2 : ((PySem.W.clsIn K C).isSome && PySem.W.typeIn K (.ref C) == some (.type "type")) = true := by rw [e1, E.ty] <;> rfl
  unfold PySem.W.exmOne
  rw [if_pos a1]
  unfold PySem.W.kitCls
  simp only []
  rw [if_pos a2]
  show PySem.W.mroIn K C (.ref C) = some true
  unfold PySem.W.mroIn
  rw [e1, Option.bind_some, e2]
  simp [List.contains, List.elem]
end Lk

namespace Lk
open PySem PySem.Spec PyProof.Rows L2
/-! ### data that may be of the wrong kind -/
section
variable {K : PySem.W.Frag} {H H' : Hp}
theorem ty_sqL {p : Addr} {xs : List V} (h : SqL K H p xs) : TyX K H (.ref p) (.type "list") := by
  rcases h with (e | ⟨o, e⟩) | ⟨o, its, n, e, c, _⟩
  · exact .base (.lst e)
  · exact .base (.frz e)
  · exact .kList e c
theorem ty_sqT {p : Addr} {xs : List V} (h : SqT K H p xs) : TyX K H (.ref p) (.type "tuple") := by
  rcases h with (e | ⟨o, e⟩) | ⟨o, its, n, e, c, _⟩
  · exact .base (.tup e)
  · exact .fTuple e
  · exact .kTuple e c
/-- its type stays -/
inductive Tyo (K : PySem.W.Frag) (H : Hp) : V → String → Prop
  | dp {v : V} {d : PyData} (h : Dp K H v d) : Tyo K H v (tyn d)
  | dct {a : Addr} {kvs : List (Key × V)} (h : H a = some (.dK kvs)) : Tyo K H (.ref a) "dict"
  | lst {p : Addr} {xs : List V} (h : SqL K H p xs) : Tyo K H (.ref p) "list"
theorem Tyo.ty {v : V} {t : String} (h : Tyo K H v t) : TyX K H v (.type t) := by
  cases h with
  | dp h => exact tyx_dp h
  | dct h => exact .base (.dK h)
  | lst h => exact ty_sqL h
theorem Tyo.same (s : Same H H') {v : V} {t : String} (h : Tyo K H v t) : Tyo K H' v t := by
  cases h with
  | dp h => exact .dp (dp_same s h)
  | dct h => exact .dct (s _ _ h)
  | lst h => exact .lst (s.seq h)
/-- a list or a tuple of these items, or neither -/
inductive Sh (K : PySem.W.Frag) (H : Hp) : V → Option (List V) → Prop
  | seq {p : Addr} {xs : List V} (h : SqE K H p xs) : Sh K H (.ref p) (some xs)
  | no {v : V} {t : String} (h : Tyo K H v t) (h1 : kitB t "list" = some false) (h2 : kitB t "tuple" = some false) : Sh K H v none
/-- a tuple of these data, or no tuple -/
inductive It (K : PySem.W.Frag) (H : Hp) : V → Option (List PyData) → Prop
  | tup {p : Addr} {xs : List V} {ds : List PyData} (h : SqT K H p xs) (hd : DpAll K H xs ds) : It K H (.ref p) (some ds)
  | no {v : V} {t : String} (h : Tyo K H v t) (h2 : kitB t "tuple" = some false) : It K H v none
theorem Sh.same (s : Same H H') {v : V} {o : Option (List V)} (h : Sh K H v o) : Sh K H' v o := by
  cases h with
  | seq h => exact .seq (h.same s)
  | no h h1 h2 => exact .no (h.same s) h1 h2
theorem It.same (s : Same H H') {v : V} {o : Option (List PyData)} (h : It K H v o) : It K H' v o := by
  cases h with
  | tup h hd => exact .tup (same_sqT s h) (dpa_same s hd)
  | no h h2 => exact .no (h.same s) h2
def shB (o : Option (List V)) (a b : Int) : Bool := match o with
  | some xs => decide (a ≤ xs.length) && decide ((xs.length : Int) ≤ b)
  | none => false
def tupD : PyData → Option (List PyData)
  | .tuple ds => some ds
  | _ => none
theorem it_dp {v : V} {d : PyData} (h : Dp K H v d) : It K H v (tupD d) := by
  cases d with
  | tuple ds =>
    obtain ⟨p, xs, rfl, h1, h2⟩ := dp_tupI h
    exact .tup h1 h2
  | dict kvs => cases h
  | none => exact .no (.dp h) (ki_tup _)
  | bool b => exact .no (.dp h) (ki_tup _)
  | int i => exact .no (.dp h) (ki_tup _)
  | str x => exact .no (.dp h) (ki_tup _)
  | list ds => exact .no (.dp h) (ki_tup _)
theorem it_dct {a : Addr} {kvs : List (Key × V)} (h : H a = some (.dK kvs)) : It K H (.ref a) none := .no (.dct h) (by decide +kernel)
theorem it_lst {p : Addr} {xs : List V} (h : SqL K H p xs) : It K H (.ref p) none := .no (.lst h) (by decide +kernel)
theorem sh_dct {a : Addr} {kvs : List (Key × V)} (h : H a = some (.dK kvs)) : Sh K H (.ref a) none := .no (.dct h) (by decide +kernel) (by decide +kernel)
theorem sh_non : Sh K H .non none := .no (.dp .non) (by decide +kernel) (by decide +kernel)
theorem sh_int (i : Int) : Sh K H (.int i) none := .no (.dp (.int i)) (ki_list _) (ki_tup _)
theorem sh_str (x : Str) : Sh K H (.str x) none := .no (.dp (.str x)) (ki_list _) (ki_tup _)
/-- isinstance(v, (list, tuple)) -/
theorem s_isiSh {v : V} {o : Option (List V)} {t : Addr} {Q : VK} (h : Sh K H v o) (ht : H t = some (.tup [.ty "list", .ty "tuple"])) (q : Q (.bl o.isSome) H) : rIsiT K [v, .ref t] H Q := by
  cases h with
  | seq h =>
    rcases h with h | h
    · exact ⟨_, t, _, _, _, true, rfl, ht, .cons (.ty _) (.cons (.ty _) .nil), ty_sqL h, ki_lt (.list []), q⟩
    · exact ⟨_, t, _, _, _, true, rfl, ht, .cons (.ty _) (.cons (.ty _) .nil), ty_sqT h, ki_lt (.tuple []), q⟩
  | no h h1 h2 =>
    have z : ∀ K', PySem.W.kitAny K' (.type _) [.type "list", .type "tuple"] = some false := fun K' => kitAny_cons (K := K') (b := false) (kit_ty h1) (fun _ => kitAny_cons (b := false) (kit_ty h2) (fun _ => rfl) (fun y => by cases y)) (fun y => by cases y)
    exact ⟨_, t, _, _, _, false, rfl, ht, .cons (.ty _) (.cons (.ty _) .nil), h.ty, z _, q⟩
/-- isinstance(v, tuple) -/
theorem s_isiIt {v : V} {o : Option (List PyData)} {Q : VK} (h : It K H v o) (q : Q (.bl o.isSome) H) : rIsi K [v, .ty "tuple"] H Q := by
  cases h with
  | tup h hd => exact ⟨_, _, _, _, true, rfl, .ty _, ty_sqT h, kit_ty (by decide +kernel), q⟩
  | no h h2 => exact ⟨_, _, _, _, false, rfl, .ty _, h.ty, kit_ty h2, q⟩
end
/-! ### rows of any kind -/
def varD (ns : List Str) : PyData → Bool
  | .str x => decide (x ∈ ns)
  | _ => false
def rowT (ns : List Str) (m : Int) (ds : List PyData) : Bool := match ds with
  | .str k :: rest =>
    if k = "set" ∧ rest.length = 3 then varD ns (rest.getD 0 .none) && (formD (rest.getD 1 .none) ns.length && withinD (rest.getD 2 .none) 0 (m - 1))
    else if k = "ask" ∧ rest.length = 2 then varD ns (rest.getD 0 .none) && withinD (rest.getD 1 .none) 0 (m - 1)
    else if k = "say" ∧ rest.length = 2 then formD (rest.getD 0 .none) ns.length && withinD (rest.getD 1 .none) 0 (m - 1)
    else if k = "look" ∧ rest.length = 1 then withinD (rest.getD 0 .none) 0 (m - 1)
    else if k = "choose" ∧ rest.length = 1 then nextsD (rest.getD 0 .none) 1 6 m
    else decide (k = "stop") && decide (rest.length = 0)
  | _ => false
def rowO (ns : List Str) (m : Int) (o : Option (List PyData)) : Bool := match o with
  | some ds => rowT ns m ds
  | none => false
def LRow.ds : LRow → List PyData
  | .set n f k => [.str "set", .str n, intsD f, .int k]
  | .say f k => [.str "say", intsD f, .int k]
  | .ask n k => [.str "ask", .str n, .int k]
  | .choose ks => [.str "choose", intsD ks]
  | .look k => [.str "look", .int k]
  | .stop => [.str "stop"]
theorem LRow.tupD (r : LRow) : tupD r.d = some r.ds := by cases r <;> rfl
theorem formD_ints {f : List Int} {n : Int} (h : (f.length : Int) = n + 1) : formD (intsD f) n = true := by
  show (decide (((f.map PyData.int).length : Int) = n + 1) && (f.map PyData.int).all isIntD) = true
  rw [List.length_map, List.all_map, Bool.and_eq_true]
  exact ⟨decide_eq_true h, List.all_eq_true.mpr fun _ _ => rfl⟩
theorem within_ok {i m : Int} (h0 : 0 ≤ i) (h1 : i < m) : withinD (.int i) 0 (m - 1) = true := by
  show (decide (0 ≤ i) && decide (i ≤ m - 1)) = true
  rw [Bool.and_eq_true]
  exact ⟨decide_eq_true h0, decide_eq_true (by omega)⟩
theorem nextsD_ints {ks : List Int} {m : Int} (h1 : 1 ≤ ks.length) (h2 : ks.length ≤ 6) (h : ∀ k ∈ ks, 0 ≤ k ∧ k < m) : nextsD (intsD ks) 1 6 m = true := by
  show (decide ((1 : Int) ≤ (ks.map PyData.int).length) && decide (((ks.map PyData.int).length : Int) ≤ 6) && (ks.map PyData.int).all fun e => withinD e 0 (m - 1)) = true
  rw [List.length_map, List.all_map, Bool.and_eq_true, Bool.and_eq_true]
  refine ⟨⟨decide_eq_true (by omega), decide_eq_true (by omega)⟩, List.all_eq_true.mpr fun k hk => ?_⟩
  obtain ⟨a, b⟩ := h k hk
  exact within_ok a b
theorem nand_ {a b : Str} {p : Prop} (h : a ≠ b) : ¬ (a = b ∧ p) := fun x => h x.1
theorem rowT_ok {ns : List Str} {m : Int} {r : LRow} (h : RowOk ns m r) : rowT ns m r.ds = true := by
  cases r with
  | set n f k =>
    obtain ⟨h1, h2, h3, h4⟩ := h
    unfold LRow.ds rowT
    dsimp only
    rw [if_pos ⟨rfl, rfl⟩]
    show (decide (n ∈ ns) && (formD (intsD f) ns.length && withinD (.int k) 0 (m - 1))) = true
    rw [decide_eq_true h1, formD_ints (by omega), within_ok h3 h4]
    rfl
  | say f k =>
    obtain ⟨h2, h3, h4⟩ := h
    unfold LRow.ds rowT
    dsimp only
    rw [if_neg (nand_ (by decide +kernel)), if_neg (nand_ (by decide +kernel)), if_pos ⟨rfl, rfl⟩]
    show (formD (intsD f) ns.length && withinD (.int k) 0 (m - 1)) = true
    rw [formD_ints (by omega), within_ok h3 h4]
    rfl
  | ask n k =>
    obtain ⟨h1, h3, h4⟩ := h
    unfold LRow.ds rowT
    dsimp only
    rw [if_neg (nand_ (by decide +kernel)), if_pos ⟨rfl, rfl⟩]
    show (decide (n ∈ ns) && withinD (.int k) 0 (m - 1)) = true
    rw [decide_eq_true h1, within_ok h3 h4]
    rfl
  | choose ks =>
    obtain ⟨h1, h2, h3⟩ := h
    unfold LRow.ds rowT
    dsimp only
    rw [if_neg (nand_ (by decide +kernel)), if_neg (nand_ (by decide +kernel)), if_neg (nand_ (by decide +kernel)), if_neg (nand_ (by decide +kernel)), if_pos ⟨rfl, rfl⟩]
    exact nextsD_ints h1 h2 h3
  | look k =>
    obtain ⟨h3, h4⟩ := h
    unfold LRow.ds rowT
    dsimp only
    rw [if_neg (nand_ (by decide +kernel)), if_neg (nand_ (by decide +kernel)), if_neg (nand_ (by decide +kernel)), if_pos ⟨rfl, rfl⟩]
    exact within_ok h3 h4
  | stop =>
    unfold LRow.ds rowT
    dsimp only
    rw [if_neg (nand_ (by decide +kernel)), if_neg (nand_ (by decide +kernel)), if_neg (nand_ (by decide +kernel)), if_neg (nand_ (by decide +kernel)), if_neg (nand_ (by decide +kernel))]
    rfl
/-- two tests that leave the heap as it is -/
theorem s_and2 {tc tu : TT} {σ : L2.St} {H : Hp} {Q : Bool → Hp → Prop} {a b : Bool} (h1 : ∀ R : Bool → Hp → Prop, R a H → tc σ H R) (h2 : ∀ R : Bool → Hp → Prop, R b H → tu σ H R) (q : Q (a && b) H) : tAnd tc tu σ H Q := by
  refine h1 _ ?_
  cases a with
  | true => exact itt_ rfl (h2 _ q)
  | false => exact iff_ rfl q
theorem decS {a b : Str} : decide (V.str a = V.str b) = decide (a = b) := decide_eq_decide.mpr ⟨fun h => V.str.inj h, fun h => congrArg V.str h⟩
theorem decI {a b : Int} : decide (V.int a = V.int b) = decide (a = b) := decide_eq_decide.mpr ⟨fun h => V.int.inj h, fun h => congrArg V.int h⟩
theorem decA {a b : Prop} [Decidable a] [Decidable b] [Decidable (a ∧ b)] : (decide a && decide b) = decide (a ∧ b) := by
  by_cases h1 : a <;> by_cases h2 : b <;> simp [h1, h2]
end Lk

namespace Lk
open PySem PySem.Spec PyProof.Rows L2 RZ
section
variable {K : PySem.W.Frag} {a b : Addr} {xs ys : List V} {H : Hp} {σ : L2.St}
theorem walk_zipT (hl : xs.length = ys.length) : Walk (ItzT K a b) xs.length (fun H => SqT K H a xs ∧ SqT K H b ys) (YPair (fun i => xs[i]?) (fun i => ys[i]?)) :=
  ⟨fun i _ hi q => ⟨xs, ys, xs[i], ys[i]'(by omega), q.1, q.2, by simp [hi], by simp [hl ▸ hi]⟩, fun _ q => ⟨xs, ys, q.1, q.2, .inl (Nat.le_refl _)⟩, fun i H v H' _ q ⟨T, x, y, h1, h2, h3, h4, h5⟩ => ⟨T, x, y, h1, h2, h3, h4 xs q.1, h5 ys q.2⟩⟩
/-- [e for x, y in zip(t, u)], two tuples of numbers -/
theorem tlc_zipT {fs gs : List Int} {f : Int → Int → Int} {i j p q : Nat} {te : TE} {vs : List Nat} {Q : VK} (hi : σ[i]? = some (some (.ref a))) (hj : σ[j]? = some (some (.ref b))) (ha : SqT K H a (fs.map V.int)) (hb : SqT K H b (gs.map V.int)) (hl : fs.length = gs.length) (h3 : fs.length ≤ 1000)
    (hw : ∀ x y, wipe (((wipe σ vs).set p (some x)).set q (some y)) vs = wipe σ vs)
    (he : ∀ (x y : Int) (H' : Hp) (R : VK), x ∈ fs → R (.int (f x y)) H' → te (((wipe σ vs).set p (some (.int x))).set q (some (.int y))) H' R)
    (k : ∀ D H', Same H H' → H' D = some (.lst ((List.zipWith f fs gs).map V.int)) → Q (.ref D) H') : tLc (iZipA K (tCons (tVar i) (tCons (tVar j) tNil))) (gTup K 2 (gCons (gName p) (gCons (gName q) gNil))) tYes te vs σ H Q := by
  refine ⟨_, hi, _, hj, a, b, _, _, rfl, .inr ⟨ha, hb, fun D hD => ?_⟩⟩
  refine lc_it (walk_zipT (K := K) (a := a) (b := b) (xs := fs.map V.int) (ys := gs.map V.int) (by rw [List.length_map, List.length_map]; exact hl)) (fun n H' => Same H H' ∧ H' D = some (.lst (((List.zipWith f fs gs).take n).map V.int))) ⟨same_new hD, upd_same⟩ (fun n H' _ h => ⟨same_sqT h.1 ha, same_sqT h.1 hb⟩) (fun n v H1 H' hn h hy => ?_) (fun H' h => ?_)
  · obtain ⟨T, x, y, rfl, hT, rfl, e1, e2⟩ := hy
    rw [List.length_map] at hn
    have hn2 : n < gs.length := by omega
    dsimp only at e1 e2
    rw [List.getElem?_map, List.getElem?_eq_getElem hn] at e1
    rw [List.getElem?_map, List.getElem?_eq_getElem hn2] at e2
    cases e1
    cases e2
    obtain ⟨s1, hl1⟩ := h
    refine g_pair (SqT.of upd_same) ⟨hw _ _, ?_⟩
    have s2 : Same H1 (upd H1 T (.tup [.int fs[n], .int gs[n]])) := same_new hT
    have l2 := s2 _ _ hl1
    have s3 := s1.trans s2
    generalize upd H1 T (.tup [.int fs[n], .int gs[n]]) = H2 at s2 l2 s3 ⊢
    unfold tYes
    simp only [if_true]
    refine he _ _ _ _ (List.getElem_mem hn) ⟨_, l2, ?_, fun c o e => ?_, ?_⟩
    · rw [List.length_map, List.length_take, List.length_zipWith]
      exact small1000 (by omega)
    · rw [upd_ne (ne_of_none e hD)]
      exact s3 _ _ e
    · rw [upd_same, List.take_succ, List.getElem?_eq_getElem (by rw [List.length_zipWith]; omega), List.getElem_zipWith, List.map_append]
      rfl
  · rw [List.length_map] at h
    rw [List.take_of_length_le (by rw [List.length_zipWith]; omega)] at h
    exact k D H' h.1 h.2
/-- [f(i) for i in range(n)], only objects made -/
theorem tlc_rangeC {β : Type} {lo : Int} {n k : Nat} {te : TE} {vs : List Nat} {Qd : Hp → Prop} {D : Addr} (Rout : Hp → V → β → Prop) (f : Nat → β) (oS : ∀ {H H' v x}, Ts H H' → Rout H v x → Rout H' v x) (hD : H D = none) (h3 : n ≤ 1000)
    (hw : ∀ x, wipe ((wipe σ vs).set k (some x)) vs = wipe σ vs)
    (he : ∀ (i : Nat) (H' : Hp), i < n → Same H H' → ∀ R : VK, (∀ u H'', Same H' H'' → Rout H'' u (f i) → R u H'') → te ((wipe σ vs).set k (some (.int (lo + (i : Int))))) H' R)
    (q : ∀ ys H', Same H H' → H' D = some (.lst ys) → F2 (Rout H') ys ((List.range n).map f) → Qd H') :
    ∃ W : Nat → Nat → Hp → Prop, (∃ m, W 0 m (upd H D (.lst []))) ∧ ∀ i m H, W i m H → ((Itr lo n).stop i H ∧ Qd H) ∨ ((Itr lo n).go i H ∧ ∃ Nx : Hp → Prop, (∀ H', Nx H' → ∃ m', m' < m ∧ W (i + 1) m' H') ∧ ∀ x H', (Itr lo n).yld i H x H' → gName k x (wipe σ vs) H' fun σ2 H2 => wipe σ2 vs = wipe σ vs ∧ tYes σ2 H2 fun b H3 =>
        if b = true then te σ2 H3 fun y H4 => ∃ ac, H4 D = some (.lst ac) ∧ ac.length < sizeLine ∧ Nx (upd H4 D (.lst (ac ++ [y]))) else Nx H3) := by
  refine lc_range (lo := lo) (n := n) (fun i H' => Same H H' ∧ ∃ ys, H' D = some (.lst ys) ∧ F2 (Rout H') ys ((List.range i).map f)) ⟨same_new hD, [], upd_same, .nil⟩ ?_ ?_
  · rintro i H' hi ⟨s1, ys, hys, hrs⟩
    have hlen := hrs.len
    refine ⟨hw _, ?_⟩
    unfold tYes
    simp only [if_true]
    refine he i H' hi s1 _ fun u H2 s2 hu => ⟨ys, s2 _ _ hys, ?_, fun b o e => ?_, _, upd_same, ?_⟩
    · rw [hlen, List.length_map, List.length_range]
      exact small1000 (by omega)
    · rw [upd_ne (ne_of_none e hD)]
      exact s2 _ _ (s1 _ _ e)
    · have t1 : Ts H2 (upd H2 D (.lst (ys ++ [u]))) := Ts.lst (s2 _ _ hys)
      rw [List.range_succ, List.map_append]
      exact (hrs.mono fun v b h => oS t1 (oS (Ts.of s2) h)).append (.cons (oS t1 hu) .nil)
  · rintro H' ⟨s1, ys, h1, h2⟩
    exact q ys H' s1 h1 h2
/-- tuple(l) of a new list -/
theorem s_tupL {D : Addr} {R : VK} (hx : H D = some (.lst xs)) (q : ∀ p H', Same H H' → H p = none → H' p = some (.tup xs) → R (.ref p) H') : rTupOf K [V.ref D] H R :=
  ⟨D, xs, rfl, .inl ⟨SqL.of hx, fun l hl => q l _ (same_new hl) hl upd_same⟩⟩
/-- t[:i], t[i:] of a tuple, i within it -/
theorem s_takeT {t : Addr} {i : Nat} {R : VK} (ht : SqT K H t xs) (hi : i < xs.length) (q : ∀ p, H p = none → R (.ref p) (upd H p (.tup (xs.take i)))) : rSlA K (.ref t) none (some (i : Int)) H R :=
  ⟨t, xs, rfl, ht, fun z => by
    have := z.2
    rw [sIx_take hi] at this
    omega, fun _ p hp => by
    rw [cut_take hi]
    exact q p hp⟩
theorem s_dropT {t : Addr} {i : Nat} {R : VK} (ht : SqT K H t xs) (h1 : 1 ≤ i) (hi : i ≤ xs.length) (hx : xs ≠ []) (q : ∀ p, H p = none → R (.ref p) (upd H p (.tup (xs.drop i)))) : rSlA K (.ref t) (some (i : Int)) none H R :=
  ⟨t, xs, rfl, ht, fun z => by
    have := z.1
    rw [HT.sIx_nat] at this
    have hl : 0 < xs.length := List.length_pos_iff.mpr hx
    omega, fun _ p hp => by
    rw [cut_drop hi]
    exact q p hp⟩
theorem s_cat2 {t u : Addr} {ys : List V} {R : VK} (ht : SqT K H t xs) (hu : SqT K H u ys) (hx : xs ≠ []) (hl : xs.length + ys.length ≤ 1000) (h0 : ys = [] → ∀ Q : Prop, (H t = some (.tup xs) → Q) → Q)
    (q : ∀ p H', Same H H' → H' p = some (.tup (xs ++ ys)) → R (.ref p) H') : rCatA K (.ref t) (.ref u) H R :=
  ⟨t, u, xs, ys, rfl, rfl, ht, hu, Nat.le_of_lt (small1000 hl), fun e => absurd e hx, fun _ e => by
    refine h0 e _ fun e2 => q t H (Same.refl _) ?_
    rw [e, List.append_nil]
    exact e2, fun _ _ p hp => q p _ (same_new hp) upd_same⟩
end
end Lk

namespace Lk
open PySem PySem.Spec PyProof.Rows L2
/-- an own error with one field, as the top has left it -/
structure Ec1 (P : Program) (w : World) (K : PySem.W.Frag) (mg : Str → Option Value) (base : Heap) (x : Str) (B C : Addr) (f : Str) : Prop where
  k : ErK K mg x C B
  i : ∃ fI fd, PySem.W.findIn K (.ref C) "__init__" = some (some (.ref fI)) ∧ PySem.W.typeIn K (.ref fI) = some (.type "function") ∧ FnOk P w K mg base CX0 1 fI fd ["self", f] (spI1 C f) ∧ Binds K fd ["self", f] []
  hd : PySem.W.hasDictIn K C = true
  nf : PySem.W.findIn K (.ref C) f = some none
theorem Ec1.xf {P : Program} {w : World} {K : PySem.W.Frag} {mg : Str → Option Value} {base : Heap} {x : Str} {B C : Addr} {f : Str} (E : Ec1 P w K mg base x B C f) : XfC K C := ⟨E.k.ek.ga, E.k.ek.gt, E.k.ek.su, E.hd⟩
/-- what is left to show once the error's field is there -/
def rzQ (C : Addr) (f : Str) (W : WX) (σ : L2.St) (vs : List V) (H : Hp) : Prop := vs.length ≤ 1000 ∧ ∀ a, H a = none → spI1 C f (.ref a :: (vs ++ [])) (upd H a (exo a C none))
  (fun v H2 => v = .non ∧ ∃ (d : Addr) (fs : List (Str × V)), H2 a = some (exo a C (some d)) ∧ H2 d = some (exd d fs) ∧ H d = none ∧ W (.ref C) (some d) σ (upd (del H2 a) d (.xd fs))) (fun _ _ _ => False)
def tRz1 (C : Addr) (f : Str) (W : WX) (t : TA) : TS := fun _ σ H => t σ H fun vs H1 => rzQ C f W σ vs H1
theorem srz1 {C : Addr} {f : Str} {W : WX} {t : TA} {D : Ends} {σ : L2.St} {H : Hp} (q : t σ H fun vs H1 => rzQ C f W σ vs H1) : tRz1 C f W t D σ H := q
theorem s_rz1 {C : Addr} {f : Str} {W : WX} {σ : L2.St} {H : Hp} {x : V} (q : ∀ d H', Same H H' → H' d = some (.xd [(f, x)]) → W (.ref C) (some d) σ H') : rzQ C f W σ [x] H := by
  refine ⟨Nat.le_of_ble_eq_true rfl, fun a ha => ⟨a, x, rfl, upd_same, fun d H2 hd hne e1 e2 e3 => ⟨rfl, d, _, e1, e2, by rwa [upd_ne hne] at hd, q d _ (fun b o e => ?_) upd_same⟩⟩⟩
  have nb : b ≠ a := ne_of_none e ha
  have nd : b ≠ d := fun z => by
    rw [z] at e
    rw [upd_ne hne, e] at hd
    cases hd
  rw [upd_ne nd, del_ne nb, e3 b nb nd, upd_ne nb]
  exact e
section
variable {X : Cx} {x : Str} {B C : Addr} {f : Str} {e : Expr} {es : List Expr} {t : TA} {p pos pos2 : Pos} {W : WX} {j : Nat}
theorem ps_rz1 (E : Ec1 X.prog X.w X.K X.mg X.base x B C f) (hr : Room j X.A) (hj : 2 ≤ j) (tk : Takes X W) (ha : PA X (e :: es) t) (hc : X.calm = true := by rfl) (hg : Gl X x := by rfl)
    (hdb : (x == ("__debug__" : Str)) = false := by decide) (he : starEach (e :: es) X.env = (false, eval e X.env) :: starEach es X.env := by rfl) (hpl : (backTo pos (starEach es X.env)).any (·.1) = false := by rfl) :
    PS X (.Raise (some (.Call (.Name x p) (e :: es) [] pos)) none pos2) (tRz1 C f W t) := by
  obtain ⟨fI, fd, h1, h2, F, b⟩ := E.i
  exact ps_raise hc tk (pmk_oex E.k.ox h1 h2 F (hr.mono hj) b .nil pass0 hg E.k.g ha hdb he hpl)
end
end Lk

namespace Lk
open PySem PySem.Spec PyProof.Rows L2
/-! ### numbers packed in lanes -/
def pkN (L : Nat) : List Nat → Nat
  | [] => 0
  | x :: r => 2 ^ L * pkN L r + x
theorem land_blk {L a b c d : Nat} (hb : b < 2 ^ L) (hd : d < 2 ^ L) : (2 ^ L * a + b) &&& (2 ^ L * c + d) = 2 ^ L * (a &&& c) + (b &&& d) := by
  have hbd : b &&& d < 2 ^ L := Nat.lt_of_le_of_lt Nat.and_le_left hb
  apply Nat.eq_of_testBit_eq
  intro i
  rw [Nat.testBit_and, Nat.testBit_two_pow_mul_add a hb, Nat.testBit_two_pow_mul_add c hd, Nat.testBit_two_pow_mul_add _ hbd]
  by_cases h : i < L
  · rw [if_pos h, if_pos h, if_pos h, Nat.testBit_and]
  · rw [if_neg h, if_neg h, if_neg h, Nat.testBit_and]
theorem pkN_land {L : Nat} : ∀ {xs ys : List Nat}, xs.length = ys.length → (∀ x ∈ xs, x < 2 ^ L) → (∀ y ∈ ys, y < 2 ^ L) → pkN L xs &&& pkN L ys = pkN L (List.zipWith (· &&& ·) xs ys)
  | [], [], _, _, _ => by simp [pkN]
  | x :: xs, y :: ys, h, hx, hy => by
    show (2 ^ L * pkN L xs + x) &&& (2 ^ L * pkN L ys + y) = 2 ^ L * pkN L (List.zipWith (· &&& ·) xs ys) + (x &&& y)
    rw [land_blk (hx x (List.mem_cons_self ..)) (hy y (List.mem_cons_self ..)), pkN_land (by simpa using h) (fun z hz => hx z (List.mem_cons_of_mem _ hz)) fun z hz => hy z (List.mem_cons_of_mem _ hz)]
  | [], _ :: _, h, _, _ => by simp at h
  | _ :: _, [], h, _, _ => by simp at h
theorem zip_mask {w : Nat} : ∀ xs : List Nat, List.zipWith (· &&& ·) xs (List.replicate xs.length (2 ^ w - 1)) = xs.map (· % 2 ^ w)
  | [] => rfl
  | x :: xs => by
    show (x &&& (2 ^ w - 1)) :: List.zipWith _ xs (List.replicate xs.length _) = _
    rw [zip_mask xs, Nat.and_two_pow_sub_one_eq_mod]
    rfl
/-- & with the mask of all lanes -/
theorem pkN_mask {L w : Nat} (h : w ≤ L) {xs : List Nat} (hx : ∀ x ∈ xs, x < 2 ^ L) : pkN L xs &&& pkN L (List.replicate xs.length (2 ^ w - 1)) = pkN L (xs.map (· % 2 ^ w)) := by
  rw [pkN_land (by rw [List.length_replicate]) hx (fun y hy => ?_), zip_mask]
  rw [List.eq_of_mem_replicate hy]
  have h1 : 2 ^ w ≤ 2 ^ L := Nat.pow_le_pow_right (by decide) h
  have h2 : 0 < 2 ^ w := Nat.pow_pos (by decide)
  omega
theorem pkN_add {L c : Nat} : ∀ {xs ys : List Nat}, xs.length = ys.length → pkN L xs + c * pkN L ys = pkN L (List.zipWith (fun x y => x + c * y) xs ys)
  | [], [], _ => rfl
  | x :: xs, y :: ys, h => by
    show 2 ^ L * pkN L xs + x + c * (2 ^ L * pkN L ys + y) = 2 ^ L * pkN L (List.zipWith _ xs ys) + (x + c * y)
    rw [← pkN_add (by simpa using h), Nat.mul_add, Nat.mul_add, Nat.mul_left_comm c]
    omega
  | [], _ :: _, h => by simp at h
  | _ :: _, [], h => by simp at h
theorem pkN_mul {L c : Nat} : ∀ xs : List Nat, c * pkN L xs = pkN L (xs.map (c * ·))
  | [] => rfl
  | x :: xs => by
    show c * (2 ^ L * pkN L xs + x) = 2 ^ L * pkN L (xs.map _) + c * x
    rw [← pkN_mul xs, Nat.mul_add, Nat.mul_left_comm c]
/-- shift and mask -/
theorem pkN_get {L : Nat} : ∀ {xs : List Nat} (i : Nat), (∀ x ∈ xs, x < 2 ^ L) → pkN L xs / 2 ^ (L * i) % 2 ^ L = xs.getD i 0
  | [], i, _ => by
    show 0 / _ % _ = _
    rw [Nat.zero_div, Nat.zero_mod]
    rfl
  | x :: xs, 0, h => by
    have hx := h x (List.mem_cons_self ..)
    rw [Nat.mul_zero, Nat.pow_zero, Nat.div_one]
    show (2 ^ L * pkN L xs + x) % 2 ^ L = x
    rw [Nat.mul_add_mod, Nat.mod_eq_of_lt hx]
  | x :: xs, i + 1, h => by
    have hx := h x (List.mem_cons_self ..)
    have p0 : 0 < 2 ^ L := Nat.pow_pos (by decide)
    show (2 ^ L * pkN L xs + x) / 2 ^ (L * (i + 1)) % 2 ^ L = xs.getD i 0
    rw [Nat.mul_add, Nat.mul_one, Nat.add_comm (L * i), Nat.pow_add, ← Nat.div_div_eq_div_mul, Nat.mul_add_div p0, Nat.div_eq_of_lt hx, Nat.add_zero]
    exact pkN_get i fun z hz => h z (List.mem_cons_of_mem _ hz)
theorem pkN_zero {L : Nat} : ∀ {xs : List Nat}, pkN L xs = 0 ↔ ∀ x ∈ xs, x = 0
  | [] => ⟨fun _ x h => (by cases h), fun _ => rfl⟩
  | x :: xs => by
    have p0 : 0 < 2 ^ L := Nat.pow_pos (by decide)
    show 2 ^ L * pkN L xs + x = 0 ↔ _
    constructor
    · intro h y hy
      have h1 : x = 0 := by omega
      have h2 : 2 ^ L * pkN L xs = 0 := by omega
      rcases Nat.mul_eq_zero.mp h2 with z | z
      · omega
      · rcases List.mem_cons.mp hy with rfl | hy
        · exact h1
        · exact pkN_zero.mp z y hy
    · intro h
      rw [h x (List.mem_cons_self ..), pkN_zero.mpr fun y hy => h y (List.mem_cons_of_mem _ hy)]
      rfl
theorem pkN_lt {L : Nat} : ∀ {xs : List Nat}, (∀ x ∈ xs, x < 2 ^ L) → pkN L xs < 2 ^ (L * xs.length)
  | [], _ => by
    show 0 < 2 ^ (L * 0)
    exact Nat.pow_pos (by decide)
  | x :: xs, h => by
    have hx := h x (List.mem_cons_self ..)
    have ih := pkN_lt fun z hz => h z (List.mem_cons_of_mem _ hz)
    show 2 ^ L * pkN L xs + x < 2 ^ (L * (xs.length + 1))
    rw [Nat.mul_add, Nat.mul_one, Nat.add_comm (L * _), Nat.pow_add]
    have : 2 ^ L * (pkN L xs + 1) ≤ 2 ^ L * 2 ^ (L * xs.length) := Nat.mul_le_mul_left _ ih
    rw [Nat.mul_add, Nat.mul_one] at this
    omega
/-! ### how often 2 divides -/
theorem land_low {v q : Nat} : (2 ^ v * (2 * q + 1)) &&& (2 ^ v * (2 * q + 1) - 1) = 2 ^ (v + 1) * q := by
  have p0 : 0 < 2 ^ v := Nat.pow_pos (by decide)
  have e1 : 2 ^ v * (2 * q + 1) = 2 ^ (v + 1) * q + 2 ^ v := by
    rw [Nat.pow_succ, Nat.mul_add, Nat.mul_one, Nat.mul_assoc]
  have e2 : 2 ^ v * (2 * q + 1) - 1 = 2 ^ (v + 1) * q + (2 ^ v - 1) := by omega
  have h1 : 2 ^ v < 2 ^ (v + 1) := by rw [Nat.pow_succ]; omega
  rw [e2, e1, land_blk h1 (by omega), Nat.and_self, Nat.and_two_pow_sub_one_eq_mod, Nat.mod_self, Nat.add_zero]
theorem odd_part : ∀ n : Nat, n ≠ 0 → ∃ v q, n = 2 ^ v * (2 * q + 1)
  | n, h => by
    by_cases c : n % 2 = 1
    · exact ⟨0, n / 2, by omega⟩
    · obtain ⟨v, q, e⟩ := odd_part (n / 2) (by omega)
      refine ⟨v + 1, q, ?_⟩
      rw [Nat.pow_succ, Nat.mul_assoc, Nat.mul_left_comm, ← e]
      omega
termination_by n => n
decreasing_by omega
theorem odd_uniq {v q v' q' : Nat} (h : 2 ^ v * (2 * q + 1) = 2 ^ v' * (2 * q' + 1)) : v = v' ∧ q = q' := by
  have key : ∀ v v' q q' : Nat, v < v' → 2 ^ v * (2 * q + 1) = 2 ^ v' * (2 * q' + 1) → False := fun v v' q q' hlt e => by
    obtain ⟨d, rfl⟩ : ∃ d, v' = v + (d + 1) := ⟨v' - v - 1, by omega⟩
    rw [Nat.pow_add, Nat.mul_assoc] at e
    have e2 := Nat.eq_of_mul_eq_mul_left (Nat.pow_pos (by decide)) e
    rw [Nat.pow_succ, Nat.mul_right_comm] at e2
    omega
  rcases Nat.lt_trichotomy v v' with c | c | c
  · exact absurd h fun z => key _ _ _ _ c z
  · subst c
    have := Nat.eq_of_mul_eq_mul_left (Nat.pow_pos (by decide)) h
    exact ⟨rfl, by omega⟩
  · exact absurd h.symm fun z => key _ _ _ _ c z
end Lk

namespace Md
/-! ### rows modulo M, as functions of the column; only the columns ahead of n count -/
abbrev Vec := Nat → Int
def Cg (M : Int) (n : Nat) (x y : Vec) : Prop := ∀ i, i < n → M ∣ x i - y i
def lin : List (Int × Vec) → Vec
  | [] => fun _ => 0
  | p :: l => fun i => p.1 * p.2 i + lin l i
/-- the sums of multiples of some rows -/
def S (M : Int) (n : Nat) (G : Vec → Prop) (x : Vec) : Prop := ∃ l : List (Int × Vec), (∀ p ∈ l, G p.2) ∧ Cg M n x (lin l)
section
variable {M : Int} {n : Nat} {G G' : Vec → Prop} {x y z : Vec}
theorem Cg.refl (x : Vec) : Cg M n x x := fun i _ => by rw [Int.sub_self]; exact Int.dvd_zero _
theorem Cg.symm (h : Cg M n x y) : Cg M n y x := fun i hi => by
  have := (Int.dvd_neg).mpr (h i hi)
  rwa [Int.neg_sub] at this
theorem Cg.trans (h : Cg M n x y) (h' : Cg M n y z) : Cg M n x z := fun i hi => by
  have := Int.dvd_add (h i hi) (h' i hi)
  rwa [show x i - y i + (y i - z i) = x i - z i by omega] at this
theorem Cg.add {x' y' : Vec} (h : Cg M n x y) (h' : Cg M n x' y') : Cg M n (fun i => x i + x' i) (fun i => y i + y' i) := fun i hi => by
  have := Int.dvd_add (h i hi) (h' i hi)
  rwa [show x i - y i + (x' i - y' i) = x i + x' i - (y i + y' i) by omega] at this
theorem Cg.mul (c : Int) (h : Cg M n x y) : Cg M n (fun i => c * x i) (fun i => c * y i) := fun i hi => by
  have := Int.dvd_mul_of_dvd_right (b := c) (h i hi)
  rwa [Int.mul_sub] at this
theorem lin_append : ∀ (l l' : List (Int × Vec)) (i : Nat), lin (l ++ l') i = lin l i + lin l' i
  | [], l', i => by show lin l' i = 0 + lin l' i; omega
  | p :: l, l', i => by
    show p.1 * p.2 i + lin (l ++ l') i = p.1 * p.2 i + lin l i + lin l' i
    rw [lin_append l l' i]
    omega
theorem lin_scale (c : Int) : ∀ (l : List (Int × Vec)) (i : Nat), lin (l.map fun p => (c * p.1, p.2)) i = c * lin l i
  | [], i => by show 0 = c * 0; omega
  | p :: l, i => by
    show c * p.1 * p.2 i + lin (l.map _) i = c * (p.1 * p.2 i + lin l i)
    rw [lin_scale c l i, Int.mul_add, Int.mul_assoc]
theorem S.cg (h : S M n G y) (e : Cg M n x y) : S M n G x := by
  obtain ⟨l, h1, h2⟩ := h
  exact ⟨l, h1, e.trans h2⟩
theorem S.zero : S M n G (fun _ => 0) := ⟨[], fun p h => (by cases h), Cg.refl _⟩
theorem S.gen (h : G x) : S M n G x := ⟨[(1, x)], fun p hp => by rw [List.mem_singleton.mp hp]; exact h, fun i _ => by
  show M ∣ x i - (1 * x i + 0)
  rw [show x i - (1 * x i + 0) = 0 by omega]
  exact Int.dvd_zero _⟩
theorem S.add (h : S M n G x) (h' : S M n G y) : S M n G (fun i => x i + y i) := by
  obtain ⟨l, h1, h2⟩ := h
  obtain ⟨l', h1', h2'⟩ := h'
  refine ⟨l ++ l', fun p hp => ?_, ?_⟩
  · rcases List.mem_append.mp hp with z | z
    · exact h1 p z
    · exact h1' p z
  · intro i hi
    rw [lin_append]
    exact h2.add h2' i hi
theorem S.mul (c : Int) (h : S M n G x) : S M n G (fun i => c * x i) := by
  obtain ⟨l, h1, h2⟩ := h
  refine ⟨l.map fun p => (c * p.1, p.2), fun p hp => ?_, fun i hi => ?_⟩
  · obtain ⟨p', hp', rfl⟩ := List.mem_map.mp hp
    exact h1 p' hp'
  · rw [lin_scale]
    exact h2.mul c i hi
theorem S.sub (h : S M n G x) (h' : S M n G y) : S M n G (fun i => x i - y i) := by
  refine (h.add (h'.mul (-1))).cg fun i _ => ?_
  show M ∣ x i - y i - (x i + -1 * y i)
  rw [show x i - y i - (x i + -1 * y i) = 0 by omega]
  exact Int.dvd_zero _
theorem S.lin_mem : ∀ {l : List (Int × Vec)}, (∀ p ∈ l, S M n G p.2) → S M n G (lin l)
  | [], _ => S.zero
  | p :: l, h => (S.mul p.1 (h p (List.mem_cons_self ..))).add (S.lin_mem fun q hq => h q (List.mem_cons_of_mem _ hq))
theorem S.trans (h : S M n G x) (k : ∀ y, G y → S M n G' y) : S M n G' x := by
  obtain ⟨l, h1, h2⟩ := h
  exact (S.lin_mem fun p hp => k p.2 (h1 p hp)).cg h2
theorem S.mono (h : S M n G x) (k : ∀ y, G y → G' y) : S M n G' x := h.trans fun y hy => S.gen (k y hy)
/-- what is 0 in all rows in a column is so in their sums -/
theorem S.col {i : Nat} (hi : i < n) (h : S M n G x) (k : ∀ y, G y → M ∣ y i) : M ∣ x i := by
  obtain ⟨l, h1, h2⟩ := h
  have hl : ∀ l : List (Int × Vec), (∀ p ∈ l, G p.2) → M ∣ lin l i := fun l => by
    induction l with
    | nil => exact fun _ => Int.dvd_zero _
    | cons p l ih => exact fun h => Int.dvd_add (Int.dvd_mul_of_dvd_right (k _ (h p (List.mem_cons_self ..)))) (ih fun q hq => h q (List.mem_cons_of_mem _ hq))
  have := Int.dvd_add (h2 i hi) (hl l h1)
  rwa [show x i - lin l i + lin l i = x i by omega] at this
end
/-! ### rows in steps -/
abbrev Stp := Nat → Option (Vec × Nat)
/-- the steps from a column on -/
def From (P : Stp) (j : Nat) (y : Vec) : Prop := ∃ c e, j ≤ c ∧ P c = some (y, e)
/-- each step is 0 ahead of its column, and a power of 2 there -/
structure Good (w n : Nat) (P : Stp) : Prop where
  c : ∀ {c s e}, P c = some (s, e) → c < n
  e : ∀ {c s e}, P c = some (s, e) → e < w
  z : ∀ {c s e i}, P c = some (s, e) → i < c → (2 : Int) ^ w ∣ s i
  p : ∀ {c s e}, P c = some (s, e) → (2 : Int) ^ w ∣ s c - 2 ^ e
/-- the multiple of a step that is 0 in its column is a sum of later ones -/
def Closed (w n : Nat) (P : Stp) : Prop := ∀ {c s e}, P c = some (s, e) → S (2 ^ w) n (From P (c + 1)) (fun i => 2 ^ (w - e) * s i)
section
variable {w n : Nat} {P : Stp} {x : Vec} {j : Nat}
theorem From.le {k : Nat} (h : j ≤ k) {y : Vec} (f : From P k y) : From P j y := by
  obtain ⟨c, e, h1, h2⟩ := f
  exact ⟨c, e, Nat.le_trans h h1, h2⟩
theorem from_zero (g : Good w n P) {y : Vec} {i : Nat} (f : From P j y) (hi : i < j) : (2 : Int) ^ w ∣ y i := by
  obtain ⟨c, e, h1, h2⟩ := f
  exact g.z h2 (by omega)
theorem split_from {s : Vec} {e : Nat} (hp : P j = some (s, e)) (h : S (2 ^ w) n (From P j) x) : ∃ (a : Int) (y : Vec), S (2 ^ w) n (From P (j + 1)) y ∧ Cg (2 ^ w) n x (fun i => a * s i + y i) := by
  obtain ⟨l, h1, h2⟩ := h
  have key : ∀ l : List (Int × Vec), (∀ p ∈ l, From P j p.2) → ∃ (a : Int) (y : Vec), S (2 ^ w) n (From P (j + 1)) y ∧ Cg (2 ^ w) n (lin l) (fun i => a * s i + y i) := fun l => by
    induction l with
    | nil => exact fun _ => ⟨0, fun _ => 0, S.zero, fun i _ => by
        show (2 : Int) ^ w ∣ 0 - (0 * s i + 0)
        rw [Int.zero_mul]
        exact Int.dvd_zero _⟩
    | cons p l ih =>
      intro h
      obtain ⟨a, y, hy, hc⟩ := ih fun q hq => h q (List.mem_cons_of_mem _ hq)
      obtain ⟨c, e', hle, hpc⟩ := h p (List.mem_cons_self ..)
      by_cases cj : c = j
      · subst cj
        rw [hp] at hpc
        cases hpc
        refine ⟨p.1 + a, y, hy, fun i hi => ?_⟩
        have := hc i hi
        show (2 : Int) ^ w ∣ p.1 * p.2 i + lin l i - ((p.1 + a) * p.2 i + y i)
        rw [Int.add_mul, show p.1 * p.2 i + lin l i - (p.1 * p.2 i + a * p.2 i + y i) = lin l i - (a * p.2 i + y i) by omega]
        exact this
      · refine ⟨a, fun i => p.1 * p.2 i + y i, (S.mul p.1 (S.gen ⟨c, e', by omega, hpc⟩)).add hy, fun i hi => ?_⟩
        have := hc i hi
        show (2 : Int) ^ w ∣ p.1 * p.2 i + lin l i - (a * s i + (p.1 * p.2 i + y i))
        rw [show p.1 * p.2 i + lin l i - (a * s i + (p.1 * p.2 i + y i)) = lin l i - (a * s i + y i) by omega]
        exact this
  obtain ⟨a, y, hy, hc⟩ := key l h1
  exact ⟨a, y, hy, h2.trans hc⟩
theorem pow_split {e : Nat} (h : e ≤ w) : (2 : Int) ^ w = 2 ^ (w - e) * 2 ^ e := by
  rw [← Int.pow_add, Nat.sub_add_cancel h]
theorem dvd_cancel {a : Int} {e : Nat} (h : e ≤ w) (d : (2 : Int) ^ w ∣ a * 2 ^ e) : (2 : Int) ^ (w - e) ∣ a := by
  rw [pow_split h] at d
  exact Int.dvd_of_mul_dvd_mul_right (Int.ne_of_gt (Int.pow_pos (by decide))) d
/-- an element that is 0 in one more column is a sum of later steps -/
theorem lift_one_none (h : S (2 ^ w) n (From P j) x) (hp : P j = none) : S (2 ^ w) n (From P (j + 1)) x := by
  refine h.mono fun y f => ?_
  obtain ⟨c, e, h1, h2⟩ := f
  refine ⟨c, e, ?_, h2⟩
  by_cases z : c = j
  · rw [z, hp] at h2
    cases h2
  · omega
theorem lift_one (g : Good w n P) (k : Closed w n P) (h : S (2 ^ w) n (From P j) x) (hx : (2 : Int) ^ w ∣ x j) : S (2 ^ w) n (From P (j + 1)) x := by
  cases hp : P j with
  | none =>
    refine h.mono fun y f => ?_
    obtain ⟨c, e, h1, h2⟩ := f
    refine ⟨c, e, ?_, h2⟩
    by_cases z : c = j
    · rw [z, hp] at h2
      cases h2
    · omega
  | some q =>
    obtain ⟨s, e⟩ := q
    obtain ⟨a, y, hy, hc⟩ := split_from hp h
    have he := g.e hp
    have hjn := g.c hp
    have hyj : (2 : Int) ^ w ∣ y j := hy.col hjn fun z f => from_zero g f (Nat.lt_succ_self j)
    have h1 : (2 : Int) ^ w ∣ a * s j := by
      have h2 := Int.dvd_sub hx (hc j hjn)
      have h3 := Int.dvd_sub h2 hyj
      rwa [show x j - (x j - (a * s j + y j)) - y j = a * s j by omega] at h3
    have h2 : (2 : Int) ^ w ∣ a * 2 ^ e := by
      have h3 := Int.dvd_sub h1 (Int.dvd_mul_of_dvd_right (b := a) (g.p hp))
      rwa [← Int.mul_sub, show s j - (s j - 2 ^ e) = (2 : Int) ^ e by omega] at h3
    obtain ⟨b, hb⟩ := dvd_cancel (Nat.le_of_lt he) h2
    refine (((k hp).mul b).add hy).cg (hc.trans fun i _ => ?_)
    show (2 : Int) ^ w ∣ a * s i + y i - (b * (2 ^ (w - e) * s i) + y i)
    rw [hb, ← Int.mul_assoc, Int.mul_comm b, Int.sub_self]
    exact Int.dvd_zero _
/-- an element that is 0 ahead of a column is a sum of the steps from there on -/
theorem lift (g : Good w n P) (k : Closed w n P) : ∀ (d : Nat), S (2 ^ w) n (From P j) x → (∀ i, j ≤ i → i < j + d → (2 : Int) ^ w ∣ x i) → S (2 ^ w) n (From P (j + d)) x
  | 0, h, _ => h
  | d + 1, h, hx => lift_one g k (lift g k d h fun i h1 h2 => hx i h1 (by omega)) (hx (j + d) (by omega) (by omega))
/-- what is reduced in all pivots' columns, and an element, is 0 -/
theorem reduced_zero (g : Good w n P) (k : Closed w n P) (h : S (2 ^ w) n (From P 0) x) (hr : ∀ {c s e}, P c = some (s, e) → 0 ≤ x c ∧ x c < 2 ^ e) : ∀ i, i < n → (2 : Int) ^ w ∣ x i := by
  intro i
  induction i using Nat.strongRecOn with
  | _ i ih =>
    intro hin
    have h1 := lift (j := 0) g k i h fun q _ h2 => ih q (by omega) (by omega)
    rw [Nat.zero_add] at h1
    cases hp : P i with
    | none => exact (lift_one_none h1 hp).col hin fun z f => from_zero g f (Nat.lt_succ_self i)
    | some q =>
      obtain ⟨s, e⟩ := q
      obtain ⟨a, y, hy, hc⟩ := split_from hp h1
      have he := g.e hp
      have hyi : (2 : Int) ^ w ∣ y i := hy.col hin fun z f => from_zero g f (Nat.lt_succ_self i)
      have hd : (2 : Int) ^ e ∣ (2 : Int) ^ w := ⟨2 ^ (w - e), by rw [Int.mul_comm]; exact pow_split (Nat.le_of_lt he)⟩
      have h2 : (2 : Int) ^ e ∣ x i := by
        have h3 := Int.dvd_trans hd (hc i hin)
        have h4 := Int.dvd_trans hd hyi
        have h5 := Int.dvd_trans hd (g.p hp)
        have h6 : (2 : Int) ^ e ∣ a * s i := Int.dvd_mul_of_dvd_right (by
          have := Int.dvd_add h5 (Int.dvd_refl ((2 : Int) ^ e))
          rwa [show s i - 2 ^ e + 2 ^ e = s i by omega] at this)
        have := Int.dvd_add h3 (Int.dvd_add h6 h4)
        rwa [show x i - (a * s i + y i) + (a * s i + y i) = x i by omega] at this
      obtain ⟨q0, q1⟩ := hr hp
      obtain ⟨t, ht⟩ := h2
      have p0 : (0 : Int) < 2 ^ e := Int.pow_pos (by decide)
      have : x i = 0 := by
        rw [ht] at q0 q1 ⊢
        have t0 : t = 0 := by
          rcases Int.lt_trichotomy t 0 with z | z | z
          · have := Int.mul_lt_mul_of_pos_left z p0
            omega
          · exact z
          · have : (2 : Int) ^ e * 1 ≤ 2 ^ e * t := Int.mul_le_mul_of_nonneg_left z (Int.le_of_lt p0)
            omega
        rw [t0, Int.mul_zero]
      rw [this]
      exact Int.dvd_zero _
end
end Md

namespace Md
/-! ### rows that are taken in, step by step -/
/-- all numbers are from 0 to 2 ^ w - 1 -/
def Red (w : Nat) (x : Vec) : Prop := ∀ i, 0 ≤ x i ∧ x i < 2 ^ w
def less (w c e : Nat) (s x : Vec) : Vec := fun i => (x i - x c / 2 ^ e * s i) % 2 ^ w
/-- a row less multiples of the steps of some columns, if they stand at j or behind -/
def rst (w : Nat) (P : Stp) (j : Nat) : List Nat → Vec → Vec
  | [], x => x
  | c :: cs, x => rst w P j cs (match P c with
    | some (s, e) => if j ≤ c then less w c e s x else x
    | none => x)
section
variable {w n m j : Nat} {P : Stp} {x y : Vec} {cs : List Nat}
theorem p2 (w : Nat) : (0 : Int) < 2 ^ w := Int.pow_pos (by decide)
theorem less_red {c e : Nat} {s : Vec} : Red w (less w c e s x) := fun i =>
  ⟨Int.emod_nonneg _ (Int.ne_of_gt (p2 w)), Int.emod_lt_of_pos _ (p2 w)⟩
theorem emod_cg (a : Int) (M : Int) : M ∣ a - a % M := ⟨a / M, by have e := Int.emod_add_mul_ediv a M; omega⟩
theorem less_cg {c e : Nat} {s : Vec} : ∀ i, (2 : Int) ^ w ∣ x i - (less w c e s x i + x c / 2 ^ e * s i) := fun i => by
  have := emod_cg (x i - x c / 2 ^ e * s i) (2 ^ w)
  show (2 : Int) ^ w ∣ x i - ((x i - x c / 2 ^ e * s i) % 2 ^ w + x c / 2 ^ e * s i)
  rwa [show ∀ a b c : Int, a - (b + c) = a - c - b by intros; omega]
theorem less_keep {c e : Nat} {s : Vec} (hx : Red w x) {i : Nat} (h : (2 : Int) ^ w ∣ s i) : less w c e s x i = x i := by
  show (x i - x c / 2 ^ e * s i) % 2 ^ w = x i
  obtain ⟨k, hk⟩ := h
  rw [hk, ← Int.mul_assoc, Int.mul_right_comm, Int.sub_emod, Int.mul_emod_left, Int.sub_zero, Int.emod_emod_of_dvd _ (Int.dvd_refl _)]
  exact Int.emod_eq_of_lt (hx i).1 (hx i).2
theorem less_same {c e : Nat} {s : Vec} (hx : Red w x) (h : x c = 0) : less w c e s x = x := by
  funext i
  show (x i - x c / 2 ^ e * s i) % 2 ^ w = x i
  rw [h, Int.zero_ediv, Int.zero_mul, Int.sub_zero]
  exact Int.emod_eq_of_lt (hx i).1 (hx i).2
theorem less_at {c e : Nat} {s : Vec} (he : e ≤ w) (hx : Red w x) (h : (2 : Int) ^ w ∣ s c - 2 ^ e) : less w c e s x c = x c % 2 ^ e := by
  show (x c - x c / 2 ^ e * s c) % 2 ^ w = x c % 2 ^ e
  obtain ⟨k, hk⟩ := h
  have e1 : x c - x c / 2 ^ e * s c = x c % 2 ^ e + 2 ^ w * (-(x c / 2 ^ e * k)) := by
    have h1 : s c = 2 ^ e + 2 ^ w * k := by omega
    have h2 := Int.emod_add_mul_ediv (x c) (2 ^ e)
    rw [h1, Int.mul_add, Int.mul_neg, Int.mul_left_comm, Int.mul_comm (x c / 2 ^ e) (2 ^ e)]
    omega
  rw [e1, Int.add_mul_emod_self_left]
  have h3 := Int.emod_nonneg (x c) (Int.ne_of_gt (p2 e))
  have h4 := Int.emod_lt_of_pos (x c) (p2 e)
  have h5 : (2 : Int) ^ e ≤ 2 ^ w := by
    have := Nat.pow_le_pow_right (n := 2) (by decide) he
    exact_mod_cast this
  exact Int.emod_eq_of_lt h3 (by omega)
theorem rst_red : ∀ {cs : List Nat} {x : Vec}, Red w x → Red w (rst w P j cs x)
  | [], x, h => h
  | c :: cs, x, h => by
    show Red w (rst w P j cs _)
    apply rst_red
    split
    · split
      · exact less_red
      · exact h
    · exact h
theorem rst_mem (hm : ∀ {c s e}, P c = some (s, e) → c ∈ cs → True) : ∀ {x : Vec}, ∃ y, S (2 ^ w) n (From P j) y ∧ Cg (2 ^ w) n x (fun i => rst w P j cs x i + y i) := by
  clear hm
  induction cs with
  | nil => exact fun {x} => ⟨fun _ => 0, S.zero, fun i _ => by
      show (2 : Int) ^ w ∣ x i - (x i + 0)
      rw [show x i - (x i + 0) = 0 by omega]
      exact Int.dvd_zero _⟩
  | cons c cs ih =>
    intro x
    show ∃ y, S (2 ^ w) n (From P j) y ∧ Cg (2 ^ w) n x (fun i => rst w P j cs _ i + y i)
    cases hp : P c with
    | none => exact ih
    | some q =>
      obtain ⟨s, e⟩ := q
      dsimp only
      by_cases hj : j ≤ c
      · rw [if_pos hj]
        obtain ⟨y, h1, h2⟩ := ih (x := less w c e s x)
        refine ⟨fun i => y i + x c / 2 ^ e * s i, h1.add (S.mul _ (S.gen ⟨c, e, hj, hp⟩)), fun i hi => ?_⟩
        have a := less_cg (w := w) (x := x) (c := c) (e := e) (s := s) i
        have b := h2 i hi
        have := Int.dvd_add a b
        rwa [show ∀ p q r t u : Int, p - (q + r) + (q - (t + u)) = p - (t + (u + r)) by intros; omega] at this
      · rw [if_neg hj]
        exact ih
/-- a column in which all steps are 0 stays -/
theorem rst_keep {i : Nat} (h : ∀ c ∈ cs, ∀ s e, P c = some (s, e) → j ≤ c → (2 : Int) ^ w ∣ s i) : ∀ {x : Vec}, Red w x → rst w P j cs x i = x i := by
  induction cs with
  | nil => exact fun _ => rfl
  | cons c cs ih =>
    intro x hx
    have ih : ∀ {x : Vec}, Red w x → rst w P j cs x i = x i := ih fun c hc => h c (List.mem_cons_of_mem _ hc)
    show rst w P j cs _ i = x i
    cases hp : P c with
    | none => exact ih hx
    | some q =>
      obtain ⟨s, e⟩ := q
      dsimp only
      by_cases hj : j ≤ c
      · rw [if_pos hj, ih less_red]
        exact less_keep hx (h c (List.mem_cons_self ..) s e hp hj)
      · rw [if_neg hj]
        exact ih hx
/-- in the pivots' columns the rest is smaller than the pivots -/
theorem rst_small (g : Good w n P) (hs : cs.Pairwise (· < ·)) : ∀ {x : Vec}, Red w x → ∀ c ∈ cs, ∀ s e, P c = some (s, e) → j ≤ c → 0 ≤ rst w P j cs x c ∧ rst w P j cs x c < 2 ^ e := by
  induction cs with
  | nil => exact fun _ c h => by cases h
  | cons a cs ih =>
    intro x hx c hc s e hp hj
    have hs' := List.pairwise_cons.mp hs
    show 0 ≤ rst w P j cs _ c ∧ rst w P j cs _ c < 2 ^ e
    rcases List.mem_cons.mp hc with rfl | hc
    · rw [hp]
      dsimp only
      rw [if_pos hj, rst_keep (fun c' hc' s' e' hp' _ => g.z hp' (hs'.1 c' hc')) less_red, less_at (Nat.le_of_lt (g.e hp)) hx (g.p hp)]
      exact ⟨Int.emod_nonneg _ (Int.ne_of_gt (p2 e)), Int.emod_lt_of_pos _ (p2 e)⟩
    · refine ih hs'.2 ?_ c hc s e hp hj
      split
      · split
        · exact less_red
        · exact hx
      · exact hx
/-- what is 0 ahead of a column is reduced by the steps from there on alone -/
theorem rst_from (g : Good w n P) {k : Nat} (hk : j ≤ k) (hs : cs.Pairwise (· < ·)) : ∀ {x : Vec}, Red w x → (∀ i, i < k → x i = 0) → rst w P j cs x = rst w P k cs x := by
  induction cs with
  | nil => exact fun _ _ => rfl
  | cons c cs ih =>
    intro x hx h0
    have ih : ∀ {x : Vec}, Red w x → (∀ i, i < k → x i = 0) → rst w P j cs x = rst w P k cs x := ih (List.pairwise_cons.mp hs).2
    show rst w P j cs _ = rst w P k cs _
    cases hp : P c with
    | none => exact ih hx h0
    | some q =>
      obtain ⟨s, e⟩ := q
      dsimp only
      by_cases hc : k ≤ c
      · rw [if_pos hc, if_pos (Nat.le_trans hk hc)]
        exact ih less_red fun i hi => by rw [less_keep hx (g.z hp (by omega))]; exact h0 i hi
      · rw [if_neg hc]
        by_cases hj : j ≤ c
        · rw [if_pos hj, less_same hx (h0 c (by omega))]
          exact ih hx h0
        · rw [if_neg hj]
          exact ih hx h0
/-! ### what stands while rows wait -/
def upd (P : Stp) (c : Nat) (t : Vec) (e : Nat) : Stp := fun i => if i = c then some (t, e) else P i
/-- steps from a column on, and rows that wait and are 0 ahead of it -/
def FW (P : Stp) (W : List Vec) (j : Nat) (y : Vec) : Prop := From P j y ∨ (y ∈ W ∧ ∀ i, i < j → y i = 0)
structure Inv (w n m : Nat) (G : Vec → Prop) (P : Stp) (W : List Vec) : Prop where
  good : Good w n P
  rp : ∀ {c s e}, P c = some (s, e) → Red w s
  rw : ∀ y ∈ W, Red w y
  sp : ∀ {c s e}, P c = some (s, e) → S (2 ^ w) m G s
  sw : ∀ y ∈ W, S (2 ^ w) m G y
  full : ∀ y, G y → S (2 ^ w) n (FW P W 0) y
  closed : ∀ {c s e}, P c = some (s, e) → S (2 ^ w) n (FW P W (c + 1)) (fun i => 2 ^ (w - e) * s i)
end
section
variable {w n m : Nat} {G : Vec → Prop} {P : Stp} {W : List Vec} {x : Vec} {cs : List Nat}
theorem Inv.good_end (h : Inv w n m G P []) : Closed w n P := fun hp =>
  (h.closed hp).mono fun y hy => by
    rcases hy with hy | ⟨hy, _⟩
    · exact hy
    · cases hy
theorem Inv.full_end (h : Inv w n m G P []) {y : Vec} (hy : G y) : S (2 ^ w) n (From P 0) y :=
  (h.full y hy).mono fun y hy => by
    rcases hy with hy | ⟨hy, _⟩
    · exact hy
    · cases hy
/-- a row that waits leaves nothing -/
theorem Inv.drop (h : Inv w n m G P (W ++ [x])) (hs : cs.Pairwise (· < ·)) (h0 : ∀ i, i < n → rst w P 0 cs x i = 0) : Inv w n m G P W := by
  have key : ∀ j y, FW P (W ++ [x]) j y → S (2 ^ w) n (FW P W j) y := fun j y hy => by
    rcases hy with hy | ⟨hy, hz⟩
    · exact S.gen (Or.inl hy)
    · rcases List.mem_append.mp hy with hy | hy
      · exact S.gen (Or.inr ⟨hy, hz⟩)
      · rw [List.mem_singleton.mp hy] at hz ⊢
        have hx := h.rw x (List.mem_append_right _ (List.mem_singleton_self x))
        obtain ⟨y', h1, h2⟩ := rst_mem (w := w) (n := n) (P := P) (j := j) (cs := cs) (fun _ _ => trivial) (x := x)
        rw [← rst_from h.good (Nat.zero_le j) hs hx hz] at h2
        refine (h1.mono fun y hy => Or.inl hy).cg fun i hi => ?_
        have := h2 i hi
        dsimp only at this
        rw [h0 i hi, Int.zero_add] at this
        exact this
  exact { good := h.good, rp := h.rp, rw := fun y hy => h.rw y (List.mem_append_left _ hy), sp := h.sp
          sw := fun y hy => h.sw y (List.mem_append_left _ hy)
          full := fun y hy => (h.full y hy).trans (key 0)
          closed := fun hp => (h.closed hp).trans (key _) }
/-- a row that waits becomes a step -/
theorem Inv.put (h : Inv w n m G P (W ++ [x])) (hnm : n ≤ m) (hs : cs.Pairwise (· < ·)) {c e : Nat} {q f : Int} {t : Vec} {W' : List Vec} (hc : c < n)
    (h0 : ∀ i, i < c → rst w P 0 cs x i = 0) (hq : rst w P 0 cs x c = q * 2 ^ e) (he : e < w)
    (hf : (2 : Int) ^ w ∣ f * q - 1) (ht : ∀ i, (2 : Int) ^ w ∣ t i - f * rst w P 0 cs x i) (rt : Red w t) (tz : ∀ i, i < c → t i = 0)
    (hW : ∀ y, y ∈ W → y ∈ W') (hold : ∀ s e', P c = some (s, e') → s ∈ W')
    (hnew : e ≠ 0 → ∃ u ∈ W', (∀ i, (2 : Int) ^ w ∣ u i - 2 ^ (w - e) * t i) ∧ ∀ i, i ≤ c → u i = 0)
    (hall : ∀ y ∈ W', y ∈ W ∨ (∃ e', P c = some (y, e')) ∨ (Red w y ∧ ∀ i, (2 : Int) ^ w ∣ y i - 2 ^ (w - e) * t i)) :
    Inv w n m G (upd P c t e) W' := by
  have hx := h.rw x (List.mem_append_right _ (List.mem_singleton_self x))
  have hup : upd P c t e c = some (t, e) := if_pos rfl
  have tg : S (2 ^ w) m G t := by
    obtain ⟨y', h1, h2⟩ := rst_mem (w := w) (n := m) (P := P) (j := 0) (cs := cs) (fun _ _ => trivial) (x := x)
    have h3 : S (2 ^ w) m G (fun i => x i - y' i) := (h.sw x (List.mem_append_right _ (List.mem_singleton_self x))).sub (h1.trans fun y hy => by
      obtain ⟨c', e', _, hp⟩ := hy
      exact h.sp hp)
    refine (h3.mul f).cg fun i hi => ?_
    have a := Int.dvd_mul_of_dvd_right (b := f) (h2 i hi)
    have b := ht i
    have := Int.dvd_sub b a
    rwa [show t i - f * rst w P 0 cs x i - f * (x i - (rst w P 0 cs x i + y' i)) = t i - f * (x i - y' i) by
      rw [Int.mul_sub, Int.mul_add, Int.mul_sub]; omega] at this
  have g' : Good w n (upd P c t e) := by
    refine ⟨fun {c' s' e'} hp => ?_, fun {c' s' e'} hp => ?_, fun {c' s' e' i} hp hi => ?_, fun {c' s' e'} hp => ?_⟩ <;>
      (by_cases z : c' = c
       · subst z
         rw [hup] at hp
         cases hp
         first
         | exact hc
         | exact he
         | (rw [tz i hi]; exact Int.dvd_zero _)
         | (have a := ht c'
            rw [hq] at a
            have b := Int.dvd_mul_of_dvd_left (c := (2 : Int) ^ e) hf
            have := Int.dvd_add a b
            rwa [Int.sub_mul, Int.one_mul, Int.mul_assoc, show ∀ p q r : Int, p - q + (q - r) = p - r by intros; omega] at this)
       · have hp' : P c' = some (s', e') := by
           rw [← hp]
           exact (if_neg z).symm
         first
         | exact h.good.c hp'
         | exact h.good.e hp'
         | exact h.good.z hp' hi
         | exact h.good.p hp')
  have old : ∀ j y, From P j y → S (2 ^ w) n (FW (upd P c t e) W' j) y := fun j y hy => by
    obtain ⟨c', e', hj, hp⟩ := hy
    by_cases z : c' = c
    · subst z
      refine S.gen (Or.inr ⟨hold _ _ hp, fun i hi => ?_⟩)
      have h1 := h.good.z hp (show i < c' by omega)
      have h2 := h.rp hp i
      rw [← Int.emod_eq_of_lt h2.1 h2.2]
      exact Int.emod_eq_zero_of_dvd h1
    · exact S.gen (Or.inl ⟨c', e', hj, by rw [← hp]; exact if_neg z⟩)
  have key : ∀ j y, FW P (W ++ [x]) j y → S (2 ^ w) n (FW (upd P c t e) W' j) y := fun j y hy => by
    rcases hy with hy | ⟨hy, hz⟩
    · exact old j y hy
    · rcases List.mem_append.mp hy with hy | hy
      · exact S.gen (Or.inr ⟨hW y hy, hz⟩)
      · rw [List.mem_singleton.mp hy] at hz ⊢
        obtain ⟨y', h1, h2⟩ := rst_mem (w := w) (n := n) (P := P) (j := j) (cs := cs) (fun _ _ => trivial) (x := x)
        have e1 := rst_from h.good (Nat.zero_le j) hs hx hz
        rw [← e1] at h2
        have hjc : j ≤ c := by
          by_cases z : j ≤ c
          · exact z
          · exfalso
            have h3 : rst w P 0 cs x c = 0 := by
              rw [e1, rst_keep (fun c' _ s' e' hp' hj' => h.good.z hp' (by omega)) hx]
              exact hz c (by omega)
            have h4 := h.good
            rw [h3] at hq
            have h5 : q = 0 := by
              rcases Int.mul_eq_zero.mp hq.symm with z | z
              · exact z
              · exact absurd z (Int.ne_of_gt (p2 e))
            rw [h5, Int.mul_zero] at hf
            obtain ⟨k, hk⟩ := hf
            have hw : (2 : Int) ^ w = 2 * 2 ^ (w - 1) := by
              rw [show w = (w - 1) + 1 by omega, Int.pow_succ, Int.mul_comm]
              rfl
            rw [hw, Int.mul_assoc] at hk
            omega
        have hr : S (2 ^ w) n (FW (upd P c t e) W' j) (rst w P 0 cs x) := by
          refine (S.mul q (S.gen (Or.inl ⟨c, e, hjc, hup⟩))).cg fun i hi => ?_
          have a := Int.dvd_mul_of_dvd_right (b := q) (ht i)
          have b := Int.dvd_mul_of_dvd_left (c := rst w P 0 cs x i) hf
          have := Int.dvd_neg.mpr (Int.dvd_add a b)
          rwa [show -(q * (t i - f * rst w P 0 cs x i) + (f * q - 1) * rst w P 0 cs x i) = rst w P 0 cs x i - q * t i by
            rw [Int.mul_sub, Int.sub_mul, Int.one_mul, Int.mul_comm f q, Int.mul_assoc]; omega] at this
        exact (hr.add (h1.trans (old j))).cg h2
  refine { good := g', rp := ?_, rw := ?_, sp := ?_, sw := ?_, full := fun y hy => (h.full y hy).trans (key 0), closed := ?_ }
  · intro c' s' e' hp
    by_cases z : c' = c
    · subst z
      rw [hup] at hp
      cases hp
      exact rt
    · exact h.rp (show P c' = some (s', e') by rw [← hp]; exact (if_neg z).symm)
  · intro y hy
    rcases hall y hy with hy | ⟨e', hy⟩ | ⟨hy, _⟩
    · exact h.rw y (List.mem_append_left _ hy)
    · exact h.rp hy
    · exact hy
  · intro c' s' e' hp
    by_cases z : c' = c
    · subst z
      rw [hup] at hp
      cases hp
      exact tg
    · exact h.sp (show P c' = some (s', e') by rw [← hp]; exact (if_neg z).symm)
  · intro y hy
    rcases hall y hy with hy | ⟨e', hy⟩ | ⟨_, hy⟩
    · exact h.sw y (List.mem_append_left _ hy)
    · exact h.sp hy
    · exact (tg.mul (2 ^ (w - e))).cg fun i _ => hy i
  · intro c' s' e' hp
    by_cases z : c' = c
    · subst z
      rw [hup] at hp
      cases hp
      by_cases e0 : e = 0
      · refine S.zero.cg fun i _ => ?_
        rw [e0, Nat.sub_zero, Int.sub_zero]
        exact Int.dvd_mul_right _ _
      · obtain ⟨u, hu, h1, h2⟩ := hnew e0
        refine (S.gen (Or.inr ⟨hu, fun i hi => h2 i (by omega)⟩)).cg fun i _ => ?_
        have := Int.dvd_neg.mpr (h1 i)
        rwa [Int.neg_sub] at this
    · exact (h.closed (show P c' = some (s', e') by rw [← hp]; exact (if_neg z).symm)).trans (key _)
end
end Md

namespace Md
section
variable {w n m j : Nat} {P Q : Stp} {x y : Vec} {cs : List Nat} {G : Vec → Prop}
/-! ### what ends: a sum that gets less -/
def ex (w : Nat) (P : Stp) (c : Nat) : Nat := match P c with
  | some (_, e) => e
  | none => w
def mu (w : Nat) (P : Stp) : Nat → Nat
  | 0 => 0
  | k + 1 => mu w P k + ex w P k
theorem mu_off {c e : Nat} {t : Vec} : ∀ {k : Nat}, k ≤ c → mu w (upd P c t e) k = mu w P k
  | 0, _ => rfl
  | k + 1, h => by
    show mu w (upd P c t e) k + ex w (upd P c t e) k = mu w P k + ex w P k
    rw [mu_off (by omega)]
    have : upd P c t e k = P k := if_neg (by omega)
    unfold ex
    rw [this]
theorem mu_upd {c e : Nat} {t : Vec} : ∀ {k : Nat}, c < k → mu w (upd P c t e) k + ex w P c = mu w P k + e
  | k + 1, h => by
    show mu w (upd P c t e) k + ex w (upd P c t e) k + ex w P c = mu w P k + ex w P k + e
    by_cases z : c = k
    · subst z
      have : ex w (upd P c t e) c = e := by
        unfold ex
        rw [show upd P c t e c = some (t, e) from if_pos rfl]
      rw [mu_off (Nat.le_refl _), this]
      omega
    · have := mu_upd (e := e) (t := t) (show c < k by omega)
      have h2 : ex w (upd P c t e) k = ex w P k := by
        unfold ex
        rw [show upd P c t e k = P k from if_neg (by omega)]
      omega
/-! ### membership -/
theorem two_pow_le {a b : Nat} (h : a ≤ b) : (2 : Int) ^ a ≤ 2 ^ b := by
  have := Nat.pow_le_pow_right (n := 2) (by decide) h
  exact_mod_cast this
theorem two_pow_inj {a b : Nat} (h : (2 : Int) ^ a ∣ 2 ^ b) : a ≤ b := by
  have h1 : (2 : Int) ^ a ≤ 2 ^ b := Int.le_of_dvd (p2 b) h
  have h2 : 2 ^ a ≤ 2 ^ b := by exact_mod_cast h1
  exact (Nat.pow_le_pow_iff_right (by decide)).mp h2
theorem S.cut {M : Int} {k : Nat} (hk : k ≤ n) (h : S M n G x) : S M k G x := by
  obtain ⟨l, h1, h2⟩ := h
  exact ⟨l, h1, fun i hi => h2 i (by omega)⟩
theorem red_zero (hx : Red w x) {i : Nat} (h : (2 : Int) ^ w ∣ x i) : x i = 0 := by
  rw [← Int.emod_eq_of_lt (hx i).1 (hx i).2]
  exact Int.emod_eq_zero_of_dvd h
/-- what all sums are, 0 ahead of a pivot, in its column -/
theorem piv_some (g : Good w n P) (k : Closed w n P) (h : S (2 ^ w) n (From P 0) x) {c e : Nat} {s : Vec} (hp : P c = some (s, e)) (h0 : ∀ i, i < c → (2 : Int) ^ w ∣ x i) : (2 : Int) ^ e ∣ x c := by
  have h1 := lift (j := 0) g k c h fun q _ h2 => h0 q (by omega)
  rw [Nat.zero_add] at h1
  obtain ⟨a, y, hy, hc⟩ := split_from hp h1
  have he := g.e hp
  have hyi : (2 : Int) ^ w ∣ y c := hy.col (g.c hp) fun z f => from_zero g f (Nat.lt_succ_self c)
  have hd : (2 : Int) ^ e ∣ (2 : Int) ^ w := ⟨2 ^ (w - e), by rw [Int.mul_comm]; exact pow_split (Nat.le_of_lt he)⟩
  have h3 := Int.dvd_trans hd (hc c (g.c hp))
  have h4 := Int.dvd_trans hd hyi
  have h5 := Int.dvd_trans hd (g.p hp)
  have h6 : (2 : Int) ^ e ∣ a * s c := Int.dvd_mul_of_dvd_right (by
    have := Int.dvd_add h5 (Int.dvd_refl ((2 : Int) ^ e))
    rwa [show s c - 2 ^ e + 2 ^ e = s c by omega] at this)
  have := Int.dvd_add h3 (Int.dvd_add h6 h4)
  rwa [show x c - (a * s c + y c) + (a * s c + y c) = x c by omega] at this
theorem piv_none (g : Good w n P) (k : Closed w n P) (h : S (2 ^ w) n (From P 0) x) {c : Nat} (hn : c < n) (hp : P c = none) (h0 : ∀ i, i < c → (2 : Int) ^ w ∣ x i) : (2 : Int) ^ w ∣ x c := by
  have h1 := lift (j := 0) g k c h fun q _ h2 => h0 q (by omega)
  rw [Nat.zero_add] at h1
  exact (lift_one_none h1 hp).col hn fun z f => from_zero g f (Nat.lt_succ_self c)
theorem Inv.same (h : Inv w n m G P []) (hnm : n ≤ m) : S (2 ^ w) n (From P 0) x ↔ S (2 ^ w) n G x :=
  ⟨fun k => k.trans fun y hy => by
    obtain ⟨c, e, _, hp⟩ := hy
    exact (h.sp hp).cut hnm, fun k => k.trans fun y hy => h.full_end hy⟩
/-- a row is an element just if nothing is left of it -/
theorem Inv.has (h : Inv w n m G P []) (hnm : n ≤ m) (hs : cs.Pairwise (· < ·)) (hcs : ∀ {c s e}, P c = some (s, e) → c ∈ cs) (hx : Red w x) :
    (∀ i, i < n → rst w P 0 cs x i = 0) ↔ S (2 ^ w) n G x := by
  obtain ⟨y', h1, h2⟩ := rst_mem (w := w) (n := n) (P := P) (j := 0) (cs := cs) (fun _ _ => trivial) (x := x)
  constructor
  · intro h0
    refine ((h.same hnm).mp h1).cg fun i hi => ?_
    have := h2 i hi
    dsimp only at this
    rwa [h0 i hi, Int.zero_add] at this
  · intro k
    have h3 : S (2 ^ w) n (From P 0) (rst w P 0 cs x) := by
      refine (((h.same hnm).mpr k).sub h1).cg fun i hi => ?_
      have := Int.dvd_neg.mpr (h2 i hi)
      rwa [show -(x i - (rst w P 0 cs x i + y' i)) = rst w P 0 cs x i - (x i - y' i) by omega] at this
    intro i hi
    exact red_zero (rst_red hx) (reduced_zero h.good h.good_end h3 (fun hp => rst_small h.good hs hx _ (hcs hp) _ _ hp (Nat.zero_le _)) i hi)
/-! ### just one echelon -/
theorem piv_same (g : Good w n P) (k : Closed w n P) (g' : Good w n Q) (k' : Closed w n Q) (hPQ : ∀ x, S (2 ^ w) n (From P 0) x → S (2 ^ w) n (From Q 0) x) {c e : Nat} {s : Vec} (hp : P c = some (s, e)) :
    ∃ s' e', Q c = some (s', e') ∧ e' ≤ e := by
  have hs := hPQ s (S.gen ⟨c, e, Nat.zero_le _, hp⟩)
  have back : ∀ {d : Nat}, d ≤ w → (2 : Int) ^ d ∣ s c → d ≤ e := fun {d} hd h => by
    refine two_pow_inj ?_
    have h1 : (2 : Int) ^ d ∣ 2 ^ w := ⟨2 ^ (w - d), by rw [Int.mul_comm]; exact pow_split hd⟩
    have := Int.dvd_sub h (Int.dvd_trans h1 (g.p hp))
    rwa [show s c - (s c - 2 ^ e) = (2 : Int) ^ e by omega] at this
  cases hq : Q c with
  | none =>
    have := back (Nat.le_refl w) (piv_none g' k' hs (g.c hp) hq fun i hi => g.z hp hi)
    have := g.e hp
    omega
  | some q =>
    obtain ⟨s', e'⟩ := q
    exact ⟨s', e', rfl, back (Nat.le_of_lt (g'.e hq)) (piv_some g' k' hs hq fun i hi => g.z hp hi)⟩
/-- two steps of one column, reduced by later ones, are the same -/
theorem row_same (g : Good w n P) (k : Closed w n P) (h : S (2 ^ w) n (From P 0) (fun i => x i - y i)) (hx : Red w x) (hy : Red w y) {c : Nat}
    (h0 : ∀ i, i ≤ c → x i = y i) (hr : ∀ {i s e}, P i = some (s, e) → c < i → x i < 2 ^ e ∧ y i < 2 ^ e) : ∀ i, i < n → x i = y i := by
  intro i
  induction i using Nat.strongRecOn with
  | _ i ih =>
    intro hin
    by_cases hc : i ≤ c
    · exact h0 i hc
    · have hz : ∀ q, q < i → (2 : Int) ^ w ∣ (fun i => x i - y i) q := fun q hq => by
        show (2 : Int) ^ w ∣ x q - y q
        rw [ih q hq (by omega), Int.sub_self]
        exact Int.dvd_zero _
      have key : ∀ d : Nat, (2 : Int) ^ d ∣ x i - y i → x i < 2 ^ d → y i < 2 ^ d → x i = y i := fun d hd h1 h2 => by
        have e1 := Int.emod_eq_of_lt (hx i).1 h1
        have e2 := Int.emod_eq_of_lt (hy i).1 h2
        rw [← e1, ← e2]
        exact Int.emod_eq_emod_iff_emod_sub_eq_zero.mpr (Int.emod_eq_zero_of_dvd hd)
      cases hp : P i with
      | none => exact key w (piv_none g k h hin hp hz) (hx i).2 (hy i).2
      | some q =>
        obtain ⟨s, e⟩ := q
        obtain ⟨r1, r2⟩ := hr hp (by omega)
        exact key e (piv_some g k h hp hz) r1 r2
/-- the rows that echelon tells -/
def ech (w : Nat) (P : Stp) (cs : List Nat) (c : Nat) (s : Vec) : Vec := rst w P (c + 1) cs s
theorem ech_mem {c e : Nat} {s : Vec} (hp : P c = some (s, e)) : S (2 ^ w) n (From P 0) (ech w P cs c s) := by
  obtain ⟨y', h1, h2⟩ := rst_mem (w := w) (n := n) (P := P) (j := c + 1) (cs := cs) (fun _ _ => trivial) (x := s)
  refine ((S.gen (M := 2 ^ w) (n := n) (G := From P 0) ⟨c, e, Nat.zero_le _, hp⟩).sub (h1.mono fun y hy => hy.le (Nat.zero_le _))).cg fun i hi => ?_
  have := Int.dvd_neg.mpr (h2 i hi)
  rwa [show -(s i - (rst w P (c + 1) cs s i + y' i)) = rst w P (c + 1) cs s i - (s i - y' i) by omega] at this
theorem ech_at (g : Good w n P) {c e : Nat} {s : Vec} (hp : P c = some (s, e)) (rs : Red w s) : (∀ i, i < c → ech w P cs c s i = 0) ∧ ech w P cs c s c = 2 ^ e := by
  constructor
  · intro i hi
    show rst w P (c + 1) cs s i = 0
    rw [rst_keep (fun c' _ s' e' hp' hj' => g.z hp' (by omega)) rs]
    exact red_zero rs (g.z hp hi)
  · show rst w P (c + 1) cs s c = 2 ^ e
    rw [rst_keep (fun c' _ s' e' hp' hj' => g.z hp' (by omega)) rs, ← Int.emod_eq_of_lt (rs c).1 (rs c).2]
    have h1 : (2 : Int) ^ e < 2 ^ w := by
      have := Nat.pow_lt_pow_right (a := 2) (by decide) (g.e hp)
      exact_mod_cast this
    rw [Int.emod_eq_emod_iff_emod_sub_eq_zero.mpr (Int.emod_eq_zero_of_dvd (g.p hp)), Int.emod_eq_of_lt (Int.le_of_lt (p2 e)) h1]
theorem ech_same (g : Good w n P) (k : Closed w n P) (g' : Good w n Q) (k' : Closed w n Q)
    (hPQ : ∀ x, S (2 ^ w) n (From P 0) x ↔ S (2 ^ w) n (From Q 0) x) {ds : List Nat} (hs : cs.Pairwise (· < ·)) (hs' : ds.Pairwise (· < ·))
    (hcs : ∀ {c s e}, P c = some (s, e) → c ∈ cs) (hds : ∀ {c s e}, Q c = some (s, e) → c ∈ ds) {c e : Nat} {s : Vec} (hp : P c = some (s, e))
    (rP : ∀ {c s e}, P c = some (s, e) → Red w s) (rQ : ∀ {c s e}, Q c = some (s, e) → Red w s) :
    ∃ s', Q c = some (s', e) ∧ ∀ i, i < n → ech w P cs c s i = ech w Q ds c s' i := by
  obtain ⟨s', e', hq, hle⟩ := piv_same g k g' k' (fun x => (hPQ x).mp) hp
  obtain ⟨s2, e2, hp2, hle2⟩ := piv_same g' k' g k (fun x => (hPQ x).mpr) hq
  rw [hp] at hp2
  cases hp2
  obtain rfl : e = e' := Nat.le_antisymm hle2 hle
  refine ⟨s', hq, row_same g k ((ech_mem hp).sub ((hPQ _).mpr (ech_mem hq))) (rst_red (rP hp)) (rst_red (rQ hq)) (c := c) (fun i hi => ?_) fun {i s1 e1} hi hc => ?_⟩
  · obtain ⟨a1, a2⟩ := ech_at (cs := cs) g hp (rP hp)
    obtain ⟨b1, b2⟩ := ech_at (cs := ds) g' hq (rQ hq)
    by_cases z : i = c
    · rw [z, a2, b2]
    · rw [a1 i (by omega), b1 i (by omega)]
  · obtain ⟨s3, e3, hq3, hle3⟩ := piv_same g k g' k' (fun x => (hPQ x).mp) hi
    obtain ⟨s4, e4, hp4, hle4⟩ := piv_same g' k' g k (fun x => (hPQ x).mpr) hq3
    rw [hi] at hp4
    cases hp4
    obtain rfl : e1 = e3 := Nat.le_antisymm hle4 hle3
    exact ⟨(rst_small g hs (rP hp) i (hcs hi) s1 e1 hi hc).2, (rst_small g' hs' (rQ hq) i (hds hq3) s3 e1 hq3 hc).2⟩
end
end Md

namespace Md
section
variable {w n m j : Nat} {P Q : Stp} {x y : Vec} {cs : List Nat} {G : Vec → Prop}
/-! ### how many sums there are -/
def tab (n : Nat) (x : Vec) : List Int := (List.range n).map x
def vec (l : List Int) : Vec := fun i => l.getD i 0
theorem vec_tab {i : Nat} (h : i < n) : vec (tab n x) i = x i := by
  show ((List.range n).map x).getD i 0 = x i
  rw [List.getD_eq_getElem?_getD, List.getElem?_map, List.getElem?_range h]
  rfl
theorem tab_vec {l : List Int} (h : l.length = n) : tab n (vec l) = l := by
  apply List.ext_getElem
  · rw [show (tab n (vec l)).length = n by simp [tab], h]
  · intro i h1 h2
    simp only [tab, List.getElem_map, List.getElem_range]
    show l.getD i 0 = l[i]
    rw [List.getD_eq_getElem?_getD, List.getElem?_eq_getElem h2]
    rfl
theorem tab_len : (tab n x).length = n := by simp [tab]
theorem tab_ext (h : ∀ i, i < n → x i = y i) : tab n x = tab n y := List.map_congr_left fun i hi => h i (List.mem_range.mp hi)
theorem tab_inj (h : tab n x = tab n y) {i : Nat} (hi : i < n) : x i = y i := by
  rw [← vec_tab (x := x) hi, h, vec_tab hi]
def RedL (w : Nat) (l : List Int) : Prop := ∀ a ∈ l, 0 ≤ a ∧ a < 2 ^ w
theorem red_vec {l : List Int} (h : RedL w l) : Red w (vec l) := fun i => by
  show 0 ≤ l.getD i 0 ∧ l.getD i 0 < 2 ^ w
  rw [List.getD_eq_getElem?_getD]
  cases hi : l[i]? with
  | none => exact ⟨Int.le_refl _, p2 w⟩
  | some a => exact h a (List.mem_of_getElem? hi)
theorem red_tab (h : ∀ i, i < n → 0 ≤ x i ∧ x i < 2 ^ w) : RedL w (tab n x) := fun a ha => by
  obtain ⟨i, hi, rfl⟩ := List.mem_map.mp ha
  exact h i (List.mem_range.mp hi)
def plus (w n a : Nat) (s : Vec) (l : List Int) : List Int := tab n fun i => ((a : Int) * s i + vec l i) % 2 ^ w
def els (w n : Nat) (P : Stp) : Nat → List (List Int)
  | 0 => [List.replicate n 0]
  | d + 1 => match P (n - (d + 1)) with
    | some (s, e) => (List.range (2 ^ (w - e))).flatMap fun a => (els w n P d).map (plus w n a s)
    | none => els w n P d
def sm (w n : Nat) (P : Stp) : Nat → Nat
  | 0 => 0
  | d + 1 => sm w n P d + (w - ex w P (n - (d + 1)))
theorem els_len : ∀ d : Nat, (els w n P d).length = 2 ^ sm w n P d
  | 0 => rfl
  | d + 1 => by
    have ih := els_len d
    show (match P (n - (d + 1)) with
      | some (s, e) => (List.range (2 ^ (w - e))).flatMap fun a => (els w n P d).map (plus w n a s)
      | none => els w n P d).length = 2 ^ (sm w n P d + (w - ex w P (n - (d + 1))))
    unfold ex
    cases P (n - (d + 1)) with
    | none =>
      dsimp only
      rw [ih, Nat.sub_self, Nat.add_zero]
    | some q =>
      obtain ⟨s, e⟩ := q
      dsimp only
      rw [List.length_flatMap]
      have : (List.range (2 ^ (w - e))).map (fun a => ((els w n P d).map (plus w n a s)).length) = List.replicate (2 ^ (w - e)) (2 ^ sm w n P d) := by
        apply List.ext_getElem
        · simp
        · intro i h1 h2
          simp [ih]
      rw [this, List.sum_replicate_nat, ← Nat.pow_add, Nat.add_comm]
theorem mod_cg (a : Int) : (2 : Int) ^ w ∣ a % 2 ^ w - a := by
  have := Int.dvd_neg.mpr (emod_cg a (2 ^ w))
  rwa [Int.neg_sub] at this
theorem els_mem (g : Good w n P) (k : Closed w n P) : ∀ {d : Nat} {l : List Int}, d ≤ n → (l ∈ els w n P d ↔ l.length = n ∧ RedL w l ∧ S (2 ^ w) n (From P (n - d)) (vec l))
  | 0, l, _ => by
    show l ∈ [List.replicate n 0] ↔ _
    rw [List.mem_singleton]
    constructor
    · rintro rfl
      refine ⟨List.length_replicate, fun a ha => ?_, S.zero.cg fun i hi => ?_⟩
      · rw [List.eq_of_mem_replicate ha]
        exact ⟨Int.le_refl _, p2 w⟩
      · show (2 : Int) ^ w ∣ (List.replicate n 0).getD i 0 - 0
        rw [List.getD_eq_getElem?_getD, List.getElem?_replicate, if_pos hi]
        exact Int.dvd_zero _
    · rintro ⟨h1, h2, h3⟩
      rw [← tab_vec h1, ← tab_vec (n := n) (l := List.replicate n 0) List.length_replicate]
      refine tab_ext fun i hi => ?_
      rw [red_zero (red_vec h2) (h3.col hi fun z f => from_zero g f (by omega))]
      show 0 = (List.replicate n 0).getD i 0
      rw [List.getD_eq_getElem?_getD, List.getElem?_replicate, if_pos hi]
      rfl
  | d + 1, l, hd => by
    have ih := fun {l : List Int} => els_mem g k (d := d) (l := l) (by omega)
    have e1 : n - d = n - (d + 1) + 1 := by omega
    show l ∈ (match P (n - (d + 1)) with
      | some (s, e) => (List.range (2 ^ (w - e))).flatMap fun a => (els w n P d).map (plus w n a s)
      | none => els w n P d) ↔ _
    cases hp : P (n - (d + 1)) with
    | none =>
      dsimp only
      rw [ih, e1]
      constructor
      · rintro ⟨h1, h2, h3⟩
        exact ⟨h1, h2, h3.mono fun y hy => hy.le (Nat.le_succ _)⟩
      · rintro ⟨h1, h2, h3⟩
        exact ⟨h1, h2, lift_one_none h3 hp⟩
    | some q =>
      obtain ⟨s, e⟩ := q
      dsimp only
      have he := g.e hp
      rw [List.mem_flatMap]
      constructor
      · rintro ⟨a, ha, hl⟩
        obtain ⟨l', hl', rfl⟩ := List.mem_map.mp hl
        obtain ⟨h1, h2, h3⟩ := ih.mp hl'
        refine ⟨tab_len, red_tab fun i _ => ⟨Int.emod_nonneg _ (Int.ne_of_gt (p2 w)), Int.emod_lt_of_pos _ (p2 w)⟩, ?_⟩
        rw [e1] at h3
        refine ((S.mul (a : Int) (S.gen ⟨_, e, Nat.le_refl _, hp⟩)).add (h3.mono fun y hy => hy.le (Nat.le_succ _))).cg fun i hi => ?_
        show (2 : Int) ^ w ∣ vec (tab n _) i - _
        rw [vec_tab hi]
        exact mod_cg _
      · rintro ⟨h1, h2, h3⟩
        obtain ⟨a, y, hy, hc⟩ := split_from hp h3
        have p0 : (0 : Int) < 2 ^ (w - e) := p2 _
        have b0 := Int.emod_nonneg a (Int.ne_of_gt p0)
        have b1 := Int.emod_lt_of_pos a p0
        have hb := Int.emod_add_mul_ediv a (2 ^ (w - e))
        have hbn : ((a % 2 ^ (w - e)).toNat : Int) = a % 2 ^ (w - e) := Int.toNat_of_nonneg b0
        refine ⟨(a % 2 ^ (w - e)).toNat, List.mem_range.mpr ?_, List.mem_map.mpr ⟨tab n fun i => (y i + a / 2 ^ (w - e) * (2 ^ (w - e) * s i)) % 2 ^ w, ih.mpr ⟨tab_len, red_tab fun i _ => ⟨Int.emod_nonneg _ (Int.ne_of_gt (p2 w)), Int.emod_lt_of_pos _ (p2 w)⟩, ?_⟩, ?_⟩⟩
        · have : (((a % 2 ^ (w - e)).toNat : Nat) : Int) < ((2 ^ (w - e) : Nat) : Int) := by
            rw [hbn]
            exact_mod_cast b1
          exact_mod_cast this
        · rw [e1]
          refine (hy.add ((k hp).mul (a / 2 ^ (w - e)))).cg fun i hi => ?_
          rw [vec_tab hi]
          exact mod_cg _
        · rw [← tab_vec h1]
          refine tab_ext fun i hi => ?_
          rw [hbn, vec_tab hi, ← Int.emod_eq_of_lt (red_vec h2 i).1 (red_vec h2 i).2, Int.add_emod_emod]
          refine (Int.emod_eq_emod_iff_emod_sub_eq_zero.mpr (Int.emod_eq_zero_of_dvd ?_)).symm
          have := hc i hi
          rwa [show a % 2 ^ (w - e) * s i + (y i + a / 2 ^ (w - e) * (2 ^ (w - e) * s i)) = a * s i + y i by
            have e3 : a * s i = (a % 2 ^ (w - e) + 2 ^ (w - e) * (a / 2 ^ (w - e))) * s i := by rw [hb]
            rw [e3, Int.add_mul, Int.mul_comm (2 ^ (w - e)) (a / 2 ^ (w - e)), Int.mul_assoc]
            omega]
theorem els_nodup (g : Good w n P) (k : Closed w n P) (rp : ∀ {c s e}, P c = some (s, e) → Red w s) : ∀ {d : Nat}, d ≤ n → (els w n P d).Nodup
  | 0, _ => by
    show [List.replicate n 0].Nodup
    exact List.pairwise_singleton _ _
  | d + 1, hd => by
    have ih := els_nodup g k rp (d := d) (by omega)
    have e1 : n - d = n - (d + 1) + 1 := by omega
    show (match P (n - (d + 1)) with
      | some (s, e) => (List.range (2 ^ (w - e))).flatMap fun a => (els w n P d).map (plus w n a s)
      | none => els w n P d).Nodup
    cases hp : P (n - (d + 1)) with
    | none => exact ih
    | some q =>
      obtain ⟨s, e⟩ := q
      dsimp only
      have he := g.e hp
      have hin := g.c hp
      have s0 : s (n - (d + 1)) = 2 ^ e := by
        have := (ech_at (cs := []) g hp (rp hp)).2
        exact this
      show List.Pairwise (· ≠ ·) _
      rw [List.pairwise_flatMap]
      constructor
      · intro a ha
        rw [List.pairwise_map]
        refine ih.imp_of_mem fun {l l'} hl hl' hne heq => hne ?_
        obtain ⟨h1, h2, h3⟩ := (els_mem g k (by omega)).mp hl
        obtain ⟨h1', h2', h3'⟩ := (els_mem g k (by omega)).mp hl'
        rw [← tab_vec h1, ← tab_vec h1']
        refine tab_ext fun i hi => ?_
        have := tab_inj heq hi
        have h4 := Int.dvd_of_emod_eq_zero (Int.emod_eq_emod_iff_emod_sub_eq_zero.mp this)
        rw [show (a : Int) * s i + vec l i - (a * s i + vec l' i) = vec l i - vec l' i by omega] at h4
        rw [← Int.emod_eq_of_lt (red_vec h2 i).1 (red_vec h2 i).2, ← Int.emod_eq_of_lt (red_vec h2' i).1 (red_vec h2' i).2]
        exact Int.emod_eq_emod_iff_emod_sub_eq_zero.mpr (Int.emod_eq_zero_of_dvd h4)
      · refine (List.pairwise_lt_range).imp_of_mem fun {a b} ha hb hab l hl l' hl' heq => ?_
        obtain ⟨l1, hl1, rfl⟩ := List.mem_map.mp hl
        obtain ⟨l2, hl2, rfl⟩ := List.mem_map.mp hl'
        obtain ⟨h1, h2, h3⟩ := (els_mem g k (by omega)).mp hl1
        obtain ⟨h1', h2', h3'⟩ := (els_mem g k (by omega)).mp hl2
        rw [e1] at h3 h3'
        have := tab_inj heq hin
        have ha := List.mem_range.mp ha
        have hb := List.mem_range.mp hb
        rw [red_zero (red_vec h2) (h3.col hin fun z f => from_zero g f (Nat.lt_succ_self _)), red_zero (red_vec h2') (h3'.col hin fun z f => from_zero g f (Nat.lt_succ_self _)), Int.add_zero, Int.add_zero, s0] at this
        have lt : ∀ {c : Nat}, c < 2 ^ (w - e) → ((c : Int) * 2 ^ e) % 2 ^ w = c * 2 ^ e := fun {c} hc => by
          refine Int.emod_eq_of_lt (Int.mul_nonneg (Int.natCast_nonneg c) (Int.le_of_lt (p2 e))) ?_
          rw [pow_split (Nat.le_of_lt he)]
          exact Int.mul_lt_mul_of_pos_right (by exact_mod_cast hc) (p2 e)
        rw [lt ha, lt hb] at this
        have := Int.eq_of_mul_eq_mul_right (Int.ne_of_gt (p2 e)) this
        omega
/-- as many lists without repetition as there are elements -/
theorem els_card (h : Inv w n m G P []) (hnm : n ≤ m) : ∃ L : List (List Int), L.Nodup ∧ L.length = 2 ^ sm w n P n ∧ ∀ l, l ∈ L ↔ l.length = n ∧ RedL w l ∧ S (2 ^ w) n G (vec l) := by
  refine ⟨els w n P n, els_nodup h.good h.good_end h.rp (Nat.le_refl _), els_len n, fun l => ?_⟩
  rw [els_mem h.good h.good_end (Nat.le_refl _), Nat.sub_self, h.same hnm]
theorem nodup_len {α : Type} [DecidableEq α] : ∀ {l l' : List α}, l.Nodup → l'.Nodup → (∀ a, a ∈ l ↔ a ∈ l') → l.length = l'.length := fun h h' k =>
  ((List.perm_ext_iff_of_nodup h h').mpr k).length_eq
/-- the sum from the other end, and over the columns alone -/
def tot (f : Nat → Nat) : Nat → Nat
  | 0 => 0
  | k + 1 => tot f k + f k
theorem sm_tot : ∀ {d : Nat}, d ≤ n → sm w n P d + tot (fun c => w - ex w P c) (n - d) = tot (fun c => w - ex w P c) n
  | 0, _ => by
    show 0 + _ = _
    rw [Nat.zero_add, Nat.sub_zero]
  | d + 1, h => by
    have ih := sm_tot (d := d) (by omega)
    rw [← ih, show n - d = n - (d + 1) + 1 by omega]
    show sm w n P d + (w - ex w P (n - (d + 1))) + _ = sm w n P d + (tot _ (n - (d + 1)) + (w - ex w P (n - (d + 1))))
    omega
theorem tot_filter (p : Nat → Bool) (f : Nat → Nat) (h : ∀ c, p c = false → f c = 0) : ∀ k : Nat, (((List.range k).filter p).map f).sum = tot f k
  | 0 => rfl
  | k + 1 => by
    rw [List.range_succ, List.filter_append, List.map_append, List.sum_append_nat, tot_filter p f h k]
    show _ + _ = tot f k + f k
    congr 1
    cases hp : p k with
    | false =>
      rw [h k hp, List.filter_cons_of_neg (by rw [hp]; decide)]
      rfl
    | true =>
      rw [List.filter_cons_of_pos hp]
      show f k + 0 = f k
      omega
theorem sorted_eq : ∀ {l l' : List Nat}, l.Pairwise (· < ·) → l'.Pairwise (· < ·) → (∀ a, a ∈ l ↔ a ∈ l') → l = l'
  | [], [], _, _, _ => rfl
  | [], b :: l', _, _, k => absurd ((k b).mpr (List.mem_cons_self ..)) (List.not_mem_nil)
  | a :: l, [], _, _, k => absurd ((k a).mp (List.mem_cons_self ..)) (List.not_mem_nil)
  | a :: l, b :: l', h, h', k => by
    have h1 := List.pairwise_cons.mp h
    have h2 := List.pairwise_cons.mp h'
    have e : a = b := by
      rcases List.mem_cons.mp ((k a).mp (List.mem_cons_self ..)) with z | z
      · exact z
      · rcases List.mem_cons.mp ((k b).mpr (List.mem_cons_self ..)) with y | y
        · exact y.symm
        · have := h2.1 a z
          have := h1.1 b y
          omega
    subst e
    rw [sorted_eq h1.2 h2.2 fun c => ?_]
    constructor
    · intro hc
      rcases List.mem_cons.mp ((k c).mp (List.mem_cons_of_mem _ hc)) with z | z
      · have := h1.1 c hc
        omega
      · exact z
    · intro hc
      rcases List.mem_cons.mp ((k c).mpr (List.mem_cons_of_mem _ hc)) with z | z
      · have := h2.1 c hc
        omega
      · exact z
theorem sum_cols (hs : cs.Pairwise (· < ·)) (hcs : ∀ c, c ∈ cs ↔ c < n ∧ (P c).isSome) : (cs.map fun c => w - ex w P c).sum = sm w n P n := by
  have e1 : cs = (List.range n).filter fun c => (P c).isSome := sorted_eq hs (List.Pairwise.filter _ List.pairwise_lt_range) fun c => by
    rw [hcs, List.mem_filter, List.mem_range]
  rw [e1, tot_filter _ (fun c => w - ex w P c) (fun c hc => by
    show w - ex w P c = 0
    unfold ex
    cases hp : P c with
    | none => exact Nat.sub_self _
    | some q => rw [hp] at hc; cases hc)]
  have := sm_tot (w := w) (P := P) (Nat.le_refl n)
  rw [Nat.sub_self] at this
  exact this.symm
end
end Md

namespace Lk
open PySem PySem.Spec PyProof.Rows L2
/-! ### & of numbers, how often 2 divides, inverses -/
theorem bitAnd_nat (a b : Nat) : Builtin.bitAnd (a : Int) (b : Int) = ((a &&& b : Nat) : Int) := by
  unfold Builtin.bitAnd
  rw [decide_eq_true (Int.natCast_nonneg a), decide_eq_true (Int.natCast_nonneg b)]
  rfl
theorem bitAnd_neg {n v q : Nat} (h : n = 2 ^ v * (2 * q + 1)) : Builtin.bitAnd (n : Int) (-(n : Int)) = ((2 ^ v : Nat) : Int) := by
  have p0 : 0 < 2 ^ v := Nat.pow_pos (by decide)
  have n0 : 0 < n := by rw [h]; exact Nat.mul_pos p0 (by omega)
  unfold Builtin.bitAnd
  rw [decide_eq_true (Int.natCast_nonneg n), decide_eq_false (by omega)]
  show (n : Int) - ((n &&& (Builtin.bitNot (-(n : Int))).toNat : Nat) : Int) = _
  have e1 : (Builtin.bitNot (-(n : Int))).toNat = n - 1 := by
    show (-(-(n : Int)) - 1).toNat = n - 1
    omega
  have e2 : n &&& (n - 1) = 2 ^ (v + 1) * q := by rw [h]; exact land_low
  rw [e1, e2]
  have : n = 2 ^ (v + 1) * q + 2 ^ v := by rw [h, Nat.pow_succ, Nat.mul_add, Nat.mul_one, Nat.mul_assoc]
  rw [this]
  omega
theorem intBits_pow (v : Nat) : Builtin.Int.intBits ((2 ^ v : Nat) : Int) = v + 1 := by
  have p0 : 0 < 2 ^ v := Nat.pow_pos (by decide)
  unfold Builtin.Int.intBits
  rw [if_neg (by
    intro z
    have := eq_of_beq z
    omega)]
  rw [Int.natAbs_natCast, Nat.log2_two_pow]
/-- the bits of the lowest bit -/
theorem val_bits {n v q : Nat} (h : n = 2 ^ v * (2 * q + 1)) : ((Builtin.Int.intBits (Builtin.bitAnd (n : Int) (-(n : Int))) : Nat) : Int) - 1 = (v : Int) := by
  rw [bitAnd_neg h, intBits_pow]
  omega
/-- the lane of the lowest bit is the first that is not 0 -/
theorem first_lane {L : Nat} (hL : 0 < L) : ∀ {xs : List Nat} {v q : Nat}, (∀ x ∈ xs, x < 2 ^ L) → pkN L xs = 2 ^ v * (2 * q + 1) →
    v / L < xs.length ∧ xs.getD (v / L) 0 ≠ 0 ∧ ∀ i, i < v / L → xs.getD i 0 = 0
  | [], v, q, _, h => by
    have : 0 < 2 ^ v * (2 * q + 1) := Nat.mul_pos (Nat.pow_pos (by decide)) (by omega)
    rw [← h] at this
    cases this
  | x :: xs, v, q, hx, h => by
    have h' : 2 ^ L * pkN L xs + x = 2 ^ v * (2 * q + 1) := h
    by_cases z : x = 0
    · subst z
      rw [Nat.add_zero] at h'
      have hn : pkN L xs ≠ 0 := fun z => by
        rw [z, Nat.mul_zero] at h'
        have : 0 < 2 ^ v * (2 * q + 1) := Nat.mul_pos (Nat.pow_pos (by decide)) (by omega)
        omega
      obtain ⟨v', q', e⟩ := odd_part _ hn
      obtain ⟨h1, h2, h3⟩ := first_lane hL (fun y hy => hx y (List.mem_cons_of_mem _ hy)) e
      have hv : v = L + v' := by
        rw [e, ← Nat.mul_assoc, ← Nat.pow_add] at h'
        exact (odd_uniq h').1.symm
      have hd : v / L = v' / L + 1 := by rw [hv, Nat.add_div_left _ hL]
      rw [hd]
      refine ⟨by simp only [List.length_cons]; omega, h2, fun i hi => ?_⟩
      cases i with
      | zero => rfl
      | succ i => exact h3 i (by omega)
    · obtain ⟨v', q', e⟩ := odd_part x z
      have hxl := hx x (List.mem_cons_self ..)
      have hvL : v' < L := by
        have h1 : 2 ^ v' ≤ x := by
          rw [e]
          exact Nat.le_mul_of_pos_right _ (by omega)
        exact (Nat.pow_lt_pow_iff_right (by decide : 1 < 2)).mp (Nat.lt_of_le_of_lt h1 hxl)
      have hv : v' = v := by
        refine (odd_uniq (q := q' + 2 ^ (L - v' - 1) * pkN L xs) (q' := q) ?_).1
        rw [← h', e]
        have e2 : 2 ^ L = 2 ^ v' * (2 * 2 ^ (L - v' - 1)) := by
          rw [← Nat.pow_succ', ← Nat.pow_add]
          congr 1
          omega
        rw [e2, Nat.mul_assoc, ← Nat.mul_add]
        congr 1
        rw [Nat.mul_add, Nat.mul_assoc]
        omega
      rw [← hv, Nat.div_eq_of_lt hvL]
      exact ⟨by simp, z, fun i hi => absurd hi (Nat.not_lt_zero i)⟩
/-- one turn of the search for the inverse: twice as many bits are right -/
theorem inv_turn {f o : Int} {w k : Nat} (hk : k ≤ w) (h : (2 : Int) ^ k ∣ f * o - 1) : (2 : Int) ^ min (2 * k) w ∣ (f * (2 - f * o)) % 2 ^ w * o - 1 := by
  obtain ⟨c, hc⟩ := h
  have h1 : (2 : Int) ^ min (2 * k) w ∣ (2 : Int) ^ w := ⟨2 ^ (w - min (2 * k) w), by rw [← Int.pow_add]; congr 1; omega⟩
  have h2 : (2 : Int) ^ min (2 * k) w ∣ (2 : Int) ^ (2 * k) := ⟨2 ^ (2 * k - min (2 * k) w), by rw [← Int.pow_add]; congr 1; omega⟩
  have e1 : f * (2 - f * o) * o - 1 = -(2 ^ (2 * k) * (c * c)) := by
    have e2 : f * o = 1 + 2 ^ k * c := by omega
    have e3 : f * (2 - f * o) * o = (f * o) * (2 - f * o) := by
      rw [Int.mul_assoc, Int.mul_comm (2 - f * o) o, ← Int.mul_assoc]
    have e4 : (2 : Int) ^ (2 * k) * (c * c) = (2 ^ k * c) * (2 ^ k * c) := by
      rw [Nat.two_mul, Int.pow_add]
      simp only [Int.mul_assoc, Int.mul_left_comm]
    rw [e3, e2, e4]
    generalize (2 : Int) ^ k * c = d
    rw [show 2 - (1 + d) = 1 - d by omega, Int.add_mul, Int.one_mul, Int.mul_sub, Int.mul_one]
    omega
  have h3 : (2 : Int) ^ min (2 * k) w ∣ f * (2 - f * o) * o - 1 := by
    rw [e1]
    exact Int.dvd_neg.mpr (Int.dvd_trans h2 (Int.dvd_mul_right _ _))
  have h4 := Int.dvd_mul_of_dvd_left (c := o) (Int.dvd_trans h1 (Md.mod_cg (w := w) (f * (2 - f * o))))
  have := Int.dvd_add h4 h3
  rwa [Int.sub_mul, show ∀ p q : Int, p - q + (q - 1) = p - 1 by intros; omega] at this
theorem inv_start {o : Int} (h : o % 2 = 1) : (2 : Int) ^ 3 ∣ o * o - 1 := by
  have e : o = 2 * (o / 2) + 1 := by omega
  generalize o / 2 = a at e
  subst e
  have hb : ∃ b, a * (a + 1) = 2 * b := by
    by_cases z : a % 2 = 0
    · exact ⟨a / 2 * (a + 1), by rw [← Int.mul_assoc]; congr 1; omega⟩
    · exact ⟨a * ((a + 1) / 2), by rw [Int.mul_left_comm]; congr 1; omega⟩
  obtain ⟨b, hb⟩ := hb
  refine ⟨b, ?_⟩
  have : (2 * a + 1) * (2 * a + 1) - 1 = 4 * (a * (a + 1)) := by
    have q : 2 * a * (2 * a) = 4 * (a * a) := by
      rw [Int.mul_assoc 2 a (2 * a), Int.mul_left_comm a 2 a]
      omega
    rw [Int.add_mul, Int.mul_add, Int.mul_one, Int.one_mul, q, Int.mul_add, Int.mul_one]
    omega
  rw [this, hb]
  show 4 * (2 * b) = 2 ^ 3 * b
  omega
/-- the search is at its end just if all bits are right -/
theorem inv_end {f o : Int} {w : Nat} (hw : 1 ≤ w) : (f * o) % 2 ^ w = 1 ↔ (2 : Int) ^ w ∣ f * o - 1 := by
  have h1 : (1 : Int) % 2 ^ w = 1 := Int.emod_eq_of_lt (by decide) (by
    have := Md.two_pow_le hw
    have e : (2 : Int) ^ 1 = 2 := rfl
    omega)
  constructor
  · intro h
    refine Int.dvd_of_emod_eq_zero (Int.emod_eq_emod_iff_emod_sub_eq_zero.mp ?_)
    rw [h, h1]
  · intro h
    rw [Int.emod_eq_emod_iff_emod_sub_eq_zero.mpr (Int.emod_eq_zero_of_dvd h), h1]
end Lk

namespace Lk
open PySem PySem.Spec PyProof.Rows L2
/-! ### methods of own classes, and rules for bits -/
/-- a method that may be called: it lets no error out -/
structure Met (P : Program) (w : World) (K : PySem.W.Frag) (mg : Str → Option Value) (base : Heap) (k : Nat) (C : Addr) (x : Str) (ps : List Str) (sp : Sp) : Prop where
  ex : ∃ f fd, Meth K C x f ∧ Binds K fd ps [] ∧ FnOk P w K mg base CX0 k f fd ps sp
theorem pmet {X : Cx} {k j : Nat} {C : Addr} {x : Str} {ps : List Str} {sp : Sp} {o e : Expr} {es : List Expr} {ta : TE} {t : TA} {p pos : Pos} {pl : Sem Bool} (c : Met X.prog X.w X.K X.mg X.base k C x ps sp) (cc : Cls X.K C) (hr : Room j X.A) (hk : k ≤ j) (ho : PE X o ta) (ha : PA X (e :: es) t)
    (he : starEach (e :: es) X.env = (false, eval e X.env) :: starEach es X.env := by rfl) (hpl : (backTo pos (starEach es X.env)).any (·.1) = false := by rfl)
    (hev : eval (.Call (.Attribute o x p) (e :: es) [] pos) X.env = (do
      let ov ← eval o X.env
      standAt p.atName
      let __x ← holding [ov] (getMethod ov x pl)
      match __x with
      | (f, first) => callWith pos f first (backTo pos (starEach (e :: es) X.env)) (backToKw pos (keywordEach [] X.env))) := by rfl) :
    PE X (.Call (.Attribute o x p) (e :: es) [] pos) (tMeth C x sp [] E0 ta t) := by
  obtain ⟨f, fd, hm, b, F⟩ := c.ex
  exact pe_meth ho cc hm F (hr.mono hk) b .nil pass0 ha he hpl hev
theorem pmet0 {X : Cx} {k j : Nat} {C : Addr} {x : Str} {ps : List Str} {sp : Sp} {o : Expr} {ta : TE} {p pos : Pos} {pl : Sem Bool} (c : Met X.prog X.w X.K X.mg X.base k C x ps sp) (cc : Cls X.K C) (hr : Room j X.A) (hk : k ≤ j) (ho : PE X o ta)
    (hev : eval (.Call (.Attribute o x p) [] [] pos) X.env = (do
      let ov ← eval o X.env
      standAt p.atName
      let __x ← holding [ov] (getMethod ov x pl)
      match __x with
      | (f, first) => callWith pos f first (backTo pos (starEach [] X.env)) (backToKw pos (keywordEach [] X.env))) := by rfl) :
    PE X (.Call (.Attribute o x p) [] [] pos) (tMeth C x sp [] E0 ta tNil) := by
  obtain ⟨f, fd, hm, b, F⟩ := c.ex
  exact pe_meth0 ho cc hm F (hr.mono hk) b .nil pass0 hev
section
variable {σ : L2.St} {H : Hp} {Q : VK} {ta : TE} {t : TA}
theorem smt {C : Addr} {m : Str} {sp : Sp} {E : XK} (q : ta σ H fun x H1 => ∃ a dx fs, x = .ref a ∧ H1 a = some (.ins C dx fs) ∧ List.lookup m fs = none ∧ t σ H1 fun vs H2 => sp (x :: (vs ++ [])) H2 Q E) : tMeth C m sp [] E ta t σ H Q := q
theorem sbt (q : ta σ H fun x H1 => ∃ i, x = .int i ∧ Q (.int (Builtin.Int.intBits i : Nat)) H1) : tBits ta σ H Q := q
end
theorem intBits_lt {i : Int} {n : Nat} (h : i.natAbs < 2 ^ n) : Builtin.Int.intBits i ≤ n := by
  unfold Builtin.Int.intBits
  split
  · omega
  · rename_i h0
    have : i.natAbs ≠ 0 := fun z => h0 (by
      have : i = 0 := by omega
      subst this
      rfl)
    exact (Nat.log2_lt this).mpr h
theorem mul_le {i j : Int} {a b : Nat} (hi : i.natAbs < 2 ^ a) (hj : j.natAbs < 2 ^ b) (h : a + b ≤ 134217728) : CMulX i j := mulx_ok hi hj h
end Lk

/-! products of rows; what is 0 with all that is 0 with a module is in it -/
namespace Md
section
variable {w n : Nat} {P : Stp} {cs : List Nat} {x y v u : Vec} {M : Int}
def dot (n : Nat) (y v : Vec) : Int := ((List.range n).map fun i => y i * v i).sum
theorem dot_succ : dot (n + 1) y v = dot n y v + y n * v n := by
  unfold dot
  rw [List.range_succ, List.map_append, List.sum_append]
  simp
theorem dot_lin (a : Int) : ∀ {n : Nat}, dot n y (fun i => a * u i + v i) = a * dot n y u + dot n y v
  | 0 => by show (0 : Int) = a * 0 + 0; omega
  | n + 1 => by
    rw [dot_succ, dot_succ, dot_succ, dot_lin a, Int.mul_add, Int.mul_add, Int.mul_left_comm (y n) a (u n)]
    omega
theorem dot_comm : ∀ {n : Nat}, dot n y v = dot n v y
  | 0 => rfl
  | n + 1 => by rw [dot_succ, dot_succ, dot_comm, Int.mul_comm]
theorem dot_zero : ∀ {n : Nat}, (∀ i, i < n → y i * v i = 0) → dot n y v = 0
  | 0, _ => rfl
  | n + 1, h => by rw [dot_succ, dot_zero fun i hi => h i (by omega), h n (by omega)]; rfl
theorem dot_cg (h : Cg M n v u) : M ∣ dot n y v - dot n y u := by
  revert h
  induction n with
  | zero => exact fun _ => ⟨0, by show (0 : Int) - 0 = _; omega⟩
  | succ n ih =>
    intro h
    have h1 := ih fun i hi => h i (by omega)
    have h2 := Int.dvd_mul_of_dvd_right (b := y n) (h n (by omega))
    have := Int.dvd_add h1 h2
    have e : dot n y v - dot n y u + y n * (v n - u n) = dot (n + 1) y v - dot (n + 1) y u := by
      rw [dot_succ, dot_succ, Int.mul_sub]
      omega
    rwa [e] at this
theorem dot_S {G : Vec → Prop} (h : ∀ g, G g → M ∣ dot n y g) (hx : S M n G x) : M ∣ dot n y x := by
  obtain ⟨l, hl, hc⟩ := hx
  have h1 : ∀ l : List (Int × Vec), (∀ p ∈ l, G p.2) → M ∣ dot n y (lin l) := by
    intro l
    induction l with
    | nil =>
      intro _
      have : dot n y (lin []) = 0 := dot_zero fun i _ => by show y i * 0 = 0; omega
      rw [this]
      exact Int.dvd_zero _
    | cons p l ih =>
      intro hp
      have e : dot n y (lin (p :: l)) = p.1 * dot n y p.2 + dot n y (lin l) := dot_lin p.1
      rw [e]
      exact Int.dvd_add (Int.dvd_mul_of_dvd_right (h _ (hp p (List.mem_cons_self ..)))) (ih fun q hq => hp q (List.mem_cons_of_mem _ hq))
  have h2 := Int.dvd_add (dot_cg (y := y) hc) (h1 l hl)
  have e : dot n y x - dot n y (lin l) + dot n y (lin l) = dot n y x := by omega
  rwa [e] at h2
/-- a number at one place -/
theorem dot_put {j : Nat} {q : Int} (hy : y j = 0) : ∀ {n : Nat}, j < n → dot n (fun i => if i = j then q else y i) v = q * v j + dot n y v
  | n + 1, h => by
    rw [dot_succ, dot_succ]
    by_cases z : n = j
    · rw [if_pos z]
      have e : ∀ m, m ≤ j → dot m (fun i => if i = j then q else y i) v = dot m y v := fun m => by
        induction m with
        | zero => exact fun _ => rfl
        | succ m ih =>
          intro hm
          rw [dot_succ, dot_succ, ih (by omega), if_neg (by omega)]
      rw [e n (by omega), z, hy]
      omega
    · rw [if_neg z, dot_put hy (by omega)]
      omega
theorem dot_one {j : Nat} {q : Int} (h : j < n) : dot n (fun i => if i = j then q else 0) v = q * v j := by
  have := dot_put (y := fun _ => 0) (v := v) (q := q) (j := j) rfl h
  rw [this, dot_zero fun i _ => Int.zero_mul _]
  omega
theorem dual_at (g : Good w n P) (k : Closed w n P) {c a : Nat} (hc : c < n) (ha : a ≤ w) (hp : ∀ s e, P c = some (s, e) → a ≤ e) : ∀ (d : Nat) {j : Nat}, j + d = c →
    ∃ y : Vec, (∀ i, c < i → y i = 0) ∧ (∀ i, i < j → y i = 0) ∧ y c = 2 ^ (w - a) ∧ ∀ v, From P j v → (2 : Int) ^ w ∣ dot n y v
  | 0, j, hj => by
    obtain rfl : j = c := hj
    refine ⟨fun i => if i = j then 2 ^ (w - a) else 0, fun i hi => if_neg (by omega), fun i hi => if_neg (by omega), if_pos rfl, fun v ⟨c', e, hjc, hv⟩ => ?_⟩
    rw [dot_one hc]
    by_cases z : c' = j
    · rw [z] at hv
      have h1 := g.p hv
      have h2 := hp _ _ hv
      have h3 : (2 : Int) ^ w ∣ 2 ^ (w - a) * 2 ^ e := ⟨2 ^ (e - a), by rw [← Int.pow_add, ← Int.pow_add]; congr 1; omega⟩
      have h4 := Int.dvd_add (Int.dvd_mul_of_dvd_right (b := (2 : Int) ^ (w - a)) h1) h3
      rw [Int.mul_sub] at h4
      have e5 : (2 : Int) ^ (w - a) * v j - 2 ^ (w - a) * 2 ^ e + 2 ^ (w - a) * 2 ^ e = 2 ^ (w - a) * v j := by omega
      rwa [e5] at h4
    · exact Int.dvd_mul_of_dvd_right (g.z hv (by omega))
  | d + 1, j, hj => by
    obtain ⟨y, y1, y2, y3, y4⟩ := dual_at g k hc ha hp d (j := j + 1) (by omega)
    cases hpj : P j with
    | none =>
      refine ⟨y, y1, fun i hi => y2 i (by omega), y3, fun v ⟨c', e, hjc, hv⟩ => y4 v ⟨c', e, ?_, hv⟩⟩
      have : c' ≠ j := fun z => by rw [z, hpj] at hv; cases hv
      omega
    | some q =>
      obtain ⟨s, e⟩ := q
      have he := g.e hpj
      have h1 : (2 : Int) ^ w ∣ dot n y (fun i => 2 ^ (w - e) * s i) := dot_S y4 (k hpj)
      have e1 : dot n y (fun i => 2 ^ (w - e) * s i) = dot n y s * 2 ^ (w - e) := by
        have := dot_lin (y := y) (u := s) (v := fun _ => 0) (n := n) (2 ^ (w - e))
        rw [dot_zero (v := fun _ => 0) fun i _ => Int.mul_zero _] at this
        have e2 : (fun i => 2 ^ (w - e) * s i + (fun _ => (0 : Int)) i) = fun i => 2 ^ (w - e) * s i := funext fun i => by show 2 ^ (w - e) * s i + 0 = _; omega
        rw [e2] at this
        rw [this, Int.mul_comm]
        omega
      rw [e1] at h1
      have h2 := dvd_cancel (Nat.sub_le w e) h1
      rw [show w - (w - e) = e by omega] at h2
      obtain ⟨q, hq⟩ := h2
      have yj : y j = 0 := y2 j (by omega)
      have hjn : j < n := by omega
      refine ⟨fun i => if i = j then -q else y i, fun i hi => (if_neg (show ¬ i = j by omega)).trans (y1 i hi), fun i hi => (if_neg (show ¬ i = j by omega)).trans (y2 i (by omega)), (if_neg (show ¬ c = j by omega)).trans y3, fun v ⟨c', e', hjc, hv⟩ => ?_⟩
      rw [dot_put yj hjn]
      by_cases z : c' = j
      · rw [z, hpj] at hv
        cases hv
        rw [hq]
        have h5 := Int.dvd_mul_of_dvd_right (b := -q) (g.p hpj)
        have e6 : -q * (s j - 2 ^ e) = -q * s j + 2 ^ e * q := by
          rw [Int.mul_sub, Int.neg_mul, Int.neg_mul, Int.mul_comm q (2 ^ e)]
          omega
        rwa [e6] at h5
      · exact Int.dvd_add (Int.dvd_mul_of_dvd_right (g.z hv (by omega))) (y4 v ⟨c', e', by omega, hv⟩)
theorem dual_full (g : Good w n P) (k : Closed w n P) (hs : cs.Pairwise (· < ·)) (hcs : ∀ {c s e}, P c = some (s, e) → c ∈ cs) (hx : Red w x)
    (h : ∀ y : Vec, (∀ v, From P 0 v → (2 : Int) ^ w ∣ dot n y v) → (2 : Int) ^ w ∣ dot n y x) : S (2 ^ w) n (From P 0) x := by
  obtain ⟨y0, h1, h2⟩ := rst_mem (w := w) (n := n) (P := P) (j := 0) (cs := cs) (fun _ _ => trivial) (x := x)
  have hr : Red w (rst w P 0 cs x) := rst_red hx
  have hsm : ∀ {c s e}, P c = some (s, e) → rst w P 0 cs x c < 2 ^ e := fun hp => (rst_small g hs hx _ (hcs hp) _ _ hp (Nat.zero_le _)).2
  generalize rst w P 0 cs x = r at h2 hr hsm
  have key : ∀ m, m ≤ n → ∀ i, i < m → r i = 0 := by
    intro m
    induction m with
    | zero => exact fun _ i hi => absurd hi (Nat.not_lt_zero i)
    | succ c ih =>
      intro hm
      have h0 := ih (by omega)
      have hc0 : r c = 0 := by
        have main : ∀ a, a ≤ w → (∀ s e, P c = some (s, e) → a ≤ e) → r c < 2 ^ a → r c = 0 := fun a ha hp hlt => by
          obtain ⟨y, y1, _, y3, y4⟩ := dual_at g k (show c < n by omega) ha hp c (j := 0) (by omega)
          have d1 := h y y4
          have d2 := dot_cg (y := y) h2
          have d3 : (2 : Int) ^ w ∣ dot n y y0 := dot_S y4 h1
          have d4 : dot n y (fun i => r i + y0 i) = dot n y r + dot n y y0 := by
            have := dot_lin (y := y) (u := r) (v := y0) (n := n) 1
            rw [Int.one_mul] at this
            rw [← this]
            congr 1
            funext i
            rw [Int.one_mul]
          rw [d4] at d2
          have d5 : dot n y r = 2 ^ (w - a) * r c := by
            have e1 : dot n y r = dot n (fun i => if i = c then 2 ^ (w - a) else 0) r := by
              have : ∀ m, m ≤ n → dot m y r = dot m (fun i => if i = c then 2 ^ (w - a) else 0) r := by
                intro m
                induction m with
                | zero => exact fun _ => rfl
                | succ m ihm =>
                  intro hmn
                  rw [dot_succ, dot_succ, ihm (by omega)]
                  congr 1
                  by_cases z : m = c
                  · rw [if_pos z, z, y3]
                  · rw [if_neg z]
                    by_cases z2 : m < c
                    · rw [h0 m z2, Int.mul_zero, Int.mul_zero]
                    · rw [y1 m (by omega)]
              exact this n (Nat.le_refl n)
            rw [e1, dot_one (by omega)]
          have d6 : (2 : Int) ^ w ∣ r c * 2 ^ (w - a) := by
            have := Int.dvd_sub (Int.dvd_sub d1 d2) d3
            have e : dot n y x - (dot n y x - (dot n y r + dot n y y0)) - dot n y y0 = r c * 2 ^ (w - a) := by
              rw [d5, Int.mul_comm]
              omega
            rwa [e] at this
          have d7 := dvd_cancel (Nat.sub_le w a) d6
          rw [show w - (w - a) = a by omega] at d7
          have e9 := Int.emod_eq_zero_of_dvd d7
          rwa [Int.emod_eq_of_lt (hr c).1 hlt] at e9
        cases hp : P c with
        | none => exact main w (Nat.le_refl w) (fun s e z => by rw [hp] at z; cases z) (hr c).2
        | some q =>
          obtain ⟨s, e⟩ := q
          exact main e (Nat.le_of_lt (g.e hp)) (fun s' e' z => by rw [hp] at z; cases z; exact Nat.le_refl _) (hsm hp)
      intro i hi
      by_cases z : i = c
      · rw [z]; exact hc0
      · exact h0 i (by omega)
  refine h1.cg fun i hi => ?_
  have h3 := h2 i hi
  have e : r i = 0 := key n (Nat.le_refl n) i hi
  show (2 : Int) ^ w ∣ x i - y0 i
  have e2 : x i - (r i + y0 i) = x i - y0 i := by rw [e]; omega
  rwa [← e2]
end
end Md

/-! how many elements modules have: fibers; a module and what is 0 with it; sums and intersections -/
namespace Md
theorem len_split {α : Type} (p : α → Bool) : ∀ L : List α, L.length = (L.filter p).length + (L.filter fun x => !p x).length
  | [] => rfl
  | x :: L => by
    rw [List.filter_cons, List.filter_cons]
    have := len_split p L
    cases h : p x <;> simp <;> omega
theorem fiber_len {α β : Type} [DecidableEq β] (f : α → β) (r : Nat) : ∀ {L' : List β} {L : List α}, L'.Nodup → (∀ x ∈ L, f x ∈ L') → (∀ y ∈ L', (L.filter fun x => decide (f x = y)).length = r) → L.length = r * L'.length
  | [], L, _, hf, _ => by
    cases L with
    | nil => rfl
    | cons x L => exact absurd (hf x (List.mem_cons_self ..)) (by simp)
  | y :: L', L, nd, hf, hr => by
    obtain ⟨ny, nd'⟩ := List.nodup_cons.mp nd
    have h1 : L.length = (L.filter fun x => decide (f x = y)).length + (L.filter fun x => !decide (f x = y)).length := len_split (fun x => decide (f x = y)) L
    have h2 := fiber_len f r (L' := L') (L := L.filter fun x => !decide (f x = y)) nd' (fun x hx => by
      obtain ⟨a, b⟩ := List.mem_filter.mp hx
      rcases List.mem_cons.mp (hf x a) with e | e
      · rw [e, decide_eq_true rfl] at b
        cases b
      · exact e) (fun z hz => by
      rw [List.filter_filter, ← hr z (List.mem_cons_of_mem _ hz)]
      congr 1
      refine List.filter_congr fun x _ => ?_
      by_cases e : f x = z
      · have : f x ≠ y := fun e2 => ny (by rw [← e2, e]; exact hz)
        rw [decide_eq_true e, decide_eq_false this]
        rfl
      · rw [decide_eq_false e, Bool.false_and])
    rw [h1, h2, hr y (List.mem_cons_self ..), List.length_cons, Nat.mul_add, Nat.mul_one]
    omega
theorem len_bij {α β : Type} [DecidableEq β] {L : List α} {L' : List β} (g : α → β) (nd : L.Nodup) (nd' : L'.Nodup) (inj : ∀ a ∈ L, ∀ b ∈ L, g a = g b → a = b) (hm : ∀ b, b ∈ L' ↔ ∃ a ∈ L, g a = b) : L.length = L'.length := by
  have h1 : (L.map g).Nodup := List.pairwise_map.mpr (nd.imp_of_mem fun {a b} ha hb ne e => ne (inj a ha b hb e))
  have := nodup_len h1 nd' fun b => by rw [hm, List.mem_map]
  rwa [List.length_map] at this
section
variable {w n : Nat} {P : Stp}
/-- what has the product 0 with a module -/
def Ann (w n : Nat) (P : Stp) (x : Vec) : Prop := ∀ v, From P 0 v → (2 : Int) ^ w ∣ dot n x v
theorem Ann.add {x y : Vec} {a : Int} (h : Ann w n P x) (h' : Ann w n P y) : Ann w n P (fun i => a * x i + y i) := fun v hv => by
  rw [dot_comm, dot_lin]
  refine Int.dvd_add (Int.dvd_mul_of_dvd_right ?_) ?_
  · rw [dot_comm]; exact h v hv
  · rw [dot_comm]; exact h' v hv
theorem Ann.cg {x y : Vec} (h : Ann w n P x) (e : Cg (2 ^ w) n x y) : Ann w n P y := fun v hv => by
  have h1 := dot_cg (y := v) e
  rw [dot_comm, dot_comm (y := v)] at h1
  have := Int.dvd_sub (h v hv) h1
  have e2 : dot n x v - (dot n x v - dot n y v) = dot n y v := by omega
  rwa [e2] at this
/-- lists of the elements that are 0 from a column on -/
structure AnnL (w n : Nat) (P : Stp) (c : Nat) (L : List (List Int)) : Prop where
  nd : L.Nodup
  mem : ∀ l, l ∈ L ↔ l.length = n ∧ RedL w l ∧ Ann w n P (vec l) ∧ ∀ i, c ≤ i → i < n → l.getD i 0 = 0
theorem AnnL.down {c : Nat} {L : List (List Int)} (h : AnnL w n P (c + 1) L) (hc : c < n) : AnnL w n P c (L.filter fun l => decide (l.getD c 0 = 0)) := ⟨h.nd.filter _, fun l => by
  rw [List.mem_filter, h.mem, decide_eq_true_iff]
  constructor
  · rintro ⟨⟨a, b, d, e⟩, z⟩
    refine ⟨a, b, d, fun i hi hn => ?_⟩
    by_cases y : i = c
    · rw [y]; exact z
    · exact e i (by omega) hn
  · rintro ⟨a, b, d, e⟩
    exact ⟨⟨a, b, d, fun i hi hn => e i (by omega) hn⟩, e c (Nat.le_refl c) hc⟩⟩
/-- the sum of two elements, reduced -/
def addR (w n : Nat) (x y : List Int) : List Int := tab n fun i => (vec x i + vec y i) % 2 ^ w
theorem addR_red {x y : List Int} : RedL w (addR w n x y) := red_tab fun i _ => ⟨Int.emod_nonneg _ (Int.ne_of_gt (p2 w)), Int.emod_lt_of_pos _ (p2 w)⟩
theorem addR_len {x y : List Int} : (addR w n x y).length = n := tab_len
theorem addR_at {x y : List Int} {i : Nat} (hi : i < n) : (addR w n x y).getD i 0 = (x.getD i 0 + y.getD i 0) % 2 ^ w := vec_tab (x := fun i => (vec x i + vec y i) % 2 ^ w) hi
theorem red_at {l : List Int} (h : RedL w l) (i : Nat) : 0 ≤ l.getD i 0 ∧ l.getD i 0 < 2 ^ w := red_vec h i
theorem ext_n {l l' : List Int} (h : l.length = n) (h' : l'.length = n) (e : ∀ i, i < n → l.getD i 0 = l'.getD i 0) : l = l' := by
  rw [← tab_vec h, ← tab_vec h']
  exact tab_ext e
def negR (w n : Nat) (x : List Int) : List Int := tab n fun i => (-vec x i) % 2 ^ w
theorem negR_at {x : List Int} {i : Nat} (hi : i < n) : (negR w n x).getD i 0 = (-x.getD i 0) % 2 ^ w := vec_tab (x := fun i => (-vec x i) % 2 ^ w) hi
theorem add_inj {x y z : List Int} (hx : x.length = n) (hy : y.length = n) (rx : RedL w x) (ry : RedL w y) (e : addR w n x z = addR w n y z) : x = y := by
  refine ext_n hx hy fun i hi => ?_
  have h1 : (addR w n x z).getD i 0 = (addR w n y z).getD i 0 := by rw [e]
  rw [addR_at hi, addR_at hi] at h1
  obtain ⟨a, b⟩ := red_at rx i
  obtain ⟨c, d⟩ := red_at ry i
  have h2 := Int.emod_eq_emod_iff_emod_sub_eq_zero.mp h1
  have h3 : (2 : Int) ^ w ∣ x.getD i 0 - y.getD i 0 := by
    have := Int.dvd_of_emod_eq_zero h2
    have e2 : x.getD i 0 + z.getD i 0 - (y.getD i 0 + z.getD i 0) = x.getD i 0 - y.getD i 0 := by omega
    rwa [e2] at this
  have h4 : x.getD i 0 % 2 ^ w = y.getD i 0 % 2 ^ w := Int.emod_eq_emod_iff_emod_sub_eq_zero.mpr (Int.emod_eq_zero_of_dvd h3)
  rwa [Int.emod_eq_of_lt a b, Int.emod_eq_of_lt c d] at h4
theorem add_neg {x z : List Int} (hx : x.length = n) (rx : RedL w x) : addR w n (addR w n x (negR w n z)) z = x := by
  refine ext_n addR_len hx fun i hi => ?_
  rw [addR_at hi, addR_at hi, negR_at hi]
  obtain ⟨a, b⟩ := red_at rx i
  have h1 : (x.getD i 0 + (-z.getD i 0) % 2 ^ w) % 2 ^ w + z.getD i 0 = x.getD i 0 - 2 ^ w * ((x.getD i 0 + (-z.getD i 0) % 2 ^ w) / 2 ^ w + -z.getD i 0 / 2 ^ w) := by
    have e1 := Int.emod_add_mul_ediv (x.getD i 0 + (-z.getD i 0) % 2 ^ w) (2 ^ w)
    have e2 := Int.emod_add_mul_ediv (-z.getD i 0) (2 ^ w)
    rw [Int.mul_add]
    omega
  rw [h1, Int.sub_mul_emod_self_left, Int.emod_eq_of_lt a b]
/-- one more column -/
theorem ann_step (g : Good w n P) (k : Closed w n P) {c : Nat} (hc : c < n) {L : List (List Int)} (h : AnnL w n P (c + 1) L) : L.length = (L.filter fun l => decide (l.getD c 0 = 0)).length * 2 ^ ex w P c := by
  have he : ex w P c ≤ w := by
    unfold ex
    cases hp : P c with
    | none => exact Nat.le_refl _
    | some q => exact Nat.le_of_lt (g.e hp)
  have hpe : ∀ s e, P c = some (s, e) → ex w P c ≤ e := fun s e hp => by
    unfold ex
    rw [hp]
    exact Nat.le_refl _
  have pw : (2 : Int) ^ w = 2 ^ (w - ex w P c) * 2 ^ ex w P c := pow_split he
  have p1 : (0 : Int) < 2 ^ (w - ex w P c) := p2 _
  obtain ⟨y, y1, _, y3, y4⟩ := dual_at g k hc he hpe c (j := 0) (by omega)
  have hdown := h.down hc
  have hmul : ∀ l ∈ L, (2 : Int) ^ (w - ex w P c) ∣ l.getD c 0 := fun l hl => by
    obtain ⟨ll, lr, la, lz⟩ := (h.mem l).mp hl
    cases hp : P c with
    | none =>
      have : ex w P c = w := by unfold ex; rw [hp]
      rw [this, Nat.sub_self, Int.pow_zero]
      exact Int.one_dvd _
    | some q =>
      obtain ⟨s, e⟩ := q
      have e1 : ex w P c = e := by unfold ex; rw [hp]
      have h1 := la s ⟨c, e, Nat.zero_le _, hp⟩
      have h2 : Cg (2 ^ w) n s (fun i => if i < c then 0 else s i) := fun i _ => by
        by_cases z : i < c
        · show (2 : Int) ^ w ∣ s i - if i < c then 0 else s i
          rw [if_pos z]
          have := g.z hp z
          have e3 : s i - 0 = s i := by omega
          rwa [e3]
        · show (2 : Int) ^ w ∣ s i - if i < c then 0 else s i
          rw [if_neg z, Int.sub_self]
          exact Int.dvd_zero _
      have h3 := dot_cg (y := vec l) h2
      have h4 : dot n (vec l) (fun i => if i < c then 0 else s i) = l.getD c 0 * s c := by
        have e5 : ∀ m, m ≤ n → dot m (vec l) (fun i => if i < c then 0 else s i) = dot m (fun i => if i = c then l.getD c 0 else 0) s := by
          intro m
          induction m with
          | zero => exact fun _ => rfl
          | succ m ih =>
            intro hm
            rw [dot_succ, dot_succ, ih (by omega)]
            congr 1
            by_cases z : m < c
            · rw [if_pos z, if_neg (by omega), Int.mul_zero, Int.zero_mul]
            · rw [if_neg z]
              by_cases z2 : m = c
              · rw [if_pos z2, z2]
                rfl
              · have : vec l m = 0 := lz m (by omega) (by omega)
                rw [if_neg z2, this]
        rw [e5 n (Nat.le_refl n), dot_one hc]
      rw [h4] at h3
      have h5 := Int.dvd_sub h1 h3
      have e6 : dot n (vec l) s - (dot n (vec l) s - l.getD c 0 * s c) = l.getD c 0 * s c := by omega
      rw [e6] at h5
      have h6 := Int.dvd_mul_of_dvd_right (b := l.getD c 0) (g.p hp)
      have h7 := Int.dvd_sub h5 h6
      have e8 : l.getD c 0 * s c - l.getD c 0 * (s c - 2 ^ e) = l.getD c 0 * 2 ^ e := by
        rw [Int.mul_sub]
        omega
      rw [e8] at h7
      rw [e1]
      exact dvd_cancel (e1 ▸ he) h7
  have nd' : ((List.range (2 ^ ex w P c)).map fun j : Nat => 2 ^ (w - ex w P c) * (j : Int)).Nodup := List.pairwise_map.mpr (List.nodup_range.imp fun {a b} ne e => ne (by
    have := Int.eq_of_mul_eq_mul_left (Int.ne_of_gt p1) e
    omega))
  have hlen := fiber_len (fun l : List Int => l.getD c 0) (L.filter fun l => decide (l.getD c 0 = 0)).length (L := L) nd' (fun l hl => ?_) (fun z hz => ?_)
  · rw [hlen, List.length_map, List.length_range]
  · obtain ⟨ll, lr, la, lz⟩ := (h.mem l).mp hl
    obtain ⟨q, hq⟩ := hmul l hl
    obtain ⟨a, b⟩ := red_at lr c
    have q0 : 0 ≤ q := by
      refine Classical.byContradiction fun z => ?_
      have : 2 ^ (w - ex w P c) * q < 0 := Int.mul_neg_of_pos_of_neg p1 (by omega)
      omega
    have q1 : q < 2 ^ ex w P c := by
      refine Int.lt_of_mul_lt_mul_left (a := 2 ^ (w - ex w P c)) ?_ (Int.le_of_lt p1)
      rw [← pw, ← hq]
      exact b
    refine List.mem_map.mpr ⟨q.toNat, List.mem_range.mpr ?_, ?_⟩
    · have : ((q.toNat : Nat) : Int) < ((2 ^ ex w P c : Nat) : Int) := by
        rw [Int.toNat_of_nonneg q0]
        exact_mod_cast q1
      exact_mod_cast this
    · show 2 ^ (w - ex w P c) * ((q.toNat : Nat) : Int) = l.getD c 0
      rw [Int.toNat_of_nonneg q0, hq]
  · obtain ⟨j, hj, rfl⟩ := List.mem_map.mp hz
    have hj2 := List.mem_range.mp hj
    let l0 : List Int := tab n fun i => ((j : Int) * y i) % 2 ^ w
    have l0at : ∀ i, i < n → l0.getD i 0 = ((j : Int) * y i) % 2 ^ w := fun i hi => vec_tab (x := fun i => ((j : Int) * y i) % 2 ^ w) hi
    have l0ann : Ann w n P (vec l0) := by
      have h1 : Ann w n P (fun i => (j : Int) * y i + 0) := Ann.add (x := y) (y := fun _ => 0) (a := (j : Int)) y4 fun v _ => by
        rw [dot_zero fun i _ => Int.zero_mul _]
        exact Int.dvd_zero _
      refine h1.cg fun i hi => ?_
      rw [show vec l0 i = ((j : Int) * y i) % 2 ^ w from l0at i hi]
      show (2 : Int) ^ w ∣ ((j : Int) * y i + 0) - (j : Int) * y i % 2 ^ w
      rw [Int.add_zero]
      exact emod_cg _ _
    have jlt : (2 : Int) ^ (w - ex w P c) * (j : Int) < 2 ^ w := by
      rw [pw]
      refine Int.mul_lt_mul_of_pos_left ?_ p1
      exact_mod_cast hj2
    have l0c : l0.getD c 0 = 2 ^ (w - ex w P c) * (j : Int) := by
      rw [l0at c hc, y3, Int.mul_comm, Int.emod_eq_of_lt (Int.mul_nonneg (Int.le_of_lt p1) (Int.natCast_nonneg j)) jlt]
    have l0z : ∀ i, c + 1 ≤ i → i < n → l0.getD i 0 = 0 := fun i h1 h2 => by
      rw [l0at i h2, y1 i (by omega), Int.mul_zero, Int.zero_emod]
    refine (len_bij (fun x => addR w n x l0) (h.nd.filter _) (h.nd.filter _) (fun a ha b hb e => ?_) fun b => ?_).symm
    · have ha := (hdown.mem a).mp ha
      have hb := (hdown.mem b).mp hb
      exact add_inj ha.1 hb.1 ha.2.1 hb.2.1 e
    · have addAnn : ∀ {x z : List Int}, Ann w n P (vec x) → Ann w n P (vec z) → Ann w n P (vec (addR w n x z)) := fun {x z} hx hz => by
        have h1 := Ann.add (a := 1) hx hz
        refine h1.cg fun i hi => ?_
        rw [show vec (addR w n x z) i = (vec x i + vec z i) % 2 ^ w from addR_at hi]
        show (2 : Int) ^ w ∣ (1 * vec x i + vec z i) - (vec x i + vec z i) % 2 ^ w
        rw [Int.one_mul]
        exact emod_cg _ _
      have negAnn : ∀ {z : List Int}, Ann w n P (vec z) → Ann w n P (vec (negR w n z)) := fun {z} hz => by
        have h1 : Ann w n P (fun i => -1 * vec z i + 0) := Ann.add (y := fun _ => 0) hz fun v _ => by
          rw [dot_zero fun i _ => Int.zero_mul _]
          exact Int.dvd_zero _
        refine h1.cg fun i hi => ?_
        rw [show vec (negR w n z) i = (-vec z i) % 2 ^ w from negR_at hi]
        show (2 : Int) ^ w ∣ (-1 * vec z i + 0) - (-vec z i) % 2 ^ w
        have e : -1 * vec z i + 0 = -vec z i := by omega
        rw [e]
        exact emod_cg _ _
      rw [List.mem_filter, h.mem, decide_eq_true_iff]
      constructor
      · rintro ⟨⟨bl, br, ba, bz⟩, bc⟩
        refine ⟨addR w n b (negR w n l0), (hdown.mem _).mpr ⟨addR_len, addR_red, addAnn ba (negAnn l0ann), fun i hi hn => ?_⟩, add_neg bl br⟩
        rw [addR_at hn, negR_at hn]
        by_cases z : i = c
        · rw [z, bc, l0c]
          have this := mod_cg (w := w) (-(2 ^ (w - ex w P c) * (j : Int)))
          have e : -(2 ^ (w - ex w P c) * (j : Int)) % 2 ^ w - -(2 ^ (w - ex w P c) * (j : Int)) = 2 ^ (w - ex w P c) * (j : Int) + -(2 ^ (w - ex w P c) * (j : Int)) % 2 ^ w := by omega
          rw [e] at this
          exact Int.emod_eq_zero_of_dvd this
        · rw [bz i (by omega) hn, l0z i (by omega) hn]
          rfl
      · rintro ⟨a, ha, rfl⟩
        obtain ⟨al, ar, aa, az⟩ := (hdown.mem a).mp ha
        refine ⟨⟨addR_len, addR_red, addAnn aa l0ann, fun i hi hn => ?_⟩, ?_⟩
        · rw [addR_at hn, az i (by omega) hn, l0z i hi hn]
          rfl
        · rw [addR_at hc, az c (Nat.le_refl c) hc, l0c, Int.zero_add, Int.emod_eq_of_lt (Int.mul_nonneg (Int.le_of_lt p1) (Int.natCast_nonneg j)) jlt]
/-- how many elements have the product 0 with a module -/
theorem ann_len (g : Good w n P) (k : Closed w n P) : ∀ {c : Nat}, c ≤ n → ∀ {L : List (List Int)}, AnnL w n P c L → L.length = 2 ^ tot (ex w P) c
  | 0, _, L, h => by
    have hz : List.replicate n 0 ∈ L := (h.mem _).mpr ⟨List.length_replicate, fun a ha => by
      rw [List.eq_of_mem_replicate ha]
      exact ⟨Int.le_refl _, p2 w⟩, fun v _ => by
      rw [dot_zero fun i _ => by
        have : vec (List.replicate n (0 : Int)) i = 0 := by
          show (List.replicate n (0 : Int)).getD i 0 = 0
          rw [List.getD_eq_getElem?_getD, List.getElem?_replicate]
          split <;> rfl
        rw [this, Int.zero_mul]]
      exact Int.dvd_zero _, fun i _ _ => by
      rw [List.getD_eq_getElem?_getD, List.getElem?_replicate]
      split <;> rfl⟩
    have : L.length = [List.replicate n (0 : Int)].length := nodup_len h.nd (List.nodup_cons.mpr ⟨by simp, List.nodup_nil⟩) fun l => by
      rw [List.mem_singleton]
      constructor
      · intro hl
        obtain ⟨ll, _, _, lz⟩ := (h.mem l).mp hl
        refine ext_n ll List.length_replicate fun i hi => ?_
        rw [lz i (Nat.zero_le _) hi, List.getD_eq_getElem?_getD, List.getElem?_replicate]
        split <;> rfl
      · rintro rfl
        exact hz
    rw [this]
    rfl
  | c + 1, hc, L, h => by
    rw [ann_step g k (by omega) h, ann_len g k (by omega) (h.down (by omega)), ← Nat.pow_add]
    rfl
/-- the sizes of a module and of what is 0 with it -/
theorem sm_tot_ex (h : ∀ c, ex w P c ≤ w) : ∀ m : Nat, tot (fun c => w - ex w P c) m + tot (ex w P) m = w * m
  | 0 => rfl
  | m + 1 => by
    have := sm_tot_ex h m
    have := h m
    show tot (fun c => w - ex w P c) m + (w - ex w P m) + (tot (ex w P) m + ex w P m) = w * (m + 1)
    rw [Nat.mul_add, Nat.mul_one]
    omega
end
def prodL {α β : Type} (L : List α) (L' : List β) : List (α × β) := L.flatMap fun a => L'.map fun b => (a, b)
theorem prod_len {α β : Type} {L' : List β} : ∀ L : List α, (prodL L L').length = L.length * L'.length
  | [] => (Nat.zero_mul _).symm
  | a :: L => by
    have e : prodL (a :: L) L' = (L'.map fun b => (a, b)) ++ prodL L L' := by
      unfold prodL
      rw [List.flatMap_cons]
    rw [e, List.length_append, List.length_map, prod_len L, List.length_cons, Nat.add_mul, Nat.one_mul, Nat.add_comm]
theorem prod_mem {α β : Type} {L : List α} {L' : List β} {q : α × β} : q ∈ prodL L L' ↔ q.1 ∈ L ∧ q.2 ∈ L' := by
  unfold prodL
  rw [List.mem_flatMap]
  constructor
  · rintro ⟨a, ha, h⟩
    obtain ⟨b, hb, rfl⟩ := List.mem_map.mp h
    exact ⟨ha, hb⟩
  · exact fun ⟨h1, h2⟩ => ⟨q.1, h1, List.mem_map.mpr ⟨q.2, h2, rfl⟩⟩
theorem prod_nodup {α β : Type} {L' : List β} (h' : L'.Nodup) : ∀ {L : List α}, L.Nodup → (prodL L L').Nodup
  | [], _ => List.nodup_nil
  | a :: L, h => by
    obtain ⟨h1, h2⟩ := List.nodup_cons.mp h
    have e : prodL (a :: L) L' = (L'.map fun b => (a, b)) ++ prodL L L' := by
      unfold prodL
      rw [List.flatMap_cons]
    rw [e, List.nodup_append]
    refine ⟨List.pairwise_map.mpr (h'.imp fun ne e => ne (Prod.mk.inj e).2), prod_nodup h' h2, fun x hx y hy e2 => ?_⟩
    obtain ⟨b, _, rfl⟩ := List.mem_map.mp hx
    rw [← e2] at hy
    exact h1 (prod_mem.mp hy).1
/-- rows that are closed under sums and signs -/
structure Sub (w n : Nat) (A : List Int → Prop) : Prop where
  len : ∀ {l}, A l → l.length = n
  red : ∀ {l}, A l → RedL w l
  add : ∀ {x y}, A x → A y → A (addR w n x y)
  neg : ∀ {x}, A x → A (negR w n x)
theorem neg_red {w n : Nat} {x : List Int} : RedL w (negR w n x) := red_tab fun i _ => ⟨Int.emod_nonneg _ (Int.ne_of_gt (p2 w)), Int.emod_lt_of_pos _ (p2 w)⟩
theorem Sub.of {w n : Nat} {G : Vec → Prop} : Sub w n (fun l => l.length = n ∧ RedL w l ∧ S (2 ^ w) n G (vec l)) where
  len := fun h => h.1
  red := fun h => h.2.1
  add := fun {x y} h h' => ⟨addR_len, addR_red, S.cg (S.add h.2.2 h'.2.2) fun i hi => by
    rw [show vec (addR w n x y) i = (vec x i + vec y i) % 2 ^ w from addR_at hi]
    exact mod_cg _⟩
  neg := fun {x} h => ⟨tab_len, neg_red, S.cg (S.mul (-1) h.2.2) fun i hi => by
    rw [show vec (negR w n x) i = (-vec x i) % 2 ^ w from negR_at hi]
    show (2 : Int) ^ w ∣ (-vec x i) % 2 ^ w - -1 * vec x i
    have e : -1 * vec x i = -vec x i := by omega
    rw [e]
    exact mod_cg _⟩
theorem cg_of_eq {w : Nat} {a b : Int} (h : (2 : Int) ^ w ∣ a - b) (a0 : 0 ≤ a ∧ a < 2 ^ w) (b0 : 0 ≤ b ∧ b < 2 ^ w) : a = b := by
  have h4 : a % 2 ^ w = b % 2 ^ w := Int.emod_eq_emod_iff_emod_sub_eq_zero.mpr (Int.emod_eq_zero_of_dvd h)
  rwa [Int.emod_eq_of_lt a0.1 a0.2, Int.emod_eq_of_lt b0.1 b0.2] at h4
/-- sums and intersections: how many elements -/
theorem sum_len {w n : Nat} {A B : List Int → Prop} (hA : Sub w n A) (hB : Sub w n B) {LA LB LI LS : List (List Int)} (nA : LA.Nodup) (nB : LB.Nodup) (nI : LI.Nodup) (nS : LS.Nodup)
    (mA : ∀ l, l ∈ LA ↔ A l) (mB : ∀ l, l ∈ LB ↔ B l) (mI : ∀ l, l ∈ LI ↔ A l ∧ B l) (mS : ∀ l, l ∈ LS ↔ ∃ a b, A a ∧ B b ∧ addR w n a b = l) : LA.length * LB.length = LI.length * LS.length := by
  rw [← prod_len]
  refine fiber_len (fun q : List Int × List Int => addR w n q.1 q.2) LI.length nS (fun q hq => ?_) (fun s hs => ?_)
  · obtain ⟨h1, h2⟩ := prod_mem.mp hq
    exact (mS _).mpr ⟨q.1, q.2, (mA _).mp h1, (mB _).mp h2, rfl⟩
  · obtain ⟨a0, b0, ha0, hb0, rfl⟩ := (mS s).mp hs
    refine (len_bij (fun i => (addR w n i a0, addR w n b0 (negR w n i))) nI ((prod_nodup nB nA).filter _) (fun x hx y hy e => ?_) fun q => ?_).symm
    · have hx := (mI x).mp hx
      have hy := (mI y).mp hy
      exact add_inj (hA.len hx.1) (hA.len hy.1) (hA.red hx.1) (hA.red hy.1) (Prod.mk.inj e).1
    · rw [List.mem_filter, prod_mem, decide_eq_true_iff]
      constructor
      · rintro ⟨⟨h1, h2⟩, e⟩
        have ha := (mA _).mp h1
        have hb := (mB _).mp h2
        have key : ∀ i, i < n → (2 : Int) ^ w ∣ (vec q.1 i + vec q.2 i) - (vec a0 i + vec b0 i) := fun i hi => by
          have h3 : (addR w n q.1 q.2).getD i 0 = (addR w n a0 b0).getD i 0 := by rw [e]
          rw [addR_at hi, addR_at hi] at h3
          exact Int.dvd_of_emod_eq_zero (Int.emod_eq_emod_iff_emod_sub_eq_zero.mp h3)
        refine ⟨addR w n q.1 (negR w n a0), (mI _).mpr ⟨hA.add ha (hA.neg ha0), ?_⟩, Prod.ext (add_neg (hA.len ha) (hA.red ha)) ?_⟩
        · have : addR w n q.1 (negR w n a0) = addR w n b0 (negR w n q.2) := ext_n addR_len addR_len fun i hi => by
            refine cg_of_eq (w := w) ?_ (red_at addR_red i) (red_at addR_red i)
            rw [addR_at hi, addR_at hi, negR_at hi, negR_at hi]
            have c1 := mod_cg (w := w) (vec q.1 i + (-vec a0 i) % 2 ^ w)
            have c2 := mod_cg (w := w) (vec b0 i + (-vec q.2 i) % 2 ^ w)
            have c3 := mod_cg (w := w) (-vec a0 i)
            have c4 := mod_cg (w := w) (-vec q.2 i)
            have c5 := Int.dvd_sub (Int.dvd_add (Int.dvd_add c1 c3) (key i hi)) (Int.dvd_add c2 c4)
            have e5 : (vec q.1 i + (-vec a0 i) % 2 ^ w) % 2 ^ w - (vec q.1 i + (-vec a0 i) % 2 ^ w) + ((-vec a0 i) % 2 ^ w - -vec a0 i) + ((vec q.1 i + vec q.2 i) - (vec a0 i + vec b0 i)) - ((vec b0 i + (-vec q.2 i) % 2 ^ w) % 2 ^ w - (vec b0 i + (-vec q.2 i) % 2 ^ w) + ((-vec q.2 i) % 2 ^ w - -vec q.2 i)) = (vec q.1 i + (-vec a0 i) % 2 ^ w) % 2 ^ w - (vec b0 i + (-vec q.2 i) % 2 ^ w) % 2 ^ w := by omega
            rw [e5] at c5
            exact c5
          rw [this]
          exact hB.add hb0 (hB.neg hb)
        · refine ext_n addR_len (hB.len hb) fun i hi => ?_
          refine cg_of_eq (w := w) ?_ (red_at addR_red i) (red_at (hB.red hb) i)
          rw [addR_at hi, negR_at hi, addR_at hi, negR_at hi]
          have c1 := mod_cg (w := w) (vec b0 i + (-((vec q.1 i + (-vec a0 i) % 2 ^ w) % 2 ^ w)) % 2 ^ w)
          have c2 := mod_cg (w := w) (-((vec q.1 i + (-vec a0 i) % 2 ^ w) % 2 ^ w))
          have c3 := mod_cg (w := w) (vec q.1 i + (-vec a0 i) % 2 ^ w)
          have c4 := mod_cg (w := w) (-vec a0 i)
          have c5 := Int.dvd_sub (Int.dvd_sub (Int.dvd_sub (Int.dvd_add c1 c2) c3) c4) (key i hi)
          have e5 : (vec b0 i + (-((vec q.1 i + (-vec a0 i) % 2 ^ w) % 2 ^ w)) % 2 ^ w) % 2 ^ w - (vec b0 i + (-((vec q.1 i + (-vec a0 i) % 2 ^ w) % 2 ^ w)) % 2 ^ w) + ((-((vec q.1 i + (-vec a0 i) % 2 ^ w) % 2 ^ w)) % 2 ^ w - -((vec q.1 i + (-vec a0 i) % 2 ^ w) % 2 ^ w)) - ((vec q.1 i + (-vec a0 i) % 2 ^ w) % 2 ^ w - (vec q.1 i + (-vec a0 i) % 2 ^ w)) - ((-vec a0 i) % 2 ^ w - -vec a0 i) - ((vec q.1 i + vec q.2 i) - (vec a0 i + vec b0 i)) = (vec b0 i + (-((vec q.1 i + (-vec a0 i) % 2 ^ w) % 2 ^ w)) % 2 ^ w) % 2 ^ w - vec q.2 i := by omega
          rw [e5] at c5
          exact c5
      · rintro ⟨i, hi, rfl⟩
        obtain ⟨h1, h2⟩ := (mI i).mp hi
        refine ⟨⟨(mA _).mpr (hA.add h1 ha0), (mB _).mpr (hB.add hb0 (hB.neg h2))⟩, ?_⟩
        refine ext_n addR_len addR_len fun j hj => ?_
        refine cg_of_eq (w := w) ?_ (red_at addR_red j) (red_at addR_red j)
        rw [addR_at hj, addR_at hj, addR_at hj, addR_at hj, negR_at hj]
        have c1 := mod_cg (w := w) ((vec i j + vec a0 j) % 2 ^ w + (vec b0 j + (-vec i j) % 2 ^ w) % 2 ^ w)
        have c2 := mod_cg (w := w) (vec i j + vec a0 j)
        have c3 := mod_cg (w := w) (vec b0 j + (-vec i j) % 2 ^ w)
        have c4 := mod_cg (w := w) (-vec i j)
        have c6 := mod_cg (w := w) (vec a0 j + vec b0 j)
        have c5 := Int.dvd_sub (Int.dvd_add (Int.dvd_add (Int.dvd_add c1 c2) c3) c4) c6
        have e5 : ((vec i j + vec a0 j) % 2 ^ w + (vec b0 j + (-vec i j) % 2 ^ w) % 2 ^ w) % 2 ^ w - ((vec i j + vec a0 j) % 2 ^ w + (vec b0 j + (-vec i j) % 2 ^ w) % 2 ^ w) + ((vec i j + vec a0 j) % 2 ^ w - (vec i j + vec a0 j)) + ((vec b0 j + (-vec i j) % 2 ^ w) % 2 ^ w - (vec b0 j + (-vec i j) % 2 ^ w)) + ((-vec i j) % 2 ^ w - -vec i j) - ((vec a0 j + vec b0 j) % 2 ^ w - (vec a0 j + vec b0 j)) = ((vec i j + vec a0 j) % 2 ^ w + (vec b0 j + (-vec i j) % 2 ^ w) % 2 ^ w) % 2 ^ w - (vec a0 j + vec b0 j) % 2 ^ w := by omega
        rw [e5] at c5
        exact c5
end Md

namespace L2
open PySem PySem.Spec PyProof.Rows MeetsSeq MeetsSeq2 MeetsSeq3 SeqRoads2
open AutoSeq1 (wpAny_loadPart')
theorem tuple_mul0 (l : Addr) (items : Array Value) (n : Nat) (dd : Option Addr) (sl : Array (Option Value)) (x : Int) (u : Tok) (c0 : (decide (x < -(2 ^ 63)) || decide (x ≥ 2 ^ 63)) = false) (c1 : (items.isEmpty || x == 1) = false) (c2 : (decide (x ≤ 0) || items.isEmpty) = true) :
    Meets (Builtin.«tuple.__mul__» ⟨[.ref l, .int x u], []⟩) (fun _ R s => s.heap.get? l = some { cls := .type "tuple", dict := dd, data := .seq items n, slots := sl } ∧
      R (.ok (.ret (Value.ref s.heap.objs.size))) { s with heap := s.heap.push { cls := Value.type "tuple", data := Data.seq #[] }, toks := s.toks }) :=
  .of_wp fun prog w A R s h => by
    obtain ⟨hp, g, d, tk, os⟩ := s
    obtain ⟨hl, h⟩ := h
    have f1 := AutoSeq1.idx_int
    wp_walk using wpAny_loadPart' hl
    repeat (first
      | (refine wpAny_ite_false (decide_eq_false (by rw [c0]; exact Bool.false_ne_true)) ?_; wp_walk using wpAny_loadPart' hl)
      | (refine wpAny_ite_false (decide_eq_false (by rw [c1]; exact Bool.false_ne_true)) ?_; wp_walk using wpAny_loadPart' hl)
      | (refine wpAny_ite_true (decide_eq_true c2) ?_; wp_walk using wpAny_loadPart' hl))
    exact ⟨_, rfl, h⟩
/-- t * k, k at least 0 -/
def rRepZ (K : PySem.W.Frag) : R2 := fun x y H Q => ∃ l k xs, x = .ref l ∧ y = .int k ∧ SqT K H l xs ∧ xs ≠ [] ∧ 0 ≤ k ∧ k ≤ 1000 ∧ xs.length ≤ 1000 ∧ (k = 0 → ∀ p, H p = none → Q (.ref p) (upd H p (.tup []))) ∧ (k = 1 → Q (.ref l) H) ∧ (2 ≤ k → ∀ p, H p = none → Q (.ref p) (upd H p (.tup (List.replicate k.toNat xs).flatten)))
theorem op_repZ {X : Cx} : OpR X (binaryOp .Mult) (rRepZ X.K) := by
  intro pins s σ H x y v u Q I rx ry h
  obtain ⟨l, k, xs, rfl, rfl, hT, hne, h1, h2, hz, q0, q1, q2⟩ := h
  by_cases hk : k = 0
  · subst hk
    cases rx
    obtain ⟨t, rfl⟩ := ry
    obtain ⟨its, r, ⟨⟨cls, dd, data, sl⟩, ho, hc, n, hd⟩, hs⟩ := I.tuple hT
    simp only at hc hd
    subst hc hd
    have hle : its.length = xs.length := r.length.symm
    have hn : its ≠ [] := fun e => hne (by
      rw [e] at hle
      exact List.eq_nil_of_length_eq_zero hle.symm)
    have hi : its.toArray.isEmpty = false := by
      cases its with
      | nil => exact absurd rfl hn
      | cons a b => rfl
    have c0 : (decide ((0 : Int) < -(2 ^ 63)) || decide ((0 : Int) ≥ 2 ^ 63)) = false := by decide
    have c1 : (its.toArray.isEmpty || (0 : Int) == 1) = false := by
      rw [hi]
      rfl
    have c2 : (decide ((0 : Int) ≤ 0) || its.toArray.isEmpty) = true := by
      rw [show decide ((0 : Int) ≤ 0) = true from rfl, Bool.true_or]
    refine wpAny_binaryOp_repeat_ref (T := "tuple") (U := "int") (by decide) ⟨_, ho, rfl⟩ (fun s' => typeIs_int s' 0 t) noFill_tuple_mul F.fills_int_mul F.slot_int_rmul repeat_tuple F.slot_int_index.lookup
      (call_meets F.slot_int_rmul (typeIs_int s 0 t) F.entry_int_rmul (F.args_int_rmul_2 _ _) (int_rmul_tuple 0 t l its.toArray n dd sl)
        ⟨ho, rfl, ⟨_, ho, rfl⟩, call_meets F.slot_tuple_mul ⟨_, ho, rfl⟩ F.entry_tuple_mul (F.args_tuple_mul_2 _ _) (tuple_mul0 l its.toArray n dd sl 0 t c0 c1 c2) ⟨ho, ?_⟩⟩)
    refine ⟨.ref s.heap.objs.size, _, I.laid (t' := s.toks) (o := .tup []) (fun b ob q => Heap.get?_push_of_some _ q) (Nat.le_refl _) ?_, rfl, q0 rfl _ (I.hok.fresh (Nat.le_refl _))⟩
    exact ⟨Nat.zero_le _, _, .nil, IsTup.new _ _⟩
  · exact op_repN pins s σ H _ _ v u Q I rx ry ⟨l, k, xs, rfl, rfl, hT, hne, by omega, h2, hz, q1, q2⟩
end L2
namespace Lk
open PySem PySem.Spec PyProof.Rows L2
theorem s_repZ {K : PySem.W.Frag} {H : Hp} {l : Addr} {x : V} {n : Nat} {Q : VK} (h : H l = some (.tup [x])) (h2 : n ≤ 1000) (q : ∀ p H', Same H H' → H' p = some (.tup (List.replicate n x)) → Q (.ref p) H') : rRepZ K (.ref l) (.int (n : Int)) H Q :=
  ⟨l, n, [x], rfl, rfl, SqT.of h, by simp, by omega, by omega, by simp, fun e p hp => by
    have : n = 0 := by omega
    subst this
    exact q p _ (same_new hp) upd_same, fun e => q l H (Same.refl _) (by
    have : n = 1 := by omega
    subst this
    exact h), fun e p hp => q p _ (same_new hp) (by rw [upd_same, Int.toNat_natCast, flat_rep])⟩
end Lk

/-! dicts with tuple keys, further: a display of one entry; sorted lists of tuples, any number of them -/
namespace SrtO
open PySem PyProof.Rows Srt
section
variable {prog : Program} {w : World} {A : Around} {E : Value → Shared → Prop} {s : Shared}
theorem swo_rank (r : Value → Int) : Swo fun v u => decide (r v < r u) := by
  refine ⟨fun x y h => ?_, fun x y z h1 h2 => ?_⟩
  · have a := of_decide_eq_true h
    exact decide_eq_false (by omega)
  · have a := of_decide_eq_false h1
    have b := of_decide_eq_false h2
    exact decide_eq_false (by omega)
abbrev rankT (B : Int) (h : Heap) (v : Value) : Int := TS.code B (TS.intsOf h v)
theorem tups_sortable {a : Addr} {vs : List Value} {d : Nat} {B : Int} (hd : 1 ≤ d) (h2 : 2 ≤ vs.length) (x : TS.TupsOk s.heap d B vs) (ha : ∀ o, s.heap.get? a = some o → o.cls ≠ .type "tuple") :
    SortableO prog w A s a vs fun v u => decide (rankT B s.heap v < rankT B s.heap u) := by
  intro h' keep
  have kp : ∀ b o, s.heap.get? b = some o → o.cls = .type "tuple" → h'.get? b = some o := fun b o e c => keep b o (fun z => by subst z; exact ha o e c) e
  have x' := x.keeps kp
  obtain ⟨fs, k, hl, hi⟩ := TS.firsts_of hd vs x'
  refine ⟨tuples' true, fun Q E hq => ?_, ?_⟩
  · refine PySem.W.kat_kind (s := { s with heap := h' }) (T := .type "int") k (by omega) (fun f hm => ?_) (by rfl) ?_
    · obtain ⟨n, t, rfl⟩ := hi f hm
      exact PySem.W.Looks.of_pure rfl
    · have e : (Value.type "int" != Value.type "tuple") = true := by decide +kernel
      rw [e]
      exact hq
  · intro p q hp hq
    obtain ⟨ns, tp, lp, bp⟩ := x _ hp
    obtain ⟨ms, tq, lq, bq⟩ := x _ hq
    have e1 := tp.ints
    have e2 := tq.ints
    have tp' := tp.keeps kp
    have tq' := tq.keeps kp
    show wpAny (model prog w) A (keyLt' (tuples' true) p.1 q.1) (fun r s' => s' = { s with heap := h' } ∧ r = decide (rankT B s.heap p.1 < rankT B s.heap q.1)) (fun _ _ => False) { s with heap := h' }
    unfold rankT
    rw [e1, e2]
    obtain ⟨a, xs, e1, ⟨o, ho, hc, n, hdt⟩, i⟩ := tp'
    obtain ⟨a', ys, e2, ⟨o', ho', hc', n', hdt'⟩, i'⟩ := tq'
    rw [e1, e2]
    refine PySem.W.kat_lt (s := { s with heap := h' }) ho hdt ho' hdt' ?_
    have sz : decide (xs.size < ys.size) = false := by
      have l1 := i.length
      have l2 := i'.length
      rw [Array.length_toList] at l1 l2
      exact decide_eq_false (by omega)
    rw [sz]
    exact TS.lex_ints 0 i i' (by omega) bp bq ⟨rfl, rfl⟩
end
end SrtO
namespace Lk
open PySem PySem.Spec PyProof.Rows L2
/-- {k: v}, k a tuple of ints and texts -/
def tDisp1T (tk tv : TE) : TE := fun σ H Q => ∀ p, H p = none → tk σ (upd H p (.dT [])) fun x H1 => tv σ H1 fun y H2 => H2 p = some (.dT []) ∧ ∃ (b : Addr) (k : List Key), x = .ref b ∧ H2 b = some (.tup (k.map kV)) ∧ Q (.ref p) (upd H2 p (.dT [(k, y)]))
theorem pe_disp1T {X : Cx} {k v : Expr} {pos : Pos} {tk tv : TE} (hu : X.A.units < cLine) (hk : PE X k tk) (hv : PE X v tv) : PE X (.Dict [some k] [v] pos) (tDisp1T tk tv) := by
  refine ⟨fun pins s σ H Q I q => ?_⟩
  have hn := I.hok.fresh (Nat.le_refl s.heap.objs.size)
  have I1 := I.laid (a := s.heap.objs.size) (o := .dT []) (h' := s.heap.push { cls := .type "dict", data := .dict #[] }) (t' := s.toks) (fun _ _ q => Heap.get?_push_of_some _ q) (Nat.le_refl _) (dt_empty s.heap I.big)
  rw [arm_eval_Dict, zip_pairTrees [some k] [v] X.env pos rfl rfl, dictDisplay_pairs _ (by intro e; cases e) (Nat.le_of_ble_eq_true rfl)]
  refine wpAny_bind (wpAny_standAt (wpAny_bind (wpAny_subDictH (knd := tupleKind (mixKind X.prog X.w)) (Q := fun d s' => wpAny (model X.prog X.w) X.A (pure (Value.ref d)) _ _ s') hu (Nat.le_of_ble_eq_true rfl)
    (pairTrees_cons_walk (thn (hk.run pins _ σ _ _ I1 (q _ hn)) fun u s1 ⟨x, H1, I2, rx, q1⟩ => thn (hv.run pins s1 σ H1 _ I2 q1) fun u2 s2 ⟨y, H2, I3, ry, e, b, ks, ex, eb, q2⟩ => pairTrees_nil_walk ?_)))))
  subst ex
  obtain rfl : u = Value.ref b := rx
  obtain ⟨z, hd, xs, rel, dd⟩ := dt_of I3.hok e
  cases rel
  refine ⟨[(ks, b, u2)], ⟨rfl, rfl, key_of I3.hok eb, trivial⟩, dd, fun h' tk dd' hs => wpAny_pure ⟨.ref s.heap.objs.size, _, ?_, rfl, q2⟩⟩
  obtain ⟨o, es, ep, hq, h2, h3, h4, _, h5⟩ := dd'
  refine d_write I3 (by rw [e]; exact True.intro) hs ⟨o, hq⟩ ⟨Nat.le_of_lt (small1000 (Nat.le_of_ble_eq_true rfl)), hd, [(ks, b, u2)], .cons ⟨rfl, ?_, ry⟩ .nil, o, es, ep, hq, h2, h3, h4, h5⟩
  rw [upd_ne (ne_of eb e (fun z => nomatch z))]
  exact eb
/-! ### sorted -/
/-- L ascends -/
def Asc (B : Int) (L : List (List Int)) : Prop := L.Pairwise fun a b => TS.code B a ≤ TS.code B b
def TupsV (K : PySem.W.Frag) (H : Hp) (d : Nat) (B : Int) (xs : List V) : Prop := ∀ x ∈ xs, ∃ ns, TupI K H x ns ∧ ns.length = d ∧ TS.Bd B ns
def AscV (K : PySem.W.Frag) (H : Hp) (B : Int) (ys : List V) : Prop := ys.Pairwise fun x y => ∀ n m, TupI K H x n → TupI K H y m → TS.code B n ≤ TS.code B m
def rSortTL (K : PySem.W.Frag) : List V → Hp → VK → Prop := fun vs H Q => ∃ (a : Addr) (xs : List V) (d : Nat) (B : Int), vs = [V.ref a] ∧ SqL K H a xs ∧ (1 ≤ d ∨ xs.length ≤ 1) ∧ TupsV K H d B xs ∧
  ∀ (ys : List V) (p : Addr), ys.Perm xs → AscV K H B ys → H p = none → Q (.ref p) (upd H p (.lst ys))
section
variable {X : Cx} {pins : List (Addr × Obj)} {σ : L2.St} {H : Hp} {s : Shared}
theorem ascV_of (I : Inv X pins σ H s) {B : Int} {out : List Value} (hs : SrtO.Srtd (fun v u => decide (SrtO.rankT B s.heap v < SrtO.rankT B s.heap u)) out) : AscV X.K H B (out.map bkV) := by
  unfold AscV
  rw [List.pairwise_map]
  refine List.Pairwise.imp (fun {u v} huv n m hn hm => ?_) hs
  obtain ⟨t, et, ht⟩ := hn
  obtain ⟨t', et', ht'⟩ := hm
  have eu := bkV_ref et
  have ev := bkV_ref et'
  have i1 : TS.intsOf s.heap u = n := by
    rw [eu]
    exact (tupI_raw I ht).ints
  have i2 : TS.intsOf s.heap v = m := by
    rw [ev]
    exact (tupI_raw I ht').ints
  have := of_decide_eq_false huv
  unfold SrtO.rankT at this
  rw [i1, i2] at this
  omega
theorem cr_sortTL : CallR X (.builtin "sorted") (rSortTL X.K) := by
  intro pins s σ H vs us Q I r h
  obtain ⟨a, xs, d, B, rfl, hs, hd, hx, q⟩ := h
  obtain ⟨its, rv, hl, hz⟩ := I.list hs
  rw [Vals.ref1 r]
  obtain ⟨e1, e2⟩ := bkV_refs rv fun x m => by
    obtain ⟨ns, ⟨t, e, _⟩, _⟩ := hx x m
    exact ⟨t, e⟩
  have ok : TS.TupsOk s.heap d B its := fun v hv => by
    obtain ⟨t, rfl⟩ := e2 v hv
    have hm : V.ref t ∈ xs := by
      rw [e1]
      exact List.mem_map.mpr ⟨_, hv, rfl⟩
    obtain ⟨ns, ⟨t', e, ht⟩, hn, hb⟩ := hx _ hm
    cases e
    exact ⟨ns, tupI_raw I ht, hn, hb⟩
  have hlx : its.length = xs.length := rv.length.symm
  refine SrtO.sorted_ord (SrtO.swo_rank (SrtO.rankT B s.heap)) hl.isList (by rw [hlx]; exact hz) (fun h2 h₁ a' ha' kk => ?_) fun out hs' hb => ?_
  · have hd1 : 1 ≤ d := by
      rcases hd with hd | hd
      · exact hd
      · omega
    have e : SrtO.SortableO X.prog X.w X.A.in1.in1 { s with heap := h₁ } a' its (fun v u => decide (SrtO.rankT B h₁ v < SrtO.rankT B h₁ u)) :=
      SrtO.tups_sortable (s := { s with heap := h₁ }) hd1 h2 (ok.keeps fun b o e _ => (kk b o e).2) fun o e => by
        have e' : some o = some (seqObj "list" its.toArray 0) := e.symm.trans ha'
        cases e'
        intro c
        exact absurd (Value.type.inj c) (by decide)
    intro h' kp
    obtain ⟨κ, c1, c2⟩ := e h' kp
    refine ⟨κ, c1, fun p q' hp hq => ?_⟩
    have c := c2 p q' hp hq
    have z : ∀ v ∈ its, SrtO.rankT B h₁ v = SrtO.rankT B s.heap v := fun v hv => by
      obtain ⟨ns, t, _⟩ := ok v hv
      unfold SrtO.rankT
      rw [t.ints, (t.keeps fun b o e _ => (kk b o e).2).ints]
    have z2 : SrtO.lt2 (fun v u => decide (SrtO.rankT B h₁ v < SrtO.rankT B h₁ u)) p q' = SrtO.lt2 (fun v u => decide (SrtO.rankT B s.heap v < SrtO.rankT B s.heap u)) p q' := by
      show decide _ = decide _
      rw [z _ hp, z _ hq]
    rw [z2] at c
    exact c
  · obtain ⟨ep, he'⟩ := PyProof.Rows.sortedAll_at s.heap its out.toArray
    have h3 : ∀ u ∈ out, ∃ a, u = Value.ref a := fun u hu => e2 u (hb.perm.mem_iff.mp hu)
    have hp : (out.map bkV).Perm xs := by
      rw [e1]
      exact hb.perm.map bkV
    have hlen : (out.map bkV).length ≤ sizeLine := by
      rw [hp.length_eq]
      exact hz
    exact ⟨.ref _, upd H (s.heap.objs.size + 1) (.lst (out.map bkV)), I.laid (t' := s.toks) (fun _ _ => PyProof.Rows.sortedAll_old) (Nat.le_succ _) ⟨hlen, out, ep, bkV_vals h3, he'⟩, rfl, q _ _ hp (ascV_of I hs') (I.hok.fresh (Nat.le_succ _))⟩
/-- sorted(d), d a dict with tuples of ints as keys -/
def rSortTD (K : PySem.W.Frag) : List V → Hp → VK → Prop := fun vs H Q => ∃ (a : Addr) (kvs : List (List Key × V)) (d : Nat) (B : Int), vs = [V.ref a] ∧ Rd H a (.dT kvs) ∧ (1 ≤ d ∨ kvs.length ≤ 1) ∧
  (∀ kv ∈ kvs, ∃ ns : List Int, kv.1 = ns.map Sum.inl ∧ ns.length = d ∧ TS.Bd B ns) ∧
  ∀ (bs : List Addr) (ys : List V) (p : Addr), IsKeys H kvs bs → ys.Perm (bs.map V.ref) → AscV K H B ys → H p = none → Q (.ref p) (upd H p (.lst ys))
theorem kV_ints (ns : List Int) : (ns.map Sum.inl : List Key).map kV = ns.map V.int := by
  rw [List.map_map]
  rfl
theorem keys_tups {K : PySem.W.Frag} {H : Hp} {kvs : List (List Key × V)} {bs : List Addr} (h : IsKeys H kvs bs) {d : Nat} {B : Int} (hk : ∀ kv ∈ kvs, ∃ ns : List Int, kv.1 = ns.map Sum.inl ∧ ns.length = d ∧ TS.Bd B ns) :
    TupsV K H d B (bs.map V.ref) := by
  unfold IsKeys at h
  induction h with
  | nil => exact fun x hx => by cases hx
  | @cons p b ps bs hp t ih =>
    intro x hx
    rcases List.mem_cons.mp hx with rfl | hx
    · obtain ⟨ns, e, h1, h2⟩ := hk p (List.mem_cons_self ..)
      rw [e, kV_ints] at hp
      exact ⟨ns, ⟨b, rfl, SqT.of hp⟩, h1, h2⟩
    · exact ih (fun kv hkv => hk kv (List.mem_cons_of_mem _ hkv)) x hx
theorem cr_sortTD (hc : X.calm = true) : CallR X (.builtin "sorted") (rSortTD X.K) := by
  intro pins s σ H xs us Q I r h
  obtain ⟨a, kvs, d, B, rfl, hd, h1, hk, q⟩ := h
  obtain ⟨u, rfl, rx⟩ := vals1 r
  cases rx
  obtain ⟨z, hs, ks, pr, o, es, ep, ho, hx, hdt, he, hn⟩ := (show ObjOk X.prog X.w H s.heap a (.dT kvs) from hd.ok I.hok)
  have l1 : es.size = ks.length := size_of_entries he
  have l2 : kvs.length = ks.length := Paired.length pr
  refine Calls.call_function_entry PyProof.Rows.kind_sorted PyProof.Rows.plain_sorted PyProof.Rows.entry_sorted (PyProof.Rows.args_sorted1 _) ?_
  unfold Builtin.«sorted»
  refine wpAny_bind (m := checkCount "sorted" 1 1 _) (wpAny_pure ?_)
  refine wpAny_bind (PySem.W.kdu_collect (A := X.A.in1) (kdl_raw hs hx hdt) (I.ok.hd hc) ho (by omega) fun h' tk acc hkp it => ?_)
  have ea : acc.toList = ks.map fun x => Value.ref x.2.1 := by
    have hl : acc.toList.length = ks.length := by rw [Array.length_toList, it.1]; exact l1
    apply List.ext_getElem?
    intro j
    rw [List.getElem?_map]
    cases hj : acc.toList[j]? with
    | none =>
      have h1 := List.getElem?_eq_none_iff.mp hj
      rw [List.getElem?_eq_none (by omega)]
      all_goals rfl
    | some v =>
      obtain ⟨en, hen, hv⟩ := it.2 j v (by rw [← Array.getElem?_toList]; exact hj)
      have qe := entry_at he j
      rw [hen] at qe
      cases hb : ks[j]? with
      | none =>
        rw [hb] at qe
        exact nomatch (show some en = none from qe)
      | some b =>
        rw [hb] at qe
        have e2 : en = entryOfKey (tupleKind (mixKind X.prog X.w)) b := Option.some.inj qe
        rw [hv, e2]
        all_goals rfl
  have eb : acc.toList = (ks.map fun x => x.2.1).map Value.ref := by rw [ea, List.map_map]; all_goals rfl
  have hkeys := isKeys_of pr
  have hbl : (ks.map fun x => x.2.1).length = kvs.length := by rw [List.length_map, l2]
  generalize (ks.map fun x => x.2.1) = bs at eb hkeys hbl
  have I1 : Inv X pins σ H { s with heap := h', toks := tk } := I.kept hkp
  have hlen : acc.toList.length = kvs.length := by rw [eb, List.length_map, hbl]
  refine wpAny_bind (wpAny_newList ?_ (by rw [hlen]; exact z))
  have hoL : (h'.push (seqObj "list" acc.toList.toArray 0)).get? h'.objs.size = some (seqObj "list" acc.toList.toArray 0) := Heap.get?_push_size _ rfl
  show wpAny _ _ _ _ _ { s with heap := h'.push (seqObj "list" acc.toList.toArray 0), toks := tk }
  have tv := keys_tups (K := X.K) hkeys hk
  have ok0 : TS.TupsOk h' d B acc.toList := fun v hv => by
    rw [eb] at hv
    obtain ⟨t, ht, rfl⟩ := List.mem_map.mp hv
    obtain ⟨ns, ⟨t', e, hT⟩, hn, hb⟩ := tv (.ref t) (List.mem_map.mpr ⟨t, ht, rfl⟩)
    cases e
    exact ⟨ns, tupI_raw I1 hT, hn, hb⟩
  have kp2 : ∀ b o, h'.get? b = some o → o.cls = .type "tuple" → (h'.push (seqObj "list" acc.toList.toArray 0)).get? b = some o := fun b o e _ => Heap.get?_push_of_some _ e
  have ok := ok0.keeps kp2
  have zr : ∀ v ∈ acc.toList, SrtO.rankT B (h'.push (seqObj "list" acc.toList.toArray 0)) v = SrtO.rankT B h' v := fun v hv => by
    obtain ⟨ns, t, _⟩ := ok0 v hv
    unfold SrtO.rankT
    rw [t.ints, (t.keeps kp2).ints]
  refine wpAny_bind (wpAny_holding (wpAny_call_entry PyProof.Rows.slot_list_sort ⟨_, hoL, rfl⟩ PyProof.Rows.entry_list_sort
    (SrtO.list_sort_ord (s := { s with heap := h'.push (seqObj "list" acc.toList.toArray 0), toks := tk }) (SrtO.swo_rank (SrtO.rankT B (h'.push (seqObj "list" acc.toList.toArray 0)))) hoL (by rw [hlen]; exact z) (fun h2 => SrtO.tups_sortable (s := { s with heap := h'.push (seqObj "list" acc.toList.toArray 0), toks := tk }) (by
      rcases h1 with h1 | h1
      · exact h1
      · omega) h2 ok fun o e => by
        have e' : some o = some (seqObj "list" acc.toList.toArray 0) := e.symm.trans hoL
        cases e'
        intro c
        exact absurd (Value.type.inj c) (by decide)) fun out g1 g2 => ⟨_, rfl, ?_⟩) (PyProof.Rows.args_list_sort _)))
  obtain ⟨e', he'⟩ := PyProof.Rows.sortedHeap_at (vs := acc.toList) (out := out.toArray) hoL
  have h3 : ∀ u ∈ out, ∃ a, u = Value.ref a := fun u hu => by
    have := g2.perm.mem_iff.mp hu
    rw [eb] at this
    obtain ⟨t, _, rfl⟩ := List.mem_map.mp this
    exact ⟨t, rfl⟩
  have hpm : (out.map bkV).Perm (bs.map V.ref) := by
    have := g2.perm.map bkV
    rw [eb, List.map_map] at this
    exact this
  have hsz : (out.map bkV).length ≤ sizeLine := by
    rw [hpm.length_eq, List.length_map, hbl]
    exact z
  have g3 : SrtO.Srtd (fun v u => decide (SrtO.rankT B h' v < SrtO.rankT B h' u)) out := List.Pairwise.imp_of_mem (fun {x y} hx hy h => by
    have h := of_decide_eq_false h
    rw [zr _ (g2.perm.mem_iff.mp hx), zr _ (g2.perm.mem_iff.mp hy)] at h
    exact decide_eq_false h) g1
  have hasc : AscV X.K H B (out.map bkV) := ascV_of I1 g3
  refine wpAny_pure ⟨_, rfl, .ref h'.objs.size, upd H h'.objs.size (.lst (out.map bkV)), I1.laid (t' := tk) (fun b u e => ?_) (Nat.le_refl _)
    (show ObjOk X.prog X.w _ _ _ (.lst (out.map bkV)) from ⟨hsz, out, e', bkV_vals h3, he'⟩), rfl, q bs _ _ hkeys hpm hasc (I1.hok.fresh (Nat.le_refl _))⟩
  have hb : b < h'.objs.size := Heap.lt_size e
  rw [PyProof.Rows.sortedHeap_old (Nat.ne_of_lt hb) (by rw [size_push']; exact Nat.lt_succ_of_lt hb)]
  exact Heap.get?_push_of_some _ e
end
end Lk

/-! lists that grow beside the source: what is said of an item speaks of its one object alone -/
namespace Lk
open PySem PySem.Spec PyProof.Rows L2
structure Loc {α : Type} (p : Addr) (R : Hp → V → α → Prop) : Prop where
  ne : ∀ {H v x}, R H v x → v ≠ .ref p
  st : ∀ {H H' v x}, R H v x → (∀ r o, v = .ref r → H r = some o → H' r = some o) → R H' v x
section
variable {α β : Type} {p D : Addr} {R : Hp → V → α → Prop} {H0 H H1 H2 : Hp} {us : List V} {as : List α} {v : V} {x : α}
theorem Loc.wk (L : Loc p R) (w : Wk p H1 H2) (h : R H1 v x) : R H2 v x := L.st h fun r o e h1 => w.1 r o (fun z => L.ne h (by rw [e, z])) h1
theorem Loc.f2 (L : Loc p R) (w : Wk p H1 H2) (h : F2 (R H1) us as) : F2 (R H2) us as := h.mono fun _ _ z => L.wk w z
theorem Loc.same (L : Loc p R) (s : Same H1 H2) (h : R H1 v x) : R H2 v x := L.st h fun r o _ h1 => s r o h1
theorem loc_int : Loc (α := Int) p (fun _ v i => v = .int i) := ⟨fun h => (by rw [h]; exact fun z => by cases z), fun h _ => h⟩
theorem loc_and {C : α → Prop} (L : Loc p R) : Loc p (fun H v x => R H v x ∧ C x) := ⟨fun h => L.ne h.1, fun h s => ⟨L.st h.1 s, h.2⟩⟩
structure Acc {α : Type} (p D : Addr) (R : Hp → V → α → Prop) (H0 H : Hp) (us : List V) (as : List α) : Prop where
  w : Wk p H0 H
  d : H D = some (.lst us)
  f : F2 (fun v x => R H v x ∧ v ≠ .ref D) us as
theorem Acc.start (hp : Wl H p) (hD : H D = none) : Acc p D R H (upd H D (.lst [])) [] [] := ⟨Wk.of hp (same_new hD), upd_same, .nil⟩
theorem Acc.step (L : Loc p R) (nD : D ≠ p) (A : Acc p D R H0 H1 us as) (w : Wk p H1 H2) : Acc p D R H0 H2 us as :=
  ⟨A.w.trans w, w.at nD A.d, A.f.mono fun _ _ z => ⟨L.wk w z.1, z.2⟩⟩
theorem Acc.push (L : Loc p R) (hD : H0 D = none) (nD : D ≠ p) (A : Acc p D R H0 H1 us as) (w : Wk p H1 H2) (hv : R H2 v x) (nv : v ≠ .ref D) :
    Acc p D R H0 (upd H2 D (.lst (us ++ [v]))) (us ++ [v]) (as ++ [x]) := by
  have keep : ∀ {v0 : V} {x : α}, R H2 v0 x → v0 ≠ .ref D → R (upd H2 D (.lst (us ++ [v]))) v0 x := fun {v0 x} h n => L.st h fun r o e h1 => by
    rw [upd_ne (fun z => n (by rw [e, z]))]
    exact h1
  exact ⟨(A.w.trans w).updD hD nD, upd_same, (A.f.mono fun _ _ z => ⟨keep (L.wk w z.1) z.2, z.2⟩).append (.cons ⟨keep hv nv, nv⟩ .nil)⟩
theorem Acc.end_ (A : Acc p D R H0 H us as) : F2 (R H) us as := A.f.mono fun _ _ z => z.1
end
/-- what is left of a comprehension once its iterator is there -/
def LcG (J : L2.It) (g : TG) (tt : TT) (te : TE) (vs : List Nat) (σ : L2.St) (H : Hp) (D : Addr) (Qd : Hp → Prop) : Prop :=
  ∃ W : Nat → Nat → Hp → Prop, (∃ m, W 0 m (upd H D (.lst []))) ∧ ∀ i m H', W i m H' → (J.stop i H' ∧ Qd H') ∨ (J.go i H' ∧ ∃ Nx : Hp → Prop, (∀ H', Nx H' → ∃ m', m' < m ∧ W (i + 1) m' H') ∧ ∀ x H1, J.yld i H' x H1 → g x (wipe σ vs) H1 fun σ2 H2 => wipe σ2 vs = wipe σ vs ∧ tt σ2 H2 fun b H3 =>
    if b = true then te σ2 H3 fun y H4 => ∃ acc, H4 D = some (.lst acc) ∧ acc.length < sizeLine ∧ Nx (upd H4 D (.lst (acc ++ [y]))) else Nx H3)
theorem slc {wi : TI} {g : TG} {tt : TT} {te : TE} {vs : List Nat} {σ : L2.St} {H : Hp} {Q : VK} (q : wi σ H fun J H1 => ∀ D, H1 D = none → LcG J g tt te vs σ H1 D (Q (.ref D))) : tLc wi g tt te vs σ H Q := q
theorem srg {ta : TA} {σ : L2.St} {H : Hp} {R : L2.It → Hp → Prop} (q : ta σ H fun vs H1 => ∃ j : Int, vs = [.int j] ∧ -(2 ^ 62) ≤ j ∧ j < 2 ^ 62 ∧ R (Itr 0 j.toNat) H1) : iRng1 ta σ H R := q
theorem srn {n : Nat} {R : L2.It → Hp → Prop} {H : Hp} (h : n ≤ 1000000) (q : R (Itr 0 n) H) : ∃ j : Int, [V.int (n : Int)] = [.int j] ∧ -(2 ^ 62) ≤ j ∧ j < 2 ^ 62 ∧ R (Itr 0 j.toNat) H := ⟨n, rfl, by omega, by omega, q⟩
section
variable {K : PySem.W.Frag} {α β : Type} {p D a : Addr} {H : Hp} {σ : L2.St} {k : Nat} {te : TE} {vs : List Nat} {Qd : Hp → Prop} {xs : List V} {as : List α}
/-- [f(i) for i in range(lo, lo + n)], f draws -/
theorem tlc_rangeL {lo : Int} {n : Nat} (R : Hp → V → α → Prop) (L : Loc p R) (hp : Wl H p) (hD : H D = none) (hn : n ≤ 1000)
    (hw : ∀ x, wipe ((wipe σ vs).set k (some x)) vs = wipe σ vs)
    (he : ∀ (i : Nat) (H' : Hp), i < n → Wk p H H' → (∃ acc, H' D = some (.lst acc)) → ∀ Q : VK, (∀ u x H'', Wk p H' H'' → R H'' u x → u ≠ .ref D → Q u H'') → te ((wipe σ vs).set k (some (.int (lo + (i : Int))))) H' Q)
    (q : ∀ ys as H', Wk p H H' → H' D = some (.lst ys) → F2 (R H') ys as → as.length = n → Qd H') :
    LcG (Itr lo n) (gName k) tYes te vs σ H D Qd := by
  have nD : D ≠ p := ne_new hp hD
  refine lc_range (lo := lo) (n := n) (fun i H' => ∃ us as, Acc p D R H H' us as ∧ as.length = i) ⟨[], [], Acc.start hp hD, rfl⟩ ?_ ?_
  · rintro i H1 hi ⟨us, as, A, h3⟩
    refine ⟨hw _, ?_⟩
    unfold tYes
    simp only [if_true]
    refine he i H1 hi A.w ⟨_, A.d⟩ _ fun v x H2 w2 hv nv => ?_
    exact ⟨us, w2.at nD A.d, by rw [A.f.len, h3]; exact small1000 (by omega), us ++ [v], as ++ [x], A.push L hD nD w2 hv nv, by rw [List.length_append, h3]; rfl⟩
  · rintro H1 ⟨us, as, A, h3⟩
    exact q us as H1 A.w A.d A.end_ h3
/-- [f(x) for x in l], l a list, f draws; G: what is made of what -/
theorem tlc_listL {β : Type} {bs : List β} (Rin : Hp → V → β → Prop) (Li : Loc p Rin) (R : Hp → V → α → Prop) (L : Loc p R) (G : β → α → Prop) (hp : Wl H p) (na : a ≠ p) (hx : H a = some (.lst xs)) (hr : F2 (Rin H) xs bs) (hn : xs.length ≤ 1000) (hD : H D = none)
    (hw : ∀ x, wipe ((wipe σ vs).set k (some x)) vs = wipe σ vs)
    (he : ∀ (i : Nat) (x : V) (b : β) (H' : Hp), bs[i]? = some b → Rin H' x b → x ≠ .ref D → Wk p H H' → (∃ acc, H' D = some (.lst acc)) → ∀ Q : VK, (∀ u y H'', Wk p H' H'' → R H'' u y → u ≠ .ref D → G b y → Q u H'') → te ((wipe σ vs).set k (some x)) H' Q)
    (hne : ∀ x b, Rin H x b → x ≠ .ref D)
    (q : ∀ (ys : List V) (as : List α) (H' : Hp), Wk p H H' → H' D = some (.lst ys) → F2 (R H') ys as → as.length = bs.length → (∀ (i : Nat) (b : β) (y : α), bs[i]? = some b → as[i]? = some y → G b y) → Qd H') :
    LcG (Itl K a) (gName k) tYes te vs σ H D Qd := by
  have nD : D ≠ p := ne_new hp hD
  refine lc_list (xs := xs) (fun i H' => ∃ (us : List V) (as : List α), Acc p D R H H' us as ∧ as.length = i ∧ ∀ (j : Nat) (b : β) (y : α), j < i → bs[j]? = some b → as[j]? = some y → G b y) ⟨[], [], Acc.start hp hD, rfl, fun j b y hj => absurd hj (Nat.not_lt_zero j)⟩ (fun i H' _ h => by
    obtain ⟨us, as, A, _⟩ := h
    exact SqL.of (A.w.at na hx)) ?_ ?_
  · rintro i x H1 hi ⟨us, as, A, h3, h4⟩
    refine ⟨hw _, ?_⟩
    unfold tYes
    simp only [if_true]
    obtain ⟨b, hbi, hb⟩ := hr.at hi
    have hlt := (List.getElem?_eq_some_iff.mp hi).1
    refine he i x b H1 hbi (Li.wk A.w hb) (hne x b hb) A.w ⟨_, A.d⟩ _ fun v y H2 w2 hv nv hg => ?_
    refine ⟨us, w2.at nD A.d, by rw [A.f.len, h3]; exact small1000 (by omega), us ++ [v], as ++ [y], A.push L hD nD w2 hv nv, by rw [List.length_append, h3]; rfl, fun j b' y' hj e1 e2 => ?_⟩
    by_cases c : j < i
    · rw [List.getElem?_append_left (by omega)] at e2
      exact h4 j b' y' c e1 e2
    · have e : j = i := by omega
      subst e
      rw [hbi] at e1
      rw [List.getElem?_append_right (by omega), show j - as.length = 0 by omega] at e2
      cases e1
      cases e2
      exact hg
  · rintro H1 ⟨us, as, A, h3, h4⟩
    have hl := hr.len
    exact q us as H1 A.w A.d A.end_ (by rw [h3, hl]) fun i b y e1 e2 => h4 i b y (by have := (List.getElem?_eq_some_iff.mp e1).1; omega) e1 e2
end
end Lk

/-! zip of a list or tuple and another list or tuple -/
namespace Lk
open PySem PySem.Spec PyProof.Rows L2
/-- what is needed of lists, and of tuples -/
structure SeqK where
  sq : PySem.W.Frag → Hp → Addr → List V → Prop
  it : Heap → Addr → Addr → Nat → Prop
  is : Heap → Addr → Array Value → Prop
  ob : Addr → Obj
  get : ∀ {X : Cx} {pins : List (Addr × Obj)} {σ : L2.St} {H : Hp} {s : Shared} {a : Addr} {xs : List V}, L2.Inv X pins σ H s → sq X.K H a xs → ∃ its : List Value, Vals xs its ∧ is s.heap a its.toArray ∧ a < s.heap.objs.size
  inj : ∀ {X : Cx} {pins : List (Addr × Obj)} {σ : L2.St} {H : Hp} {s : Shared} {a : Addr} {xs ys : List V}, L2.Inv X pins σ H s → sq X.K H a xs → sq X.K H a ys → xs = ys
  dr : ∀ {P : Program} {w : World} {A : Around} {i a : Addr} (items : Array Value), A.handled = none → a ≠ i → Draws P w A i [i, a] items.size (fun n v => items[n]? = some v) (fun n h => it h i a n ∧ is h a items)
  nocell : ∀ {h : Heap} {i a : Addr} {n : Nat}, it h i a n → ∃ o, h.get? i = some o ∧ ∀ v, o.data ≠ .cell v
  stay : ∀ {h h' : Heap} {i a : Addr} {n : Nat}, it h i a n → (∀ o, h.get? i = some o → h'.get? i = some o) → it h' i a n
  beg : ∀ (a : Addr) (items : Array Value), Begins (.ref a) (ob a) fun h => is h a items
  at0 : ∀ {h : Heap} {i a : Addr}, h.get? i = some (ob a) → it h i a 0
  same : ∀ {K : PySem.W.Frag} {H H' : Hp} {a : Addr} {xs : List V}, Same H H' → sq K H a xs → sq K H' a xs
def skL : SeqK where
  sq := SqL
  it := Heap.IsListIter
  is := Heap.IsList
  ob := fun a => { cls := .type "list_iterator", data := .fields #[.ref a, .int 0 0] }
  get := fun I h => let ⟨its, r, p, _⟩ := I.list h; ⟨its, r, p.isList, p.lt⟩
  inj := fun I h h' => I.list_inj h h'
  dr := fun items hh hne => Draws.list hh _ _ hne items
  nocell := fun ⟨o, e, _, d⟩ => ⟨o, e, fun v q => by rw [d] at q; cases q⟩
  stay := fun h k => h.at k
  beg := begins_list
  at0 := fun h => ⟨_, h, rfl, rfl⟩
  same := fun s h => s.seq h
def skT : SeqK where
  sq := SqT
  it := Heap.IsTupleIter
  is := Heap.IsTuple
  ob := fun a => { cls := .type "tuple_iterator", data := .fields #[.ref a, .int 0 0] }
  get := fun I h => let ⟨its, r, p, _⟩ := I.tuple h; ⟨its, r, p, p.lt⟩
  inj := fun I h h' => I.tuple_inj h h'
  dr := fun items hh hne => Draws.tuple hh _ _ hne items
  nocell := fun ⟨o, e, _, d⟩ => ⟨o, e, fun v q => by rw [d] at q; cases q⟩
  stay := fun h k => h.at k
  beg := begins_tuple
  at0 := fun h => ⟨_, h, rfl, rfl⟩
  same := fun s h => same_sqT s h
/-- pairs of items, new ones, of what stands at a and at b -/
def Itm (k1 k2 : SeqK) (K : PySem.W.Frag) (a b : Addr) : L2.It :=
  ⟨fun i H => ∃ (xs ys : List V), k1.sq K H a xs ∧ k2.sq K H b ys ∧ i < xs.length ∧ i < ys.length,
    fun i H v H' => ∃ T x y, v = .ref T ∧ H T = none ∧ H' = upd H T (.tup [x, y]) ∧ (∀ xs, k1.sq K H a xs → xs[i]? = some x) ∧ ∀ ys, k2.sq K H b ys → ys[i]? = some y,
    fun i H => ∃ xs ys : List V, k1.sq K H a xs ∧ k2.sq K H b ys ∧ i ≤ xs.length ∧ i ≤ ys.length ∧ (i = xs.length ∨ i = ys.length)⟩
/-- the cells of such a zip as it goes -/
def zst (k1 k2 : SeqK) (z TI TO i1 i2 a b : Addr) (n : Nat) (h : Heap) : Prop :=
  (IsZip h z TI TO .none ∧ IsTupOf2 h TI (.ref i1) (.ref i2)) ∧ (∃ u v, IsTupOf2 h TO u v) ∧ k1.it h i1 a n ∧ k2.it h i2 b n
section
variable {k1 k2 : SeqK} {P : Program} {w : World} {K : PySem.W.Frag} {elts : List Expr} {kk : Nat} {tpos : Pos} {a b z TI TO i1 i2 : Addr}
theorem five {z TI TO i1 i2 c : Addr} (h : c ∈ [z, TI, TO, i1, i2]) {Q : Prop} (q1 : c = z → Q) (q2 : c = TI → Q) (q3 : c = TO → Q) (q4 : c = i1 → Q) (q5 : c = i2 → Q) : Q := by
  rcases List.mem_cons.mp h with e | h; · exact q1 e
  rcases List.mem_cons.mp h with e | h; · exact q2 e
  rcases List.mem_cons.mp h with e | h; · exact q3 e
  rcases List.mem_cons.mp h with e | h; · exact q4 e
  exact q5 (List.mem_singleton.mp h)
theorem turn_zipM (S : ZipSep2 z TI TO i1 i2 [i1, a] [i2, b]) (na : a ≠ i1) (nb : b ≠ i2) : Turn P w K (.Tuple elts kk tpos) (Itm k1 k2 K a b) [z, TI, TO, i1, i2] z (zst k1 k2 z TI TO i1 i2 a b) := by
  refine ⟨List.mem_cons_self .., ?_, ?_, ?_, ?_, ?_⟩
  · intro i h ⟨⟨c1, c2⟩, ⟨u, v, c3⟩, c4, c5⟩ c hc
    exact five hc (fun e => e ▸ ⟨_, c1, fun _ q => nomatch q⟩) (fun e => e ▸ ⟨_, c2, fun _ q => nomatch q⟩) (fun e => e ▸ ⟨_, c3, fun _ q => nomatch q⟩) (fun e => e ▸ k1.nocell c4) fun e => e ▸ k2.nocell c5
  · intro i h h' ⟨⟨c1, c2⟩, ⟨u, v, c3⟩, c4, c5⟩ kp
    have m := fun (c : Addr) (hc : c ∈ [z, TI, TO, i1, i2]) => kp c hc
    exact ⟨⟨m z (by simp) _ c1, m TI (by simp) _ c2⟩, ⟨u, v, m TO (by simp) _ c3⟩, k1.stay c4 (m i1 (by simp)), k2.stay c5 (m i2 (by simp))⟩
  · intro X hP hw hK hc i pins s σ H E I hf ⟨⟨c1, c2⟩, ⟨u, v, c3⟩, c4, c5⟩ ⟨xs, ys, hx, hy, lx, ly⟩
    subst hP hw hK
    obtain ⟨us, rx, px, _⟩ := k1.get I hx
    obtain ⟨vs, ry, py, _⟩ := k2.get I hy
    have mx := rx.length
    have my := ry.length
    have hh : X.A.in1.handled = none := I.ok.hd hc
    refine wpAny_pyNext_zipD2_item S (k1.dr us.toArray hh na) (k2.dr vs.toArray hh nb) c1 c2 c3 ⟨c4, px⟩ ⟨c5, py⟩ (show i < us.toArray.size by rw [List.size_toArray]; omega) (show i < vs.toArray.size by rw [List.size_toArray]; omega) fun x y h1 tk e1 e2 d1 d2 d3 d4 d5 d6 d7 => ?_
    have q1 : us[i]? = some x := by simpa using e1
    have q2 : vs[i]? = some y := by simpa using e2
    obtain ⟨X1, g1, r1⟩ : ∃ X1, xs[i]? = some X1 ∧ L2.RelV X1 x := by
      have gx : xs[i]? = some xs[i] := List.getElem?_eq_getElem lx
      obtain ⟨x', hx', r'⟩ := rx.get gx
      rw [q1] at hx'
      cases hx'
      exact ⟨_, gx, r'⟩
    obtain ⟨Y1, g2, r2⟩ : ∃ Y1, ys[i]? = some Y1 ∧ L2.RelV Y1 y := by
      have gy : ys[i]? = some ys[i] := List.getElem?_eq_getElem ly
      obtain ⟨y', hy', r'⟩ := ry.get gy
      rw [q2] at hy'
      cases hy'
      exact ⟨_, gy, r'⟩
    refine ⟨_, rfl, wpAny_letOwnedTupleGo_zip (s := ⟨h1, s.gens, s.drawn, tk, s.os⟩) d1 fun h2 z2 sb => ?_⟩
    have zl : s.heap.objs.size ≠ z := Nat.ne_of_gt (Heap.lt_size c1)
    have keep2 : ∀ {c o}, c ≠ z → h1.get? c = some o → h2.get? c = some o := fun n e => (sb.2 _ n).trans e
    have nT : ObjOk X.prog X.w (upd H s.heap.objs.size (.tup [X1, Y1])) h2 s.heap.objs.size (.tup [X1, Y1]) :=
      ⟨Nat.le_of_lt (small1000 (Nat.le_of_ble_eq_true rfl)), [x, y], .cons r1 (.cons r2 .nil), _, keep2 zl d5, rfl, _, rfl⟩
    have I2 := I.turnedNew (t' := tk) (ch := [z, TI, TO, i1, i2]) (h' := h2) (fun c o hb q => keep2 (fun e => hb (by simp [e])) (d7 c o (fun e => hb (by simp [e])) (fun e => hb (by simp [e])) (fun e => hb (by simp [e])) (fun e => hb (by simp [e])) q)) hf (Nat.le_refl _) nT
    refine ⟨.ref s.heap.objs.size, _, I2, rfl, ⟨_, X1, Y1, rfl, I.hok.fresh (Nat.le_refl _), rfl, fun l hl => k1.inj I hl hx ▸ g1, fun l hl => k2.inj I hl hy ▸ g2⟩, ⟨⟨z2, keep2 S.TIz (d7 _ _ S.TIz S.TITO S.TIi1 S.TIi2 c2)⟩, ⟨x, y, keep2 S.TOz d2⟩, k1.stay d3.1 fun o e => keep2 S.zi1.symm e, k2.stay d4.1 fun o e => keep2 S.zi2.symm e⟩, fun c hcm => ?_⟩
    rw [upd_ne ?_]
    · exact (hf c hcm).1
    · obtain ⟨o4, f4, _⟩ := k1.nocell c4
      obtain ⟨o5, f5, _⟩ := k2.nocell c5
      exact Nat.ne_of_lt (five hcm (fun e => e ▸ Heap.lt_size c1) (fun e => e ▸ Heap.lt_size c2) (fun e => e ▸ Heap.lt_size c3) (fun e => e ▸ Heap.lt_size f4) fun e => e ▸ Heap.lt_size f5)
  · intro X hP hw hK hc i pins s σ H E I hf ⟨⟨c1, c2⟩, ⟨u, v, c3⟩, c4, c5⟩ ⟨xs, ys, hx, hy, lx, ly, le⟩
    subst hP hw hK
    obtain ⟨us, rx, px, _⟩ := k1.get I hx
    obtain ⟨vs, ry, py, _⟩ := k2.get I hy
    have mx := rx.length
    have my := ry.length
    have hh : X.A.in1.handled = none := I.ok.hd hc
    refine wpAny_pyNext_zipD2_end S (k1.dr us.toArray hh na) (k2.dr vs.toArray hh nb) c1 c2 c3 ⟨c4, px⟩ ⟨c5, py⟩ (show i ≤ us.toArray.size by rw [List.size_toArray]; omega) (show i ≤ vs.toArray.size by rw [List.size_toArray]; omega) (by rw [List.size_toArray, List.size_toArray]; omega) fun h1 tk d7 => ⟨rfl, ?_⟩
    exact I.turnedL (t' := tk) (ch := [z, TI, TO, i1, i2]) (fun c o hb q => d7 c o (fun e => hb (by simp [e])) (fun e => hb (by simp [e])) (fun e => hb (by simp [e])) (fun e => hb (by simp [e])) q) hf
  · exact fun A i s Q E ⟨⟨c1, _⟩, _⟩ h => wpAny_pyIter_zip c1 h
end
def iZipM (k1 k2 : SeqK) (K : PySem.W.Frag) (ta : TA) : TI := fun σ H R => ta σ H fun vs H1 => ∃ a b xs ys, vs = [.ref a, .ref b] ∧ k1.sq K H1 a xs ∧ k2.sq K H1 b ys ∧ R (Itm k1 k2 K a b) H1
section
variable {k1 k2 : SeqK} {elts : List Expr} {kk : Nat} {tpos : Pos}
theorem pi_zipM {X : Cx} {e e2 : Expr} {ta : TA} {p pos : Pos} (hg : Gl X "zip") (hm : X.mg "zip" = none) (ha : PA X [e, e2] ta)
    (hs : starEach [e, e2] X.env = (false, eval e X.env) :: starEach [e2] X.env := by rfl) (hpl : (backTo pos (starEach [e2] X.env)).any (·.1) = false := by rfl) :
    PI X (.Tuple elts kk tpos) (.Call (.Name "zip" p) [e, e2] [] pos) (iZipM k1 k2 X.K ta) := by
  constructor
  intro pins s σ H R I h
  refine Call_ (ld_blt I hg hm PyProof.Rows.boot_zip (PyProof.Rows.callWith_type1 (thn (ha.run pos pins s σ H _ I h) fun us s1 ⟨vs, H1, I1, r1, a, b, xs, ys, ex, hx, hy, q⟩ => ?_) hs hpl))
  subst ex
  obtain ⟨u1, us', rfl, r, rr⟩ : ∃ u1 us', us = u1 :: us' ∧ L2.RelV (.ref a) u1 ∧ Vals [V.ref b] us' := by
    cases r1 with
    | cons x y => exact ⟨_, _, rfl, x, y⟩
  obtain ⟨u2, rfl, r2⟩ := vals1 rr
  obtain rfl : u1 = Value.ref a := r
  obtain rfl : u2 = Value.ref b := r2
  obtain ⟨its, _, px, la⟩ := k1.get I1 hx
  obtain ⟨its2, _, py, lb⟩ := k2.get I1 hy
  refine zip_begins2 (k1.beg a its.toArray) (k2.beg b its2.toArray) px py fun h' hz hTI hTO h1 h2 hsz hk => wpAny_pyIter_zip hz ?_
  have I2 : L2.Inv X pins σ H1 { s1 with heap := h' } := I1.kept (t' := s1.toks) hk
  have nn : ∀ {c : Nat} (k : Nat), c < s1.heap.objs.size → c ≠ s1.heap.objs.size + k := fun k h => Nat.ne_of_lt (Nat.lt_of_lt_of_le h (Nat.le_add_right _ _))
  have n0 : a ≠ s1.heap.objs.size := Nat.ne_of_lt la
  have dd : ∀ i j : Nat, i ≠ j → s1.heap.objs.size + i ≠ s1.heap.objs.size + j := fun i j h e => h (Nat.add_left_cancel e)
  have d0 : ∀ j : Nat, 0 ≠ j → s1.heap.objs.size ≠ s1.heap.objs.size + j := fun j h e => h (Nat.add_left_cancel (n := s1.heap.objs.size) (m := 0) e)
  refine ⟨s1.heap.objs.size + 4, [s1.heap.objs.size + 4, s1.heap.objs.size + 2, s1.heap.objs.size + 3, s1.heap.objs.size, s1.heap.objs.size + 1], _, _, H1, rfl, I2, turn_zipM (k1 := k1) (k2 := k2) ⟨dd 2 4 (by decide), dd 3 4 (by decide), dd 2 3 (by decide), (d0 2 (by decide)).symm, List.mem_cons_self .., ?_, ?_, dd 2 1 (by decide), List.mem_cons_self .., ?_, ?_, ?_, ?_⟩ n0 (nn 1 lb), ⟨⟨hz, hTI⟩, ⟨_, _, hTO⟩, k1.at0 h1, k2.at0 h2⟩, fun c hcm => ?_, q⟩
  · intro hm; rcases List.mem_cons.mp hm with e | hm; · exact d0 4 (by decide) e.symm
    exact nn 4 la (List.mem_singleton.mp hm).symm
  · intro hm; rcases List.mem_cons.mp hm with e | hm; · exact d0 3 (by decide) e.symm
    exact nn 3 la (List.mem_singleton.mp hm).symm
  · intro hm; rcases List.mem_cons.mp hm with e | hm; · exact dd 4 1 (by decide) e
    exact nn 4 lb (List.mem_singleton.mp hm).symm
  · intro hm; rcases List.mem_cons.mp hm with e | hm; · exact dd 3 1 (by decide) e
    exact nn 3 lb (List.mem_singleton.mp hm).symm
  · intro hm; rcases List.mem_cons.mp hm with e | hm; · exact d0 1 (by decide) e
    exact Nat.ne_of_lt lb (List.mem_singleton.mp hm).symm
  · intro hm; rcases List.mem_cons.mp hm with e | hm; · exact (d0 1 (by decide)).symm e
    exact nn 1 la (List.mem_singleton.mp hm).symm
  · have hle : s1.heap.objs.size ≤ c := five hcm (fun e => e ▸ Nat.le_add_right _ _) (fun e => e ▸ Nat.le_add_right _ _) (fun e => e ▸ Nat.le_add_right _ _) (fun e => e ▸ Nat.le_refl _) fun e => e ▸ Nat.le_add_right _ _
    exact I1.fpOk hle (I1.hok.fresh hle)
end
section
variable {K : PySem.W.Frag} {k1 k2 : SeqK} {a b : Addr} {xs ys : List V} {H : Hp} {σ : L2.St}
theorem walk_zipM (hl : xs.length = ys.length) : Walk (Itm k1 k2 K a b) xs.length (fun H => k1.sq K H a xs ∧ k2.sq K H b ys) (YPair (fun i => xs[i]?) (fun i => ys[i]?)) :=
  ⟨fun i _ hi q => ⟨xs, ys, q.1, q.2, hi, by omega⟩, fun _ q => ⟨xs, ys, q.1, q.2, Nat.le_refl _, by omega, .inl rfl⟩, fun i H v H' _ q ⟨T, x, y, h1, h2, h3, h4, h5⟩ => ⟨T, x, y, h1, h2, h3, h4 xs q.1, h5 ys q.2⟩⟩
/-- [e for x, y in zip(t, u)], numbers alone -/
theorem tlc_zipMi {fs gs : List Int} {f : Int → Int → Int} {p q : Nat} {te : TE} {vs : List Nat} {Qd : Hp → Prop} {D : Addr} (ha : k1.sq K H a (fs.map V.int)) (hb : k2.sq K H b (gs.map V.int)) (hl : fs.length = gs.length) (h3 : fs.length ≤ 1000) (hD : H D = none)
    (hw : ∀ x y, wipe (((wipe σ vs).set p (some x)).set q (some y)) vs = wipe σ vs)
    (he : ∀ (x y : Int) (H' : Hp) (R : VK), x ∈ fs → y ∈ gs → R (.int (f x y)) H' → te (((wipe σ vs).set p (some (.int x))).set q (some (.int y))) H' R)
    (k : ∀ H', Same H H' → H' D = some (.lst ((List.zipWith f fs gs).map V.int)) → Qd H') : LcG (Itm k1 k2 K a b) (gTup K 2 (gCons (gName p) (gCons (gName q) gNil))) tYes te vs σ H D Qd := by
  refine lc_it (walk_zipM (K := K) (a := a) (b := b) (xs := fs.map V.int) (ys := gs.map V.int) (by rw [List.length_map, List.length_map]; exact hl)) (fun n H' => Same H H' ∧ H' D = some (.lst (((List.zipWith f fs gs).take n).map V.int))) ⟨same_new hD, upd_same⟩ (fun n H' _ h => ⟨k1.same h.1 ha, k2.same h.1 hb⟩) (fun n v H1 H' hn h hy => ?_) (fun H' h => ?_)
  · obtain ⟨T, x, y, rfl, hT, rfl, e1, e2⟩ := hy
    rw [List.length_map] at hn
    have hn2 : n < gs.length := by omega
    obtain rfl : x = .int fs[n] := by
      have e1' : (fs.map V.int)[n]? = some x := e1
      rw [List.getElem?_map, List.getElem?_eq_getElem hn] at e1'
      exact (Option.some.inj e1').symm
    obtain rfl : y = .int gs[n] := by
      have e2' : (gs.map V.int)[n]? = some y := e2
      rw [List.getElem?_map, List.getElem?_eq_getElem hn2] at e2'
      exact (Option.some.inj e2').symm
    obtain ⟨s1, hl1⟩ := h
    have s2 : Same H1 (upd H1 T (.tup [.int fs[n], .int gs[n]])) := same_new hT
    refine g_pair (SqT.of upd_same) ⟨hw _ _, ?_⟩
    have l2 := s2 _ _ hl1
    generalize upd H1 T (.tup [.int fs[n], .int gs[n]]) = H2 at s2 l2 ⊢
    unfold tYes
    simp only [if_true]
    refine he _ _ _ _ (List.getElem_mem hn) (List.getElem_mem hn2) ⟨_, l2, ?_, fun c o e => ?_, ?_⟩
    · rw [List.length_map, List.length_take, List.length_zipWith]
      exact small1000 (by omega)
    · rw [upd_ne (ne_of_none e hD)]
      exact s2 _ _ (s1 _ _ e)
    · rw [upd_same, List.take_succ, List.getElem?_eq_getElem (by rw [List.length_zipWith]; omega), List.getElem_zipWith, List.map_append]
      rfl
  · rw [List.length_map] at h
    have e : (List.zipWith f fs gs).take fs.length = List.zipWith f fs gs := List.take_of_length_le (by rw [List.length_zipWith]; omega)
    rw [e] at h
    exact k H' h.1 h.2
end
end Lk

/-! a dict with tuples of ints as keys, as the list of its keys -/
namespace Lk
open PySem PySem.Spec PyProof.Rows L2
abbrev keyI (l : List Int) : List Key := l.map Sum.inl
theorem map_inj {α β : Type} {f : α → β} (hf : ∀ a b, f a = f b → a = b) : ∀ {l l' : List α}, l.map f = l'.map f → l = l'
  | [], [], _ => rfl
  | [], _ :: _, h => by cases h
  | _ :: _, [], h => by cases h
  | a :: l, b :: l', h => by rw [hf _ _ (List.cons.inj h).1, map_inj hf (List.cons.inj h).2]
theorem keyI_inj {l l' : List Int} (h : keyI l = keyI l') : l = l' := map_inj (fun _ _ e => Sum.inl.inj e) h
def TupH (H : Hp) (v : V) (l : List Int) : Prop := ∃ b, v = .ref b ∧ H b = some (.tup (l.map V.int))
theorem TupH.ts {H H' : Hp} {v : V} {l : List Int} (t : Ts H H') (h : TupH H v l) : TupH H' v l := let ⟨b, e, h⟩ := h; ⟨b, e, t _ _ h⟩
def DSet (H : Hp) (d : Addr) (L : List (List Int)) : Prop := ∃ kvs : List (List Key × V), H d = some (.dT kvs) ∧ kvs.map (·.1) = L.map keyI
section
variable {K : PySem.W.Frag} {H H' : Hp} {d b : Addr} {L : List (List Int)} {l : List Int} {v : V}
theorem pk_in {kvs : List (List Key × V)} {k : List Key} (h : k ∈ kvs.map (·.1)) : (putK kvs k v).map (·.1) = kvs.map (·.1) := by
  obtain ⟨z, hz, hk⟩ := List.mem_map.mp h
  rw [putK, if_pos (List.any_eq_true.mpr ⟨z, hz, decide_eq_true hk⟩), List.map_map]
  refine List.map_congr_left fun a _ => ?_
  show (if a.1 = k then (a.1, v) else a).1 = a.1
  split <;> rfl
theorem pk_out {kvs : List (List Key × V)} {k : List Key} (h : k ∉ kvs.map (·.1)) : (putK kvs k v).map (·.1) = kvs.map (·.1) ++ [k] := by
  rw [putK, if_neg, List.map_append]
  · rfl
  · intro z
    obtain ⟨y, hy, hk⟩ := List.any_eq_true.mp z
    exact h (List.mem_map.mpr ⟨y, hy, of_decide_eq_true hk⟩)
theorem key_mem {kvs : List (List Key × V)} (e : kvs.map (·.1) = L.map keyI) : keyI l ∈ kvs.map (·.1) ↔ l ∈ L := by
  rw [e, List.mem_map]
  exact ⟨fun ⟨l', h, e⟩ => keyI_inj e ▸ h, fun h => ⟨l, h, rfl⟩⟩
/-- the keys behind a store -/
def insL (L : List (List Int)) (l : List Int) : List (List Int) := if l ∈ L then L else L ++ [l]
theorem insL_mem {l' : List Int} : l' ∈ insL L l ↔ l' ∈ L ∨ l' = l := by
  unfold insL
  split
  · next h => exact ⟨.inl, fun q => q.elim id fun e => e ▸ h⟩
  · rw [List.mem_append, List.mem_singleton]
theorem insL_nodup (h : L.Nodup) : (insL L l).Nodup := by
  unfold insL
  split
  · exact h
  · next hn => exact List.nodup_append.mpr ⟨h, List.pairwise_singleton _ _, fun a ha c hc e => hn (by rw [List.mem_singleton.mp hc] at e; exact e ▸ ha)⟩
theorem DSet.put (h : DSet H d L) (hb : H b = some (.tup (l.map V.int))) (hl : L.length ≤ 1000) : ∃ H', DPut H d (.ref b) v H' ∧ DSet H' d (insL L l) ∧ Bar d H H' := by
  obtain ⟨kvs, e1, e2⟩ := h
  have hlen : kvs.length = L.length := by
    have := congrArg List.length e2
    simpa using this
  refine ⟨_, DPut.t (k := keyI l) e1 (by rw [kV_ints]; exact hb) (by rw [hlen]; exact small1000 hl), ⟨_, upd_same, ?_⟩, Bar.upd⟩
  unfold insL
  split
  · next hm => rw [pk_in ((key_mem e2).mpr hm), e2]
  · next hm =>
    rw [pk_out (fun q => hm ((key_mem e2).mp q)), e2, List.map_append]
    rfl
theorem DSet.get (h : DSet H d L) (hb : H b = some (.tup (l.map V.int))) : ∃ o, DGet H d (.ref b) o ∧ o.isSome = decide (l ∈ L) := by
  obtain ⟨kvs, e1, e2⟩ := h
  refine ⟨_, DGet.t (k := keyI l) e1 (by rw [kV_ints]; exact hb), ?_⟩
  rw [valV, Option.isSome_map, Bool.eq_iff_iff, List.find?_isSome, decide_eq_true_iff, ← key_mem (l := l) e2, List.mem_map]
  exact ⟨fun ⟨z, hz, hk⟩ => ⟨z, hz, of_decide_eq_true hk⟩, fun ⟨z, hz, hk⟩ => ⟨z, hz, decide_eq_true hk⟩⟩
theorem DSet.bar {x : Addr} (n : d ≠ x) (s : Bar x H H') (h : DSet H d L) : DSet H' d L := let ⟨kvs, e1, e2⟩ := h; ⟨kvs, s _ _ n e1, e2⟩
theorem DSet.same (s : Same H H') (h : DSet H d L) : DSet H' d L := let ⟨kvs, e1, e2⟩ := h; ⟨kvs, s _ _ e1, e2⟩
theorem isKeys_f2 : ∀ {kvs : List (List Key × V)} {bs : List Addr} {L : List (List Int)}, IsKeys H kvs bs → kvs.map (·.1) = L.map keyI → F2 (TupH H) (bs.map V.ref) L
  | _, _, [], h, e => by
    cases h with
    | nil => exact .nil
    | cons _ _ => cases e
  | _, _, l :: L, h, e => by
    cases h with
    | nil => cases e
    | @cons p b ps bs hp t =>
      have e1 : p.1 = keyI l := (List.cons.inj e).1
      exact .cons ⟨b, rfl, by rw [hp, e1, kV_ints]⟩ (isKeys_f2 t (List.cons.inj e).2)
/-- list(d) -/
def rListD : List V → Hp → VK → Prop := fun xs H Q => ∃ d kvs, xs = [V.ref d] ∧ Rd H d (.dT kvs) ∧ ∀ p bs, H p = none → IsKeys H kvs bs → Q (.ref p) (upd H p (.lst (bs.map V.ref)))
theorem cr_listD {X : Cx} (hc : X.calm = true) : CallR X (.type "list") rListD := call_list_dT hc
theorem s_listD {R : VK} (h : DSet H d L) (q : ∀ p us H', Same H H' → H p = none → H' p = some (.lst us) → F2 (TupH H') us L → R (.ref p) H') : rListD [V.ref d] H R := by
  obtain ⟨kvs, e1, e2⟩ := h
  exact ⟨d, kvs, rfl, .inl e1, fun p bs hp hk => q p _ _ (same_new hp) hp upd_same ((isKeys_f2 hk e2).mono fun _ _ z => z.ts (Ts.new hp))⟩
/-! ### sorted lists of such -/
def Dim (n : Nat) (B : Int) (L : List (List Int)) : Prop := ∀ l ∈ L, l.length = n ∧ TS.Bd B l
theorem tups_v {us : List V} {n : Nat} {B : Int} : ∀ {us : List V} {L : List (List Int)}, F2 (TupH H) us L → Dim n B L → TupsV K H n B us
  | _, _, .nil, _ => fun x hx => by cases hx
  | _, _, .cons h t, hd => fun x hx => by
    rcases List.mem_cons.mp hx with rfl | hx
    · obtain ⟨b, e, hb⟩ := h
      obtain ⟨h1, h2⟩ := hd _ (List.mem_cons_self ..)
      exact ⟨_, ⟨b, e, SqT.of hb⟩, h1, h2⟩
    · exact tups_v (us := us) t (fun l hl => hd l (List.mem_cons_of_mem _ hl)) x hx
theorem tupH_uniq {l' : List Int} (h : TupH H v l) (h' : TupH H v l') : l = l' := by
  obtain ⟨b, rfl, hb⟩ := h
  obtain ⟨b', e, hb'⟩ := h'
  cases e
  rw [hb] at hb'
  have := HO.tup.inj (Option.some.inj hb')
  exact map_inj (fun _ _ e => V.int.inj e) this
/-- a rearranged list holds the rearranged tuples -/
theorem f2_perm {us ys : List V} : ys.Perm us → ∀ {L : List (List Int)}, F2 (TupH H) us L → ∃ L', L'.Perm L ∧ F2 (TupH H) ys L' := by
  intro p
  induction p with
  | nil => exact fun {L} h => by cases h; exact ⟨[], .refl _, .nil⟩
  | cons x p ih =>
    intro L h
    cases h with
    | cons a t =>
      obtain ⟨L', p', t'⟩ := ih t
      exact ⟨_, .cons _ p', .cons a t'⟩
  | swap x y l =>
    intro L h
    cases h with
    | cons a t => cases t with
      | cons c t => exact ⟨_, .swap _ _ _, .cons c (.cons a t)⟩
  | trans p1 p2 ih1 ih2 =>
    intro L h
    obtain ⟨L1, q1, t1⟩ := ih2 h
    obtain ⟨L2, q2, t2⟩ := ih1 t1
    exact ⟨L2, q2.trans q1, t2⟩
theorem asc_of {B : Int} : ∀ {ys : List V} {L : List (List Int)}, F2 (TupH H) ys L → AscV K H B ys → Asc B L
  | _, _, .nil, _ => .nil
  | _, _, .cons h t, ha => by
    have ha' := List.pairwise_cons.mp ha
    refine List.pairwise_cons.mpr ⟨fun m hm => ?_, asc_of t ha'.2⟩
    obtain ⟨j, hj⟩ := List.getElem?_of_mem hm
    obtain ⟨y, hy, b, e, hb⟩ := t.get hj
    obtain ⟨c, e', hc⟩ := h
    exact ha'.1 y (List.mem_of_getElem? hy) _ _ ⟨c, e', SqT.of hc⟩ ⟨b, e, SqT.of hb⟩
theorem code_inj {B : Int} : ∀ {l l' : List Int}, l.length = l'.length → TS.Bd B l → TS.Bd B l' → TS.code B l = TS.code B l' → l = l'
  | [], [], _, _, _, _ => rfl
  | [], _ :: _, h, _, _, _ => by cases h
  | _ :: _, [], h, _, _, _ => by cases h
  | a :: l, b :: l', hl, h, h', e => by
    have hl' : l.length = l'.length := by simpa using hl
    have t1 : TS.Bd B l := fun m hm => h m (List.mem_cons_of_mem _ hm)
    have t2 : TS.Bd B l' := fun m hm => h' m (List.mem_cons_of_mem _ hm)
    have hab : a = b := by
      rcases Int.lt_trichotomy a b with q | q | q
      · have := TS.code_lt hl' t1 t2 q
        omega
      · exact q
      · have := TS.code_lt hl'.symm t2 t1 q
        omega
    subst hab
    have e' : TS.code B l = TS.code B l' := by
      rcases Int.lt_trichotomy (TS.code B l) (TS.code B l') with q | q | q
      · have := (TS.code_same (d := a) hl').mpr q
        omega
      · exact q
      · have := (TS.code_same (d := a) hl'.symm).mpr q
        omega
    rw [code_inj hl' t1 t2 e']
/-- sets have just one ascending list -/
theorem asc_uniq {n : Nat} {B : Int} : ∀ {L L' : List (List Int)}, Asc B L → Asc B L' → L.Nodup → L'.Nodup → Dim n B L → Dim n B L' → (∀ l, l ∈ L ↔ l ∈ L') → L = L'
  | [], [], _, _, _, _, _, _, _ => rfl
  | [], b :: L', _, _, _, _, _, _, k => absurd ((k b).mpr (List.mem_cons_self ..)) (List.not_mem_nil)
  | a :: L, [], _, _, _, _, _, _, k => absurd ((k a).mp (List.mem_cons_self ..)) (List.not_mem_nil)
  | a :: L, b :: L', h, h', n1, n2, d1, d2, k => by
    have p1 := List.pairwise_cons.mp h
    have p2 := List.pairwise_cons.mp h'
    have m1 := List.nodup_cons.mp n1
    have m2 := List.nodup_cons.mp n2
    have e : a = b := by
      rcases List.mem_cons.mp ((k a).mp (List.mem_cons_self ..)) with q | q
      · exact q
      · rcases List.mem_cons.mp ((k b).mpr (List.mem_cons_self ..)) with y | y
        · exact y.symm
        · have l1 := p2.1 a q
          have l2 := p1.1 b y
          obtain ⟨a1, a2⟩ := d1 a (List.mem_cons_self ..)
          obtain ⟨b1, b2⟩ := d2 b (List.mem_cons_self ..)
          exact code_inj (by rw [a1, b1]) a2 b2 (by omega)
    subst e
    rw [asc_uniq p1.2 p2.2 m1.2 m2.2 (fun l hl => d1 l (List.mem_cons_of_mem _ hl)) (fun l hl => d2 l (List.mem_cons_of_mem _ hl)) fun l => ?_]
    constructor
    · intro hl
      rcases List.mem_cons.mp ((k l).mp (List.mem_cons_of_mem _ hl)) with q | q
      · exact absurd (q ▸ hl) m1.1
      · exact q
    · intro hl
      rcases List.mem_cons.mp ((k l).mpr (List.mem_cons_of_mem _ hl)) with q | q
      · exact absurd (q ▸ hl) m2.1
      · exact q
/-- sorted(list) -/
theorem s_sortL {a : Addr} {us : List V} {n : Nat} {B : Int} {Q : VK} (ha : H a = some (.lst us)) (hu : F2 (TupH H) us L) (hn : 1 ≤ n ∨ L.length ≤ 1) (hd : Dim n B L)
    (q : ∀ p ys L' H', Same H H' → H p = none → H' p = some (.lst ys) → F2 (TupH H') ys L' → L'.Perm L → Asc B L' → Q (.ref p) H') : rSortTL K [.ref a] H Q := by
  refine ⟨a, us, n, B, rfl, SqL.of ha, by rw [hu.len]; exact hn, tups_v (us := us) hu hd, fun ys p hp hasc hf => ?_⟩
  obtain ⟨L', pm, t⟩ := f2_perm hp hu
  exact q p ys L' _ (same_new hf) hf upd_same (t.mono fun _ _ z => z.ts (Ts.new hf)) pm (asc_of t hasc)
/-- sorted(dict) -/
theorem s_sortD {n : Nat} {B : Int} {Q : VK} (h : DSet H d L) (hn : 1 ≤ n ∨ L.length ≤ 1) (hd : Dim n B L)
    (q : ∀ p ys L' H', Same H H' → H p = none → H' p = some (.lst ys) → F2 (TupH H') ys L' → L'.Perm L → Asc B L' → Q (.ref p) H') : rSortTD K [.ref d] H Q := by
  obtain ⟨kvs, e1, e2⟩ := h
  have hlen : kvs.length = L.length := by
    have := congrArg List.length e2
    simpa using this
  refine ⟨d, kvs, n, B, rfl, .inl e1, by rw [hlen]; exact hn, fun kv hkv => ?_, fun bs ys p hk hp hasc hf => ?_⟩
  · have : kv.1 ∈ L.map keyI := by
      rw [← e2]
      exact List.mem_map.mpr ⟨kv, hkv, rfl⟩
    obtain ⟨l, hl, e⟩ := List.mem_map.mp this
    exact ⟨l, e.symm, hd l hl⟩
  · obtain ⟨L', pm, t⟩ := f2_perm hp (isKeys_f2 hk e2)
    exact q p ys L' _ (same_new hf) hf upd_same (t.mono fun _ _ z => z.ts (Ts.new hf)) pm (asc_of t hasc)
end
end Lk

/-! any(t), t a tuple of ints; slices of such -/
namespace Lk
open PySem PySem.Spec PyProof.Rows L2
def rAnyTI (K : PySem.W.Frag) : List V → Hp → VK → Prop := fun vs H Q => ∃ (a : Addr) (ns : List Int), vs = [V.ref a] ∧ SqT K H a (ns.map V.int) ∧ Q (.bl (ns.any (· != 0))) H
theorem truth_ints {P : Program} {w : World} {A : Around} {ns : List Int} {its : List Value} (e : IntsAre its ns) : TruthOf P w A (fun i v => its.toArray[i]? = some v) (fun i => ns.getD i 0 != 0) := fun i v s Q E hv hq => by
  have hv' : its[i]? = some v := by simpa using hv
  obtain ⟨z, t, rfl, hz⟩ : ∃ z t, v = .int z t ∧ ns[i]? = some z := by
    clear hq hv
    induction e generalizing i with
    | nil => simp at hv'
    | cons n t r ih =>
      cases i with
      | zero =>
        simp at hv'
        exact ⟨n, t, hv'.symm, rfl⟩
      | succ j =>
        simp at hv'
        obtain ⟨z, t, h1, h2⟩ := ih j hv'
        exact ⟨z, t, h1, by simpa using h2⟩
  have hg : ns.getD i 0 = z := by
    rw [List.getD_eq_getElem?_getD, hz]
    rfl
  have hq' : Q (ns.getD i 0 != 0) s := hq
  rw [hg] at hq'
  exact PySem.P.truthy_int hq'
theorem any_ints : ∀ ns : List Int, (List.range ns.length).any (fun i => ns.getD i 0 != 0) = ns.any (· != 0)
  | [] => rfl
  | b :: bs => by
    rw [List.length_cons, List.range_succ_eq_map, List.any_cons, List.any_map, List.any_cons, ← any_ints bs]
    rfl
theorem cr_anyTI {X : Cx} (hc : X.calm = true) : CallR X (.builtin "any") (rAnyTI X.K) := by
  intro pins s σ H vs us Q I r h
  obtain ⟨a, ns, rfl, hs, q⟩ := h
  obtain ⟨its, rv, hl, _⟩ := I.tuple hs
  rw [Vals.ref1 r]
  have hi := rv.ints
  have hlt : a < s.heap.objs.size := hl.lt
  refine call_any_walk (wpAny_pyIter_tuple hl ?_)
  refine ⟨_, _, _, _, _, _, _, rfl, Walks.tuple (A := X.A.in1) (I.ok.hd hc) _ a (Nat.ne_of_lt hlt) its.toArray, ⟨⟨_, Heap.get?_push_size _ rfl, rfl, rfl⟩, Heap.IsTuple.push hl _⟩, truth_ints hi, fun h' tk hk => ?_⟩
  refine ⟨.bl _, H, I.kept fun b o eo => hk b o (fun hm => ?_) (Heap.get?_push_of_some _ eo), ?_, q⟩
  · rw [List.mem_singleton.mp hm] at eo
    exact absurd (Heap.lt_size eo) (Nat.lt_irrefl _)
  · show Value.bool _ = Value.bool _
    rw [← any_ints, List.size_toArray, hi.length]
/-- any(t[:i]), a tuple of ints -/
theorem s_anyT {K : PySem.W.Frag} {H : Hp} {a : Addr} {ns : List Int} {Q : VK} (h : H a = some (.tup (ns.map V.int))) (q : Q (.bl (ns.any (· != 0))) H) : rAnyTI K [.ref a] H Q := ⟨a, ns, rfl, SqT.of h, q⟩
theorem s_sliceT {K : PySem.W.Frag} {H : Hp} {a : Addr} {ns : List Int} {i : Nat} {R : VK} (h : H a = some (.tup (ns.map V.int))) (hi : i ≤ ns.length) (q : ∀ p H', Same H H' → H' p = some (.tup ((ns.take i).map V.int)) → R (.ref p) H') : rSlA K (.ref a) none (some (i : Int)) H R := by
  have hx : HT.sIx (ns.map V.int).length (ns.map V.int).length (some (i : Int)) = i := by
    rw [List.length_map, HT.sIx_nat]
    omega
  refine ⟨a, _, rfl, SqT.of h, fun e => ?_, fun _ p hp => ?_⟩
  · have hil : i = ns.length := by
      have := e.2
      rw [hx, List.length_map] at this
      exact this
    exact q a H (Same.refl _) (by rw [hil, List.take_length]; exact h)
  · refine q p _ (same_new hp) ?_
    rw [upd_same]
    congr 2
    unfold cutV
    rw [hx]
    have : HT.sIx (ns.map V.int).length 0 none = 0 := rfl
    rw [this, List.drop_zero, Nat.sub_zero, List.map_take]
end Lk

/-! [x for x in .. if ..]: the items that pass -/
namespace Lk
open PySem PySem.Spec PyProof.Rows L2
section
variable {α : Type} {J : L2.It} {n : Nat} {G : Hp → Prop} {Y : Nat → Hp → V → Hp → Prop} {K : PySem.W.Frag} {H : Hp} {σ : L2.St} {D a : Addr} {k : Nat} {tt : TT} {vs : List Nat} {Qd : Hp → Prop}
theorem filt_snoc {pr : α → Bool} {as : List α} {i : Nat} {x : α} (h : as[i]? = some x) : (as.take (i + 1)).filter pr = (as.take i).filter pr ++ if pr x then [x] else [] := by
  rw [List.take_succ, h, List.filter_append]
  congr 1
  show [x].filter pr = _
  cases hp : pr x
  · rw [List.filter_cons_of_neg (by rw [hp]; decide)]
    rfl
  · rw [List.filter_cons_of_pos hp]
    rfl
/-- what is walked has the readings as; R is of tuples alone -/
theorem tlc_filtW (w : Walk J n G Y) (as : List α) (hn : as.length = n) (R : Hp → V → α → Prop) (rS : ∀ {H H' v x}, Ts H H' → R H v x → R H' v x) (pr : α → Bool) (h3 : n ≤ 1000) (hD : H D = none)
    (hG : ∀ H', Same H H' → G H') (hY : ∀ i x H1 H2, i < n → Same H H1 → Y i H1 x H2 → H2 = H1 ∧ ∃ a, as[i]? = some a ∧ R H1 x a)
    (hw : ∀ x, wipe ((wipe σ vs).set k (some x)) vs = wipe σ vs) (hk : ∀ x, ((wipe σ vs).set k (some x))[k]? = some (some x))
    (he : ∀ (i : Nat) (x : V) (a : α) (H' : Hp), as[i]? = some a → R H' x a → Same H H' → ∀ Q : Bool → Hp → Prop, (∀ H'', Same H' H'' → Q (pr a) H'') → tt ((wipe σ vs).set k (some x)) H' Q)
    (q : ∀ ys H', Same H H' → H' D = some (.lst ys) → F2 (R H') ys (as.filter pr) → Qd H') : LcG J (gName k) tt (tVar k) vs σ H D Qd := by
  refine lc_it w (fun i H' => Same H H' ∧ ∃ ys, H' D = some (.lst ys) ∧ F2 (R H') ys ((as.take i).filter pr)) ⟨same_new hD, [], upd_same, .nil⟩ (fun i H' _ h => hG H' h.1) (fun i x H1 H2 hi h hy => ?_) (fun H' h => ?_)
  · obtain ⟨s1, ys, hDl, hf⟩ := h
    obtain ⟨rfl, b, hb, hr⟩ := hY i x H1 H2 hi s1 hy
    refine ⟨hw _, he i x b H2 hb hr s1 _ fun H3 s3 => ?_⟩
    have e3 := s3 _ _ hDl
    have f3 : F2 (R H3) ys ((as.take i).filter pr) := hf.mono fun _ _ z => rS (Ts.of s3) z
    have r3 := rS (Ts.of s3) hr
    have s13 := s1.trans s3
    have hlen : ys.length ≤ 1000 := by
      rw [hf.len]
      refine Nat.le_trans (List.length_filter_le _ _) ?_
      rw [List.length_take]
      omega
    cases hp : pr b
    · rw [if_neg (by decide)]
      refine ⟨s13, ys, e3, ?_⟩
      rw [filt_snoc hb, hp]
      simpa using f3
    · rw [if_pos rfl]
      have t4 : Ts H3 (upd H3 D (.lst (ys ++ [x]))) := Ts.lst e3
      refine ⟨x, hk x, ys, e3, small1000 hlen, fun c o e => ?_, _, upd_same, ?_⟩
      · rw [upd_ne (ne_of_none e hD)]
        exact s13 _ _ e
      · rw [filt_snoc hb, hp]
        exact (f3.mono fun _ _ z => rS t4 z).append (.cons (rS t4 r3) .nil)
  · obtain ⟨s1, ys, hDl, hf⟩ := h
    rw [← hn, List.take_length] at hf
    exact q ys H' s1 hDl hf
/-- over a list -/
theorem tlc_filtL {xs : List V} {as : List α} (R : Hp → V → α → Prop) (rS : ∀ {H H' v x}, Ts H H' → R H v x → R H' v x) (pr : α → Bool) (ha : SqL K H a xs) (hr : F2 (R H) xs as) (h3 : xs.length ≤ 1000) (hD : H D = none)
    (hw : ∀ x, wipe ((wipe σ vs).set k (some x)) vs = wipe σ vs) (hk : ∀ x, ((wipe σ vs).set k (some x))[k]? = some (some x))
    (he : ∀ (i : Nat) (x : V) (a : α) (H' : Hp), as[i]? = some a → R H' x a → Same H H' → ∀ Q : Bool → Hp → Prop, (∀ H'', Same H' H'' → Q (pr a) H'') → tt ((wipe σ vs).set k (some x)) H' Q)
    (q : ∀ ys H', Same H H' → H' D = some (.lst ys) → F2 (R H') ys (as.filter pr) → Qd H') : LcG (Itl K a) (gName k) tt (tVar k) vs σ H D Qd :=
  tlc_filtW (walk_list (K := K) (a := a) (xs := xs)) as hr.len.symm R rS pr h3 hD (fun H' s => s.seq ha) (fun i x H1 H2 hi s hy => by
    obtain ⟨rfl, hx⟩ := hy
    obtain ⟨b, hb, hrb⟩ := hr.at hx
    exact ⟨rfl, b, hb, rS (Ts.of s) hrb⟩) hw hk he q
/-- over a tuple -/
theorem tlc_filtT {xs : List V} {as : List α} (R : Hp → V → α → Prop) (rS : ∀ {H H' v x}, Ts H H' → R H v x → R H' v x) (pr : α → Bool) (ha : SqT K H a xs) (hr : F2 (R H) xs as) (h3 : xs.length ≤ 1000) (hD : H D = none)
    (hw : ∀ x, wipe ((wipe σ vs).set k (some x)) vs = wipe σ vs) (hk : ∀ x, ((wipe σ vs).set k (some x))[k]? = some (some x))
    (he : ∀ (i : Nat) (x : V) (a : α) (H' : Hp), as[i]? = some a → R H' x a → Same H H' → ∀ Q : Bool → Hp → Prop, (∀ H'', Same H' H'' → Q (pr a) H'') → tt ((wipe σ vs).set k (some x)) H' Q)
    (q : ∀ ys H', Same H H' → H' D = some (.lst ys) → F2 (R H') ys (as.filter pr) → Qd H') : LcG (Itt K a) (gName k) tt (tVar k) vs σ H D Qd :=
  tlc_filtW (walk_tup (K := K) (a := a) (xs := xs)) as hr.len.symm R rS pr h3 hD (fun H' s => same_sqT s ha) (fun i x H1 H2 hi s hy => by
    obtain ⟨rfl, hx⟩ := hy
    obtain ⟨b, hb, hrb⟩ := hr.at hx
    exact ⟨rfl, b, hb, rS (Ts.of s) hrb⟩) hw hk he q
/-- over the keys of a locked dict -/
theorem tlc_filtD {d : Addr} {o : Obj} {kvs : List (List Key × V)} {L : List (List Int)} (pr : List Int → Bool) (hd : H d = some (.frz o (.dT kvs))) (he2 : kvs.map (·.1) = L.map keyI) (h3 : L.length ≤ 1000) (hD : H D = none)
    (hw : ∀ x, wipe ((wipe σ vs).set k (some x)) vs = wipe σ vs) (hk : ∀ x, ((wipe σ vs).set k (some x))[k]? = some (some x))
    (he : ∀ (i : Nat) (x : V) (a : List Int) (H' : Hp), L[i]? = some a → TupH H' x a → Same H H' → ∀ Q : Bool → Hp → Prop, (∀ H'', Same H' H'' → Q (pr a) H'') → tt ((wipe σ vs).set k (some x)) H' Q)
    (q : ∀ ys H', Same H H' → H' D = some (.lst ys) → F2 (TupH H') ys (L.filter pr) → Qd H') : LcG (Itkt d o kvs) (gName k) tt (tVar k) vs σ H D Qd := by
  have hlen : L.length = kvs.length := by
    have := congrArg List.length he2
    simpa using this.symm
  refine tlc_filtW (walk_keysT (d := d) (o := o) (kvs := kvs)) L hlen TupH (fun t h => h.ts t) pr (by omega) hD (fun H' s => s _ _ hd) (fun i x H1 H2 hi s hy => ?_) hw hk he q
  obtain ⟨rfl, key, v, b, h1, rfl, h2⟩ := hy
  have h4 : (kvs.map (·.1))[i]? = some key := by rw [List.getElem?_map, h1]; rfl
  rw [he2, List.getElem?_map] at h4
  obtain ⟨l, hl, rfl⟩ := Option.map_eq_some_iff.mp h4
  exact ⟨rfl, l, hl, b, rfl, by rw [h2, kV_ints]⟩
/-- [i for i, x in enumerate(t) if test], t a tuple of numbers -/
theorem tlc_spots {p q : Nat} {ns : List Int} (pr : Int → Bool) (ha : SqT K H a (ns.map V.int)) (h3 : ns.length ≤ 1000) (hD : H D = none)
    (hw : ∀ x y, wipe (((wipe σ vs).set p (some x)).set q (some y)) vs = wipe σ vs) (hk : ∀ x y, (((wipe σ vs).set p (some x)).set q (some y))[p]? = some (some x))
    (he : ∀ (i : Nat) (z : Int) (H' : Hp) (Q : Bool → Hp → Prop), ns[i]? = some z → Q (pr z) H' → tt (((wipe σ vs).set p (some (.int (i : Nat)))).set q (some (.int z))) H' Q)
    (k : ∀ H', Same H H' → H' D = some (.lst (((List.range ns.length).filter fun i => pr (ns.getD i 0)).map fun i : Nat => V.int (i : Int))) → Qd H') : LcG (Itet K a) (gTup K 2 (gCons (gName p) (gCons (gName q) gNil))) tt (tVar p) vs σ H D Qd := by
  refine lc_it (walk_enumT (K := K) (a := a) (xs := ns.map V.int)) (fun n H' => Same H H' ∧ H' D = some (.lst (((List.range n).filter fun i => pr (ns.getD i 0)).map fun i : Nat => V.int (i : Int)))) ⟨same_new hD, upd_same⟩ (fun n H' _ h => same_sqT h.1 ha) (fun n v H1 H' hn h hy => ?_) (fun H' h => ?_)
  · obtain ⟨T, x, y, rfl, hT, rfl, e1, e2⟩ := hy
    rw [List.length_map] at hn
    obtain rfl : x = .int (n : Nat) := (Option.some.inj e1).symm
    obtain rfl : y = .int ns[n] := by
      have e2' : (ns.map V.int)[n]? = some y := e2
      rw [List.getElem?_map, List.getElem?_eq_getElem hn] at e2'
      exact (Option.some.inj e2').symm
    obtain ⟨s1, hl1⟩ := h
    have s2 : Same H1 (upd H1 T (.tup [.int (n : Nat), .int ns[n]])) := same_new hT
    refine g_pair (SqT.of upd_same) ⟨hw _ _, ?_⟩
    have l2 := s2 _ _ hl1
    generalize upd H1 T (.tup [.int (n : Nat), .int ns[n]]) = H2 at s2 l2 ⊢
    have s12 := s1.trans s2
    have hg : ns.getD n 0 = ns[n] := by
      rw [List.getD_eq_getElem?_getD, List.getElem?_eq_getElem hn]
      rfl
    refine he n ns[n] H2 _ (List.getElem?_eq_getElem hn) ?_
    rw [List.range_succ, List.filter_append]
    cases hp : pr ns[n]
    · rw [if_neg (by decide), List.filter_cons_of_neg (by rw [hg, hp]; decide)]
      simpa using ⟨s12, l2⟩
    · rw [if_pos rfl, List.filter_cons_of_pos (by rw [hg, hp])]
      refine ⟨_, hk _ _, _, l2, ?_, fun c o e => ?_, ?_⟩
      · rw [List.length_map]
        refine small1000 (Nat.le_trans (List.length_filter_le _ _) ?_)
        rw [List.length_range]
        omega
      · rw [upd_ne (ne_of_none e hD)]
        exact s12 _ _ e
      · rw [upd_same, List.map_append]
        rfl
  · rw [List.length_map] at h
    exact k H' h.1 h.2
end
end Lk

namespace Lk
open PySem PySem.Spec PyProof.Rows L2
/-! ### rows of codes -/
structure CRow where
  kd : Str
  nx : List Int
  sy : List (List Int)
  ch : List (List (List Int))
def fsD (fs : List (List Int)) : PyData := .tuple (fs.map intsD)
def csD (cs : List (List (List Int))) : PyData := .tuple (cs.map fsD)
def CRow.d (r : CRow) : PyData := .tuple [.str r.kd, intsD r.nx, fsD r.sy, csD r.ch]
def lowF (k : Nat) (f : List Int) : List Int := f.map (· % 2 ^ k)
def CRow.low (k : Nat) (r : CRow) : CRow := ⟨r.kd, r.nx, r.sy.map (lowF k), r.ch.map (·.map (lowF k))⟩
def Kd4 (k : Str) : Prop := k = "go" ∨ k = "ask" ∨ k = "choose" ∨ k = "stop"
/-- the items in the heap -/
def CfH (H : Hp) (v : V) (f : List Int) : Prop := ∃ a, v = .ref a ∧ H a = some (.tup (f.map V.int))
def CfsH (H : Hp) (v : V) (fs : List (List Int)) : Prop := ∃ a us, v = .ref a ∧ H a = some (.tup us) ∧ F2 (CfH H) us fs
def CcsH (H : Hp) (v : V) (cs : List (List (List Int))) : Prop := ∃ a us, v = .ref a ∧ H a = some (.tup us) ∧ F2 (CfsH H) us cs
def CRowH (H : Hp) (v : V) (r : CRow) : Prop := ∃ a b c d, v = .ref a ∧ H a = some (.tup [.str r.kd, b, c, d]) ∧ CfH H b r.nx ∧ CfsH H c r.sy ∧ CcsH H d r.ch
section
variable {K : PySem.W.Frag} {H H' : Hp} {v : V}
theorem CfH.ts (s : Ts H H') {f : List Int} (h : CfH H v f) : CfH H' v f := by
  obtain ⟨a, e, h1⟩ := h
  exact ⟨a, e, s _ _ h1⟩
theorem CfsH.ts (s : Ts H H') {fs : List (List Int)} (h : CfsH H v fs) : CfsH H' v fs := by
  obtain ⟨a, us, e, h1, h2⟩ := h
  exact ⟨a, us, e, s _ _ h1, h2.mono fun _ _ z => z.ts s⟩
theorem CcsH.ts (s : Ts H H') {cs : List (List (List Int))} (h : CcsH H v cs) : CcsH H' v cs := by
  obtain ⟨a, us, e, h1, h2⟩ := h
  exact ⟨a, us, e, s _ _ h1, h2.mono fun _ _ z => z.ts s⟩
theorem CRowH.ts (s : Ts H H') {r : CRow} (h : CRowH H v r) : CRowH H' v r := by
  obtain ⟨a, b, c, d, e, h1, h2, h3, h4⟩ := h
  exact ⟨a, b, c, d, e, s _ _ h1, h2.ts s, h3.ts s, h4.ts s⟩
theorem dta_of {α : Type} {R : V → α → Prop} {g : α → PyData} (h : ∀ v a, R v a → Dt H v (g a)) : ∀ {vs : List V} {as : List α}, F2 R vs as → DtAll H vs (as.map g)
  | _, _, .nil => .nil
  | _, _, .cons x t => .cons (h _ _ x) (dta_of h t)
theorem CfH.dt {f : List Int} (h : CfH H v f) : Dt H v (intsD f) := by
  obtain ⟨a, rfl, h1⟩ := h
  exact .tup h1 (dt_ints f)
theorem CfsH.dt {fs : List (List Int)} (h : CfsH H v fs) : Dt H v (fsD fs) := by
  obtain ⟨a, us, rfl, h1, h2⟩ := h
  exact .tup h1 (dta_of (fun _ _ z => z.dt) h2)
theorem CcsH.dt {cs : List (List (List Int))} (h : CcsH H v cs) : Dt H v (csD cs) := by
  obtain ⟨a, us, rfl, h1, h2⟩ := h
  exact .tup h1 (dta_of (fun _ _ z => z.dt) h2)
theorem CRowH.dt {r : CRow} (h : CRowH H v r) : Dt H v r.d := by
  obtain ⟨a, b, c, d, rfl, h1, h2, h3, h4⟩ := h
  exact .tup h1 (.cons (.str _) (.cons h2.dt (.cons h3.dt (.cons h4.dt .nil))))
theorem crows_dt {us : List V} {rs : List CRow} (h : F2 (CRowH H) us rs) : DtAll H us (rs.map CRow.d) := dta_of (fun _ _ z => z.dt) h
end
/-! ### what may be compared -/
theorem fs_cl (fs : List (List Int)) : (fsD fs).canLay0 = true := by
  unfold fsD
  rw [PyData.canLay0]
  exact cl_map fun f _ => ints_cl f
theorem fs_dep (fs : List (List Int)) : (fsD fs).depth ≤ 2 := by
  unfold fsD
  rw [PyData.depth]
  have := dep_map (f := intsD) (n := 1) (xs := fs) fun f _ => ints_dep f
  omega
theorem cs_cl (cs : List (List (List Int))) : (csD cs).canLay0 = true := by
  unfold csD
  rw [PyData.canLay0]
  exact cl_map fun f _ => fs_cl f
theorem cs_dep (cs : List (List (List Int))) : (csD cs).depth ≤ 3 := by
  unfold csD
  rw [PyData.depth]
  have := dep_map (f := fsD) (n := 2) (xs := cs) fun f _ => fs_dep f
  omega
theorem kd4_cl {k : Str} (h : Kd4 k) : (PyData.str k).canLay0 = true := by
  rcases h with rfl | rfl | rfl | rfl <;> decide +kernel
theorem crow_cl {r : CRow} (h : Kd4 r.kd) : r.d.canLay0 = true := by
  have h1 := kd4_cl h
  have h2 := ints_cl r.nx
  have h3 := fs_cl r.sy
  have h4 := cs_cl r.ch
  unfold CRow.d
  simp only [PyData.canLay0, PyData.canLayAll0] at *
  simp only [h1, h2, h3, h4]
  rfl
theorem crow_dep (r : CRow) : r.d.depth ≤ 4 := by
  have h2 := ints_dep r.nx
  have h3 := fs_dep r.sy
  have h4 := cs_dep r.ch
  unfold CRow.d
  simp only [PyData.depth, PyData.depthAll]
  omega
def crowsD (rs : List CRow) : PyData := .tuple (rs.map CRow.d)
theorem shaped_of {d : PyData} (h1 : d.canLay0 = true) (h2 : d.depth ≤ 40) : SeqAt.shaped d = true := by
  unfold SeqAt.shaped
  rw [h1]
  exact decide_eq_true (by omega)
theorem crows_cl {rs : List CRow} (h : ∀ r ∈ rs, Kd4 r.kd) : (crowsD rs).canLay0 = true := by
  unfold crowsD
  rw [PyData.canLay0]
  exact cl_map fun r hr => crow_cl (h r hr)
theorem crows_dep (rs : List CRow) : (crowsD rs).depth ≤ 5 := by
  unfold crowsD
  rw [PyData.depth]
  have := dep_map (f := CRow.d) (n := 4) (xs := rs) fun r _ => crow_dep r
  omega
theorem shaped_crows {rs : List CRow} (h : ∀ r ∈ rs, Kd4 r.kd) : SeqAt.shaped (crowsD rs) = true := shaped_of (crows_cl h) (by have := crows_dep rs; omega)
theorem shaped_ints (xs : List Int) : SeqAt.shaped (intsD xs) = true := shaped_of (ints_cl xs) (by have := ints_dep xs; omega)
/-! ### rows that are right -/
def nxOk (kd : Str) (n : Nat) : Prop := (kd = "go" ∧ n = 1) ∨ (kd = "ask" ∧ n = 1) ∨ (kd = "choose" ∧ 1 ≤ n ∧ n ≤ 6) ∨ (kd = "stop" ∧ n = 0)
theorem nxOk.kd {kd : Str} {n : Nat} (h : nxOk kd n) : Kd4 kd := by
  rcases h with h | h | h | h
  · exact .inl h.1
  · exact .inr (.inl h.1)
  · exact .inr (.inr (.inl h.1))
  · exact .inr (.inr (.inr h.1))
theorem nxOk.le {kd : Str} {n : Nat} (h : nxOk kd n) : n ≤ 6 := by
  rcases h with h | h | h | h <;> omega
def ndLim (k : Str) : Option (Int × Int) := if k = ("go" : Str) then some (1, 1) else if k = ("ask" : Str) then some (1, 1) else if k = ("choose" : Str) then some (1, 6) else if k = ("stop" : Str) then some (0, 0) else none
theorem nxOk.lim {kd : Str} {n : Nat} (h : nxOk kd n) : ∃ a b : Int, ndLim kd = some (a, b) ∧ a ≤ n ∧ n ≤ b := by
  rcases h with ⟨rfl, rfl⟩ | ⟨rfl, rfl⟩ | ⟨rfl, h1, h2⟩ | ⟨rfl, rfl⟩
  · exact ⟨1, 1, by decide +kernel, by decide, by decide⟩
  · exact ⟨1, 1, by decide +kernel, by decide, by decide⟩
  · exact ⟨1, 6, by decide +kernel, by omega, by omega⟩
  · exact ⟨0, 0, by decide +kernel, by decide, by decide⟩
theorem form_ints {f : List Int} {n : Int} (h : (f.length : Int) = n + 1) : formD (intsD f) n = true := by
  show (decide (((f.map PyData.int).length : Int) = n + 1) && (f.map PyData.int).all isIntD) = true
  rw [List.length_map, decide_eq_true h, Bool.true_and, List.all_eq_true]
  intro d hd
  obtain ⟨x, _, rfl⟩ := List.mem_map.mp hd
  rfl
def askN (kd : Str) : Nat := if kd = ("ask" : Str) then 1 else 0
structure CRowOk (cts : List Int) (i : Nat) (r : CRow) : Prop where
  nxl : nxOk r.kd r.nx.length
  nxi : ∀ j ∈ r.nx, 0 ≤ j ∧ j < cts.length
  syl : r.sy.length ≤ 900
  syf : ∀ f ∈ r.sy, (f.length : Int) = cts.getD i 0 + 1
  chl : r.ch.length = r.nx.length
  chn : ∀ (n : Nat) (j : Int) (c : List (List Int)), r.nx[n]? = some j → r.ch[n]? = some c → (c.length : Int) = cts.getD j.toNat 0
  chf : ∀ c ∈ r.ch, ∀ f ∈ c, (f.length : Int) = cts.getD i 0 + 1 + askN r.kd
/-- counts, rows and the first registers that make a code -/
structure CodeOk (cts : List Int) (rs : List CRow) (st : List Int) : Prop where
  l1 : 1 ≤ rs.length
  l2 : rs.length ≤ 200
  cl : cts.length = rs.length
  c0 : ∀ c ∈ cts, 0 ≤ c ∧ c ≤ 64
  sl : (st.length : Int) = cts.getD 0 0
  ok : ∀ i r, rs[i]? = some r → CRowOk cts i r
theorem CodeOk.cD {cts : List Int} {rs : List CRow} {st : List Int} (h : CodeOk cts rs st) (i : Nat) : 0 ≤ cts.getD i 0 ∧ cts.getD i 0 ≤ 64 := by
  rw [List.getD_eq_getElem?_getD]
  cases e : cts[i]? with
  | none => exact ⟨Int.le_refl 0, by decide⟩
  | some c => exact h.c0 c (List.mem_of_getElem? e)
/-- a code in the heap, its numbers reduced -/
def cdF (w : Int) (tc tr ts : Addr) : List (Str × V) := [("width", .int w), ("counts", .ref tc), ("rows", .ref tr), ("start", .ref ts)]
def CodeO (K : PySem.W.Frag) (C : Addr) (H : Hp) (p : Addr) (w : Nat) (cts : List Int) (rs : List CRow) (st : List Int) : Prop :=
  ∃ dx tc tr ts vs, H p = some (.ins C dx (cdF w tc tr ts)) ∧ SqT K H tc (cts.map V.int) ∧ SqT K H tr vs ∧ F2 (CRowH H) vs rs ∧ SqT K H ts (st.map V.int)
/-- whether two codes are equal -/
def cdEq (k : Nat) (cts : List Int) (rs : List CRow) (st : List Int) (k2 : Nat) (cts2 : List Int) (rs2 : List CRow) (st2 : List Int) : Bool :=
  decide (k = k2) && (PyData.eqv (intsD cts) (intsD cts2) && (PyData.eqv (crowsD rs) (crowsD rs2) && PyData.eqv (intsD st) (intsD st2)))
end Lk

/-! lists of tuples of ints, lists of ints: == and != -/
namespace Lk
open PySem PySem.Spec PyProof.Rows L2
def tupsL (L : List (List Int)) : PyData := .list (L.map intsD)
def intsL (xs : List Int) : PyData := .list (xs.map PyData.int)
theorem tupsL_shaped (L : List (List Int)) : SeqAt.shaped (tupsL L) = true := by
  refine shaped_of ?_ ?_
  · unfold tupsL
    rw [PyData.canLay0]
    exact cl_map fun x _ => ints_cl x
  · unfold tupsL
    rw [PyData.depth]
    have := dep_map (f := intsD) (n := 1) (xs := L) fun x _ => ints_dep x
    omega
theorem intsL_shaped (xs : List Int) : SeqAt.shaped (intsL xs) = true := by
  refine shaped_of ?_ ?_
  · unfold intsL
    rw [PyData.canLay0]
    exact cl_map fun _ _ => by rw [PyData.canLay0]
  · unfold intsL
    rw [PyData.depth]
    have := dep_map (f := PyData.int) (n := 0) (xs := xs) fun _ _ => by simp [PyData.depth]
    omega
theorem eqv_tups (L L' : List (List Int)) : PyData.eqv (tupsL L) (tupsL L') = decide (L = L') := by
  by_cases e : L = L'
  · subst e
    rw [decide_eq_true rfl]
    exact SeqAt.eqv_refl _ (SeqAt.canLay_of_shaped (tupsL_shaped L))
  · rw [decide_eq_false e, Bool.eq_false_iff]
    intro h
    have nb : ∀ L : List (List Int), nbD (tupsL L) = true := fun L => by
      unfold tupsL
      rw [nbD]
      exact nb_map nb_ints L
    have h2 := eqv_eq _ _ (nb L) (nb L') h
    exact e (map_inj (fun _ _ z => intsD_inj z) (PyData.list.inj h2))
theorem eqv_ints (xs ys : List Int) : PyData.eqv (intsL xs) (intsL ys) = decide (xs = ys) := by
  by_cases e : xs = ys
  · subst e
    rw [decide_eq_true rfl]
    exact SeqAt.eqv_refl _ (SeqAt.canLay_of_shaped (intsL_shaped xs))
  · rw [decide_eq_false e, Bool.eq_false_iff]
    intro h
    have nb : ∀ L : List Int, nbD (intsL L) = true := fun L => by
      unfold intsL
      rw [nbD]
      exact nb_map (fun _ => by rw [nbD]) L
    have h2 := eqv_eq _ _ (nb xs) (nb ys) h
    exact e (map_inj (fun _ _ z => PyData.int.inj z) (PyData.list.inj h2))
section
variable {K : PySem.W.Frag} {H : Hp} {a b : Addr} {us vs : List V} {L L' : List (List Int)} {xs ys : List Int} {Q : VK}
theorem dp_i : ∀ xs : List Int, DpAll K H (xs.map V.int) (xs.map PyData.int)
  | [] => .nil
  | n :: ns => .cons (.int n) (dp_i ns)
theorem dp_tups : ∀ {us : List V} {L : List (List Int)}, F2 (TupH H) us L → DpAll K H us (L.map intsD)
  | _, _, .nil => .nil
  | _, _, .cons h t => by
    obtain ⟨c, rfl, hc⟩ := h
    exact .cons (.tup (SqT.of hc) (dp_i _)) (dp_tups t)
theorem dp_tupsL (h : SqL K H a us) (hu : F2 (TupH H) us L) : Dp K H (.ref a) (tupsL L) := .lst h (dp_tups hu)
theorem dp_intsL (h : SqL K H a (xs.map V.int)) : Dp K H (.ref a) (intsL xs) := .lst h (dp_i xs)
theorem s_neTL (h : SqL K H a us) (hu : F2 (TupH H) us L) (h' : SqL K H b vs) (hv : F2 (TupH H) vs L') (q : Q (.bl (!decide (L = L'))) H) : rNeD K (.ref a) (.ref b) H Q :=
  ⟨_, _, dp_tupsL h hu, dp_tupsL h' hv, tupsL_shaped L, tupsL_shaped L', by rw [eqv_tups]; exact q⟩
theorem s_eqTL (h : SqL K H a us) (hu : F2 (TupH H) us L) (h' : SqL K H b vs) (hv : F2 (TupH H) vs L') (q : Q (.bl (decide (L = L'))) H) : rEqD K (.ref a) (.ref b) H Q :=
  ⟨_, _, dp_tupsL h hu, dp_tupsL h' hv, tupsL_shaped L, tupsL_shaped L', by rw [eqv_tups]; exact q⟩
theorem s_neIL (h : SqL K H a (xs.map V.int)) (h' : SqL K H b (ys.map V.int)) (q : Q (.bl (!decide (xs = ys))) H) : rNeD K (.ref a) (.ref b) H Q :=
  ⟨_, _, dp_intsL h, dp_intsL h', intsL_shaped xs, intsL_shaped ys, by rw [eqv_ints]; exact q⟩
theorem s_eqIL (h : SqL K H a (xs.map V.int)) (h' : SqL K H b (ys.map V.int)) (q : Q (.bl (decide (xs = ys))) H) : rEqD K (.ref a) (.ref b) H Q :=
  ⟨_, _, dp_intsL h, dp_intsL h', intsL_shaped xs, intsL_shaped ys, by rw [eqv_ints]; exact q⟩
end
end Lk

/-! len(set(list of tuples of ints)): as many tuples as one likes, few of them different -/
namespace Lk
open PySem PySem.Spec PyProof.Rows L2
section
variable {P : Program} {w : World} {A : Around} {E : Value → Shared → Prop} {s : Shared}
/-- the object of a new set -/
abbrev oSet (w : World) : Obj := { cls := .type "set", dict := none, data := .set #[] 0 (.fresh 0 0 (!w.params.followText "set-order")) }
/-- few of these tuples are different -/
def FewT (ks : List (Addr × List Int)) : Prop := ∀ L : List (Addr × List Int), (L.map (·.2)).Nodup → (∀ p ∈ L, p ∈ ks) → L.length ≤ 62
theorem upd_tups {I : Addr} {fp wr : List Addr} {G : Array GenState → Array GenState → Prop} {n : Nat} {Pv : Nat → Value → Prop} {St : Nat → Shared → Prop} {R : Result → Shared → Prop}
    (walk : WalksS P w A.in1 I fp wr G n Pv St) (S : Addr) (nf : S ∉ fp) (ks : List (Addr × List Int)) (en : n = ks.length) (few : FewT ks) (at_ : ∀ i v, Pv i v → ∃ p, ks[i]? = some p ∧ v = .ref p.1)
    (g0 : Heap) (keys : ∀ p ∈ ks, IsT P w g0 p.2 p.1) (newS : g0.get? S = none) (newW : ∀ b ∈ wr, g0.get? b = none) (un : A.in1.units < cLine) :
    ∀ (d i : Nat) (s : Shared), n = i + d → St i s → (∀ b o, g0.get? b = some o → s.heap.get? b = some o) → (∃ L es ep t, SetTR P w s.heap S L es ep t ∧ Got ks i L) →
      (∀ s' L es ep t, Moved (S :: wr) G s s' → SetTR P w s'.heap S L es ep t → Got ks n L → (∀ b o, g0.get? b = some o → s'.heap.get? b = some o) → R (.ok (.ret .none)) s') →
      codeAny (model P w) A (.builtin "set.update.loop" ⟨[.ref S, .ref I], []⟩) R s := by
  have nw : S ∉ wr := fun z => nf (walk.sub _ z)
  have more : ∀ b ∈ wr, b ∈ S :: wr := fun b z => List.mem_cons_of_mem _ z
  have stay : ∀ {u v : Shared}, Moved wr G u v → (∀ b o, g0.get? b = some o → u.heap.get? b = some o) → ∀ b o, g0.get? b = some o → v.heap.get? b = some o := fun m q b o z =>
    m.heap b o (fun y => by have := newW b y; rw [z] at this; cases this) (q b o z)
  have inks : ∀ {L : List (Addr × List Int)} {i : Nat}, Got ks i L → ∀ p ∈ L, p ∈ ks := fun g p z => List.mem_of_mem_take (g.sub p z)
  intro d
  induction d with
  | zero =>
    intro i s ei st q ⟨L, es, ep, t, hL, g⟩ fin
    obtain rfl : n = i := ei
    refine codeAny_builtin F.entry_set_update_loop ?_
    rw [Around.under_plainId F.plain_set_update_loop _]
    refine wpAny_bind (m := pyNext (.ref I)) (walk.done s _ _ st fun s' m => wpAny_pure ?_)
    exact fin s' L es ep t (m.mono more) (hL.keep (fun o z => m.heap S o nw z) fun p z => isT_keep (keys p (inks g p z)) (stay m q)) g (stay m q)
  | succ d ih =>
    intro i s ei st q ⟨L, es, ep, t, hL, g⟩ fin
    refine codeAny_builtin F.entry_set_update_loop ?_
    rw [Around.under_plainId F.plain_set_update_loop _]
    refine wpAny_bind (m := pyNext (.ref I)) (walk.item i s _ _ (by omega) st fun v s' hP st' m => ?_)
    obtain ⟨p, ep1, rfl⟩ := at_ i v hP
    have q' := stay m q
    have hL' : SetTR P w s'.heap S L es ep t := hL.keep (fun o z => m.heap S o nw z) fun r z => isT_keep (keys r (inks g r z)) q'
    have kx : IsT P w s'.heap p.2 p.1 := isT_keep (keys p (List.mem_of_getElem? ep1)) q'
    refine wpAny_bind (m := holding [Value.ref p.1] (setAdd S (.ref p.1))) (wpAny_holding ?_)
    unfold setAdd
    refine wpAny_holding (wpAny_bind (wpAny_pyHash_tuple un kx ?_))
    have lL : L.length ≤ 62 := few L hL.nd (inks g)
    refine add_at (s := { s' with toks := s'.toks + (p.2.length + 1) }) hL' kx un (by omega) fun b h' L2 es2 ep2 t2 same hL2 c1 c2 => ?_
    have g2 : Got ks (i + 1) L2 := by
      by_cases c : p.2 ∈ L.map (·.2)
      · exact c1 c ▸ g.same ep1 c
      · exact g.more ep1 (c2 c)
    have q2 : ∀ b o, g0.get? b = some o → h'.get? b = some o := fun b o z => (same.2 b (fun y => by rw [y, newS] at z; cases z)).trans (q' b o z)
    refine wpAny_pure ⟨plainId_quiet F.plain_set_update_loop _, ih (i + 1) _ (by omega) (walk.frame _ s' _ _ st' (Nat.le_add_right _ _) fun b z o y => (same.2 b (fun x : b = S => nf (x ▸ z))).trans y) q2 ⟨L2, es2, ep2, t2, hL2, g2⟩ fun u L3 es3 ep3 t3 m3 h3 g3 q3 => ?_⟩
    exact fin u L3 es3 ep3 t3 (Moved.trans walk.gtrans ((m.mono more).then_heap (Nat.le_add_right _ _) fun b o z y => (same.2 b (fun x : b = S => z (by rw [x]; exact List.mem_cons_self))).trans y) m3) h3 g3 q3
theorem set_tups {l : Addr} {items : Array Value} (ks : List (Addr × List Int)) {Q : Value → Shared → Prop} (hh : A.handled = none) (hl : s.heap.IsList l items) (hit : items.toList = ks.map fun p => Value.ref p.1)
    (keys : ∀ p ∈ ks, IsT P w s.heap p.2 p.1) (few : FewT ks) (un : A.units + 3 < cLine)
    (q : ∀ (h' : Heap) (tk : Nat) L es ep t, SetTR P w h' s.heap.objs.size L es ep t → Got ks ks.length L → (∀ b o, s.heap.get? b = some o → h'.get? b = some o) → Q (.ref s.heap.objs.size) { s with heap := h', toks := tk }) :
    wpAny (model P w) A (call (.type "set") [.ref l]) Q E s := by
  have lks : items.size = ks.length := by simpa using congrArg List.length hit
  obtain ⟨c, tl, mro⟩ := F.called_set.mro
  have made := F.called_set.made; have sub := F.called_set.sub
  refine wpAny_call ?_; refine codeAny_of_tree ?_
  show wpAny _ _ (callAny (.type "set") _) _ _ _; refine wpAny_pure ⟨Code.quiet_builtin _ (by decide +kernel), codeAny_builtin F.entry_type_call ?_⟩
  rw [Around.under_plain (weight_type_call_type "set" [.ref l] []) rfl]
  have h1 := F.called_set.notType; have h2 := F.called_set.canCreate; have h3 := F.typeCall_set_1 (.ref l)
  repeat any_goals first | assumption | wp_step
  refine codeAny_mono (code_set_led1 (.ref l) (E := E) (Q₁ := fun obj s₁ => obj = .ref s.heap.objs.size ∧ s₁ = { s with heap := s.heap.push (oSet w) }) ⟨rfl, rfl⟩) fun r s₁ hr => ?_
  match r, hr with
  | .error e, hr => exact hr
  | .ok (.ret obj), hr =>
    obtain ⟨rfl, rfl⟩ := hr
    have atS : (s.heap.push (oSet w)).get? s.heap.objs.size = some (oSet w) := Heap.get?_push_size _ rfl
    have isS : Shared.TypeIs { s with heap := s.heap.push (oSet w) } (.ref s.heap.objs.size) "set" := ⟨_, atS, rfl⟩
    have i1 := F.called_set.init.lookup; have i2 := F.called_set.init.bind (.ref s.heap.objs.size)
    repeat any_goals first | assumption | wp_step
    refine codeAny_mono (codeAny_call_builtin (R := wants (fun r u => r = .none ∧ ∃ h' tk L es ep t, u = { s with heap := h', toks := tk } ∧ SetTR P w h' s.heap.objs.size L es ep t ∧ Got ks ks.length L ∧ (∀ b o, s.heap.get? b = some o → h'.get? b = some o)) E) F.called_set.init.plain F.entry_set_init (check_set_init_1 isS ?_)) fun r u hr => ?_
    · obtain ⟨⟨ocls, odict, odata, oslots⟩, hol, hcl, nl, hdl⟩ := hl
      dsimp only at hcl hdl
      subst hcl hdl
      have hol' := Heap.get?_push_of_some (oSet w) hol
      have s1 := F.sub_list_set; have s2 := F.sub_list_frozenset; have nd : (Value.type "list" == Value.type "dict") = false := by decide
      have hl1 : (s.heap.push (oSet w)).IsList l items := ⟨_, hol', rfl, nl, rfl⟩
      unfold Builtin.«set.__init__» noKeywords Builtin.Frozenset.updateFrom
      generalize hPI : pyIter = PI
      wp_walk
      subst hPI
      refine wpAny_pyIter_list hl1 (wpAny_bind (wpAny_runValue ?_))
      have lS : l < s.heap.objs.size := Heap.lt_size hol
      have hand : A.in1.in1.in1.handled = none := by simp [hh]
      have sz : (s.heap.push (oSet w)).objs.size = s.heap.objs.size + 1 := Heap.size_push ..
      have nI : l ≠ (s.heap.push (oSet w)).objs.size := by rw [sz]; exact Nat.ne_of_lt (Nat.lt_succ_of_lt lS)
      have nf : s.heap.objs.size ∉ [(s.heap.push (oSet w)).objs.size, l] := by
        rw [sz]
        simp only [List.mem_cons, List.not_mem_nil, or_false, not_or]
        exact ⟨Nat.ne_of_lt (Nat.lt_succ_self _), Nat.ne_of_gt lS⟩
      have no : ∀ b, s.heap.objs.size ≤ b → s.heap.get? b = none := fun b hb => Option.eq_none_iff_forall_ne_some.mpr fun o z => absurd (Nat.lt_of_le_of_lt hb (Heap.lt_size z)) (Nat.lt_irrefl _)
      refine upd_tups ((Walks.list hand _ l nI items).toS) s.heap.objs.size nf ks lks few (fun i v hv => ?_) s.heap keys (no _ (Nat.le_refl _)) (fun b hb => no b ?_) un items.size 0 _ (by omega) ⟨⟨_, Heap.get?_push_size _ rfl, rfl, rfl⟩, hl1.push _⟩
        (fun b o z => Heap.get?_push_of_some _ (Heap.get?_push_of_some _ z)) ⟨[], #[], 0, _, setTR_fresh (Heap.get?_push_of_some _ atS), Got.zero ks⟩ fun s' L es ep t m hL g keep => ?_
      · have z : items.toList[i]? = some v := by rw [Array.getElem?_toList]; exact hv
        rw [hit, List.getElem?_map, Option.map_eq_some_iff] at z
        obtain ⟨p, z, rfl⟩ := z
        exact ⟨p, z, rfl⟩
      · rw [List.mem_singleton.mp hb, sz]
        exact Nat.le_succ _
      · obtain ⟨h', g2, d', tk', os'⟩ := s'
        obtain rfl : g2 = s.gens := m.gens
        obtain rfl : d' = s.drawn := m.drawn
        obtain rfl : os' = s.os := m.os
        rw [lks] at g
        exact wpAny_pure (wpAny_pure ⟨rfl, h', tk', L, es, ep, t, rfl, hL, g, keep⟩)
    · match r, hr with
      | .error e, hr => exact hr
      | .ok (.ret v), hr =>
        obtain ⟨rfl, h', tk, L, es, ep, t, rfl, hL, g, keep⟩ := hr
        repeat any_goals first | assumption | wp_step
        exact q _ _ _ _ _ _ hL g keep
end
section
variable {X : Cx}
/-- len(set(xs)), xs a list of tuples of ints -/
def tLenSetT (K : PySem.W.Frag) (ta : TE) : TE := fun σ H Q => ta σ H fun x H1 => ∃ (l : Addr) (ks : List (Addr × List Int)), x = V.ref l ∧ SqL K H1 l (ks.map fun p => V.ref p.1) ∧ (∀ p ∈ ks, SqT K H1 p.1 (p.2.map V.int)) ∧ FewT ks ∧
  ∀ L : List (Addr × List Int), (L.map (·.2)).Nodup → (∀ p ∈ L, p ∈ ks) → (∀ p ∈ ks, p.2 ∈ L.map (·.2)) → Q (.int L.length) H1
theorem pe_lenSetT {a : Expr} {ta : TE} {p p2 q pos : Pos} (hc : X.calm = true) (hu : X.A.units + 3 < cLine) (hg : Gl X "len") (hm : X.mg "len" = none) (hg2 : Gl X "set") (hm2 : X.mg "set" = none) (ha : PE X a ta)
    (na : starEach [a] X.env = (false, eval a X.env) :: starEach [] X.env := by rfl) : PE X (.Call (.Name "len" p) [.Call (.Name "set" p2) [a] [] q] [] pos) (tLenSetT X.K ta) := by
  refine ⟨fun pins s σ H Q I h => Call_ (ld_blt I hg hm PySem.boot_len (PyProof.Rows.callWith_builtin1 (PyProof.Rows.args_cons ?_ rfl) rfl rfl))⟩
  refine Call_ (ld_blt I hg2 hm2 PyProof.Rows.boot_set (PyProof.Rows.callWith_type1 (PyProof.Rows.args_cons (thn (ha.run pins s σ H _ I h) fun v s1 ⟨x, H1, I1, r1, q1⟩ => PyProof.Rows.args_nil ?_) na) na rfl))
  obtain ⟨l, ks, rfl, hl, hk, few, q1⟩ := q1
  cases r1
  obtain ⟨its, rv, pl, hz⟩ := I1.list hl
  refine set_tups (P := X.prog) (w := X.w) ks (I1.ok.hd hc) pl.isList (by simpa using refs_of_vals rv) (fun p hp => I1.isT (hk p hp)) few hu fun h' tk L es ep t R g keep => PyProof.Rows.args_nil ?_
  obtain ⟨o, ho, hex, hd⟩ := R.ob
  have I2 : Inv X pins σ H1 { s1 with heap := h', toks := tk } := I1.kept keep
  have sz := SetTR.size (s := { s1 with heap := h', toks := tk }) R
  have few' := R.few
  refine call_len_set ho hex hd (SetTR.fits (s := { s1 with heap := h', toks := tk }) R) (by rw [sz]; omega) ⟨.int L.length, H1, I2.tok _, ⟨_, by rw [sz]⟩, q1 L R.nd (fun p hp => List.mem_of_mem_take (g.sub p hp)) fun p hp => g.all p (by rw [List.take_length]; exact hp)⟩
theorem refs_f2 {H : Hp} : ∀ {us : List V} {LL : List (List Int)}, F2 (TupH H) us LL → ∃ ks : List (Addr × List Int), us = ks.map (fun p => V.ref p.1) ∧ ks.map (·.2) = LL ∧ ∀ p ∈ ks, H p.1 = some (.tup (p.2.map V.int))
  | _, _, .nil => ⟨[], rfl, rfl, fun p hp => by cases hp⟩
  | _, _, .cons h t => by
    obtain ⟨b, rfl, hb⟩ := h
    obtain ⟨ks, rfl, rfl, hk⟩ := refs_f2 t
    exact ⟨(b, _) :: ks, rfl, rfl, fun p hp => by
      rcases List.mem_cons.mp hp with rfl | hp
      · exact hb
      · exact hk p hp⟩
theorem s_lenSet {K : PySem.W.Frag} {H : Hp} {l : Addr} {us : List V} {LL : List (List Int)} {Q : VK} (hl : H l = some (.lst us)) (hu : F2 (TupH H) us LL) (few : ∀ M : List (List Int), M.Nodup → (∀ x ∈ M, x ∈ LL) → M.length ≤ 62)
    (q : ∀ M : List (List Int), M.Nodup → (∀ x, x ∈ M ↔ x ∈ LL) → Q (.int M.length) H) : ∃ (l' : Addr) (ks : List (Addr × List Int)), V.ref l = V.ref l' ∧ SqL K H l' (ks.map fun p => V.ref p.1) ∧ (∀ p ∈ ks, SqT K H p.1 (p.2.map V.int)) ∧ FewT ks ∧
  ∀ L : List (Addr × List Int), (L.map (·.2)).Nodup → (∀ p ∈ L, p ∈ ks) → (∀ p ∈ ks, p.2 ∈ L.map (·.2)) → Q (.int L.length) H := by
  obtain ⟨ks, rfl, rfl, hk⟩ := refs_f2 hu
  refine ⟨l, ks, rfl, SqL.of hl, fun p hp => SqT.of (hk p hp), fun L nd h => ?_, fun L nd h1 h2 => ?_⟩
  · have := few _ nd fun x hx => by
      obtain ⟨p, hp, rfl⟩ := List.mem_map.mp hx
      exact List.mem_map.mpr ⟨p, h p hp, rfl⟩
    rwa [List.length_map] at this
  · have := q _ nd fun x => by
      constructor
      · intro hx
        obtain ⟨p, hp, rfl⟩ := List.mem_map.mp hx
        exact List.mem_map.mpr ⟨p, h1 p hp, rfl⟩
      · intro hx
        obtain ⟨p, hp, rfl⟩ := List.mem_map.mp hx
        exact h2 p hp
    rwa [List.length_map] at this
end
end Lk

/-! tuples of tuples of ints: as keys of a dict, x in such a one; [f(x) for x in d], tuples are made -/
namespace Lk
open PySem PySem.Spec PyProof.Rows L2
section
variable {α β : Type} {J : L2.It} {n : Nat} {G : Hp → Prop} {Y : Nat → Hp → V → Hp → Prop} {K : PySem.W.Frag} {H : Hp} {σ : L2.St} {D : Addr} {k : Nat} {te : TE} {vs : List Nat} {Qd : Hp → Prop}
/-- what is made is of tuples alone -/
theorem lcg_mapV (w : Walk J n G Y) (as : List α) (hn : as.length = n) (R : Hp → V → α → Prop) (S : Hp → V → β → Prop) (oS : ∀ {H H' v x}, Ts H H' → S H v x → S H' v x) (f : α → β) (h3 : n ≤ sizeLine) (hD : H D = none)
    (hG : ∀ H', Same H H' → G H') (hY : ∀ i x H1 H2, i < n → Same H H1 → Y i H1 x H2 → H2 = H1 ∧ ∃ a, as[i]? = some a ∧ R H1 x a)
    (hw : ∀ x, wipe ((wipe σ vs).set k (some x)) vs = wipe σ vs)
    (he : ∀ (i : Nat) (x : V) (a : α) (H' : Hp), as[i]? = some a → R H' x a → Same H H' → ∀ Q : VK, (∀ u H'', Same H' H'' → S H'' u (f a) → Q u H'') → te ((wipe σ vs).set k (some x)) H' Q)
    (q : ∀ ys H', Same H H' → H' D = some (.lst ys) → F2 (S H') ys (as.map f) → Qd H') : LcG J (gName k) tYes te vs σ H D Qd := by
  refine lc_it w (fun i H' => Same H H' ∧ ∃ ys, H' D = some (.lst ys) ∧ F2 (S H') ys ((as.take i).map f)) ⟨same_new hD, [], upd_same, .nil⟩ (fun i H' _ h => hG H' h.1) (fun i x H1 H2 hi h hy => ?_) (fun H' h => ?_)
  · obtain ⟨s1, ys, hDl, hf⟩ := h
    obtain ⟨rfl, b, hb, hr⟩ := hY i x H1 H2 hi s1 hy
    refine ⟨hw _, ?_⟩
    unfold tYes
    simp only [if_true]
    refine he i x b H2 hb hr s1 _ fun u H3 s3 hu => ?_
    have e3 := s3 _ _ hDl
    have f3 : F2 (S H3) ys ((as.take i).map f) := hf.mono fun _ _ z => oS (Ts.of s3) z
    have hlen : ys.length < sizeLine := by
      rw [hf.len, List.length_map, List.length_take]
      omega
    have t4 : Ts H3 (upd H3 D (.lst (ys ++ [u]))) := Ts.lst e3
    refine ⟨ys, e3, hlen, fun c o e => ?_, _, upd_same, ?_⟩
    · rw [upd_ne (ne_of_none e hD)]
      exact (s1.trans s3) _ _ e
    · rw [List.take_succ, hb, List.map_append]
      exact (f3.mono fun _ _ z => oS t4 z).append (.cons (oS t4 hu) .nil)
  · obtain ⟨s1, ys, hDl, hf⟩ := h
    rw [← hn, List.take_length] at hf
    exact q ys H' s1 hDl hf
theorem lcg_mapW (w : Walk J n G Y) (as : List α) (hn : as.length = n) (R : Hp → V → α → Prop) (S : Hp → V → β → Prop) (rS : ∀ {H H' v x}, Ts H H' → R H v x → R H' v x) (oS : ∀ {H H' v x}, Ts H H' → S H v x → S H' v x) (f : α → β) (h3 : n ≤ sizeLine) (hD : H D = none)
    (hG : ∀ H', Same H H' → G H') (hY : ∀ i x H1 H2, i < n → Same H H1 → Y i H1 x H2 → H2 = H1 ∧ ∃ a, as[i]? = some a ∧ R H1 x a)
    (hw : ∀ x, wipe ((wipe σ vs).set k (some x)) vs = wipe σ vs)
    (he : ∀ (i : Nat) (x : V) (a : α) (H' : Hp), as[i]? = some a → R H' x a → Same H H' → ∀ Q : VK, (∀ u H'', Same H' H'' → S H'' u (f a) → Q u H'') → te ((wipe σ vs).set k (some x)) H' Q)
    (q : ∀ ys H', Same H H' → H' D = some (.lst ys) → F2 (S H') ys (as.map f) → Qd H') : LcG J (gName k) tYes te vs σ H D Qd :=
  lcg_mapV w as hn R S oS f h3 hD hG hY hw he q
/-- over the keys of a locked dict -/
theorem lcg_mapD {d : Addr} {o : Obj} {kvs : List (List Key × V)} {L : List (List Int)} (S : Hp → V → β → Prop) (oS : ∀ {H H' v x}, Ts H H' → S H v x → S H' v x) (f : List Int → β) (hd : H d = some (.frz o (.dT kvs))) (he2 : kvs.map (·.1) = L.map keyI) (h3 : L.length ≤ 1000) (hD : H D = none)
    (hw : ∀ x, wipe ((wipe σ vs).set k (some x)) vs = wipe σ vs)
    (he : ∀ (i : Nat) (x : V) (a : List Int) (H' : Hp), L[i]? = some a → TupH H' x a → Same H H' → ∀ Q : VK, (∀ u H'', Same H' H'' → S H'' u (f a) → Q u H'') → te ((wipe σ vs).set k (some x)) H' Q)
    (q : ∀ ys H', Same H H' → H' D = some (.lst ys) → F2 (S H') ys (L.map f) → Qd H') : LcG (Itkt d o kvs) (gName k) tYes te vs σ H D Qd := by
  have hlen : L.length = kvs.length := by
    have := congrArg List.length he2
    simpa using this.symm
  refine lcg_mapW (walk_keysT (d := d) (o := o) (kvs := kvs)) L hlen TupH S (fun t h => h.ts t) oS f (by have := Nat.le_of_lt (small1000 h3); omega) hD (fun H' s => s _ _ hd) (fun i x H1 H2 hi s hy => ?_) hw he q
  obtain ⟨rfl, key, v, b, h1, rfl, h2⟩ := hy
  have h4 : (kvs.map (·.1))[i]? = some key := by rw [List.getElem?_map, h1]; rfl
  rw [he2, List.getElem?_map] at h4
  obtain ⟨l, hl, rfl⟩ := Option.map_eq_some_iff.mp h4
  exact ⟨rfl, l, hl, b, rfl, by rw [h2, kV_ints]⟩
end
/-! ### tuples of tuples of ints -/
def TT (H : Hp) (v : V) (E : List (List Int)) : Prop := ∃ b us, v = .ref b ∧ H b = some (.tup us) ∧ F2 (TupH H) us E
theorem TT.ts {H H' : Hp} {v : V} {E : List (List Int)} (t : Ts H H') (h : TT H v E) : TT H' v E := let ⟨b, us, e, h1, h2⟩ := h; ⟨b, us, e, t _ _ h1, h2.mono fun _ _ z => z.ts t⟩
/-- x not in t -/
def rNotInT (K : PySem.W.Frag) : R2 := fun x y H Q => ∃ d ds, Dp K H x d ∧ Dp K H y (.tuple ds) ∧ SeqAt.shaped d = true ∧ SeqAt.shaped (.tuple ds) = true ∧ Q (.bl (!ds.any fun z => PyData.eqv z d)) H
theorem op_notInT {X : Cx} (hu : X.A.units + 65 < cLine) : OpR X (compareOp .NotIn) (rNotInT X.K) := by
  intro pins s σ H x y v u Q I rx ry h
  obtain ⟨d, ds, hd, he, sd, se, q⟩ := h
  obtain ⟨as, r1⟩ := Dp.reads I d x v hd rx
  obtain ⟨bs, r2⟩ := Dp.reads I (.tuple ds) y u he ry
  exact SeqAt.notIn_tuple_reads r2 r1 (SeqAt.canLay_of_shaped se) (SeqAt.canLay_of_shaped sd) (room_in_shaped sd hu) ⟨.bl _, H, I, rfl, q⟩
def ttL (L : List (List Int)) : PyData := .tuple (L.map intsD)
theorem ttL_shaped (L : List (List Int)) : SeqAt.shaped (ttL L) = true := by
  refine shaped_of ?_ ?_
  · unfold ttL
    rw [PyData.canLay0]
    exact cl_map fun x _ => ints_cl x
  · unfold ttL
    rw [PyData.depth]
    have := dep_map (f := intsD) (n := 1) (xs := L) fun x _ => ints_dep x
    omega
theorem shaped_intsT (xs : List Int) : SeqAt.shaped (intsD xs) = true := by
  refine shaped_of (ints_cl xs) ?_
  have := ints_dep xs
  omega
theorem eqv_intsD (xs ys : List Int) : PyData.eqv (intsD xs) (intsD ys) = decide (xs = ys) := by
  by_cases e : xs = ys
  · subst e
    rw [decide_eq_true rfl]
    exact SeqAt.eqv_refl _ (SeqAt.canLay_of_shaped (shaped_intsT xs))
  · rw [decide_eq_false e, Bool.eq_false_iff]
    exact fun h => e (intsD_inj (eqv_eq _ _ (nb_ints xs) (nb_ints ys) h))
theorem s_notInT {K : PySem.W.Frag} {H : Hp} {x y : V} {l : List Int} {E : List (List Int)} {Q : VK} (hx : TupH H x l) (hy : TT H y E) (q : Q (.bl (!decide (l ∈ E))) H) : rNotInT K x y H Q := by
  obtain ⟨a, rfl, ha⟩ := hx
  obtain ⟨b, us, rfl, hb, hu⟩ := hy
  refine ⟨_, _, .tup (SqT.of ha) (dp_i _), .tup (SqT.of hb) (dp_tups hu), shaped_intsT l, ttL_shaped E, ?_⟩
  have e : ((E.map intsD).any fun z => PyData.eqv z (intsD l)) = decide (l ∈ E) := by
    rw [Bool.eq_iff_iff, List.any_eq_true, decide_eq_true_iff]
    constructor
    · rintro ⟨z, hz, h⟩
      obtain ⟨m, hm, rfl⟩ := List.mem_map.mp hz
      rw [eqv_intsD, decide_eq_true_iff] at h
      exact h ▸ hm
    · exact fun h => ⟨_, List.mem_map.mpr ⟨l, h, rfl⟩, by rw [eqv_intsD, decide_eq_true rfl]⟩
  show Q (.bl (!((E.map intsD).any fun z => PyData.eqv z (intsD l)))) H
  rw [e]
  exact q
/-! ### as keys -/
def nk1 (l : List Int) : NestedKey := .tup (l.map .num)
def nk2 (E : List (List Int)) : NestedKey := .tup (E.map nk1)
theorem nk2_inj {E E' : List (List Int)} (h : nk2 E = nk2 E') : E = E' := by
  injection h with h
  exact map_inj (fun a b e => by
    injection e with e
    exact map_inj (fun _ _ z => by injection z) e) h
theorem dep_num : ∀ l : List Int, NestedKey.depthAll (l.map .num) = 0
  | [] => by simp [NestedKey.depthAll]
  | a :: l => by simp [NestedKey.depthAll, NestedKey.depth, dep_num l]
theorem dep_nk1 (l : List Int) : (nk1 l).depth = 1 := by
  unfold nk1
  rw [NestedKey.depth, dep_num]
theorem dep_nks : ∀ E : List (List Int), NestedKey.depthAll (E.map nk1) ≤ 1
  | [] => by simp [NestedKey.depthAll]
  | l :: E => by
    rw [List.map_cons, NestedKey.depthAll, dep_nk1]
    have := dep_nks E
    omega
theorem dep_nk2 (E : List (List Int)) : (nk2 E).depth ≤ 2 := by
  unfold nk2
  rw [NestedKey.depth]
  have := dep_nks E
  omega
def hk1 (l : List Int) : Int := reduceHash (Builtin.Tuple.tupleHashOf (l.map hashInt))
def hk2 (E : List (List Int)) : Int := reduceHash (Builtin.Tuple.tupleHashOf (E.map hk1))
theorem hs_num (w : World) : ∀ l : List Int, NestedKey.hashes w (l.map .num) = l.map hashInt
  | [] => by simp [NestedKey.hashes]
  | a :: l => by rw [List.map_cons, NestedKey.hashes, hs_num w l, NestedKey.hash]; rfl
theorem hs_nk1 (w : World) (l : List Int) : (nk1 l).hash w = hk1 l := by
  unfold nk1 hk1
  rw [NestedKey.hash, hs_num]
theorem hs_nks (w : World) : ∀ E : List (List Int), NestedKey.hashes w (E.map nk1) = E.map hk1
  | [] => by simp [NestedKey.hashes]
  | l :: E => by rw [List.map_cons, NestedKey.hashes, hs_nks w E, hs_nk1]; rfl
theorem hs_nk2 (w : World) (E : List (List Int)) : (nk2 E).hash w = hk2 E := by
  unfold nk2 hk2
  rw [NestedKey.hash, hs_nks]
section
variable {P : Program} {w : World} {H : Hp} {h : Heap}
theorem nall_num : ∀ {l : List Int} {us : List Value}, Vals (l.map V.int) us → NestedAll h (l.map .num) us
  | [], _, .nil => .nil
  | a :: l, _, .cons r t => by
    obtain ⟨tk, rfl⟩ := r
    exact .cons (.int a tk) (nall_num t)
theorem nis_tup (ok : HOk P w H h) {v : V} {u : Value} {l : List Int} (hv : TupH H v l) (r : RelV v u) : NestedIs h (nk1 l) u := by
  obtain ⟨b, rfl, hb⟩ := hv
  cases r
  obtain ⟨_, its, rv, o, h1, h2, n, h3⟩ := (show ObjOk P w H h b (.tup (l.map V.int)) from ok b _ hb)
  exact .tup h1 h2 h3 (by simpa using nall_num rv)
theorem nall_tup (ok : HOk P w H h) : ∀ {us : List V} {E : List (List Int)} {vs : List Value}, F2 (TupH H) us E → Vals us vs → NestedAll h (E.map nk1) vs
  | _, _, _, .nil, .nil => .nil
  | _, _, _, .cons a t, .cons r s => .cons (nis_tup ok a r) (nall_tup ok t s)
theorem nk2_is (ok : HOk P w H h) {b : Addr} {E : List (List Int)} (hb : TT H (.ref b) E) : (nestedKind P w).is h (nk2 E) b := by
  obtain ⟨c, us, e, h1, h2⟩ := hb
  cases e
  obtain ⟨_, its, rv, o, g1, g2, n, g3⟩ := (show ObjOk P w H h b (.tup us) from ok b _ h1)
  refine ⟨.tup g1 g2 g3 (by simpa using nall_tup ok h2 rv), ?_⟩
  have := dep_nk2 E
  omega
end
/-- the dict at d: these keys, with True under each -/
def NDat (d : Addr) (xs : List (List (List Int) × Addr)) (h : Heap) : Prop := (d == sysModules) = false ∧ ∃ o es ep, h.get? d = some o ∧ o.ExactDict ∧ o.data = .dict es ep ∧ es.toList = xs.map (fun x => (⟨hk2 x.1, .ref x.2, .bool true⟩ : DictEntry)) ∧ (xs.map (·.1)).Nodup
def NDO (d : Addr) (xs : List (List (List Int) × Addr)) : HO := .ext (NDat d xs)
structure NDict (H : Hp) (d : Addr) (L : List (List (List Int))) (xs : List (List (List Int) × Addr)) : Prop where
  keys : xs.map (·.1) = L
  tt : ∀ x ∈ xs, TT H (.ref x.2) x.1
  at_ : H d = some (NDO d xs) ∨ (xs = [] ∧ H d = some (.dK []))
theorem NDict.ts {H H' : Hp} {d : Addr} {L : List (List (List Int))} {xs : List (List (List Int) × Addr)} (h : NDict H d L xs) (t : Ts H H') (k : ∀ o, H d = some o → H' d = some o) : NDict H' d L xs :=
  ⟨h.keys, fun x hx => (h.tt x hx).ts t, h.at_.imp (k _) fun z => ⟨z.1, k _ z.2⟩⟩
def insE (L : List (List (List Int))) (E : List (List Int)) : List (List (List Int)) := if E ∈ L then L else L ++ [E]
theorem insE_mem {L : List (List (List Int))} {E E' : List (List Int)} : E' ∈ insE L E ↔ E' ∈ L ∨ E' = E := by
  unfold insE
  split
  · next h => exact ⟨.inl, fun q => q.elim id fun e => e ▸ h⟩
  · rw [List.mem_append, List.mem_singleton]
theorem insE_nodup {L : List (List (List Int))} {E : List (List Int)} (h : L.Nodup) : (insE L E).Nodup := by
  unfold insE
  split
  · exact h
  · next hn => exact List.nodup_append.mpr ⟨h, List.pairwise_singleton _ _, fun a ha c hc e => hn (by rw [List.mem_singleton.mp hc] at e; exact e ▸ ha)⟩
def insX (xs : List (List (List Int) × Addr)) (E : List (List Int)) (b : Addr) : List (List (List Int) × Addr) := if E ∈ xs.map (·.1) then xs else xs ++ [(E, b)]
theorem insX_keys {xs : List (List (List Int) × Addr)} {E : List (List Int)} {b : Addr} : (insX xs E b).map (·.1) = insE (xs.map (·.1)) E := by
  unfold insX insE
  split
  · rfl
  · rw [List.map_append]
    rfl
def rowsN (xs : List (List (List Int) × Addr)) : List (NestedKey × Addr × Value) := xs.map fun x => (nk2 x.1, x.2, Value.bool true)
theorem rows_stored (xs : List (List (List Int) × Addr)) (E : List (List Int)) (b : Addr) : storedH (rowsN xs) (nk2 E) b (.bool true) = rowsN (insX xs E b) := by
  have e : (atKey (rowsN xs) (nk2 E)).isSome = decide (E ∈ xs.map (·.1)) := by
    unfold atKey rowsN
    rw [Option.isSome_map, Bool.eq_iff_iff, List.find?_isSome, decide_eq_true_iff]
    constructor
    · rintro ⟨x, hx, h⟩
      obtain ⟨y, hy, rfl⟩ := List.mem_map.mp hx
      have := nk2_inj (of_decide_eq_true h)
      exact List.mem_map.mpr ⟨y, hy, this⟩
    · intro h
      obtain ⟨y, hy, rfl⟩ := List.mem_map.mp h
      exact ⟨_, List.mem_map.mpr ⟨y, hy, rfl⟩, decide_eq_true rfl⟩
  unfold storedH insX
  rw [e]
  by_cases c : E ∈ xs.map (·.1)
  · rw [decide_eq_true c, if_pos rfl, if_pos c]
    unfold rowsN
    rw [List.map_map]
    refine List.map_congr_left fun x _ => ?_
    show putAt (nk2 E) (.bool true) (nk2 x.1, x.2, Value.bool true) = _
    unfold putAt
    split <;> rfl
  · rw [decide_eq_false c, if_neg (by decide), if_neg c]
    unfold rowsN
    rw [List.map_append]
    rfl
theorem NDict.put {H : Hp} {d b : Addr} {L : List (List (List Int))} {xs : List (List (List Int) × Addr)} {E : List (List Int)} (n : NDict H d L xs) (hb : TT H (.ref b) E) : NDict (upd H d (NDO d (insX xs E b))) d (insE L E) (insX xs E b) := by
  have t : Ts H (upd H d (NDO d (insX xs E b))) := fun c us e => by
    rw [upd_ne]
    · exact e
    · rintro rfl
      rcases n.at_ with h | ⟨_, h⟩ <;> rw [h] at e <;> cases e
  refine ⟨by rw [insX_keys, n.keys], fun x hx => ?_, .inl upd_same⟩
  unfold insX at hx
  split at hx
  · exact (n.tt x hx).ts t
  · rcases List.mem_append.mp hx with hx | hx
    · exact (n.tt x hx).ts t
    · rw [List.mem_singleton.mp hx]
      exact hb.ts t
section
variable {P : Program} {w : World} {h : Heap} {d : Addr} {xs : List (List (List Int) × Addr)}
theorem rows_entry : (rowsN xs).map (entryOfKey (nestedKind P w)) = xs.map fun x => (⟨hk2 x.1, .ref x.2, .bool true⟩ : DictEntry) := by
  unfold rowsN
  rw [List.map_map]
  refine List.map_congr_left fun x _ => ?_
  show (⟨(nk2 x.1).hash w, .ref x.2, .bool true⟩ : DictEntry) = _
  rw [hs_nk2]
theorem rows_nodup : ((rowsN xs).map (·.1)).Nodup ↔ (xs.map (·.1)).Nodup := by
  have e : (rowsN xs).map (·.1) = (xs.map (·.1)).map nk2 := by
    unfold rowsN
    rw [List.map_map, List.map_map]
    rfl
  rw [e]
  constructor
  · exact fun h => List.Pairwise.of_map nk2 (fun _ _ ne e => ne (congrArg nk2 e)) h
  · exact fun h => List.pairwise_map.mpr (h.imp fun ne e => ne (nk2_inj e))
theorem NDat.of (lo : (d == sysModules) = false) (dd : h.DictOfH (nestedKind P w) d (rowsN xs)) : NDat d xs h := by
  obtain ⟨o, es, ep, h1, h2, h3, h4, _, h5⟩ := dd
  exact ⟨lo, o, es, ep, h1, h2, h3, by rw [h4, rows_entry], rows_nodup.mp h5⟩
theorem NDat.dict (x : NDat d xs h) (t : ∀ x ∈ xs, (nestedKind P w).is h (nk2 x.1) x.2) : h.DictOfH (nestedKind P w) d (rowsN xs) := by
  obtain ⟨_, o, es, ep, h1, h2, h3, h4, h5⟩ := x
  refine ⟨o, es, ep, h1, h2, h3, by rw [h4, rows_entry], fun y hy => ?_, rows_nodup.mpr h5⟩
  obtain ⟨z, hz, rfl⟩ := List.mem_map.mp hy
  exact t z hz
theorem NDO_new {H : Hp} (x : NDat d xs h) : ObjOk P w H h d (NDO d xs) := by
  obtain ⟨lo, o, es, ep, h1, q⟩ := id x
  refine ⟨x, ⟨o, h1⟩, fun g1 g2 p k => ?_⟩
  obtain ⟨lo', o', es', ep', h1', q'⟩ := id p
  exact ⟨lo', o', es', ep', k _ h1', q'⟩
end
section
variable {X : Cx} {pins : List (Addr × Obj)} {σ : L2.St} {H : Hp} {s : Shared} {A : Around} {E : Value → Shared → Prop}
theorem NDict.dict {d : Addr} {L : List (List (List Int))} {xs : List (List (List Int) × Addr)} (I : L2.Inv X pins σ H s) (n : NDict H d L xs) : (d == sysModules) = false ∧ s.heap.DictOfH (nestedKind X.prog X.w) d (rowsN xs) := by
  rcases n.at_ with h | ⟨rfl, h⟩
  · have x : NDat d xs s.heap := (show ObjOk X.prog X.w H s.heap d (.ext (NDat d xs)) from I.hok d _ h).1
    exact ⟨x.1, x.dict fun y hy => nk2_is I.hok (n.tt y hy)⟩
  · obtain ⟨_, lo, vs, rel, o, es, ep, h1, h2, h3, _, h4, _⟩ := (show ObjOk X.prog X.w H s.heap d (.dK []) from I.hok d _ h)
    have e : es.toList = [] := by
      cases rel
      generalize es.toList = l at h4
      cases h4
      rfl
    exact ⟨lo, o, es, ep, h1, h2, h3, e, fun x hx => (by cases hx), List.nodup_nil⟩
/-- d[t] = True -/
theorem d_setN {d b : Addr} {L : List (List (List Int))} {xs : List (List (List Int) × Addr)} {t : List (List Int)} {Q : Unit → Shared → Prop} (hu : A.units + 9 < cLine) (I : L2.Inv X pins σ H s) (n : NDict H d L xs) (ht : TT H (.ref b) t) (hl : xs.length ≤ sizeLine)
    (q : ∀ s', L2.Inv X pins σ (upd H d (NDO d (insX xs t b))) s' → Q () s') : wpAny (model X.prog X.w) A (setItem (.ref d) (.ref b) (.bool true)) Q E s := by
  obtain ⟨lo, dd⟩ := n.dict I
  have mu : Mut (H d) := by
    rcases n.at_ with h | ⟨_, h⟩ <;> rw [h] <;> exact True.intro
  refine wpAny_setItem_heap (knd := nestedKind X.prog X.w) (hsz := by unfold rowsN; rw [List.length_map]; exact hl) (show A.in1.units + 8 < cLine from by
    show A.units + 1 + 8 < cLine
    omega) (nk2_is I.hok ht) dd fun h' dd' hs => q _ ?_
  rw [rows_stored] at dd'
  have ob : ∃ o, h'.get? d = some o := let ⟨o, _, _, e, _⟩ := dd'; ⟨o, e⟩
  exact d_write I mu hs ob (NDO_new (NDat.of lo dd'))
/-- d[t] = True as a statement -/
def sNPut (td ty tv : TE) : TS := fun D σ H => tv σ H fun v H1 => td σ H1 fun x H2 => ty σ H2 fun y H3 => v = .bl true ∧ ∃ (a b : Addr) (L : List (List (List Int))) (xs : List (List (List Int) × Addr)) (t : List (List Int)), x = .ref a ∧ y = .ref b ∧ NDict H3 a L xs ∧ TT H3 (.ref b) t ∧ xs.length ≤ sizeLine ∧ D.nx σ (upd H3 a (NDO a (insX xs t b)))
theorem ps_nput {o i value : Expr} {td ty tv : TE} {pos pos' : Pos} (hu : X.A.units + 9 < cLine) (ho : PE X o td) (hi : PE X i ty) (hv : PE X value tv) (hs : swapsWith value (some (.Subscript o i pos')) pos.line X.env = pure false) :
    PS X (.Assign [.Subscript o i pos'] value pos) (sNPut td ty tv) := by
  refine ⟨fun pins s σ H D I h => wpAny_Assign_Subscript (thn (hv.run pins s σ H _ I h) fun r s1 ⟨v, H1, I1, rv, q1⟩ => thn (ho.run pins s1 σ H1 _ I1 q1) fun u s2 ⟨x, H2, I2, rx, q2⟩ => thn (hi.run pins s2 σ H2 _ I2 q2) fun iv s3 ⟨y, H3, I3, ry, ev, a, b, L, xs, t, ex, ey, n, ht, hl, q3⟩ => ?_) hs⟩
  subst ev ex ey
  cases rv
  cases rx
  cases ry
  exact d_setN hu I3 n ht hl fun s4 I4 => ⟨σ, _, I4, q3⟩
/-- list(d) -/
def rListN : List V → Hp → VK → Prop := fun vs H Q => ∃ (d : Addr) (xs : List (List (List Int) × Addr)), vs = [V.ref d] ∧ H d = some (NDO d xs) ∧ xs.length ≤ sizeLine ∧ ∀ p, H p = none → Q (.ref p) (upd H p (.lst (xs.map fun x => V.ref x.2)))
theorem cr_listN (hc : X.calm = true) : CallR X (.type "list") rListN := by
  intro pins s σ H vs us Q I r h
  obtain ⟨d, xs, rfl, hd, hz, q⟩ := h
  obtain ⟨u, rfl, rx⟩ := r.one
  cases rx
  obtain ⟨lo, o, es, ep, ho, hx, hdt, he, _⟩ := (show ObjOk X.prog X.w H s.heap d (.ext (NDat d xs)) from I.hok d _ hd).1
  have l1 : es.size = xs.length := by rw [← Array.length_toList, he, List.length_map]
  refine PySem.W.kdl_call (kdl_raw lo hx hdt) (I.ok.hd hc) ho (by omega) fun h' tk acc c kp e it => ?_
  have eb : acc.toList = (xs.map fun x => x.2).map Value.ref := by
    refine List.ext_getElem? fun j => ?_
    rw [List.map_map, List.getElem?_map]
    cases hj : acc.toList[j]? with
    | none =>
      have h1 := List.getElem?_eq_none_iff.mp hj
      rw [Array.length_toList, it.1] at h1
      rw [List.getElem?_eq_none (by omega)]
      rfl
    | some v =>
      obtain ⟨en, hen, hv⟩ := it.2 j v (by rw [← Array.getElem?_toList]; exact hj)
      rw [← Array.getElem?_toList, he, List.getElem?_map] at hen
      cases hb : xs[j]? with
      | none =>
        rw [hb] at hen
        cases hen
      | some x =>
        rw [hb] at hen
        cases hen
        rw [hv]
        rfl
  have rv : Vals (xs.map fun x => V.ref x.2) acc.toList := by
    rw [eb]
    have := vals_refs (xs.map fun x => x.2)
    rwa [List.map_map] at this
  have hz' : (xs.map fun x => V.ref x.2).length ≤ sizeLine := by rw [List.length_map]; exact hz
  refine ⟨.ref s.heap.objs.size, _, I.laid (t' := tk) (o := .lst (xs.map fun x => V.ref x.2)) kp (Nat.le_refl _) ⟨hz', acc.toList, c, rv, by rw [Array.toArray_toList]; exact e⟩, rfl, q _ (I.hok.fresh (Nat.le_refl _))⟩
theorem xs_f2 {H : Hp} : ∀ {xs : List (List (List Int) × Addr)}, (∀ x ∈ xs, TT H (.ref x.2) x.1) → F2 (TT H) (xs.map fun x => V.ref x.2) (xs.map (·.1))
  | [], _ => .nil
  | x :: xs, h => .cons (h x (List.mem_cons_self ..)) (xs_f2 fun y hy => h y (List.mem_cons_of_mem _ hy))
end
end Lk

/-! sorted(set(list of tuples of ints)), few of them different, of any length -/
namespace Lk
open PySem PySem.Spec PyProof.Rows L2
section
variable {X : Cx}
def rSetFew (K : PySem.W.Frag) (P : Program) (w : World) : List V → Hp → VK → Prop := fun xs H Q => ∃ (l : Addr) (ks : List (Addr × List Int)), xs = [V.ref l] ∧ SqL K H l (ks.map fun p => V.ref p.1) ∧ (∀ p ∈ ks, SqT K H p.1 (p.2.map V.int)) ∧ FewT ks ∧
  ∀ (a : Addr) (L : List (Addr × List Int)), H a = none → (L.map (·.2)).Nodup → (∀ p ∈ L, p ∈ ks) → (∀ p ∈ ks, p.2 ∈ L.map (·.2)) → Q (.ref a) (upd H a (SetTO P w a L))
theorem cr_setFew (hc : X.calm = true) (hu : X.A.units + 64 < cLine) : CallR X (.type "set") (rSetFew X.K X.prog X.w) := by
  intro pins s σ H xs us Q I r h
  obtain ⟨l, ks, rfl, hl, hk, few, q⟩ := h
  rw [Vals.ref1 r]
  obtain ⟨its, rv, pl, hz⟩ := I.list hl
  refine set_tups (P := X.prog) (w := X.w) ks (I.ok.hd hc) pl.isList (by simpa using refs_of_vals rv) (fun p hp => I.isT (hk p hp)) few (by omega) fun h' tk L es ep t R g keep => ?_
  exact ⟨.ref s.heap.objs.size, upd H s.heap.objs.size (SetTO X.prog X.w s.heap.objs.size L), I.laid (t' := tk) keep (Nat.le_refl _) (setTO_new R.t0), rfl, q _ L (I.hok.fresh (Nat.le_refl _)) R.nd (fun p hp => List.mem_of_mem_take (g.sub p hp)) fun p hp => g.all p (by rw [List.take_length]; exact hp)⟩
def rSortSetT (K : PySem.W.Frag) (P : Program) (w : World) : List V → Hp → VK → Prop := fun vs H Q => ∃ (a : Addr) (L : List (Addr × List Int)) (d : Nat) (B : Int), vs = [V.ref a] ∧ H a = some (SetTO P w a L) ∧ (∀ p ∈ L, SqT K H p.1 (p.2.map V.int)) ∧ (1 ≤ d ∨ L.length ≤ 1) ∧
  (∀ p ∈ L, p.2.length = d ∧ TS.Bd B p.2) ∧ ∀ (ys : List V) (p : Addr), ys.Perm (L.map fun q => V.ref q.1) → AscV K H B ys → H p = none → Q (.ref p) (upd H p (.lst ys))
theorem cr_sortSetT (hc : X.calm = true) : CallR X (.builtin "sorted") (rSortSetT X.K X.prog X.w) := by
  intro pins s σ H vs us Q I r h
  obtain ⟨a, L, d, B, rfl, ha, hk, hd, hB, q⟩ := h
  have R0 : SetT0 X.prog X.w s.heap a L := (I.hok a _ ha).1
  obtain ⟨es, ep, t, R⟩ := R0.full fun p hp => I.isT (hk p hp)
  rw [Vals.ref1 r]
  obtain ⟨o, ho, hex, hdat⟩ := R.ob
  have hsz := SetTR.size (s := s) R
  have hfew := R.few
  refine Calls.call_function_entry PyProof.Rows.kind_sorted PyProof.Rows.plain_sorted PyProof.Rows.entry_sorted (PyProof.Rows.args_sorted1 _) ?_
  unfold Builtin.«sorted»
  refine wpAny_bind (m := checkCount "sorted" 1 1 _) (wpAny_pure (wpAny_bind (collect_set (A := X.A.in1) (I.ok.hd hc) ⟨o, ho, hex.1, hdat⟩ (SetTR.fits (s := s) R) (by unfold scanBound; omega) R.tab.ris R.led fun s1 vs k1 hz g1 o1 pm => ?_)))
  have hes : es.toList.map (·.2) = (L.map fun q => q.1).map Value.ref := by
    rw [R.rows, List.map_map]
    unfold rowsOf
    rw [List.map_map]
    rfl
  rw [hes] at pm
  have hvl : vs.length < 64 := by rw [pm.length_eq, List.length_map, List.length_map]; exact hfew
  have hz64 : (64 : Nat) ≤ sizeLine := by decide
  refine wpAny_bind (wpAny_newList ?_ (by omega))
  have hoL : (s1.heap.push (seqObj "list" vs.toArray 0)).get? s1.heap.objs.size = some (seqObj "list" vs.toArray 0) := Heap.get?_push_size _ rfl
  have kp2 : ∀ b u, s.heap.get? b = some u → u.cls = .type "tuple" → (s1.heap.push (seqObj "list" vs.toArray 0)).get? b = some u := fun b u e _ => Heap.get?_push_of_some _ (k1 b u e)
  have ok0 : TS.TupsOk s.heap d B vs := fun v hv => by
    obtain ⟨b, hb, rfl⟩ := List.mem_map.mp (pm.mem_iff.mp hv)
    obtain ⟨p, hp, rfl⟩ := List.mem_map.mp hb
    exact ⟨p.2, tupI_raw I (hk p hp), (hB p hp).1, (hB p hp).2⟩
  have ok := ok0.keeps kp2
  have zr : ∀ v ∈ vs, SrtO.rankT B (s1.heap.push (seqObj "list" vs.toArray 0)) v = SrtO.rankT B s.heap v := fun v hv => by
    obtain ⟨ns, t, _⟩ := ok0 v hv
    unfold SrtO.rankT
    rw [t.ints, (t.keeps kp2).ints]
  refine wpAny_bind (wpAny_holding (wpAny_call_entry PyProof.Rows.slot_list_sort ⟨_, hoL, rfl⟩ PyProof.Rows.entry_list_sort
    (SrtO.list_sort_ord (s := { s1 with heap := s1.heap.push (seqObj "list" vs.toArray 0) }) (SrtO.swo_rank (SrtO.rankT B (s1.heap.push (seqObj "list" vs.toArray 0)))) hoL (by omega) (fun h2 => SrtO.tups_sortable (s := { s1 with heap := s1.heap.push (seqObj "list" vs.toArray 0) }) (by
      have hl := pm.length_eq
      rw [List.length_map, List.length_map] at hl
      rcases hd with hd | hd
      · exact hd
      · omega) h2 ok fun o e => by
        have e' : some o = some (seqObj "list" vs.toArray 0) := e.symm.trans hoL
        cases e'
        intro c
        exact absurd (Value.type.inj c) (by decide)) fun out m1 m2 => ⟨_, rfl, ?_⟩) (PyProof.Rows.args_list_sort _)))
  obtain ⟨e', he'⟩ := PyProof.Rows.sortedHeap_at (vs := vs) (out := out.toArray) hoL
  have h3 : ∀ u ∈ out, ∃ a, u = Value.ref a := fun u hu => by
    obtain ⟨b, _, rfl⟩ := List.mem_map.mp (pm.mem_iff.mp (m2.perm.mem_iff.mp hu))
    exact ⟨b, rfl⟩
  have hpm : (out.map bkV).Perm (L.map fun q => V.ref q.1) := by
    have := (m2.perm.trans pm).map bkV
    rw [List.map_map, List.map_map] at this
    exact this
  have hlen : (out.map bkV).length ≤ sizeLine := by
    rw [hpm.length_eq, List.length_map]
    omega
  have g3 : SrtO.Srtd (fun v u => decide (SrtO.rankT B s.heap v < SrtO.rankT B s.heap u)) out := List.Pairwise.imp_of_mem (fun {x y} hx hy h => by
    have h := of_decide_eq_false h
    rw [zr _ (m2.perm.mem_iff.mp hx), zr _ (m2.perm.mem_iff.mp hy)] at h
    exact decide_eq_false h) m1
  have hasc : AscV X.K H B (out.map bkV) := ascV_of I g3
  have hp : s.heap.objs.size ≤ s1.heap.objs.size := hz
  have hn : H s1.heap.objs.size = none := I.hok.fresh hp
  generalize hh : sortedHeap (s1.heap.push (seqObj "list" vs.toArray 0)) s1.heap.objs.size vs out.toArray = hF at he'
  have keep : ∀ b u, s.heap.get? b = some u → hF.get? b = some u := fun b u e => by
    have e1 := k1 b u e
    have hlt := Heap.lt_size e1
    rw [← hh, PyProof.Rows.sortedHeap_old (Nat.ne_of_lt hlt) (by rw [size_push']; exact Nat.lt_succ_of_lt hlt)]
    exact Heap.get?_push_of_some _ e1
  have J : L2.Inv X pins σ (upd H s1.heap.objs.size (.lst (out.map bkV))) { s with heap := hF, gens := s1.gens, drawn := s1.drawn, toks := s1.toks } :=
    I.call (ch := []) (Un.laid keep hp hn) (I.hok.laid keep hp ⟨hlen, out, e', bkV_vals h3, he'⟩) (by rw [g1]; exact I.bare) (fun _ z => nomatch z)
  refine wpAny_pure ⟨_, rfl, .ref s1.heap.objs.size, _, ?_, rfl, q _ _ hpm hasc hn⟩
  show L2.Inv X pins σ _ ({ heap := hF, gens := s1.gens, drawn := s1.drawn, toks := s1.toks, os := s1.os } : Shared)
  rw [o1]
  exact J
/-- as sets: few different tuples, in order -/
theorem s_sortFew {K : PySem.W.Frag} {P : Program} {w : World} {H : Hp} {l : Addr} {us : List V} {LL : List (List Int)} {n : Nat} {B : Int} {Q : VK} {Z : VK} (kz : ∀ v H1, rSortSetT K P w [v] H1 Q → Z v H1) (hl : H l = some (.lst us)) (hu : F2 (TupH H) us LL) (few : ∀ M : List (List Int), M.Nodup → (∀ x ∈ M, x ∈ LL) → M.length ≤ 62) (hn : 1 ≤ n ∨ ∀ M : List (List Int), M.Nodup → (∀ x ∈ M, x ∈ LL) → M.length ≤ 1) (hd : Dim n B LL)
    (q : ∀ (p : Addr) (ys : List V) (M : List (List Int)) (H' : Hp), Same H H' → H p = none → H' p = some (.lst ys) → F2 (TupH H') ys M → M.Nodup → (∀ x, x ∈ M ↔ x ∈ LL) → Asc B M → Q (.ref p) H') : rSetFew K P w [.ref l] H Z := by
  obtain ⟨ks, rfl, rfl, hk⟩ := refs_f2 hu
  refine ⟨l, ks, rfl, SqL.of hl, fun p hp => SqT.of (hk p hp), fun L nd h => ?_, fun a L ha nd h1 h2 => ?_⟩
  · have := few _ nd fun x hx => by
      obtain ⟨p, hp, rfl⟩ := List.mem_map.mp hx
      exact List.mem_map.mpr ⟨p, h p hp, rfl⟩
    rwa [List.length_map] at this
  · have hsub : ∀ x ∈ L.map (·.2), x ∈ ks.map (·.2) := fun x hx => by
      obtain ⟨p, hp, rfl⟩ := List.mem_map.mp hx
      exact List.mem_map.mpr ⟨p, h1 p hp, rfl⟩
    have s1 : Same H (upd H a (SetTO P w a L)) := same_new ha
    have hL : ∀ p ∈ L, (upd H a (SetTO P w a L)) p.1 = some (.tup (p.2.map V.int)) := fun p hp => s1 _ _ (hk p (h1 p hp))
    have f1 : ∀ {L : List (Addr × List Int)} {H : Hp}, (∀ p ∈ L, H p.1 = some (.tup (p.2.map V.int))) → F2 (TupH H) (L.map fun p => V.ref p.1) (L.map (·.2)) := fun {L H} h => by
      induction L with
      | nil => exact .nil
      | cons p L ih => exact .cons ⟨p.1, rfl, h p (List.mem_cons_self ..)⟩ (ih fun r hr => h r (List.mem_cons_of_mem _ hr))
    refine kz _ _ ⟨a, L, n, B, rfl, upd_same, fun p hp => SqT.of (hL p hp), hn.imp id fun z => ?_, fun p hp => hd _ (hsub _ (List.mem_map.mpr ⟨p, hp, rfl⟩)), fun ys p pm as hp => ?_⟩
    · have := z _ nd hsub
      rwa [List.length_map] at this
    · obtain ⟨M, pM, fM⟩ := f2_perm pm (f1 hL)
      have s2 : Same (upd H a (SetTO P w a L)) (upd (upd H a (SetTO P w a L)) p (.lst ys)) := same_new hp
      refine q p ys M _ (s1.trans s2) (by
        cases ho : H p with
        | none => rfl
        | some o =>
          have := s1 _ _ ho
          rw [hp] at this
          cases this) upd_same (fM.mono fun _ _ z => z.ts (Ts.of s2)) (pM.nodup_iff.mpr nd) (fun x => ?_) (asc_of fM as)
      rw [pM.mem_iff]
      exact ⟨hsub x, fun hx => by
        obtain ⟨r, hr, rfl⟩ := List.mem_map.mp hx
        exact h2 r hr⟩
end
end Lk

namespace K14
open PySem PySem.Spec PyProof.Rows L2 Lk
local macro_rules | `(tactic| walk_at "lk") => `(tactic| (repeat (first
  | with_reducible refine ssq ?_ | with_reducible refine sas ?_ | with_reducible refine sgn ?_ | ((with_reducible show tVar _ _ _ _); refine sv rfl ?_) | with_reducible refine sc ?_ | with_reducible refine sop ?_ | with_reducible refine sun ?_
  | with_reducible refine sI0 ?_ | with_reducible refine sU ?_ | with_reducible refine stt ?_ | with_reducible refine stB ?_ | with_reducible refine sbl ?_ | with_reducible refine snt ?_ | with_reducible refine sif ?_ | with_reducible refine scB ?_
  | with_reducible refine scn ?_ | with_reducible refine snl ?_ | with_reducible refine scl ?_ | with_reducible refine stu ?_ | with_reducible refine sli ?_ | with_reducible refine sdr ?_ | with_reducible refine srt ?_ | with_reducible refine snx ?_ | with_reducible refine sfor ?_ | with_reducible refine sils ?_ | with_reducible refine sien ?_ | with_reducible refine sor ?_ | with_reducible refine sfg ?_
  | with_reducible refine sav ?_ | with_reducible refine sov ?_ | with_reducible refine snv ?_ | with_reducible refine sch ?_ | with_reducible refine san ?_ | with_reducible refine ssll ?_ | with_reducible refine spt ?_ | with_reducible refine snp ?_ | with_reducible refine sin ?_ | with_reducible refine sfl ?_ | with_reducible refine sfd ?_ | with_reducible refine smt ?_ | with_reducible refine sbt ?_ | with_reducible refine sbm ?_ | with_reducible refine sifx ?_
  | ((with_reducible show Or _ _); first | refine Or.inl ⟨_, rfl, ?_⟩ | refine Or.inr ⟨_, rfl, ?_⟩))))

def top (i : Nat) : Stmt := PySem.Challenge.pw_leastkeep_k14_invariant_factors.main.body.getD i (.Pass ⟨0, 0, 0, 0⟩)
/-- the classes -/
structure Ad where
  KeepError : Addr
  NoRows : Addr
structure Txt (P : Program) (w : World) (K : PySem.W.Frag) (mg : Str → Option Value) (base : Heap) (A : Ad) : Prop where
  z_int : mg "int" = none
  z_bool : mg "bool" = none
  z_str : mg "str" = none
  z_list : mg "list" = none
  z_tuple : mg "tuple" = none
  z_dict : mg "dict" = none
  z_len : mg "len" = none
  z_isinstance : mg "isinstance" = none
  z_range : mg "range" = none
  z_enumerate : mg "enumerate" = none
  z_zip : mg "zip" = none
  z_all : mg "all" = none
  z_any : mg "any" = none
  z_sum : mg "sum" = none
  z_sorted : mg "sorted" = none
  z_reversed : mg "reversed" = none
  z_abs : mg "abs" = none
  z_set : mg "set" = none
  g_NoRows : mg "NoRows" = some (.ref A.NoRows)
  g_WIDEST : ∃ t, mg "WIDEST" = some (.int 64 t)
/-! ### promises of leastkeep.stairs: numbers -/
def spVal : Sp := fun vs H Q _ => ∃ n v q : Nat, vs = [.int (n : Int)] ∧ n = 2 ^ v * (2 * q + 1) ∧ Q (.int (v : Int)) H
def spInvO : Sp := fun vs H Q _ => ∃ (o : Int) (k : Nat), vs = [.int o, .int (2 ^ k - 1)] ∧ 1 ≤ k ∧ k ≤ 64 ∧ o % 2 = 1 ∧ 0 ≤ o ∧ o < 2 ^ k ∧ ∀ f : Int, 0 ≤ f → f < 2 ^ k → (2 : Int) ^ k ∣ f * o - 1 → Q (.int f) H
theorem ift_ {c : Bool} {A B : Prop} (h : c = true) (q : A) : if c = true then A else B := by rw [if_pos h]; exact q
theorem ab_of {i : Int} {k : Nat} (h0 : 0 ≤ i) (h : i < 2 ^ k) : i.natAbs < 2 ^ k := by
  have : ((i.natAbs : Nat) : Int) < ((2 ^ k : Nat) : Int) := by
    rw [Int.natAbs_of_nonneg h0]
    exact_mod_cast h
  exact_mod_cast this
theorem ab_mul {i j : Int} {a b : Nat} (hi : i.natAbs < 2 ^ a) (hj : j.natAbs < 2 ^ b) : (i * j).natAbs < 2 ^ (a + b) := by
  rw [Int.natAbs_mul, Nat.pow_add]
  exact Nat.mul_lt_mul'' hi hj

section
variable {P : Program} {w : World} {K : PySem.W.Frag} {mg : Str → Option Value} {base : Heap} {A : Ad}
abbrev s_valuation : Stmt := top 12
theorem sc_valuation : FnScope ["number"] ["number"] (defScope s_valuation) := ⟨rfl, rfl, rfl, by decide +kernel, rfl, by decide +kernel, by decide +kernel⟩
theorem ok_valuation {f : Addr} {fd : FuncData} (F : Fun K "valuation" "valuation" s_valuation f fd) (T : Txt P w K mg base A) : FnOk P w K mg base CX0 1 f fd ["number"] spVal := by
  refine F.ok sc_valuation (fun vs H Q E h => ?_) (fun cdv Ar outer s H vs Q E hr h => ?_)
  · obtain ⟨n, v, q, rfl, _⟩ := h
    rfl
  · obtain ⟨n, v, q, rfl, hn, k⟩ := h
    refine ⟨_, (pss_one (ps_ret (pe_op op_sub (pe_bits (pe_op op_and (pv 0) (pe_un un_neg (pv 0)))) pe_int))), ?_⟩
    walk_at "lk"
    rw [val_bits hn]
    exact k
abbrev s_odd_inverse : Stmt := top 13
theorem sc_odd_inverse : FnScope ["odd", "mask", "found"] ["odd", "mask"] (defScope s_odd_inverse) := ⟨rfl, rfl, rfl, by decide +kernel, rfl, by decide +kernel, by decide +kernel⟩
theorem ok_odd_inverse {f : Addr} {fd : FuncData} (F : Fun K "odd_inverse" "odd_inverse" s_odd_inverse f fd) (T : Txt P w K mg base A) : FnOk P w K mg base CX0 1 f fd ["odd", "mask"] spInvO := by
  refine F.ok sc_odd_inverse (fun vs H Q E h => ?_) (fun cdv Ar outer s H vs Q E hr h => ?_)
  · obtain ⟨o, k, rfl, _⟩ := h
    rfl
  · obtain ⟨o, k, rfl, k1, k2, ho, o0, o1, q⟩ := h
    refine ⟨_, (pss_cons (ps_set (i := 2) sc_odd_inverse.nd rfl (Or.inl rfl) (pv 0))
        (pss_cons (ps_while PassesOwn.never (pt_cmpR op_ne (pe_op op_andM (pe_op op_mulX (pv 2) (pv 0)) (pv 1)) pe_int (nomark _)) (pss_one (ps_set (i := 2) sc_odd_inverse.nd rfl (Or.inl rfl) (pe_op op_andM (pe_op op_mulX (pv 2) (pe_op op_sub pe_int (pe_op op_mulX (pv 2) (pv 0)))) (pv 1)))))
        (pss_one (ps_ret (pv 2))))), ?_⟩
    have oa : o.natAbs < 2 ^ 64 := Nat.lt_of_lt_of_le (ab_of o0 o1) (Nat.pow_le_pow_right (by decide) k2)
    walk_at "lk"
    refine ⟨fun m σ' H' => ∃ (f : Int) (j : Nat), m = k - j ∧ σ' = [some (.int o), some (.int (2 ^ k - 1)), some (.int f)] ∧ H' = H ∧ 0 ≤ f ∧ f < 2 ^ k ∧ 1 ≤ j ∧ j ≤ k ∧ (2 : Int) ^ j ∣ f * o - 1, ⟨_, o, 1, rfl, rfl, rfl, o0, o1, Nat.le_refl 1, k1, ?_⟩, ?_⟩
    · exact Int.dvd_trans (show (2 : Int) ^ 1 ∣ 2 ^ 3 by decide) (inv_start ho)
    rintro m σ' H' ⟨f, j, rfl, rfl, rfl, f0, f1, j1, jk, hd⟩
    have fa : f.natAbs < 2 ^ 64 := Nat.lt_of_lt_of_le (ab_of f0 f1) (Nat.pow_le_pow_right (by decide) k2)
    have pa : (f * o).natAbs < 2 ^ 128 := ab_mul fa oa
    walk_at "lk"
    refine sI (mul_le fa oa (by decide)) ?_
    refine sv rfl ?_
    refine ⟨_, k, rfl, rfl, ?_⟩
    walk_at "lk"
    refine sNe rfl ?_
    refine ⟨_, rfl, ?_⟩
    by_cases z : (f * o) % 2 ^ k = 1
    · refine iff_ (by rw [z]; rfl) ?_
      walk_at "lk"
      exact q f f0 f1 ((inv_end k1).mp z)
    · have jlt : j < k := by
        by_cases y : j = k
        · rw [y] at hd
          exact absurd ((inv_end k1).mpr hd) z
        · omega
      refine ift_ (by simpa using z) ?_
      refine ⟨fun σ'' H'' => ∃ f' : Int, σ'' = [some (.int o), some (.int (2 ^ k - 1)), some (.int f')] ∧ H'' = H' ∧ 0 ≤ f' ∧ f' < 2 ^ k ∧ (2 : Int) ^ min (2 * j) k ∣ f' * o - 1, ?_, ?_⟩
      · rintro σ'' H'' ⟨f', rfl, rfl, a0, a1, hd'⟩
        exact ⟨k - min (2 * j) k, by omega, f', min (2 * j) k, rfl, rfl, rfl, a0, a1, by omega, by omega, hd'⟩
      walk_at "lk"
      refine sI (mul_le fa oa (by decide)) ?_
      walk_at "lk"
      have qa : (2 - f * o).natAbs < 2 ^ 129 := by
        have h1 : (2 - f * o).natAbs ≤ (2 : Int).natAbs + (f * o).natAbs := Int.natAbs_sub_le 2 (f * o)
        have h2 : (2 : Int).natAbs = 2 := rfl
        have h3 : (2 : Nat) ^ 129 = 2 ^ 128 + 2 ^ 128 := by decide
        have h4 : (2 : Nat) ≤ 2 ^ 128 := by decide
        omega
      refine sI (mul_le fa qa (by decide)) ?_
      refine sv rfl ?_
      refine ⟨_, k, rfl, rfl, ?_⟩
      walk_at "lk"
      exact ⟨_, rfl, rfl, Int.emod_nonneg _ (Int.ne_of_gt (Md.p2 k)), Int.emod_lt_of_pos _ (Md.p2 k), inv_turn jk hd⟩
end
end K14

namespace K14
open PySem PySem.Spec PyProof.Rows L2 Lk
local macro_rules | `(tactic| walk_at "lk") => `(tactic| (repeat (first
  | with_reducible refine ssq ?_ | with_reducible refine sas ?_ | with_reducible refine sgn ?_ | ((with_reducible show tVar _ _ _ _); refine sv rfl ?_) | with_reducible refine sc ?_ | with_reducible refine sop ?_ | with_reducible refine sun ?_
  | with_reducible refine sI0 ?_ | with_reducible refine sU ?_ | with_reducible refine stt ?_ | with_reducible refine stB ?_ | with_reducible refine sbl ?_ | with_reducible refine snt ?_ | with_reducible refine sif ?_ | with_reducible refine scB ?_
  | with_reducible refine scn ?_ | with_reducible refine snl ?_ | with_reducible refine scl ?_ | with_reducible refine stu ?_ | with_reducible refine sli ?_ | with_reducible refine sdr ?_ | with_reducible refine srt ?_ | with_reducible refine snx ?_ | with_reducible refine sfor ?_ | with_reducible refine sils ?_ | with_reducible refine sien ?_ | with_reducible refine sor ?_ | with_reducible refine sfg ?_
  | with_reducible refine sav ?_ | with_reducible refine sov ?_ | with_reducible refine snv ?_ | with_reducible refine sch ?_ | with_reducible refine san ?_ | with_reducible refine ssll ?_ | with_reducible refine spt ?_ | with_reducible refine snp ?_ | with_reducible refine sin ?_ | with_reducible refine sfl ?_ | with_reducible refine sfd ?_ | with_reducible refine smt ?_ | with_reducible refine sbt ?_ | with_reducible refine sbm ?_ | with_reducible refine sifx ?_
  | ((with_reducible show Or _ _); first | refine Or.inl ⟨_, rfl, ?_⟩ | refine Or.inr ⟨_, rfl, ?_⟩))))

/-! ### modules of rows of integers -/
/-- the rows, as they are written -/
def Gr (xss : List (List Int)) : Md.Vec → Prop := fun y => ∃ xs ∈ xss, y = Md.vec xs
abbrev Sp2 (k n : Nat) (xss : List (List Int)) (x : Md.Vec) : Prop := Md.S (2 ^ k) n (Gr xss) x
/-- l is an element of the module of these rows -/
structure InM (k n : Nat) (xss : List (List Int)) (l : List Int) : Prop where
  len : l.length = n
  red : Md.RedL k l
  sum : Sp2 k n xss (Md.vec l)
theorem InM.zero {k n : Nat} : InM k n xss (List.replicate n 0) := ⟨List.length_replicate, fun a ha => by
    rw [List.eq_of_mem_replicate ha]
    exact ⟨Int.le_refl _, Md.p2 k⟩, Md.S.zero.cg fun i hi => by
    show (2 : Int) ^ k ∣ (List.replicate n 0).getD i 0 - 0
    rw [List.getD_eq_getElem?_getD, List.getElem?_replicate, if_pos hi]
    exact Int.dvd_zero _⟩
theorem InM.nil {k n : Nat} {l : List Int} (h : InM k n [] l) : l = List.replicate n 0 := by
  rw [← Md.tab_vec h.len, ← Md.tab_vec (n := n) (l := List.replicate n 0) List.length_replicate]
  refine Md.tab_ext fun i hi => ?_
  rw [Md.red_zero (Md.red_vec h.red) (h.sum.col hi fun z f => by obtain ⟨xs, hx, _⟩ := f; cases hx)]
  show 0 = (List.replicate n 0).getD i 0
  rw [List.getD_eq_getElem?_getD, List.getElem?_replicate, if_pos hi]
  rfl
/-- one element more a multiple of a row -/
def addL (k f : Nat) (r l : List Int) : List Int := List.zipWith (fun a b => (a + (f : Int) * b) % 2 ^ k) l r
theorem addL_len {k f n : Nat} {r l : List Int} (hl : l.length = n) (hr : r.length = n) : (addL k f r l).length = n := by
  rw [addL, List.length_zipWith, hl, hr, Nat.min_self]
theorem addL_red {k f : Nat} {r l : List Int} : Md.RedL k (addL k f r l) := fun a ha => by
  obtain ⟨i, hi, rfl⟩ := List.getElem_of_mem ha
  simp only [addL, List.getElem_zipWith]
  exact ⟨Int.emod_nonneg _ (Int.ne_of_gt (Md.p2 k)), Int.emod_lt_of_pos _ (Md.p2 k)⟩
theorem addL_vec {k f n : Nat} {r l : List Int} (hl : l.length = n) (hr : r.length = n) {i : Nat} (hi : i < n) : Md.vec (addL k f r l) i = (Md.vec l i + (f : Int) * Md.vec r i) % 2 ^ k := by
  have h1 : i < l.length := by rw [hl]; exact hi
  have h2 : i < r.length := by rw [hr]; exact hi
  show (addL k f r l).getD i 0 = (l.getD i 0 + (f : Int) * r.getD i 0) % 2 ^ k
  rw [List.getD_eq_getElem?_getD, List.getD_eq_getElem?_getD (l := l), List.getD_eq_getElem?_getD (l := r), addL, List.getElem?_zipWith, List.getElem?_eq_getElem h1, List.getElem?_eq_getElem h2]
  rfl
section
variable {k n : Nat} {xss yss : List (List Int)} {r l : List Int}
theorem InM.mono (h : InM k n xss l) (s : ∀ xs ∈ xss, xs ∈ yss) : InM k n yss l := ⟨h.len, h.red, h.sum.mono fun y ⟨xs, hx, e⟩ => ⟨xs, s xs hx, e⟩⟩
theorem InM.addL (h : InM k n xss l) (hr : r.length = n) (hm : r ∈ xss) (f : Nat) : InM k n xss (addL k f r l) :=
  ⟨addL_len h.len hr, addL_red, (h.sum.add (Md.S.mul (f : Int) (Md.S.gen ⟨r, hm, rfl⟩))).cg fun i hi => by
    rw [addL_vec h.len hr hi]
    exact Md.mod_cg _⟩
theorem sp2_split {x : Md.Vec} (h : Sp2 k n (xss ++ [r]) x) : ∃ (a : Int) (y : Md.Vec), Sp2 k n xss y ∧ Md.Cg (2 ^ k) n x (fun i => a * Md.vec r i + y i) := by
  obtain ⟨l, h1, h2⟩ := h
  have key : ∀ l : List (Int × Md.Vec), (∀ p ∈ l, Gr (xss ++ [r]) p.2) → ∃ (a : Int) (y : Md.Vec), Sp2 k n xss y ∧ Md.Cg (2 ^ k) n (Md.lin l) (fun i => a * Md.vec r i + y i) := fun l => by
    induction l with
    | nil => exact fun _ => ⟨0, fun _ => 0, Md.S.zero, fun i _ => by
        show (2 : Int) ^ k ∣ 0 - (0 * Md.vec r i + 0)
        rw [Int.zero_mul]
        exact Int.dvd_zero _⟩
    | cons p l ih =>
      intro h
      obtain ⟨a, y, hy, hc⟩ := ih fun q hq => h q (List.mem_cons_of_mem _ hq)
      obtain ⟨xs, hx, e⟩ := h p (List.mem_cons_self ..)
      rcases List.mem_append.mp hx with hx | hx
      · refine ⟨a, fun i => p.1 * p.2 i + y i, (Md.S.mul p.1 (Md.S.gen ⟨xs, hx, e⟩)).add hy, fun i hi => ?_⟩
        have := hc i hi
        show (2 : Int) ^ k ∣ p.1 * p.2 i + Md.lin l i - (a * Md.vec r i + (p.1 * p.2 i + y i))
        rw [show p.1 * p.2 i + Md.lin l i - (a * Md.vec r i + (p.1 * p.2 i + y i)) = Md.lin l i - (a * Md.vec r i + y i) by omega]
        exact this
      · rw [List.mem_singleton.mp hx] at e
        refine ⟨p.1 + a, y, hy, fun i hi => ?_⟩
        have := hc i hi
        show (2 : Int) ^ k ∣ p.1 * p.2 i + Md.lin l i - ((p.1 + a) * Md.vec r i + y i)
        rw [Int.add_mul, ← e, show p.1 * p.2 i + Md.lin l i - (p.1 * p.2 i + a * p.2 i + y i) = Md.lin l i - (a * p.2 i + y i) by omega, e]
        exact this
  obtain ⟨a, y, hy, hc⟩ := key l h1
  exact ⟨a, y, hy, h2.trans hc⟩
/-- each element with one row more is one without it, more a multiple of the row -/
theorem InM.split (h : InM k n (xss ++ [r]) l) (hr : r.length = n) : ∃ l0 f, InM k n xss l0 ∧ f < 2 ^ k ∧ l = K14.addL k f r l0 := by
  obtain ⟨a, y, hy, hc⟩ := sp2_split h.sum
  have f0 := Int.emod_nonneg a (Int.ne_of_gt (Md.p2 k))
  have f1 := Int.emod_lt_of_pos a (Md.p2 k)
  have fn : ((a % 2 ^ k).toNat : Int) = a % 2 ^ k := Int.toNat_of_nonneg f0
  have l0 : InM k n xss (Md.tab n fun i => y i % 2 ^ k) := ⟨Md.tab_len, Md.red_tab fun i _ => ⟨Int.emod_nonneg _ (Int.ne_of_gt (Md.p2 k)), Int.emod_lt_of_pos _ (Md.p2 k)⟩, hy.cg fun i hi => by
    rw [Md.vec_tab hi]
    exact Md.mod_cg _⟩
  refine ⟨_, (a % 2 ^ k).toNat, l0, ?_, ?_⟩
  · have : (((a % 2 ^ k).toNat : Nat) : Int) < ((2 ^ k : Nat) : Int) := by
      rw [fn]
      exact_mod_cast f1
    exact_mod_cast this
  · rw [← Md.tab_vec h.len, ← Md.tab_vec (addL_len (k := k) (f := (a % 2 ^ k).toNat) l0.len hr)]
    refine Md.tab_ext fun i hi => ?_
    rw [addL_vec l0.len hr hi, Md.vec_tab hi, fn, Int.emod_add_emod, ← Int.emod_eq_of_lt (Md.red_vec h.red i).1 (Md.red_vec h.red i).2]
    refine Int.emod_eq_emod_iff_emod_sub_eq_zero.mpr (Int.emod_eq_zero_of_dvd ?_)
    have h1 := hc i hi
    have h2 : (2 : Int) ^ k ∣ (a - a % 2 ^ k) * Md.vec r i := Int.dvd_mul_of_dvd_left (Md.emod_cg a (2 ^ k))
    have := Int.dvd_add h1 h2
    rwa [Int.sub_mul, show Md.vec l i - (a * Md.vec r i + y i) + (a * Md.vec r i - a % 2 ^ k * Md.vec r i) = Md.vec l i - (y i + a % 2 ^ k * Md.vec r i) by omega] at this
end
/-! ### how many lists there are -/
def allL (m : Nat) : Nat → List (List Int)
  | 0 => [[]]
  | n + 1 => (List.range m).flatMap fun a : Nat => (allL m n).map fun l => ((a : Nat) : Int) :: l
theorem allL_len (m : Nat) : ∀ n, (allL m n).length = m ^ n
  | 0 => rfl
  | n + 1 => by
    rw [allL, List.length_flatMap]
    have : (List.range m).map (fun a => ((allL m n).map fun l => ((a : Nat) : Int) :: l).length) = List.replicate m (m ^ n) := by
      apply List.ext_getElem
      · simp
      · intro i h1 h2
        simp [allL_len m n]
    rw [this, List.sum_replicate_nat, Nat.pow_succ, Nat.mul_comm]
theorem allL_mem {m : Nat} : ∀ {n : Nat} {l : List Int}, l.length = n → (∀ a ∈ l, 0 ≤ a ∧ a < (m : Int)) → l ∈ allL m n
  | 0, l, h, _ => by
    rw [List.length_eq_zero_iff.mp h]
    exact List.mem_singleton_self _
  | n + 1, [], h, _ => by cases h
  | n + 1, a :: l, h, hb => by
    obtain ⟨a0, a1⟩ := hb a (List.mem_cons_self ..)
    refine List.mem_flatMap.mpr ⟨a.toNat, List.mem_range.mpr (by omega), List.mem_map.mpr ⟨l, allL_mem (by simpa using h) fun x hx => hb x (List.mem_cons_of_mem _ hx), ?_⟩⟩
    rw [Int.toNat_of_nonneg a0]
theorem nodup_le {α : Type} [BEq α] [LawfulBEq α] : ∀ {L U : List α}, L.Nodup → (∀ a ∈ L, a ∈ U) → L.length ≤ U.length
  | [], _, _, _ => Nat.zero_le _
  | a :: L, U, h, s => by
    have h1 := List.nodup_cons.mp h
    have h2 := nodup_le (L := L) (U := U.erase a) h1.2 fun b hb => (List.mem_erase_of_ne (fun e => h1.1 (by rw [← e]; exact hb))).mpr (s b (List.mem_cons_of_mem _ hb))
    have h3 := s a (List.mem_cons_self ..)
    rw [List.length_erase_of_mem h3] at h2
    have := List.length_pos_of_mem h3
    show L.length + 1 ≤ _
    omega
theorem els_few {k n : Nat} {L : List (List Int)} (h : L.Nodup) (hl : ∀ l ∈ L, l.length = n ∧ Md.RedL k l) : L.length ≤ 2 ^ (k * n) := by
  have := nodup_le h fun l hl' => allL_mem (m := 2 ^ k) (hl l hl').1 fun a ha => by
    have := (hl l hl').2 a ha
    refine ⟨this.1, ?_⟩
    have e : ((2 ^ k : Nat) : Int) = 2 ^ k := by norm_cast
    rw [e]
    exact this.2
  rwa [allL_len, ← Nat.pow_mul] at this
theorem un1 {j : Nat} {A : Around} (h : Room j A) : A.units + 1 < cLine := by
  have := h.units
  omega
theorem sdp {td ty tv : TE} {D : Ends} {σ : L2.St} {H : Hp} (q : tv σ H fun v H1 => td σ H1 fun x H2 => ty σ H2 fun y H3 => ∃ a H4, x = .ref a ∧ DPut H3 a y v H4 ∧ D.nx σ H4) : sDPut td ty tv D σ H := q
def RowD (K : PySem.W.Frag) (n : Nat) (H : Hp) (v : V) (xs : List Int) : Prop := ∃ r, v = .ref r ∧ SqE K H r (xs.map V.int) ∧ xs.length = n
theorem RowD.same {K : PySem.W.Frag} {n : Nat} {H H' : Hp} {v : V} {xs : List Int} (s : Same H H') (h : RowD K n H v xs) : RowD K n H' v xs := by
  obtain ⟨r, h1, h2, h3⟩ := h
  exact ⟨r, h1, h2.same s, h3⟩

section
variable {P : Program} {w : World} {K : PySem.W.Frag} {mg : Str → Option Value} {base : Heap} {A : Ad}
end
end K14

namespace K14
open PySem PySem.Spec PyProof.Rows L2 Lk
local macro_rules | `(tactic| walk_at "lk") => `(tactic| (repeat (first
  | with_reducible refine ssq ?_ | with_reducible refine sas ?_ | with_reducible refine sgn ?_ | ((with_reducible show tVar _ _ _ _); refine sv rfl ?_) | with_reducible refine sc ?_ | with_reducible refine sop ?_ | with_reducible refine sun ?_
  | with_reducible refine sI0 ?_ | with_reducible refine sU ?_ | with_reducible refine stt ?_ | with_reducible refine stB ?_ | with_reducible refine sbl ?_ | with_reducible refine snt ?_ | with_reducible refine sif ?_ | with_reducible refine scB ?_
  | with_reducible refine scn ?_ | with_reducible refine snl ?_ | with_reducible refine scl ?_ | with_reducible refine stu ?_ | with_reducible refine sli ?_ | with_reducible refine sdr ?_ | with_reducible refine srt ?_ | with_reducible refine snx ?_ | with_reducible refine sfor ?_ | with_reducible refine sils ?_ | with_reducible refine sien ?_ | with_reducible refine sor ?_ | with_reducible refine sfg ?_
  | with_reducible refine sav ?_ | with_reducible refine sov ?_ | with_reducible refine snv ?_ | with_reducible refine sch ?_ | with_reducible refine san ?_ | with_reducible refine ssll ?_ | with_reducible refine spt ?_ | with_reducible refine snp ?_ | with_reducible refine sin ?_ | with_reducible refine sfl ?_ | with_reducible refine sfd ?_ | with_reducible refine smt ?_ | with_reducible refine sbt ?_ | with_reducible refine sbm ?_ | with_reducible refine sifx ?_
  | ((with_reducible show Or _ _); first | refine Or.inl ⟨_, rfl, ?_⟩ | refine Or.inr ⟨_, rfl, ?_⟩))))

def spIsInt (K : PySem.W.Frag) : Sp := fun vs H Q _ => ∃ v d, vs = [v] ∧ Dp K H v d ∧ Q (.bl (isIntD d)) H
def spWithin (K : PySem.W.Frag) : Sp := fun vs H Q _ => ∃ v d a b, vs = [v, .int a, .int b] ∧ Dp K H v d ∧ Q (.bl (withinD d a b)) H
def spWidth (K : PySem.W.Frag) : Sp := fun vs H Q _ => ∃ v d, vs = [v] ∧ Dp K H v d ∧ Q (.bl (withinD d 1 64)) H
def spSeq (K : PySem.W.Frag) : Sp := fun vs H Q _ => ∃ v d a b, vs = [v, .int a, .int b] ∧ Dp K H v d ∧ ∀ H', Same H H' → Q (.bl (seqD d a b)) H'
def spFromZ (K : PySem.W.Frag) : Sp := fun vs H Q _ => ∃ n : Nat, vs = [.int (n : Int)] ∧ Q (.bl true) H
def spWrInt (K : PySem.W.Frag) : Sp := fun vs H Q _ => ∃ (a : Addr) (xs : List Int), vs = [.ref a, .int (xs.length : Int)] ∧ SqE K H a (xs.map V.int) ∧ ∀ H', Same H H' → Q .non H'
theorem dp_ints {K : PySem.W.Frag} {H : Hp} : ∀ xs : List Int, DpAll K H (xs.map V.int) (xs.map PyData.int)
  | [] => .nil
  | n :: ns => .cons (.int n) (dp_ints ns)
def spChkList (K : PySem.W.Frag) : Sp := fun vs H Q _ => ∃ (n : Nat) (z : Str) (l : Addr) (us : List V) (xss : List (List Int)), vs = [.int (n : Int), .str z, .ref l] ∧ SqE K H l us ∧ F2 (RowD K n H) us xss ∧ ∀ H', Same H H' → Q .non H'
/-- rows as data -/
theorem rows_dp {K : PySem.W.Frag} {n : Nat} {H : Hp} : ∀ {us : List V} {xss : List (List Int)}, F2 (RowD K n H) us xss → ∃ ds, DpAll K H us ds
  | _, _, .nil => ⟨[], .nil⟩
  | _, _, .cons h t => by
    obtain ⟨ds, hd⟩ := rows_dp t
    obtain ⟨r, rfl, hr, _⟩ := h
    rcases hr with hr | hr
    · exact ⟨_, .cons (.lst hr (dp_ints _)) hd⟩
    · exact ⟨_, .cons (.tup hr (dp_ints _)) hd⟩

section
variable {P : Program} {w : World} {K : PySem.W.Frag} {mg : Str → Option Value} {base : Heap} {A : Ad}
abbrev s_is_integer : Stmt := top 5
theorem sc_is_integer : FnScope ["value"] ["value"] (defScope s_is_integer) := ⟨rfl, rfl, rfl, by decide +kernel, rfl, by decide +kernel, by decide +kernel⟩
theorem ok_is_integer {f : Addr} {fd : FuncData} (F : Fun K "is_integer" "is_integer" s_is_integer f fd) (T : Txt P w K mg base A) : FnOk P w K mg base CX0 1 f fd ["value"] (spIsInt K) := by
  refine F.ok sc_is_integer (fun vs H Q E h => ?_) (fun cdv Ar outer s H vs Q E hr h => ?_)
  · obtain ⟨v, d, rfl, _⟩ := h
    rfl
  · obtain ⟨v, d, rfl, hd, k⟩ := h
    refine ⟨_, (pss_one (ps_ret (pe_and (pe_callB call_isi (by rfl) T.z_isinstance (by decide +kernel) (pa_cons (pv 0) (pa_cons (pe_bltn (v := .ty "int") (by rfl) T.z_int (by first | exact PySem.boot_int | decide +kernel) rfl) pa_nil))) (pe_one (pe_not (pe_callB call_isi (by rfl) T.z_isinstance (by decide +kernel) (pa_cons (pv 0) (pa_cons (pe_bltn (v := .ty "bool") (by rfl) T.z_bool (by first | exact PySem.boot_bool | decide +kernel) rfl) pa_nil)))))))), ?_⟩
    walk_at "lk"
    refine s_isi hd (ki_int d) ?_
    walk_at "lk"
    cases d with
    | int i =>
      refine ite2 (fun _ => ?_) (fun z => absurd rfl z)
      walk_at "lk"
      refine s_isi hd (ki_bool _) ?_
      walk_at "lk"
      exact k
    | bool b =>
      refine ite2 (fun _ => ?_) (fun z => absurd rfl z)
      walk_at "lk"
      refine s_isi hd (ki_bool _) ?_
      walk_at "lk"
      exact k
    | _ => exact k
abbrev s_is_within : Stmt := top 6
theorem sc_is_within : FnScope ["value", "least", "most"] ["value", "least", "most"] (defScope s_is_within) := ⟨rfl, rfl, rfl, by decide +kernel, rfl, by decide +kernel, by decide +kernel⟩
theorem ok_is_within {f : Addr} {fd : FuncData} (F : Fun K "is_within" "is_within" s_is_within f fd) (T : Txt P w K mg base A) (c_is_integer : Cal P w K mg base 1 "is_integer" ["value"] (spIsInt K)) : FnOk P w K mg base CX0 2 f fd ["value", "least", "most"] (spWithin K) := by
  refine F.ok sc_is_within (fun vs H Q E h => ?_) (fun cdv Ar outer s H vs Q E hr h => ?_)
  · obtain ⟨v, d, a, b, rfl, _⟩ := h
    rfl
  · obtain ⟨v, d, a, b, rfl, hd, k⟩ := h
    refine ⟨_, (pss_one (ps_ret (pe_and (pcal c_is_integer hr (by decide) (pa_cons (pv 0) pa_nil)) (pe_one (pe_chain op_le op_le (pv 1) (pv 0) (pv 2)))))), ?_⟩
    walk_at "lk"
    refine ⟨v, d, rfl, hd, ?_⟩
    walk_at "lk"
    cases d with
    | int i =>
      cases hd
      refine ite2 (fun _ => ?_) (fun z => absurd rfl z)
      walk_at "lk"
      by_cases ha : a ≤ i
      · have e : withinD (.int i) a b = decide (i ≤ b) := by simp [withinD, ha]
        rw [e] at k
        rw [if_pos (decide_eq_true ha)]
        walk_at "lk"
        exact k
      · have e : withinD (.int i) a b = false := by simp [withinD, ha]
        rw [e] at k
        rw [if_neg (by simpa using ha)]
        exact k
    | _ => exact k
abbrev s_is_width : Stmt := top 7
theorem sc_is_width : FnScope ["value"] ["value"] (defScope s_is_width) := ⟨rfl, rfl, rfl, by decide +kernel, rfl, by decide +kernel, by decide +kernel⟩
theorem ok_is_width {f : Addr} {fd : FuncData} (F : Fun K "is_width" "is_width" s_is_width f fd) (T : Txt P w K mg base A) (c_is_within : Cal P w K mg base 2 "is_within" ["value", "least", "most"] (spWithin K)) : FnOk P w K mg base CX0 3 f fd ["value"] (spWidth K) := by
  refine F.ok sc_is_width (fun vs H Q E h => ?_) (fun cdv Ar outer s H vs Q E hr h => ?_)
  · obtain ⟨v, d, rfl, _⟩ := h
    rfl
  · obtain ⟨v, d, rfl, hd, k⟩ := h
    refine ⟨_, (pss_one (ps_ret (pcal c_is_within hr (by decide) (pa_cons (pv 0) (pa_cons pe_int (pa_cons (pe_gint (by rfl) T.g_WIDEST) pa_nil)))))), ?_⟩
    walk_at "lk"
    exact ⟨v, d, 1, 64, rfl, hd, k⟩
abbrev s_is_sequence : Stmt := top 8
theorem sc_is_sequence : FnScope ["value", "least", "most"] ["value", "least", "most"] (defScope s_is_sequence) := ⟨rfl, rfl, rfl, by decide +kernel, rfl, by decide +kernel, by decide +kernel⟩
theorem ok_is_sequence {f : Addr} {fd : FuncData} (F : Fun K "is_sequence" "is_sequence" s_is_sequence f fd) (T : Txt P w K mg base A) : FnOk P w K mg base CX0 1 f fd ["value", "least", "most"] (spSeq K) := by
  refine F.ok sc_is_sequence (fun vs H Q E h => ?_) (fun cdv Ar outer s H vs Q E hr h => ?_)
  · obtain ⟨v, d, a, b, rfl, _⟩ := h
    rfl
  · obtain ⟨v, d, a, b, rfl, hd, k⟩ := h
    refine ⟨_, (pss_one (ps_ret (pe_and (pe_callB call_isiT (by rfl) T.z_isinstance (by decide +kernel) (pa_cons (pv 0) (pa_cons (pe_tup (pa_cons (pe_bltn (v := .ty "list") (by rfl) T.z_list (by first | exact PySem.boot_list | decide +kernel) rfl) (pa_cons (pe_bltn (v := .ty "tuple") (by rfl) T.z_tuple (by first | exact PySem.boot_tuple | decide +kernel) rfl) pa_nil))) pa_nil))) (pe_one (pe_chain op_le op_le (pv 1) (pe_callB call_len_seq (by rfl) T.z_len PySem.boot_len (pa_cons (pv 0) pa_nil)) (pv 2)))))), ?_⟩
    walk_at "lk"
    refine snw (Nat.le_of_ble_eq_true rfl) fun t ht => ?_
    have s1 : Same H (upd H t (.tup [.ty "list", .ty "tuple"])) := same_new ht
    walk_at "lk"
    refine s_isiLT (dp_same s1 hd) upd_same ?_
    walk_at "lk"
    have hd1 := dp_same s1 hd
    have k1 := k _ s1
    generalize upd H t (.tup [.ty "list", .ty "tuple"]) = H1 at hd1 k1 ⊢
    cases d with
    | list ds =>
      refine ite2 (fun _ => ?_) (fun z => absurd rfl z)
      obtain ⟨p, xs, rfl, hx, hds⟩ := dp_listI hd1
      walk_at "lk"
      refine ⟨p, xs, rfl, .inl hx, ?_⟩
      rw [dpa_len hds]
      walk_at "lk"
      have k2 := two_le k1
      refine ite2 (fun e => ?_) (fun e => ?_)
      · rw [if_pos e] at k2
        walk_at "lk"
        exact k2
      · rw [if_neg e] at k2
        exact k2
    | tuple ds =>
      refine ite2 (fun _ => ?_) (fun z => absurd rfl z)
      obtain ⟨p, xs, rfl, hx, hds⟩ := dp_tupI hd1
      walk_at "lk"
      refine ⟨p, xs, rfl, .inr hx, ?_⟩
      rw [dpa_len hds]
      walk_at "lk"
      have k2 := two_le k1
      refine ite2 (fun e => ?_) (fun e => ?_)
      · rw [if_pos e] at k2
        walk_at "lk"
        exact k2
      · rw [if_neg e] at k2
        exact k2
    | _ => exact k1
abbrev s_wrong_integer : Stmt := top 9
theorem sc_wrong_integer : FnScope ["value", "size", "index", "item"] ["value", "size"] (defScope s_wrong_integer) := ⟨rfl, rfl, rfl, by decide +kernel, rfl, by decide +kernel, by decide +kernel⟩
theorem ok_wrong_integer {f : Addr} {fd : FuncData} (F : Fun K "wrong_integer" "wrong_integer" s_wrong_integer f fd) (T : Txt P w K mg base A) (c_is_sequence : Cal P w K mg base 1 "is_sequence" ["value", "least", "most"] (spSeq K)) (c_is_integer : Cal P w K mg base 1 "is_integer" ["value"] (spIsInt K)) : FnOk P w K mg base CX0 2 f fd ["value", "size"] (spWrInt K) := by
  refine F.ok sc_wrong_integer (fun vs H Q E h => ?_) (fun cdv Ar outer s H vs Q E hr h => ?_)
  · obtain ⟨a, xs, rfl, _⟩ := h
    rfl
  · obtain ⟨a, xs, rfl, hx, q⟩ := h
    refine ⟨_, (pss_cons (ps_if (pt_not (pt_val (pcal c_is_sequence hr (by decide) (pa_cons (pv 0) (pa_cons (pv 1) (pa_cons (pv 1) pa_nil)))))) (pss_one (ps_ret (pe_un un_neg pe_int))) pss_nil)
        (pss_cons (ps_for PassesOwn.never rfl (pi_enumE (by rfl) T.z_enumerate (pa_cons (pv 0) pa_nil)) (pg_tup rfl (pgs_cons (pg_name (i := 2) sc_wrong_integer.nd rfl (Or.inl rfl)) (pgs_cons (pg_name (i := 3) sc_wrong_integer.nd rfl (Or.inl rfl)) pgs_nil))) (pss_one (ps_if (pt_not (pt_val (pcal c_is_integer hr (by decide) (pa_cons (pv 3) pa_nil)))) (pss_one (ps_ret (pv 2))) pss_nil)))
        (pss_one (ps_ret pe_non)))), ?_⟩
    obtain ⟨d, hd, hs⟩ := sqe_seq hx (dp_ints xs)
    walk_at "lk"
    refine ⟨.ref a, d, (xs.length : Int), (xs.length : Int), rfl, hd, fun H1 s1 => ?_⟩
    rw [hs _ _ (by rw [List.length_map]; omega) (by rw [List.length_map]; omega)]
    walk_at "lk"
    refine iff_ rfl ?_
    walk_at "lk"
    refine for_enE (xs := xs.map V.int) (fun i σ' H' => (∃ e1 e2, σ' = [some (.ref a), some (.int (xs.length : Int)), e1, e2]) ∧ Same H1 H') rfl (hx.same s1) ⟨⟨_, _, rfl⟩, Same.refl _⟩ (fun i σ' H' h => h.2) ?_ ?_
    · rintro i v p σ' H' hi ⟨⟨e1, e2, rfl⟩, s2⟩ hp
      have s3 : Same H1 (upd H' p (.tup [.int (i : Nat), v])) := s2.trans (same_new hp)
      refine g_pair (SqT.of upd_same) ?_
      generalize upd H' p (.tup [.int (i : Nat), v]) = H3 at s3 ⊢
      rw [List.getElem?_map] at hi
      obtain ⟨z, hz, rfl⟩ := Option.map_eq_some_iff.mp hi
      walk_at "lk"
      refine ⟨.int z, .int z, rfl, .int z, ?_⟩
      walk_at "lk"
      refine iff_ rfl ?_
      exact ⟨⟨_, _, rfl⟩, s3⟩
    · rintro σ' H' ⟨⟨e1, e2, rfl⟩, s2⟩
      walk_at "lk"
      exact q _ (s1.trans s2)
theorem sqe_lt {K : PySem.W.Frag} {H : Hp} {t : Addr} {xs : List V} {ds : List PyData} (h : SqE K H t xs) (hd : DpAll K H xs ds) : ∃ d, Dp K H (.ref t) d ∧ (isListD d || isTupD d) = true := by
  rcases h with h | h
  · exact ⟨_, .lst h hd, rfl⟩
  · exact ⟨_, .tup h hd, rfl⟩

abbrev s__check_list : Stmt := top 19
theorem sc__check_list : FnScope ["size", "part", "rows", "index", "row"] ["size", "part", "rows"] (defScope s__check_list) := ⟨rfl, rfl, rfl, by decide +kernel, rfl, by decide +kernel, by decide +kernel⟩
theorem ok_check_list {f : Addr} {fd : FuncData} (F : Fun K "_check_list" "_check_list" s__check_list f fd) (T : Txt P w K mg base A) (c_wrong_integer : Cal P w K mg base 2 "wrong_integer" ["value", "size"] (spWrInt K)) : FnOk P w K mg base CX0 3 f fd ["size", "part", "rows"] (spChkList K) := by
  refine F.ok sc__check_list (fun vs H Q E h => ?_) (fun cdv Ar outer s H vs Q E hr h => ?_)
  · obtain ⟨n, z, l, us, xss, rfl, _⟩ := h
    rfl
  · obtain ⟨n, z, l, us, xss, rfl, hl, hr0, q⟩ := h
    refine ⟨_, (pss_cons (ps_if (pt_not (pt_val (pe_callB call_isiT (by rfl) T.z_isinstance (by decide +kernel) (pa_cons (pv 2) (pa_cons (pe_tup (pa_cons (pe_bltn (v := .ty "list") (by rfl) T.z_list (by first | exact PySem.boot_list | decide +kernel) rfl) (pa_cons (pe_bltn (v := .ty "tuple") (by rfl) T.z_tuple (by first | exact PySem.boot_tuple | decide +kernel) rfl) pa_nil))) pa_nil))))) (pss_one ps_never) pss_nil)
        (pss_one (ps_for PassesOwn.never rfl (pi_enumE (by rfl) T.z_enumerate (pa_cons (pv 2) pa_nil)) (pg_tup rfl (pgs_cons (pg_name (i := 3) sc__check_list.nd rfl (Or.inl rfl)) (pgs_cons (pg_name (i := 4) sc__check_list.nd rfl (Or.inl rfl)) pgs_nil))) (pss_one (ps_if (pt_cmpR op_notN (pcal c_wrong_integer hr (by decide) (pa_cons (pv 4) (pa_cons (pv 0) pa_nil))) pe_non (nomark _)) (pss_one ps_never) pss_nil))))), ?_⟩
    obtain ⟨ds, hds⟩ := rows_dp hr0
    obtain ⟨d, hd, hs⟩ := sqe_lt hl hds
    walk_at "lk"
    refine snw (Nat.le_of_ble_eq_true rfl) fun p0 hp0 => ?_
    have s1 : Same H (upd H p0 (.tup [.ty "list", .ty "tuple"])) := same_new hp0
    have e0 : (upd H p0 (.tup [.ty "list", .ty "tuple"])) p0 = some (.tup [.ty "list", .ty "tuple"]) := upd_same
    generalize upd H p0 (.tup [.ty "list", .ty "tuple"]) = H1 at s1 e0 ⊢
    walk_at "lk"
    refine s_isiLT (dp_same s1 hd) e0 ?_
    rw [hs]
    walk_at "lk"
    refine iff_ rfl ?_
    walk_at "lk"
    refine for_enE (xs := us) (fun i σ' H' => (∃ e1 e2, σ' = [some (.int (n : Int)), some (.str z), some (.ref l), e1, e2]) ∧ Same H1 H') rfl (hl.same s1) ⟨⟨_, _, rfl⟩, Same.refl _⟩ (fun i σ' H' h => h.2) ?_ ?_
    · rintro i v p σ' H' hi ⟨⟨e1, e2, rfl⟩, s2⟩ hp
      have s3 : Same H1 (upd H' p (.tup [.int (i : Nat), v])) := s2.trans (same_new hp)
      refine g_pair (SqT.of upd_same) ?_
      generalize upd H' p (.tup [.int (i : Nat), v]) = H3 at s3 ⊢
      obtain ⟨xs, hxs, r, rfl, hrr, hrl⟩ := hr0.at hi
      subst hrl
      walk_at "lk"
      refine ⟨r, xs, rfl, hrr.same (s1.trans s3), fun H4 s4 => ?_⟩
      walk_at "lk"
      refine ⟨rfl, ?_⟩
      walk_at "lk"
      refine iff_ rfl ?_
      exact ⟨⟨_, _, rfl⟩, s3.trans s4⟩
    · rintro σ' H' ⟨⟨e1, e2, rfl⟩, s2⟩
      walk_at "lk"
      exact q _ (s1.trans s2)
end
end K14

namespace K14
open PySem PySem.Spec PyProof.Rows L2 Lk
local macro_rules | `(tactic| walk_at "lk") => `(tactic| (repeat (first
  | with_reducible refine ssq ?_ | with_reducible refine sas ?_ | with_reducible refine sgn ?_ | ((with_reducible show tVar _ _ _ _); refine sv rfl ?_) | with_reducible refine sc ?_ | with_reducible refine sop ?_ | with_reducible refine sun ?_
  | with_reducible refine sI0 ?_ | with_reducible refine sU ?_ | with_reducible refine stt ?_ | with_reducible refine stB ?_ | with_reducible refine sbl ?_ | with_reducible refine snt ?_ | with_reducible refine sif ?_ | with_reducible refine scB ?_
  | with_reducible refine scn ?_ | with_reducible refine snl ?_ | with_reducible refine scl ?_ | with_reducible refine stu ?_ | with_reducible refine sli ?_ | with_reducible refine sdr ?_ | with_reducible refine srt ?_ | with_reducible refine snx ?_ | with_reducible refine sfor ?_ | with_reducible refine sils ?_ | with_reducible refine sien ?_ | with_reducible refine sor ?_ | with_reducible refine sfg ?_
  | with_reducible refine sav ?_ | with_reducible refine sov ?_ | with_reducible refine snv ?_ | with_reducible refine sch ?_ | with_reducible refine san ?_ | with_reducible refine ssll ?_ | with_reducible refine spt ?_ | with_reducible refine snp ?_ | with_reducible refine sin ?_ | with_reducible refine sfl ?_ | with_reducible refine sfd ?_ | with_reducible refine smt ?_ | with_reducible refine sbt ?_ | with_reducible refine sbm ?_ | with_reducible refine sifx ?_
  | ((with_reducible show Or _ _); first | refine Or.inl ⟨_, rfl, ?_⟩ | refine Or.inr ⟨_, rfl, ?_⟩))))

/-! ### the law's own draws -/
def spSource : Sp := fun vs H Q _ => ∃ c : Int, vs = [.int c] ∧ ∀ (p : Addr) (H' : Hp), Same H H' → H p = none → Wl H' p → Q (.ref p) H'
def spDraw : Sp := fun vs H Q _ => ∃ (p : Addr) (m : Int), vs = [.ref p, .int m] ∧ 0 < m ∧ m.natAbs < 2 ^ 100 ∧ Wl H p ∧ ∀ (r : Int) (H' : Hp), 0 ≤ r → r < m → Wk p H H' → Q (.int r) H'
def spPick : Sp := fun vs H Q _ => ∃ (p l : Addr) (xs : List V), vs = [.ref p, .ref l] ∧ Wl H p ∧ l ≠ p ∧ H l = some (.lst xs) ∧ 0 < xs.length ∧ xs.length ≤ 1000 ∧ ∀ (v : V) (H' : Hp), v ∈ xs → Wk p H H' → Q v H'
def spNumber : Sp := fun vs H Q _ => ∃ (p : Addr) (k : Nat), vs = [.ref p, .int (k : Int)] ∧ k ≤ 64 ∧ Wl H p ∧ ∀ (r : Int) (H' : Hp), r.natAbs < 2 ^ 200 → Wk p H H' → Q (.int r) H'
theorem pw_abs {k : Nat} (h : k ≤ 64) : ((2 : Int) ^ k).natAbs < 2 ^ 70 := by
  rw [Int.natAbs_pow]
  exact Nat.pow_lt_pow_right (by decide) (by omega)

section
variable {P : Program} {w : World} {K : PySem.W.Frag} {mg : Str → Option Value} {base : Heap} {A : Ad}
abbrev s__law_source : Stmt := top 22
theorem sc__law_source : FnScope ["_law_cell"] ["_law_cell"] (defScope s__law_source) := ⟨rfl, rfl, rfl, by decide +kernel, rfl, by decide +kernel, by decide +kernel⟩
theorem ok_source {f : Addr} {fd : FuncData} (F : Fun K "_law_source" "_law_source" s__law_source f fd) (T : Txt P w K mg base A) : FnOk P w K mg base CX0 1 f fd ["_law_cell"] spSource := by
  refine F.ok sc__law_source (fun vs H Q E h => ?_) (fun cdv Ar outer s H vs Q E hr h => ?_)
  · obtain ⟨c, rfl, _⟩ := h
    rfl
  · obtain ⟨c, rfl, q⟩ := h
    refine ⟨_, (pss_one (ps_ret (pe_lst (pa_cons (pe_op op_mul (pe_callB call_abs (by rfl) T.z_abs (by decide +kernel) (pa_cons (pv 0) pa_nil)) (pe_callTy call_int1 (by rfl) T.z_int (by decide +kernel) (pa_cons (pe_cmpR op_ge (pe_callB call_abs (by rfl) T.z_abs (by decide +kernel) (pa_cons (pv 0) pa_nil)) (pe_op op_pow pe_int pe_int) (nomark _)) pa_nil))) (pa_cons (pe_op op_mod (pe_callTy call_int1 (by rfl) T.z_int (by decide +kernel) (pa_cons (pe_callB call_abs (by rfl) T.z_abs (by decide +kernel) (pa_cons (pv 0) pa_nil)) pa_nil)) pe_int) (pa_cons pe_int pa_nil)))))), ?_⟩
    walk_at "lk"
    refine ⟨c, rfl, ?_⟩
    walk_at "lk"
    refine ⟨c, rfl, ?_⟩
    walk_at "lk"
    refine sI ⟨by decide, by decide, by decide⟩ ?_
    walk_at "lk"
    refine sI (cmul01 _) ?_
    walk_at "lk"
    refine ⟨c, rfl, ?_⟩
    walk_at "lk"
    refine sI (by decide) ?_
    walk_at "lk"
    refine snw (Nat.le_of_ble_eq_true rfl) fun p hp => ?_
    exact q p _ (same_new hp) hp ⟨_, _, _, upd_same⟩
abbrev s__law_draw : Stmt := top 23
theorem sc__law_draw : FnScope ["_law_source_here", "_law_many", "_law_number_here", "_law_digit"] ["_law_source_here", "_law_many"] (defScope s__law_draw) := ⟨rfl, rfl, rfl, by decide +kernel, rfl, by decide +kernel, by decide +kernel⟩
theorem ok_draw {f : Addr} {fd : FuncData} (F : Fun K "_law_draw" "_law_draw" s__law_draw f fd) (T : Txt P w K mg base A) : FnOk P w K mg base CX0 1 f fd ["_law_source_here", "_law_many"] spDraw := by
  refine F.ok sc__law_draw (fun vs H Q E h => ?_) (fun cdv Ar outer s H vs Q E hr h => ?_)
  · obtain ⟨p, m, rfl, _⟩ := h
    rfl
  · obtain ⟨p, m, rfl, m0, m1, hw, k⟩ := h
    refine ⟨_, (pss_cons (ps_if (pt_cmpR op_gt (pe_ix ix_list (pv 0) pe_int (fun _ _ => rfl)) pe_int (nomark _)) (pss_cons (ps_set (i := 3) sc__law_draw.nd rfl (Or.inl rfl) (pe_op op_mod (pe_callTy call_int1 (by rfl) T.z_int (by decide +kernel) (pa_cons (pe_ix ix_list (pv 0) pe_int (fun _ _ => rfl)) pa_nil)) (pv 1)))
        (pss_cons (ps_asg (pe_op op_fdivW (pe_ix ix_list (pv 0) pe_int (fun _ _ => rfl)) (pv 1)) (pg_sub (pv 0) pe_int set_list))
        (pss_one (ps_ret (pv 3))))) pss_nil)
        (pss_cons (ps_asg (pe_op op_add (pe_ix ix_list (pv 0) pe_int (fun _ _ => rfl)) pe_int) (pg_sub (pv 0) pe_int set_list))
        (pss_cons (ps_set (i := 2) sc__law_draw.nd rfl (Or.inl rfl) (pe_op op_mod (pe_callTy call_int1 (by rfl) T.z_int (by decide +kernel) (pa_cons (pe_op op_mul (pe_op op_add (pe_op op_add (pe_ix ix_list (pv 0) pe_int (fun _ _ => rfl)) (pe_op op_mul pe_int (pe_ix ix_list (pv 0) pe_int (fun _ _ => rfl)))) pe_int) pe_int) pa_nil)) pe_int))
        (pss_cons (ps_set (i := 2) sc__law_draw.nd rfl (Or.inl rfl) (pe_op op_mod (pe_callTy call_int1 (by rfl) T.z_int (by decide +kernel) (pa_cons (pe_op op_mul (pv 2) (pe_op op_add (pe_op op_fdiv (pv 2) pe_int) pe_int)) pa_nil)) pe_int))
        (pss_one (ps_ret (pe_op op_mod (pe_callTy call_int1 (by rfl) T.z_int (by decide +kernel) (pa_cons (pe_op op_mod (pe_callTy call_int1 (by rfl) T.z_int (by decide +kernel) (pa_cons (pe_op op_mul (pv 2) (pe_op op_add (pe_op op_fdiv (pv 2) pe_int) pe_int)) pa_nil)) pe_int) pa_nil)) (pv 1)))))))), ?_⟩
    obtain ⟨a, b, c, hp⟩ := hw
    walk_at "lk"
    refine sfr (SqL.of hp) (by rfl) ?_
    walk_at "lk"
    refine ite2 (fun z => ?_) (fun z => ?_)
    · walk_at "lk"
      refine sfr (SqL.of hp) (by rfl) ?_
      walk_at "lk"
      refine sI m0 ?_
      walk_at "lk"
      refine sfr (SqL.of hp) (by rfl) ?_
      walk_at "lk"
      refine sI (wide_div m0 m1 (by decide) (by decide)) ?_
      walk_at "lk"
      refine ssl hp (by rfl) ?_
      walk_at "lk"
      exact k _ _ (Int.emod_nonneg _ (by omega)) (Int.emod_lt_of_pos _ m0) Wk.upd
    · walk_at "lk"
      refine sfr (SqL.of hp) (by rfl) ?_
      walk_at "lk"
      refine ssl hp (by rfl) ?_
      walk_at "lk"
      refine sfr (SqL.of upd_same) (by rfl) ?_
      walk_at "lk"
      refine sfr (SqL.of upd_same) (by rfl) ?_
      refine sI (.inl ⟨by decide, by decide⟩) ?_
      walk_at "lk"
      refine sI (.inr ⟨by decide, by decide⟩) ?_
      walk_at "lk"
      refine sI (by decide) ?_
      walk_at "lk"
      refine sI ⟨by decide, by decide⟩ ?_
      walk_at "lk"
      refine sI (.inl ⟨by omega, by omega⟩) ?_
      walk_at "lk"
      refine sI (by decide) ?_
      walk_at "lk"
      refine sI ⟨by decide, by decide⟩ ?_
      walk_at "lk"
      refine sI (.inl ⟨by omega, by omega⟩) ?_
      walk_at "lk"
      refine sI (by decide) ?_
      walk_at "lk"
      refine sI m0 ?_
      exact k _ _ (Int.emod_nonneg _ (by omega)) (Int.emod_lt_of_pos _ m0) Wk.upd
abbrev s__law_pick : Stmt := top 24
theorem sc__law_pick : FnScope ["_law_source_here", "_law_items"] ["_law_source_here", "_law_items"] (defScope s__law_pick) := ⟨rfl, rfl, rfl, by decide +kernel, rfl, by decide +kernel, by decide +kernel⟩
theorem ok_pick {f : Addr} {fd : FuncData} (F : Fun K "_law_pick" "_law_pick" s__law_pick f fd) (T : Txt P w K mg base A) (c__law_draw : Cal P w K mg base 1 "_law_draw" ["_law_source_here", "_law_many"] spDraw) : FnOk P w K mg base CX0 2 f fd ["_law_source_here", "_law_items"] spPick := by
  refine F.ok sc__law_pick (fun vs H Q E h => ?_) (fun cdv Ar outer s H vs Q E hr h => ?_)
  · obtain ⟨p, l, xs, rfl, _⟩ := h
    rfl
  · obtain ⟨p, l, xs, rfl, hw, hlp, hl, h0, h1, k⟩ := h
    refine ⟨_, (pss_one (ps_ret (pe_ix ix_list (pv 1) (pcal c__law_draw hr (by decide) (pa_cons (pv 0) (pa_cons (pe_callB call_len_seq (by rfl) T.z_len PySem.boot_len (pa_cons (pv 1) pa_nil)) pa_nil))) (fun _ _ => rfl)))), ?_⟩
    walk_at "lk"
    refine ⟨l, xs, rfl, .inl (SqL.of hl), ?_⟩
    walk_at "lk"
    refine ⟨p, xs.length, rfl, by omega, Nat.lt_of_le_of_lt (show (xs.length : Int).natAbs ≤ 1000 by omega) (by decide), hw, fun r H' r0 r1 wk => ?_⟩
    obtain ⟨j, rfl⟩ : ∃ j : Nat, r = (j : Int) := ⟨r.toNat, by omega⟩
    have hj : j < xs.length := by omega
    refine sfr (SqL.of (wk.at hlp hl)) (Lk.atI_nat (List.getElem?_eq_getElem hj)) ?_
    exact k _ _ (List.getElem_mem hj) wk
abbrev s__law_number : Stmt := top 25
theorem sc__law_number : FnScope ["_law_source_here", "_law_width", "_law_number_here"] ["_law_source_here", "_law_width"] (defScope s__law_number) := ⟨rfl, rfl, rfl, by decide +kernel, rfl, by decide +kernel, by decide +kernel⟩
theorem ok_number {f : Addr} {fd : FuncData} (F : Fun K "_law_number" "_law_number" s__law_number f fd) (T : Txt P w K mg base A) (c__law_draw : Cal P w K mg base 1 "_law_draw" ["_law_source_here", "_law_many"] spDraw) (c__law_pick : Cal P w K mg base 2 "_law_pick" ["_law_source_here", "_law_items"] spPick) : FnOk P w K mg base CX0 3 f fd ["_law_source_here", "_law_width"] spNumber := by
  refine F.ok sc__law_number (fun vs H Q E h => ?_) (fun cdv Ar outer s H vs Q E hr h => ?_)
  · obtain ⟨p, k, rfl, _⟩ := h
    rfl
  · obtain ⟨p, k, rfl, hk, hw, q⟩ := h
    refine ⟨_, (pss_cons (ps_set (i := 2) sc__law_number.nd rfl (Or.inl rfl) (pe_op op_shlN (pcal c__law_draw hr (by decide) (pa_cons (pv 0) (pa_cons (pe_op op_oneShl pe_int (pv 1)) pa_nil))) (pcal c__law_draw hr (by decide) (pa_cons (pv 0) (pa_cons (pe_op op_add (pv 1) pe_int) pa_nil)))))
        (pss_one (ps_ret (pe_op op_sub (pv 2) (pe_op op_mulX (pe_op op_oneShl pe_int (pv 1)) (pcal c__law_pick hr (by decide) (pa_cons (pv 0) (pa_cons (pe_lst (pa_cons pe_int (pa_cons pe_int (pa_cons pe_int (pa_cons pe_int (pa_cons (pe_op op_pow pe_int pe_int) pa_nil)))))) pa_nil)))))))), ?_⟩
    have pk := pw_abs hk
    walk_at "lk"
    refine ⟨k, rfl, rfl, by omega, ?_⟩
    walk_at "lk"
    refine ⟨p, _, rfl, Int.pow_pos (by decide), Nat.lt_trans pk (by decide), hw, fun r1 H1 a0 a1 w1 => ?_⟩
    walk_at "lk"
    refine ⟨p, ((k + 1 : Nat) : Int), rfl, by omega, Nat.lt_of_le_of_lt (show ((k + 1 : Nat) : Int).natAbs ≤ 65 by omega) (by decide), w1.2, fun r2 H2 b0 b1 w2 => ?_⟩
    obtain ⟨j, rfl⟩ : ∃ j : Nat, r2 = (j : Int) := ⟨r2.toNat, by omega⟩
    have hj : j ≤ 64 := by omega
    have ra : r1.natAbs < 2 ^ 70 := by
      have : r1.natAbs ≤ ((2 : Int) ^ k).natAbs := by omega
      omega
    refine ⟨r1, j, rfl, rfl, ⟨by omega, ?_⟩, ?_⟩
    · have := intBits_lt ra
      omega
    walk_at "lk"
    refine ⟨k, rfl, rfl, by omega, ?_⟩
    walk_at "lk"
    refine sI ⟨by decide, by decide, by decide⟩ ?_
    walk_at "lk"
    refine snw (Nat.le_of_ble_eq_true rfl) fun l hl => ?_
    have w12 := w1.trans w2
    have s3 : Same H2 (upd H2 l (.lst ([0, 0, 0, 1, 3 ^ (50 : Int).toNat].map V.int))) := same_new hl
    have e3 : (upd H2 l (.lst ([0, 0, 0, 1, 3 ^ (50 : Int).toNat].map V.int))) l = some (.lst ([0, 0, 0, 1, 3 ^ (50 : Int).toNat].map V.int)) := upd_same
    have nl : l ≠ p := ne_new w12.2 hl
    show tNil _ (upd H2 l (.lst ([0, 0, 0, 1, 3 ^ (50 : Int).toNat].map V.int))) _
    generalize upd H2 l (.lst ([0, 0, 0, 1, 3 ^ (50 : Int).toNat].map V.int)) = H3 at s3 e3 ⊢
    have w3 := w12.st s3
    walk_at "lk"
    refine ⟨p, l, _, rfl, w3.2, nl, e3, by decide, by decide, fun v H4 hv w4 => ?_⟩
    obtain ⟨z, hz, rfl⟩ := List.mem_map.mp hv
    have za : z.natAbs < 2 ^ 90 := by
      have : ∀ z ∈ ([0, 0, 0, 1, 3 ^ (50 : Int).toNat] : List Int), z.natAbs < 2 ^ 90 := by decide
      exact this z hz
    refine sI (mul_le pk za (by decide)) ?_
    walk_at "lk"
    refine q _ H4 ?_ (w3.trans w4)
    have m1 : ((2 : Int) ^ k * z).natAbs < 2 ^ 160 := ab_mul pk za
    have m2 : (r1 * 2 ^ j).natAbs < 2 ^ 140 := by
      rw [Int.natAbs_mul, show (2 : Nat) ^ 140 = 2 ^ 70 * 2 ^ 70 by decide]
      exact Nat.mul_lt_mul'' ra (pw_abs hj)
    have h3 : (r1 * 2 ^ j - 2 ^ k * z).natAbs ≤ (r1 * 2 ^ j).natAbs + ((2 : Int) ^ k * z).natAbs := Int.natAbs_sub_le _ _
    have h4 : (2 : Nat) ^ 140 + 2 ^ 160 < 2 ^ 200 := by decide
    omega
end
end K14

namespace K14
open PySem PySem.Spec PyProof.Rows L2 Lk
local macro_rules | `(tactic| walk_at "lk") => `(tactic| (repeat (first
  | with_reducible refine ssq ?_ | with_reducible refine sas ?_ | with_reducible refine sgn ?_ | ((with_reducible show tVar _ _ _ _); refine sv rfl ?_) | with_reducible refine sc ?_ | with_reducible refine sop ?_ | with_reducible refine sun ?_
  | with_reducible refine sI0 ?_ | with_reducible refine sU ?_ | with_reducible refine stt ?_ | with_reducible refine stB ?_ | with_reducible refine sbl ?_ | with_reducible refine snt ?_ | with_reducible refine sif ?_ | with_reducible refine scB ?_
  | with_reducible refine scn ?_ | with_reducible refine snl ?_ | with_reducible refine scl ?_ | with_reducible refine stu ?_ | with_reducible refine sli ?_ | with_reducible refine sdr ?_ | with_reducible refine srt ?_ | with_reducible refine snx ?_ | with_reducible refine sfor ?_ | with_reducible refine sils ?_ | with_reducible refine sien ?_ | with_reducible refine sor ?_ | with_reducible refine sfg ?_
  | with_reducible refine sav ?_ | with_reducible refine sov ?_ | with_reducible refine snv ?_ | with_reducible refine sch ?_ | with_reducible refine san ?_ | with_reducible refine ssll ?_ | with_reducible refine spt ?_ | with_reducible refine snp ?_ | with_reducible refine sin ?_ | with_reducible refine sfl ?_ | with_reducible refine sfd ?_ | with_reducible refine smt ?_ | with_reducible refine sbt ?_ | with_reducible refine sbm ?_ | with_reducible refine sifx ?_
  | ((with_reducible show Or _ _); first | refine Or.inl ⟨_, rfl, ?_⟩ | refine Or.inr ⟨_, rfl, ?_⟩))))

def smalls : List (Nat × Nat) := [(1, 3), (1, 6), (2, 2), (2, 3), (3, 2), (6, 1), (5, 1), (3, 1), (2, 1), (1, 1), (1, 0)]
theorem smalls_ok : ∀ z ∈ smalls, 1 ≤ z.1 ∧ z.1 ≤ 6 ∧ z.2 ≤ 6 ∧ z.1 * z.2 ≤ 6 := by decide
def rListOf (K : PySem.W.Frag) : List V → Hp → VK → Prop := fun xs H Q => ∃ p ys, xs = [.ref p] ∧ (SqL K H p ys ∨ SqT K H p ys) ∧ ∀ l, H l = none → Q (.ref l) (upd H l (.lst ys))
/-- a row of n integers that is none of the source -/
def RowP (p : Addr) (n : Nat) (H : Hp) (v : V) (xs : List Int) : Prop := ∃ r, v = .ref r ∧ r ≠ p ∧ (H r = some (.lst (xs.map V.int)) ∨ H r = some (.tup (xs.map V.int))) ∧ xs.length = n ∧ ∀ x ∈ xs, x.natAbs < 2 ^ 200
theorem loc_row {p : Addr} {n : Nat} : Loc p (RowP p n) := ⟨fun ⟨r, e, h, _⟩ z => by rw [e] at z; cases z; exact h rfl, fun ⟨r, e, h, h2, h3⟩ s => ⟨r, e, h, h2.imp (s r _ e) (s r _ e), h3⟩⟩
theorem RowP.d {K : PySem.W.Frag} {p : Addr} {n : Nat} {H : Hp} {v : V} {xs : List Int} (h : RowP p n H v xs) : RowD K n H v xs := by
  obtain ⟨r, e, _, h2, h3, _⟩ := h
  exact ⟨r, e, h2.imp SqL.of SqT.of, h3⟩
def RowL (p : Addr) (n : Nat) (H : Hp) (v : V) (xs : List Int) : Prop := ∃ r, v = .ref r ∧ r ≠ p ∧ H r = some (.lst (xs.map V.int)) ∧ xs.length = n ∧ ∀ x ∈ xs, x.natAbs < 2 ^ 200
theorem loc_rowL {p : Addr} {n : Nat} : Loc p (RowL p n) := ⟨fun ⟨r, e, h, _⟩ z => by rw [e] at z; cases z; exact h rfl, fun ⟨r, e, h, h2, h3⟩ s => ⟨r, e, h, s r _ e h2, h3⟩⟩
theorem f2_intB {C : Int → Prop} : ∀ {ys : List V} {as : List Int}, F2 (fun v x => v = V.int x ∧ C x) ys as → ys = as.map V.int ∧ ∀ x ∈ as, C x
  | _, _, .nil => ⟨rfl, fun x h => by cases h⟩
  | _, _, .cons h t => by
    obtain ⟨h1, h2⟩ := f2_intB t
    refine ⟨by rw [h.1, h1]; rfl, fun x hx => ?_⟩
    rcases List.mem_cons.mp hx with rfl | hx
    · exact h.2
    · exact h2 x hx
def spSmall : Sp := fun vs H Q _ => ∃ p : Addr, vs = [.ref p] ∧ Wl H p ∧ ∀ (t l : Addr) (k n : Nat) (us : List V) (xss : List (List Int)) (H' : Hp), Wk p H H' → H' t = some (.tup [.int (k : Int), .int (n : Int), .ref l]) → (k, n) ∈ smalls → l ≠ p → H l = none → H' l = some (.lst us) → F2 (RowP p n H') us xss → us.length ≤ 4 → Q (.ref t) H'

section
variable {P : Program} {w : World} {K : PySem.W.Frag} {mg : Str → Option Value} {base : Heap} {A : Ad}
abbrev s__law_small : Stmt := top 26
theorem sc__law_small : FnScope ["_law_source_here", "_law_some", "_law_width", "_law_size", "_law_rows", "_law_turn", "_law_at", "_law_row"] ["_law_source_here"] (defScope s__law_small) := ⟨rfl, rfl, rfl, by decide +kernel, rfl, by decide +kernel, by decide +kernel⟩
theorem ok_small {f : Addr} {fd : FuncData} (F : Fun K "_law_small" "_law_small" s__law_small f fd) (T : Txt P w K mg base A) (c__law_draw : Cal P w K mg base 1 "_law_draw" ["_law_source_here", "_law_many"] spDraw) (c__law_pick : Cal P w K mg base 2 "_law_pick" ["_law_source_here", "_law_items"] spPick) (c__law_number : Cal P w K mg base 3 "_law_number" ["_law_source_here", "_law_width"] spNumber) : FnOk P w K mg base CX0 4 f fd ["_law_source_here"] spSmall := by
  refine F.ok sc__law_small (fun vs H Q E h => ?_) (fun cdv Ar outer s H vs Q E hr h => ?_)
  · obtain ⟨p, rfl, _⟩ := h
    rfl
  · obtain ⟨p, rfl, hw, q⟩ := h
    refine ⟨_, (pss_cons (ps_set (i := 1) sc__law_small.nd rfl (Or.inl rfl) (pe_lst (pa_cons (pe_tup (pa_cons pe_int (pa_cons pe_int pa_nil))) (pa_cons (pe_tup (pa_cons pe_int (pa_cons pe_int pa_nil))) (pa_cons (pe_tup (pa_cons pe_int (pa_cons pe_int pa_nil))) (pa_cons (pe_tup (pa_cons pe_int (pa_cons pe_int pa_nil))) (pa_cons (pe_tup (pa_cons pe_int (pa_cons pe_int pa_nil))) (pa_cons (pe_tup (pa_cons pe_int (pa_cons pe_int pa_nil))) (pa_cons (pe_tup (pa_cons pe_int (pa_cons pe_int pa_nil))) (pa_cons (pe_tup (pa_cons pe_int (pa_cons pe_int pa_nil))) (pa_cons (pe_tup (pa_cons pe_int (pa_cons pe_int pa_nil))) (pa_cons (pe_tup (pa_cons pe_int (pa_cons pe_int pa_nil))) (pa_cons (pe_tup (pa_cons pe_int (pa_cons pe_int pa_nil))) pa_nil)))))))))))))
        (pss_cons (ps_asg (pcal c__law_pick hr (by decide) (pa_cons (pv 0) (pa_cons (pv 1) pa_nil))) (pg_tup rfl (pgs_cons (pg_name (i := 2) sc__law_small.nd rfl (Or.inr rfl)) (pgs_cons (pg_name (i := 3) sc__law_small.nd rfl (Or.inr rfl)) pgs_nil))))
        (pss_cons (ps_setLc (i := 4) (own := [("_law_turn", 5)]) (g := gName 5) (tt := tYes) rfl sc__law_small.nd rfl rfl (by rfl) (pi_range1 (by rfl) T.z_range (pa_cons (pcal c__law_draw hr (by decide) (pa_cons (pv 0) (pa_cons pe_int pa_nil))) pa_nil)) (blkOk_by (own := [("_law_turn", 5)]) (N := ["_law_source_here", "_law_some", "_law_width", "_law_size", "_law_rows", "_law_turn", "_law_at", "_law_row"]) (sc := defScope s__law_small) (by decide +kernel)) (fun _ _ _ _ _ => pg_name (i := 5) sc__law_small.nd rfl (Or.inl rfl)) (fun _ _ _ _ _ => pts_nil) (fun _ _ _ _ _ => (pe_lc (own := [("_law_at", 6)]) (g := gName 6) (tt := tYes) rfl sc__law_small.nd (pi_range1 (by rfl) T.z_range (pa_cons (pv 3) pa_nil)) (blkOk_by (by kernel_rfl)) (fun _ _ _ _ _ => pg_name (i := 6) sc__law_small.nd rfl (Or.inl rfl)) (fun _ _ _ _ _ => pts_nil) (fun _ _ _ _ _ => (pcal c__law_number hr (by decide) (pa_cons (pv 0) (pa_cons (pv 2) pa_nil)))))))
        (pss_one (ps_ret (pe_tup (pa_cons (pv 2) (pa_cons (pv 3) (pa_cons (pe_lc (own := [("_law_row", 7)]) (g := gName 7) (tt := tYes) rfl sc__law_small.nd (pi_list (pv 4)) (blkOk_by (own := [("_law_row", 7)]) (N := ["_law_source_here", "_law_some", "_law_width", "_law_size", "_law_rows", "_law_turn", "_law_at", "_law_row"]) (sc := defScope s__law_small) (by decide +kernel)) (fun _ _ _ _ _ => pg_name (i := 7) sc__law_small.nd rfl (Or.inl rfl)) (fun _ _ _ _ _ => pts_nil) (fun _ _ _ _ _ => (pcal c__law_pick hr (by decide) (pa_cons (pv 0) (pa_cons (pe_lst (pa_cons (pe_callTy (show CallR _ (.type "list") (rListOf K) from call_list_of) (by rfl) T.z_list (by decide +kernel) (pa_cons (pv 7) pa_nil)) (pa_cons (pe_callTy (show CallR _ (.type "tuple") (rTupOf K) from call_tupOf) (by rfl) T.z_tuple (by decide +kernel) (pa_cons (pv 7) pa_nil)) pa_nil))) pa_nil))))) pa_nil))))))))), ?_⟩
    walk_at "lk"
    refine snw (Nat.le_of_ble_eq_true rfl) fun t1 ht1 => ?_
    have s1 : Same H (upd H t1 (.tup [.int 1, .int 3])) := same_new ht1
    have e1 : (upd H t1 (.tup [.int 1, .int 3])) t1 = some (.tup [.int 1, .int 3]) := upd_same
    generalize upd H t1 (.tup [.int 1, .int 3]) = H1 at s1 e1 ⊢
    walk_at "lk"
    refine snw (Nat.le_of_ble_eq_true rfl) fun t2 ht2 => ?_
    have s2 : Same H1 (upd H1 t2 (.tup [.int 1, .int 6])) := same_new ht2
    have e2 : (upd H1 t2 (.tup [.int 1, .int 6])) t2 = some (.tup [.int 1, .int 6]) := upd_same
    generalize upd H1 t2 (.tup [.int 1, .int 6]) = H2 at s2 e2 ⊢
    walk_at "lk"
    refine snw (Nat.le_of_ble_eq_true rfl) fun t3 ht3 => ?_
    have s3 : Same H2 (upd H2 t3 (.tup [.int 2, .int 2])) := same_new ht3
    have e3 : (upd H2 t3 (.tup [.int 2, .int 2])) t3 = some (.tup [.int 2, .int 2]) := upd_same
    generalize upd H2 t3 (.tup [.int 2, .int 2]) = H3 at s3 e3 ⊢
    walk_at "lk"
    refine snw (Nat.le_of_ble_eq_true rfl) fun t4 ht4 => ?_
    have s4 : Same H3 (upd H3 t4 (.tup [.int 2, .int 3])) := same_new ht4
    have e4 : (upd H3 t4 (.tup [.int 2, .int 3])) t4 = some (.tup [.int 2, .int 3]) := upd_same
    generalize upd H3 t4 (.tup [.int 2, .int 3]) = H4 at s4 e4 ⊢
    walk_at "lk"
    refine snw (Nat.le_of_ble_eq_true rfl) fun t5 ht5 => ?_
    have s5 : Same H4 (upd H4 t5 (.tup [.int 3, .int 2])) := same_new ht5
    have e5 : (upd H4 t5 (.tup [.int 3, .int 2])) t5 = some (.tup [.int 3, .int 2]) := upd_same
    generalize upd H4 t5 (.tup [.int 3, .int 2]) = H5 at s5 e5 ⊢
    walk_at "lk"
    refine snw (Nat.le_of_ble_eq_true rfl) fun t6 ht6 => ?_
    have s6 : Same H5 (upd H5 t6 (.tup [.int 6, .int 1])) := same_new ht6
    have e6 : (upd H5 t6 (.tup [.int 6, .int 1])) t6 = some (.tup [.int 6, .int 1]) := upd_same
    generalize upd H5 t6 (.tup [.int 6, .int 1]) = H6 at s6 e6 ⊢
    walk_at "lk"
    refine snw (Nat.le_of_ble_eq_true rfl) fun t7 ht7 => ?_
    have s7 : Same H6 (upd H6 t7 (.tup [.int 5, .int 1])) := same_new ht7
    have e7 : (upd H6 t7 (.tup [.int 5, .int 1])) t7 = some (.tup [.int 5, .int 1]) := upd_same
    generalize upd H6 t7 (.tup [.int 5, .int 1]) = H7 at s7 e7 ⊢
    walk_at "lk"
    refine snw (Nat.le_of_ble_eq_true rfl) fun t8 ht8 => ?_
    have s8 : Same H7 (upd H7 t8 (.tup [.int 3, .int 1])) := same_new ht8
    have e8 : (upd H7 t8 (.tup [.int 3, .int 1])) t8 = some (.tup [.int 3, .int 1]) := upd_same
    generalize upd H7 t8 (.tup [.int 3, .int 1]) = H8 at s8 e8 ⊢
    walk_at "lk"
    refine snw (Nat.le_of_ble_eq_true rfl) fun t9 ht9 => ?_
    have s9 : Same H8 (upd H8 t9 (.tup [.int 2, .int 1])) := same_new ht9
    have e9 : (upd H8 t9 (.tup [.int 2, .int 1])) t9 = some (.tup [.int 2, .int 1]) := upd_same
    generalize upd H8 t9 (.tup [.int 2, .int 1]) = H9 at s9 e9 ⊢
    walk_at "lk"
    refine snw (Nat.le_of_ble_eq_true rfl) fun t10 ht10 => ?_
    have s10 : Same H9 (upd H9 t10 (.tup [.int 1, .int 1])) := same_new ht10
    have e10 : (upd H9 t10 (.tup [.int 1, .int 1])) t10 = some (.tup [.int 1, .int 1]) := upd_same
    generalize upd H9 t10 (.tup [.int 1, .int 1]) = H10 at s10 e10 ⊢
    walk_at "lk"
    refine snw (Nat.le_of_ble_eq_true rfl) fun t11 ht11 => ?_
    have s11 : Same H10 (upd H10 t11 (.tup [.int 1, .int 0])) := same_new ht11
    have e11 : (upd H10 t11 (.tup [.int 1, .int 0])) t11 = some (.tup [.int 1, .int 0]) := upd_same
    generalize upd H10 t11 (.tup [.int 1, .int 0]) = H11 at s11 e11 ⊢
    walk_at "lk"
    refine snw (Nat.le_of_ble_eq_true rfl) fun l0 hl0 => ?_
    have sl : Same H11 (upd H11 l0 (.lst [V.ref t1, V.ref t2, V.ref t3, V.ref t4, V.ref t5, V.ref t6, V.ref t7, V.ref t8, V.ref t9, V.ref t10, V.ref t11])) := same_new hl0
    have el : (upd H11 l0 (.lst [V.ref t1, V.ref t2, V.ref t3, V.ref t4, V.ref t5, V.ref t6, V.ref t7, V.ref t8, V.ref t9, V.ref t10, V.ref t11])) l0 = some (.lst [V.ref t1, V.ref t2, V.ref t3, V.ref t4, V.ref t5, V.ref t6, V.ref t7, V.ref t8, V.ref t9, V.ref t10, V.ref t11]) := upd_same
    generalize upd H11 l0 (.lst [V.ref t1, V.ref t2, V.ref t3, V.ref t4, V.ref t5, V.ref t6, V.ref t7, V.ref t8, V.ref t9, V.ref t10, V.ref t11]) = Hl at sl el ⊢
    have f1 := sl _ _ (s11 _ _ (s10 _ _ (s9 _ _ (s8 _ _ (s7 _ _ (s6 _ _ (s5 _ _ (s4 _ _ (s3 _ _ (s2 _ _ (e1)))))))))))
    have f2 := sl _ _ (s11 _ _ (s10 _ _ (s9 _ _ (s8 _ _ (s7 _ _ (s6 _ _ (s5 _ _ (s4 _ _ (s3 _ _ (e2))))))))))
    have f3 := sl _ _ (s11 _ _ (s10 _ _ (s9 _ _ (s8 _ _ (s7 _ _ (s6 _ _ (s5 _ _ (s4 _ _ (e3)))))))))
    have f4 := sl _ _ (s11 _ _ (s10 _ _ (s9 _ _ (s8 _ _ (s7 _ _ (s6 _ _ (s5 _ _ (e4))))))))
    have f5 := sl _ _ (s11 _ _ (s10 _ _ (s9 _ _ (s8 _ _ (s7 _ _ (s6 _ _ (e5)))))))
    have f6 := sl _ _ (s11 _ _ (s10 _ _ (s9 _ _ (s8 _ _ (s7 _ _ (e6))))))
    have f7 := sl _ _ (s11 _ _ (s10 _ _ (s9 _ _ (s8 _ _ (e7)))))
    have f8 := sl _ _ (s11 _ _ (s10 _ _ (s9 _ _ (e8))))
    have f9 := sl _ _ (s11 _ _ (s10 _ _ (e9)))
    have f10 := sl _ _ (s11 _ _ (e10))
    have f11 := sl _ _ (e11)
    have hall : ∀ v ∈ [V.ref t1, V.ref t2, V.ref t3, V.ref t4, V.ref t5, V.ref t6, V.ref t7, V.ref t8, V.ref t9, V.ref t10, V.ref t11], ∃ (t : Addr) (k n : Nat), v = .ref t ∧ Hl t = some (.tup [.int (k : Int), .int (n : Int)]) ∧ (k, n) ∈ smalls := by
      intro v hv
      rcases List.mem_cons.mp hv with rfl | hv
      · exact ⟨t1, 1, 3, rfl, f1, by decide⟩
      rcases List.mem_cons.mp hv with rfl | hv
      · exact ⟨t2, 1, 6, rfl, f2, by decide⟩
      rcases List.mem_cons.mp hv with rfl | hv
      · exact ⟨t3, 2, 2, rfl, f3, by decide⟩
      rcases List.mem_cons.mp hv with rfl | hv
      · exact ⟨t4, 2, 3, rfl, f4, by decide⟩
      rcases List.mem_cons.mp hv with rfl | hv
      · exact ⟨t5, 3, 2, rfl, f5, by decide⟩
      rcases List.mem_cons.mp hv with rfl | hv
      · exact ⟨t6, 6, 1, rfl, f6, by decide⟩
      rcases List.mem_cons.mp hv with rfl | hv
      · exact ⟨t7, 5, 1, rfl, f7, by decide⟩
      rcases List.mem_cons.mp hv with rfl | hv
      · exact ⟨t8, 3, 1, rfl, f8, by decide⟩
      rcases List.mem_cons.mp hv with rfl | hv
      · exact ⟨t9, 2, 1, rfl, f9, by decide⟩
      rcases List.mem_cons.mp hv with rfl | hv
      · exact ⟨t10, 1, 1, rfl, f10, by decide⟩
      rcases List.mem_cons.mp hv with rfl | hv
      · exact ⟨t11, 1, 0, rfl, f11, by decide⟩
      cases hv
    have hlen : ([V.ref t1, V.ref t2, V.ref t3, V.ref t4, V.ref t5, V.ref t6, V.ref t7, V.ref t8, V.ref t9, V.ref t10, V.ref t11]).length = 11 := rfl
    have sAll : Same H Hl := s1.trans (s2.trans (s3.trans (s4.trans (s5.trans (s6.trans (s7.trans (s8.trans (s9.trans (s10.trans (s11.trans sl))))))))))
    generalize [V.ref t1, V.ref t2, V.ref t3, V.ref t4, V.ref t5, V.ref t6, V.ref t7, V.ref t8, V.ref t9, V.ref t10, V.ref t11] = xs at el hall hlen
    have wl := Wk.of hw sAll
    have nl : l0 ≠ p := ne_well wl.2 el (fun x y z e => by
      have := congrArg List.length (HO.lst.inj e)
      rw [hlen] at this
      cases this)
    walk_at "lk"
    refine ⟨p, l0, xs, rfl, wl.2, nl, el, by omega, by omega, fun v H12 hv w12 => ?_⟩
    obtain ⟨t0, k, n, rfl, ht0, hkn⟩ := hall v hv
    have w1 := wl.trans w12
    have nt0 : t0 ≠ p := ne_well wl.2 ht0 (fun _ _ _ z => by cases z)
    have ht1 := w12.at nt0 ht0
    obtain ⟨k1, k6, n6, kn6⟩ := smalls_ok _ hkn
    dsimp only at k1 k6 n6 kn6
    refine g_pair (SqT.of ht1) ?_
    walk_at "lk"
    refine slc (srg ?_)
    walk_at "lk"
    refine ⟨p, 5, rfl, by decide, by decide, w1.2, fun r H13 r0 r5 w13 => ?_⟩
    have w2 := w1.trans w13
    obtain ⟨m, rfl⟩ : ∃ m : Nat, r = (m : Int) := ⟨r.toNat, by omega⟩
    refine ⟨(m : Int), rfl, by omega, by omega, fun D hD => ?_⟩
    rw [Int.toNat_natCast]
    refine tlc_rangeL (RowL p n) loc_rowL w2.2 hD (by omega) (fun _ => rfl) (fun i H14 hi w14 hDs R qr => ?_) (fun us xss H15 w15 hDl hus hlen2 => ?_)
    · walk_at "lk"
      refine slc (srg ?_)
      walk_at "lk"
      refine ⟨(n : Int), rfl, by omega, by omega, fun D2 hD2 => ?_⟩
      rw [Int.toNat_natCast]
      have w3 := w2.trans w14
      refine tlc_rangeL (fun H v (x : Int) => v = .int x ∧ x.natAbs < 2 ^ 200) (loc_and loc_int) w3.2 hD2 (by omega) (fun _ => rfl) (fun j H16 hj w16 hDs2 R2 qr2 => ?_) (fun ys row H17 w17 hD2l hys hlen3 => ?_)
      · walk_at "lk"
        refine ⟨p, k, rfl, by omega, (w3.trans w16).2, fun x H18 hx w18 => ?_⟩
        exact qr2 _ x H18 w18 ⟨rfl, hx⟩ (fun z => by cases z)
      · obtain ⟨rfl, hb⟩ := f2_intB hys
        have nD2 : D2 ≠ p := ne_new w3.2 hD2
        refine qr _ row H17 w17 ⟨D2, rfl, nD2, hD2l, hlen3, hb⟩ fun z => ?_
        cases z
        obtain ⟨o, ho⟩ := hDs
        rw [hD2] at ho
        cases ho
    · walk_at "lk"
      have w3 := w2.trans w15
      have nD : D ≠ p := ne_new w2.2 hD
      refine slc ?_
      walk_at "lk"
      refine ⟨D, rfl, ⟨_, SqL.of hDl⟩, fun D3 hD3 => ?_⟩
      have hm : us.length ≤ 4 := by
        rw [hus.len, hlen2]
        omega
      refine tlc_listL (RowL p n) loc_rowL (RowP p n) loc_row (fun a b => b = a) w3.2 nD hDl hus (by omega) hD3 (fun _ => rfl) (fun i x row H16 hi hx nx w16 hDs Q2 qr => ?_) (fun x b hx z => ?_) (fun ys as H16 w16 hD3l hys hl4 hG => ?_)
      · obtain ⟨r, rfl, nr, hr1, hrl, hrb⟩ := hx
        obtain ⟨o3, ho3⟩ := hDs
        walk_at "lk"
        refine ⟨r, _, rfl, .inl (SqL.of hr1), fun l1 hl1 => ?_⟩
        have sA : Same H16 (upd H16 l1 (.lst (row.map V.int))) := same_new hl1
        have eA : (upd H16 l1 (.lst (row.map V.int))) l1 = some (.lst (row.map V.int)) := upd_same
        generalize upd H16 l1 (.lst (row.map V.int)) = H17 at sA eA ⊢
        walk_at "lk"
        refine s_tupL (sA _ _ hr1) fun t1 H18 s18 ht1n ht1 => ?_
        walk_at "lk"
        refine snw (Nat.le_of_ble_eq_true rfl) fun l2 hl2 => ?_
        have sC : Same H18 (upd H18 l2 (.lst [.ref l1, .ref t1])) := same_new hl2
        have eC : (upd H18 l2 (.lst [.ref l1, .ref t1])) l2 = some (.lst [.ref l1, .ref t1]) := upd_same
        generalize upd H18 l2 (.lst [.ref l1, .ref t1]) = H19 at sC eC ⊢
        walk_at "lk"
        have s19 := (sA.trans s18).trans sC
        have w19 : Wk p H16 H19 := Wk.of (w3.trans w16).2 s19
        have nl1 : l1 ≠ p := ne_new (w3.trans w16).2 hl1
        have nt1 : t1 ≠ p := ne_new ((Wk.of (w3.trans w16).2 sA).2) ht1n
        have nl2 : l2 ≠ p := ne_new ((Wk.of (w3.trans w16).2 (sA.trans s18)).2) hl2
        refine ⟨p, l2, [.ref l1, .ref t1], rfl, w19.2, nl2, eC, Nat.le_of_ble_eq_true rfl, Nat.le_of_ble_eq_true rfl, fun v2 H20 hv2 w20 => ?_⟩
        have w1620 := w19.trans w20
        rcases List.mem_cons.mp hv2 with rfl | hv2
        · refine qr _ row H20 w1620 ⟨l1, rfl, nl1, .inl (w20.at nl1 (sC _ _ (s18 _ _ eA))), hrl, hrb⟩ (fun z => ?_) rfl
          cases z
          rw [hl1] at ho3
          cases ho3
        · rw [List.mem_singleton.mp hv2]
          refine qr _ row H20 w1620 ⟨t1, rfl, nt1, .inr (w20.at nt1 (sC _ _ ht1)), hrl, hrb⟩ (fun z => ?_) rfl
          cases z
          rw [sA _ _ ho3] at ht1n
          cases ht1n
      · obtain ⟨r, rfl, nr, hr1, _⟩ := hx
        cases z
        rw [hD3] at hr1
        cases hr1
      · have eas : as = xss := by
          refine List.ext_getElem hl4 fun i h1 h2 => ?_
          exact hG i _ _ (List.getElem?_eq_getElem h2) (List.getElem?_eq_getElem h1)
        subst eas
        have w4 := w3.trans w16
        walk_at "lk"
        refine snw (Nat.le_of_ble_eq_true rfl) fun tt htt => ?_
        have st := same_new (H := H16) (p := tt) (o := .tup [.int (k : Int), .int (n : Int), .ref D3]) htt
        have et : (upd H16 tt (.tup [.int (k : Int), .int (n : Int), .ref D3])) tt = some (.tup [.int (k : Int), .int (n : Int), .ref D3]) := upd_same
        have w5 := w4.st st
        exact q tt D3 k n ys as _ w5 et hkn (ne_new w3.2 hD3) (w3.none hw hD3) (st _ _ hD3l) (loc_row.f2 (Wk.of w4.2 st) hys) (by rw [hys.len, hlen2]; omega)
end
end K14

namespace K14
open PySem PySem.Spec PyProof.Rows L2 Lk
local macro_rules | `(tactic| walk_at "lk") => `(tactic| (repeat (first
  | with_reducible refine ssq ?_ | with_reducible refine sas ?_ | with_reducible refine sgn ?_ | ((with_reducible show tVar _ _ _ _); refine sv rfl ?_) | with_reducible refine sc ?_ | with_reducible refine sop ?_ | with_reducible refine sun ?_
  | with_reducible refine sI0 ?_ | with_reducible refine sU ?_ | with_reducible refine stt ?_ | with_reducible refine stB ?_ | with_reducible refine sbl ?_ | with_reducible refine snt ?_ | with_reducible refine sif ?_ | with_reducible refine scB ?_
  | with_reducible refine scn ?_ | with_reducible refine snl ?_ | with_reducible refine scl ?_ | with_reducible refine stu ?_ | with_reducible refine sli ?_ | with_reducible refine sdr ?_ | with_reducible refine srt ?_ | with_reducible refine snx ?_ | with_reducible refine sfor ?_ | with_reducible refine sils ?_ | with_reducible refine sien ?_ | with_reducible refine sor ?_ | with_reducible refine sfg ?_
  | with_reducible refine sav ?_ | with_reducible refine sov ?_ | with_reducible refine snv ?_ | with_reducible refine sch ?_ | with_reducible refine san ?_ | with_reducible refine ssll ?_ | with_reducible refine spt ?_ | with_reducible refine snp ?_ | with_reducible refine sin ?_ | with_reducible refine sfl ?_ | with_reducible refine sfd ?_ | with_reducible refine smt ?_ | with_reducible refine sbt ?_ | with_reducible refine sbm ?_ | with_reducible refine sifx ?_
  | ((with_reducible show Or _ _); first | refine Or.inl ⟨_, rfl, ?_⟩ | refine Or.inr ⟨_, rfl, ?_⟩))))

def iZipE (K : PySem.W.Frag) (ta : TA) : TI := fun σ H R => iZipM skT skL K ta σ H R ∨ iZipM skT skT K ta σ H R
theorem pi_zipE {X : Cx} {elts : List Expr} {kk : Nat} {tpos : Pos} {e e2 : Expr} {ta : TA} {p pos : Pos} (hg : Gl X "zip") (hm : X.mg "zip" = none) (ha : PA X [e, e2] ta)
    (hs : starEach [e, e2] X.env = (false, eval e X.env) :: starEach [e2] X.env := by rfl) (hpl : (backTo pos (starEach [e2] X.env)).any (·.1) = false := by rfl) :
    PI X (.Tuple elts kk tpos) (.Call (.Name "zip" p) [e, e2] [] pos) (iZipE X.K ta) := ⟨fun pins s σ H R I h => h.elim ((pi_zipM hg hm ha hs hpl).run pins s σ H R I) ((pi_zipM hg hm ha hs hpl).run pins s σ H R I)⟩
theorem sdt {tk tv : TE} {σ : L2.St} {H : Hp} {Q : VK} (q : ∀ p, H p = none → tk σ (upd H p (.dT [])) fun x H1 => tv σ H1 fun y H2 => H2 p = some (.dT []) ∧ ∃ (b : Addr) (k : List Key), x = .ref b ∧ H2 b = some (.tup (k.map kV)) ∧ Q (.ref p) (upd H2 p (.dT [(k, y)]))) : tDisp1T tk tv σ H Q := q
def spElems (K : PySem.W.Frag) : Sp := fun vs H Q _ => ∃ (k n : Nat) (l : Addr) (us : List V) (xss : List (List Int)), vs = [.int (k : Int), .int (n : Int), .ref l] ∧ 1 ≤ k ∧ k * n ≤ 6 ∧ k ≤ 6 ∧ n ≤ 6 ∧ SqE K H l us ∧ F2 (RowD K n H) us xss ∧ (∀ xs ∈ xss, ∀ x ∈ xs, x.natAbs < 2 ^ 300) ∧
  ∀ (d : Addr) (L : List (List Int)) (H' : Hp), Same H H' → H d = none → DSet H' d L → L.Nodup → (∀ l, l ∈ L ↔ InM k n xss l) → Q (.ref d) H'
theorem pow6 {k n : Nat} (h : k * n ≤ 6) : 2 ^ (k * n) ≤ 64 := Nat.pow_le_pow_right (n := 2) (by decide) h
/-- what stands while the elements are found -/
structure Els (k n : Nat) (xss : List (List Int)) (L : List (List Int)) : Prop where
  nd : L.Nodup
  el : ∀ l ∈ L, InM k n xss l
theorem Els.few {k n : Nat} {xss L : List (List Int)} (h : Els k n xss L) (hk : k * n ≤ 6) : L.length ≤ 64 :=
  Nat.le_trans (els_few h.nd fun l hl => ⟨(h.el l hl).len, (h.el l hl).red⟩) (pow6 hk)
theorem Els.ins {k n : Nat} {xss L : List (List Int)} {l : List Int} (h : Els k n xss L) (hl : InM k n xss l) : Els k n xss (insL L l) :=
  ⟨insL_nodup h.nd, fun l' hl' => (insL_mem.mp hl').elim (h.el l') fun e => e ▸ hl⟩
theorem take_snoc2 {xss : List (List Int)} {i : Nat} {xs : List Int} (h : xss[i]? = some xs) : xss.take (i + 1) = xss.take i ++ [xs] := by
  rw [List.take_succ, h]
  rfl
section
variable {K : PySem.W.Frag} {a : Addr} {xs : List V} {H : Hp} {σ : L2.St}
/-- [e for x, y in zip(t, r)], numbers alone, t a tuple -/
theorem tlc_zipE {i j p q : Nat} {te : TE} {vs : List Nat} {Q : VK} {t r : Addr} {fs gs : List Int} {f : Int → Int → Int} (hi : σ[i]? = some (some (.ref t))) (hj : σ[j]? = some (some (.ref r))) (ha : SqT K H t (fs.map V.int)) (hb : SqE K H r (gs.map V.int)) (hl : fs.length = gs.length) (h3 : fs.length ≤ 1000)
    (hw : ∀ x y, wipe (((wipe σ vs).set p (some x)).set q (some y)) vs = wipe σ vs)
    (he : ∀ (x y : Int) (H' : Hp) (R : VK), x ∈ fs → y ∈ gs → R (.int (f x y)) H' → te (((wipe σ vs).set p (some (.int x))).set q (some (.int y))) H' R)
    (k : ∀ D H', Same H H' → H D = none → H' D = some (.lst ((List.zipWith f fs gs).map V.int)) → Q (.ref D) H') : tLc (iZipE K (tCons (tVar i) (tCons (tVar j) tNil))) (gTup K 2 (gCons (gName p) (gCons (gName q) gNil))) tYes te vs σ H Q := by
  rcases hb with hb | hb
  · exact .inl ⟨_, hi, _, hj, t, r, _, _, rfl, ha, hb, fun D hD => tlc_zipMi (k1 := skT) (k2 := skL) ha hb hl h3 hD hw he fun H' s h => k D H' s hD h⟩
  · exact .inr ⟨_, hi, _, hj, t, r, _, _, rfl, ha, hb, fun D hD => tlc_zipMi (k1 := skT) (k2 := skT) ha hb hl h3 hD hw he fun H' s h => k D H' s hD h⟩
theorem for_E {g : TG} {tb : TS} {D : Ends} {j : Nat} {H0 : Hp} (I : Nat → L2.St → Hp → Prop) (hj : σ[j]? = some (some (.ref a))) (hx : SqE K H0 a xs) (h0 : I 0 σ H) (hS : ∀ i σ' H', I i σ' H' → Same H0 H')
    (ht : ∀ (i : Nat) (x : V) σ' H', xs[i]? = some x → I i σ' H' → g x σ' H' fun σ2 H2 => tb { D with nx := I (i + 1), ct := I (i + 1), bk := D.nx } σ2 H2)
    (hd : ∀ σ' H', I xs.length σ' H' → D.nx σ' H') : tFor (iEither K (tVar j)) g tb D σ H := by
  rcases hx with hx | hx
  · exact .inl ⟨_, hj, a, rfl, ⟨xs, (hS _ _ _ h0).seq hx⟩, for_list I h0 (fun i σ H' _ h => (hS i σ H' h).seq hx) ht hd⟩
  · exact .inr ⟨_, hj, a, rfl, ⟨xs, same_sqT (hS _ _ _ h0) hx⟩, for_tup I h0 (fun i σ H' _ h => same_sqT (hS i σ H' h) hx) ht hd⟩
end
theorem bar_rowD {K : PySem.W.Frag} {n : Nat} {d : Addr} {H H' : Hp} {v : V} {xs : List Int} (hd : H d = none) (s : Bar d H H') (h : RowD K n H v xs) : RowD K n H' v xs :=
  h.same fun b o e => s b o (ne_of_none e hd) e
theorem bar_same {d : Addr} {H H' : Hp} (hd : H d = none) (s : Bar d H H') : Same H H' := fun b o e => s b o (ne_of_none e hd) e

section
variable {P : Program} {w : World} {K : PySem.W.Frag} {mg : Str → Option Value} {base : Heap} {A : Ad}
abbrev s__law_elements : Stmt := top 27
theorem sc__law_elements : FnScope ["_law_width", "_law_size", "_law_rows", "_law_found", "_law_row", "_law_factor", "_law_one", "_law_b", "_law_a"] ["_law_width", "_law_size", "_law_rows"] (defScope s__law_elements) := ⟨rfl, rfl, rfl, by decide +kernel, rfl, by decide +kernel, by decide +kernel⟩
theorem ok_elements {f : Addr} {fd : FuncData} (F : Fun K "_law_elements" "_law_elements" s__law_elements f fd) (T : Txt P w K mg base A) : FnOk P w K mg base CX0 2 f fd ["_law_width", "_law_size", "_law_rows"] (spElems K) := by
  refine F.ok sc__law_elements (fun vs H Q E h => ?_) (fun cdv Ar outer s H vs Q E hr h => ?_)
  · obtain ⟨k, n, l, us, xss, rfl, _⟩ := h
    rfl
  · obtain ⟨k, n, l, us, xss, rfl, k1, kn6, k6, n6, hl, hr0, hb, q⟩ := h
    refine ⟨_, (pss_cons (ps_set (i := 3) sc__law_elements.nd rfl (Or.inl rfl) (pe_disp1T (Nat.lt_of_le_of_lt (Nat.le_add_right _ _) hr.units) (pe_op op_repZ (pe_tup (pa_cons pe_int pa_nil)) (pv 1)) pe_bl))
        (pss_cons (ps_for PassesOwn.never rfl (pi_either (pv 2)) (pg_name (i := 4) sc__law_elements.nd rfl (Or.inl rfl)) (pss_one (ps_for PassesOwn.never rfl (pi_range1 (by rfl) T.z_range (pa_cons (pe_op op_oneShl pe_int (pv 0)) pa_nil)) (pg_name (i := 5) sc__law_elements.nd rfl (Or.inr rfl)) (pss_one (ps_for PassesOwn.never rfl (pi_list (pe_callTy (cr_listD rfl) (by rfl) T.z_list (by decide +kernel) (pa_cons (pv 3) pa_nil))) (pg_name (i := 6) sc__law_elements.nd rfl (Or.inl rfl)) (pss_one (ps_dput (un1 hr) (pv 3) (pe_callTy call_tupOf (by rfl) T.z_tuple (by decide +kernel) (pa_cons (pe_lc (own := [("_law_a", 8), ("_law_b", 7)]) (g := gTup K 2 (gCons (gName 8) (gCons (gName 7) gNil))) (tt := tYes) rfl sc__law_elements.nd (pi_zipE (by rfl) T.z_zip (pa_cons (pv 6) (pa_cons (pv 4) pa_nil))) (blkOk_by (own := [("_law_a", 8), ("_law_b", 7)]) (N := ["_law_width", "_law_size", "_law_rows", "_law_found", "_law_row", "_law_factor", "_law_one", "_law_b", "_law_a"]) (sc := defScope s__law_elements) (by decide +kernel)) (fun _ _ _ _ _ => pg_tup rfl (pgs_cons (pg_name (i := 8) sc__law_elements.nd rfl (Or.inl rfl)) (pgs_cons (pg_name (i := 7) sc__law_elements.nd rfl (Or.inl rfl)) pgs_nil))) (fun _ _ _ _ _ => pts_nil) (fun _ _ _ _ _ => (pe_op op_mod (pe_callTy call_int1 (by rfl) T.z_int (by decide +kernel) (pa_cons (pe_op op_add (pv 8) (pe_op op_mulX (pv 5) (pv 7))) pa_nil)) (pe_op op_oneShl pe_int (pv 0))))) pa_nil)) pe_bl rfl)))))))
        (pss_one (ps_ret (pv 3))))), ?_⟩
    walk_at "lk"
    refine sdt fun d hd => ?_
    have bd0 : Bar d H (upd H d (.dT [])) := Bar.upd
    have ed0 : (upd H d (.dT [])) d = some (.dT []) := upd_same
    generalize upd H d (.dT []) = H1 at bd0 ed0 ⊢
    walk_at "lk"
    refine snw (Nat.le_of_ble_eq_true rfl) fun t0 ht0 => ?_
    have s2 : Same H1 (upd H1 t0 (.tup [.int 0])) := same_new ht0
    have e2 : (upd H1 t0 (.tup [.int 0])) t0 = some (.tup [.int 0]) := upd_same
    generalize upd H1 t0 (.tup [.int 0]) = H2 at s2 e2 ⊢
    walk_at "lk"
    refine s_repZ e2 (by omega) fun t1 H3 s3 ht1 => ?_
    walk_at "lk"
    have s13 := s2.trans s3
    have ed3 := s13 _ _ ed0
    refine ⟨ed3, t1, keyI (List.replicate n 0), rfl, by rw [kV_ints, List.map_replicate]; exact ht1, ?_⟩
    have b03 : Bar d H H3 := fun b o hb e => s13 _ _ (bd0 b o hb e)
    have bd4 : Bar d H (upd H3 d (.dT [(keyI (List.replicate n 0), .bl true)])) := b03.trans Bar.upd
    have ds4 : DSet (upd H3 d (.dT [(keyI (List.replicate n 0), .bl true)])) d [List.replicate n 0] := ⟨_, upd_same, rfl⟩
    generalize upd H3 d (.dT [(keyI (List.replicate n 0), .bl true)]) = H4 at bd4 ds4 ⊢
    have inv0 : ∃ L, DSet H4 d L ∧ Els k n (xss.take 0) L ∧ ∀ l, InM k n (xss.take 0) l → l ∈ L := by
      refine ⟨_, ds4, ⟨List.pairwise_singleton _ _, fun l hl => ?_⟩, fun l hl => ?_⟩
      · rw [List.mem_singleton.mp hl]
        exact InM.zero
      · rw [List.take_zero] at hl
        rw [hl.nil]
        exact List.mem_singleton_self _
    walk_at "lk"
    refine for_E (xs := us) (H0 := H) (fun i σ' H' => (∃ e4 e5 e6, σ' = [some (.int (k : Int)), some (.int (n : Int)), some (.ref l), some (.ref d), e4, e5, e6, none, none]) ∧ Bar d H H' ∧ ∃ L, DSet H' d L ∧ Els k n (xss.take i) L ∧ ∀ l, InM k n (xss.take i) l → l ∈ L) rfl hl ⟨⟨_, _, _, rfl⟩, bd4, inv0⟩ (fun i σ' H' h => bar_same hd h.2.1) (fun i v σ' H5 hi hI => ?_) (fun σ' H5 hI => ?_)
    · obtain ⟨⟨e4, e5, e6, rfl⟩, b5, L0, ds5, hL0, hc0⟩ := hI
      obtain ⟨row, hrow, r, rfl, hrr, hrl⟩ := hr0.at hi
      have hrb : ∀ x ∈ row, x.natAbs < 2 ^ 300 := hb row (List.mem_of_getElem? hrow)
      walk_at "lk"
      refine srg ?_
      walk_at "lk"
      refine ⟨k, rfl, rfl, by omega, ?_⟩
      walk_at "lk"
      have p64 : (2 : Nat) ^ k ≤ 64 := Nat.pow_le_pow_right (n := 2) (by decide) k6
      have pe : ((2 : Int) ^ k) = ((2 ^ k : Nat) : Int) := by norm_cast
      rw [pe]
      have c0 : (0 : Int) ≤ ((2 ^ k : Nat) : Int) := Int.natCast_nonneg _
      have c1 : ((2 ^ k : Nat) : Int) ≤ 64 := by exact_mod_cast p64
      refine ⟨((2 ^ k : Nat) : Int), rfl, Int.le_trans (by decide) c0, Int.lt_of_le_of_lt c1 (by decide), ?_⟩
      rw [Int.toNat_natCast]
      refine for_range (fun f σ' H' => (∃ e5 e6, σ' = [some (.int (k : Int)), some (.int (n : Int)), some (.ref l), some (.ref d), some (.ref r), e5, e6, none, none]) ∧ Bar d H H' ∧ ∃ L, DSet H' d L ∧ Els k n (xss.take (i + 1)) L ∧ (∀ l, InM k n (xss.take i) l → l ∈ L) ∧ ∀ l, InM k n (xss.take i) l → ∀ c, c < f → addL k c row l ∈ L) ?_ ?_ ?_
      · refine ⟨⟨_, _, rfl⟩, b5, L0, ds5, ⟨hL0.nd, fun l hl => (hL0.el l hl).mono fun xs hx => ?_⟩, hc0, fun l _ c hc => absurd hc (Nat.not_lt_zero c)⟩
        rw [take_snoc2 hrow]
        exact List.mem_append_left _ hx
      · rintro f σ' H6 hf ⟨⟨e5, e6, rfl⟩, b6, L1, ds6, hL1, hc1, hc2⟩
        walk_at "lk"
        rw [Int.zero_add]
        refine s_listD ds6 fun bl us1 H7 s7 hbln hbl hus1 => ?_
        refine ⟨bl, rfl, ⟨_, SqL.of hbl⟩, ?_⟩
        have ds7 := ds6.same s7
        have nbd : bl ≠ d := fun z => by
          obtain ⟨kvs, h1, _⟩ := ds6
          rw [z, h1] at hbln
          cases hbln
        have nt : ∀ {t : Addr} {xs : List V}, H7 t = some (.tup xs) → t ≠ d := fun h z => by
          obtain ⟨kvs, h1, _⟩ := ds7
          rw [z, h1] at h
          cases h
        have b7 : Bar d H H7 := fun b o hb e => s7 _ _ (b6 b o hb e)
        refine for_list (xs := us1) (fun j σ' H' => (∃ e6, σ' = [some (.int (k : Int)), some (.int (n : Int)), some (.ref l), some (.ref d), some (.ref r), some (.int (f : Int)), e6, none, none]) ∧ Bar d H7 H' ∧ ∃ L, DSet H' d L ∧ Els k n (xss.take (i + 1)) L ∧ (∀ l ∈ L1, l ∈ L) ∧ ∀ q l, q < j → L1[q]? = some l → addL k f row l ∈ L) ⟨⟨_, rfl⟩, Bar.refl, L1, ds7, hL1, fun l h => h, fun q l h => absurd h (Nat.not_lt_zero q)⟩ (fun j σ' H' _ h => SqL.of (h.2.1 _ _ nbd hbl)) ?_ ?_
        · rintro j v σ' H8 hj ⟨⟨e6, rfl⟩, b8, L2, ds8, hL2, hk2, hc8⟩
          obtain ⟨one, hone, t, rfl, ht⟩ := hus1.at hj
          have hin : InM k n (xss.take (i + 1)) one := hL1.el one (List.mem_of_getElem? hone)
          have ht8 := b8 _ _ (nt ht) ht
          have hr8 : SqE K H8 r (row.map V.int) := hrr.same (bar_same hd (b7.trans b8))
          walk_at "lk"
          refine sdp ?_
          walk_at "lk"
          refine tlc_zipE (f := fun a b => (a + (f : Int) * b) % 2 ^ k) rfl rfl (SqT.of ht8) hr8 (by rw [hin.len, hrl]) (by rw [hin.len]; omega) (fun _ _ => rfl) (fun x y H' R hx hy qr => ?_) (fun D H9 s9 hDn hD => ?_)
          · walk_at "lk"
            refine sI (mul_le (a := 70) (b := 300) ?_ (hrb y hy) (by decide)) ?_
            · have : f < 2 ^ k := hf
              exact Nat.lt_of_lt_of_le (show (f : Int).natAbs < 64 by omega) (by decide)
            walk_at "lk"
            refine ⟨k, rfl, rfl, by omega, ?_⟩
            refine sI (Int.pow_pos (by decide)) ?_
            exact qr
          walk_at "lk"
          refine s_tupL hD fun t2 H10 s10 ht2n ht2 => ?_
          have s8 := s9.trans s10
          have few := hL2.few kn6
          obtain ⟨H11, dp, ds11, b11⟩ := (ds8.same s8).put (v := .bl true) (l := addL k f row one) (b := t2) ht2 (by omega)
          refine ⟨d, H11, rfl, dp, ?_⟩
          have hrm : row ∈ xss.take (i + 1) := by
            rw [take_snoc2 hrow]
            exact List.mem_append_right _ (List.mem_singleton_self _)
          refine ⟨⟨_, rfl⟩, fun b o hb e => b11 _ _ hb (s8 _ _ (b8 b o hb e)), _, ds11, hL2.ins (hin.addL hrl hrm f), fun l hl => insL_mem.mpr (.inl (hk2 l hl)), fun q l2 hq e => ?_⟩
          by_cases c : q < j
          · exact insL_mem.mpr (.inl (hc8 q l2 c e))
          · obtain rfl : q = j := by omega
            rw [hone] at e
            cases e
            exact insL_mem.mpr (.inr rfl)
        · rintro σ' H8 ⟨⟨e6, rfl⟩, b8, L2, ds8, hL2, hk2, hc8⟩
          refine ⟨⟨_, _, rfl⟩, b7.trans b8, L2, ds8, hL2, fun l hl => hk2 l (hc1 l hl), fun l hl c hc => ?_⟩
          by_cases cf : c < f
          · exact hk2 _ (hc2 l hl c cf)
          · obtain rfl : c = f := by omega
            obtain ⟨q, hq⟩ := List.getElem?_of_mem (hc1 l hl)
            exact hc8 q l (by rw [hus1.len]; exact (List.getElem?_eq_some_iff.mp hq).1) hq
      · rintro σ' H6 ⟨⟨e5, e6, rfl⟩, b6, L1, ds6, hL1, hc1, hc2⟩
        refine ⟨⟨_, _, _, rfl⟩, b6, L1, ds6, hL1, fun l hl => ?_⟩
        rw [take_snoc2 hrow] at hl
        obtain ⟨l0, f, h0, hf, rfl⟩ := hl.split hrl
        exact hc2 l0 h0 f hf
    · obtain ⟨⟨e4, e5, e6, rfl⟩, b5, L0, ds5, hL0, hc0⟩ := hI
      walk_at "lk"
      rw [hr0.len, List.take_length] at hL0 hc0
      exact q d L0 H5 (bar_same hd b5) hd ds5 hL0.nd fun l => ⟨hL0.el l, hc0 l⟩
end
end K14

namespace K14
open PySem PySem.Spec PyProof.Rows L2 Lk
local macro_rules | `(tactic| walk_at "lk") => `(tactic| (repeat (first
  | with_reducible refine ssq ?_ | with_reducible refine sas ?_ | with_reducible refine sgn ?_ | ((with_reducible show tVar _ _ _ _); refine sv rfl ?_) | with_reducible refine sc ?_ | with_reducible refine sop ?_ | with_reducible refine sun ?_
  | with_reducible refine sI0 ?_ | with_reducible refine sU ?_ | with_reducible refine stt ?_ | with_reducible refine stB ?_ | with_reducible refine sbl ?_ | with_reducible refine snt ?_ | with_reducible refine sif ?_ | with_reducible refine scB ?_
  | with_reducible refine scn ?_ | with_reducible refine snl ?_ | with_reducible refine scl ?_ | with_reducible refine stu ?_ | with_reducible refine sli ?_ | with_reducible refine sdr ?_ | with_reducible refine srt ?_ | with_reducible refine snx ?_ | with_reducible refine sfor ?_ | with_reducible refine sils ?_ | with_reducible refine sien ?_ | with_reducible refine sor ?_ | with_reducible refine sfg ?_
  | with_reducible refine sav ?_ | with_reducible refine sov ?_ | with_reducible refine snv ?_ | with_reducible refine sch ?_ | with_reducible refine san ?_ | with_reducible refine ssll ?_ | with_reducible refine spt ?_ | with_reducible refine snp ?_ | with_reducible refine sin ?_ | with_reducible refine sfl ?_ | with_reducible refine sfd ?_ | with_reducible refine smt ?_ | with_reducible refine sbt ?_ | with_reducible refine sbm ?_ | with_reducible refine sifx ?_
  | ((with_reducible show Or _ _); first | refine Or.inl ⟨_, rfl, ?_⟩ | refine Or.inr ⟨_, rfl, ?_⟩))))

/-! ### doubles, and numbers of elements -/
section
variable {k n : Nat} {xss css yss : List (List Int)} {x : Md.Vec}
def dbl (xs : List Int) : List Int := xs.map (2 * ·)
theorem vec_dbl (xs : List Int) (i : Nat) : Md.vec (dbl xs) i = 2 * Md.vec xs i := by
  unfold Md.vec dbl
  rw [List.getD_eq_getElem?_getD, List.getElem?_map, List.getD_eq_getElem?_getD]
  cases xs[i]? with
  | none => rfl
  | some a => rfl
theorem dbl_in (h : Sp2 k n xss x) : Sp2 k n (xss.map dbl) (fun i => 2 * x i) := by
  obtain ⟨l, hl, hc⟩ := h
  have : ∀ l : List (Int × Md.Vec), (∀ p ∈ l, Gr xss p.2) → Sp2 k n (xss.map dbl) (fun i => 2 * Md.lin l i) := by
    intro l
    induction l with
    | nil => exact fun _ => Md.S.zero.cg fun i _ => ⟨0, by show (2 * (0 : Int)) - 0 = _; omega⟩
    | cons p l ih =>
      intro hp
      obtain ⟨v, hv, e⟩ := hp p (List.mem_cons_self ..)
      refine ((Md.S.mul p.1 (Md.S.gen (M := 2 ^ k) (n := n) (G := Gr (xss.map dbl)) ⟨dbl v, List.mem_map.mpr ⟨v, hv, rfl⟩, rfl⟩)).add (ih fun q hq => hp q (List.mem_cons_of_mem _ hq))).cg fun i _ => ⟨0, ?_⟩
      show 2 * (p.1 * p.2 i + Md.lin l i) - (p.1 * Md.vec (dbl v) i + 2 * Md.lin l i) = _
      have e4 : p.1 * Md.vec (dbl v) i = 2 * (p.1 * p.2 i) := by rw [vec_dbl, e]; exact Int.mul_left_comm ..
      rw [e4, Int.mul_zero]
      omega
  exact (this l hl).cg (hc.mul 2)
theorem dbl_out (h : Sp2 k n (xss.map dbl) x) : ∃ z, Sp2 k n xss z ∧ Md.Cg (2 ^ k) n x (fun i => 2 * z i) := by
  obtain ⟨l, hl, hc⟩ := h
  have : ∀ l : List (Int × Md.Vec), (∀ p ∈ l, Gr (xss.map dbl) p.2) → ∃ z, Sp2 k n xss z ∧ Md.Cg (2 ^ k) n (Md.lin l) (fun i => 2 * z i) := by
    intro l
    induction l with
    | nil => exact fun _ => ⟨_, Md.S.zero, fun i _ => ⟨0, by show (0 : Int) - 2 * 0 = _; omega⟩⟩
    | cons p l ih =>
      intro hp
      obtain ⟨z, hz, hcg⟩ := ih fun q hq => hp q (List.mem_cons_of_mem _ hq)
      obtain ⟨v, hv, e⟩ := hp p (List.mem_cons_self ..)
      obtain ⟨u, hu, rfl⟩ := List.mem_map.mp hv
      refine ⟨_, (Md.S.mul p.1 (Md.S.gen ⟨u, hu, rfl⟩)).add hz, fun i hi => ?_⟩
      have := hcg i hi
      show (2 : Int) ^ k ∣ (p.1 * p.2 i + Md.lin l i) - 2 * (p.1 * Md.vec u i + z i)
      have e3 : p.2 i = 2 * Md.vec u i := by rw [e]; exact vec_dbl u i
      have e4 : p.1 * p.2 i = 2 * (p.1 * Md.vec u i) := by rw [e3]; exact Int.mul_left_comm ..
      have e2 : (p.1 * p.2 i + Md.lin l i) - 2 * (p.1 * Md.vec u i + z i) = Md.lin l i - 2 * z i := by rw [e4]; omega
      rw [e2]
      exact this
  obtain ⟨z, hz, hcg⟩ := this l hl
  exact ⟨z, hz, hc.trans hcg⟩
def dblE (k : Nat) (l : List Int) : List Int := l.map fun a => (2 * a) % 2 ^ k
theorem dblE_len {l : List Int} : (dblE k l).length = l.length := List.length_map ..
theorem dblE_red {l : List Int} : Md.RedL k (dblE k l) := fun a ha => by
  obtain ⟨b, _, rfl⟩ := List.mem_map.mp ha
  exact ⟨Int.emod_nonneg _ (Int.ne_of_gt (Md.p2 k)), Int.emod_lt_of_pos _ (Md.p2 k)⟩
theorem dblE_vec (l : List Int) (i : Nat) : Md.vec (dblE k l) i = (2 * Md.vec l i) % 2 ^ k := by
  unfold Md.vec dblE
  rw [List.getD_eq_getElem?_getD, List.getElem?_map, List.getD_eq_getElem?_getD]
  cases l[i]? with
  | none => exact (Int.zero_emod _).symm
  | some a => rfl
theorem dbl_mem {l : List Int} : InM k n (xss.map dbl) l ↔ ∃ y, InM k n xss y ∧ dblE k y = l := by
  constructor
  · rintro ⟨h1, h2, h3⟩
    obtain ⟨z, hz, hc⟩ := dbl_out h3
    refine ⟨Md.tab n fun i => z i % 2 ^ k, ⟨Md.tab_len, Md.red_tab fun i _ => ⟨Int.emod_nonneg _ (Int.ne_of_gt (Md.p2 k)), Int.emod_lt_of_pos _ (Md.p2 k)⟩, hz.cg fun i hi => by
      rw [Md.vec_tab hi]
      exact Md.mod_cg _⟩, ?_⟩
    refine Md.ext_n (n := n) (by rw [dblE_len]; exact Md.tab_len) h1 fun i hi => ?_
    show Md.vec (dblE k _) i = Md.vec l i
    rw [dblE_vec, Md.vec_tab hi]
    refine Md.cg_of_eq (w := k) ?_ ⟨Int.emod_nonneg _ (Int.ne_of_gt (Md.p2 k)), Int.emod_lt_of_pos _ (Md.p2 k)⟩ (Md.red_vec h2 i)
    have c1 := Md.mod_cg (w := k) (2 * (z i % 2 ^ k))
    have c2 := Int.dvd_mul_of_dvd_right (b := (2 : Int)) (Md.mod_cg (w := k) (z i))
    have c3 := hc i hi
    have c4 := Int.dvd_sub (Int.dvd_add c1 c2) c3
    have e : 2 * (z i % 2 ^ k) % 2 ^ k - 2 * (z i % 2 ^ k) + 2 * (z i % 2 ^ k - z i) - (Md.vec l i - 2 * z i) = 2 * (z i % 2 ^ k) % 2 ^ k - Md.vec l i := by omega
    rwa [e] at c4
  · rintro ⟨y, hy, rfl⟩
    refine ⟨by rw [dblE_len]; exact hy.len, dblE_red, (dbl_in hy.sum).cg fun i _ => ?_⟩
    rw [dblE_vec]
    exact Md.mod_cg _
theorem inm_sub {gs : List (List Int)} (h : ∀ g ∈ gs, Sp2 k n xss (Md.vec g)) {l : List Int} (hl : InM k n gs l) : InM k n xss l := ⟨hl.len, hl.red, hl.sum.trans fun y ⟨g, hg, e⟩ => e ▸ h g hg⟩

def dbls : Nat → List Int → List Int
  | 0, x => x
  | j + 1, x => dbl (dbls j x)
theorem vec_dbls (xs : List Int) (i : Nat) : ∀ j : Nat, Md.vec (dbls j xs) i = 2 ^ j * Md.vec xs i
  | 0 => by rw [dbls, Int.pow_zero, Int.one_mul]
  | j + 1 => by
    rw [dbls, vec_dbl, vec_dbls xs i j, Int.pow_succ, Int.mul_comm ((2 : Int) ^ j) 2, Int.mul_assoc]
theorem map_dbls (j : Nat) : xss.map (dbls (j + 1)) = (xss.map (dbls j)).map dbl := by
  rw [List.map_map]
  rfl
theorem map_dbls0 : xss.map (dbls 0) = xss := by
  have : dbls 0 = id := rfl
  rw [this, List.map_id]
theorem dbls_iff : ∀ {j : Nat} {x : Md.Vec}, Sp2 k n (xss.map (dbls j)) x ↔ ∃ z, Sp2 k n xss z ∧ Md.Cg (2 ^ k) n x (fun i => 2 ^ j * z i)
  | 0, x => by
    rw [map_dbls0]
    constructor
    · exact fun h => ⟨x, h, fun i _ => ⟨0, by show x i - 2 ^ 0 * x i = _; rw [Int.pow_zero, Int.one_mul, Int.sub_self, Int.mul_zero]⟩⟩
    · rintro ⟨z, hz, hc⟩
      refine hz.cg fun i hi => ?_
      have : (2 : Int) ^ k ∣ x i - 2 ^ 0 * z i := hc i hi
      rwa [Int.pow_zero, Int.one_mul] at this
  | j + 1, x => by
    rw [map_dbls]
    constructor
    · intro h
      obtain ⟨y, hy, hc⟩ := dbl_out h
      obtain ⟨z, hz, hd⟩ := dbls_iff.mp hy
      refine ⟨z, hz, hc.trans fun i hi => ?_⟩
      have := Int.dvd_mul_of_dvd_right (b := (2 : Int)) (hd i hi)
      rw [Int.mul_sub] at this
      show (2 : Int) ^ k ∣ 2 * y i - 2 ^ (j + 1) * z i
      rw [Int.pow_succ, Int.mul_comm ((2 : Int) ^ j) 2, Int.mul_assoc]
      exact this
    · rintro ⟨z, hz, hc⟩
      have h1 := dbl_in (dbls_iff.mpr ⟨z, hz, Md.Cg.refl (fun i => 2 ^ j * z i)⟩)
      refine h1.cg fun i hi => ?_
      have : (2 : Int) ^ k ∣ x i - 2 ^ (j + 1) * z i := hc i hi
      rw [Int.pow_succ, Int.mul_comm ((2 : Int) ^ j) 2, Int.mul_assoc] at this
      exact this
/-- so many elements have the j times doubled ones -/
def Siz (k n : Nat) (xss : List (List Int)) (j c : Nat) : Prop := ∃ L : List (List Int), L.Nodup ∧ (∀ l, l ∈ L ↔ InM k n (xss.map (dbls j)) l) ∧ L.length = c
theorem Siz.uniq {j c c' : Nat} (h : Siz k n xss j c) (h' : Siz k n xss j c') : c = c' := by
  obtain ⟨L, a1, a2, rfl⟩ := h
  obtain ⟨L', b1, b2, rfl⟩ := h'
  exact Md.nodup_len a1 b1 fun l => by rw [a2, b2]
theorem inm_iff {l : List Int} (h : ∀ x, Sp2 k n xss x ↔ Sp2 k n yss x) : InM k n xss l ↔ InM k n yss l := ⟨fun a => ⟨a.len, a.red, (h _).mp a.sum⟩, fun a => ⟨a.len, a.red, (h _).mpr a.sum⟩⟩
theorem Siz.span {j c : Nat} (h : Siz k n xss j c) (e : ∀ x, Sp2 k n xss x ↔ Sp2 k n yss x) : Siz k n yss j c := by
  obtain ⟨L, a1, a2, rfl⟩ := h
  refine ⟨L, a1, fun l => ?_, rfl⟩
  rw [a2]
  refine inm_iff fun x => ?_
  rw [dbls_iff, dbls_iff]
  exact ⟨fun ⟨z, a, b⟩ => ⟨z, (e z).mp a, b⟩, fun ⟨z, a, b⟩ => ⟨z, (e z).mpr a, b⟩⟩
/-- one generator more, that has a power of 2 where all others have 0 -/
theorem cnt_add {G : List (List Int)} {g : List Int} {c e : Nat} (gl : g.length = n) (hc : c < n) (he : e ≤ k) (h1 : (2 : Int) ^ k ∣ Md.vec g c - 2 ^ e) (hz : ∀ r ∈ G, (2 : Int) ^ k ∣ Md.vec r c) (hk : ∀ i, (2 : Int) ^ k ∣ 2 ^ (k - e) * Md.vec g i)
    {L : List (List Int)} (nd : L.Nodup) (hm : ∀ l, l ∈ L ↔ InM k n G l) : ∃ L' : List (List Int), L'.Nodup ∧ (∀ l, l ∈ L' ↔ InM k n (G ++ [g]) l) ∧ L'.length = 2 ^ (k - e) * L.length := by
  have l0 : ∀ l ∈ L, Md.vec l c = 0 := fun l hl => by
    have h := (hm l).mp hl
    refine Md.red_zero (Md.red_vec h.red) (h.sum.col hc fun z f => ?_)
    obtain ⟨r, hr, rfl⟩ := f
    exact hz r hr
  have at_c : ∀ (a : Nat) (l : List Int), l ∈ L → a < 2 ^ (k - e) → Md.vec (addL k a g l) c = (a : Int) * 2 ^ e := fun a l hl ha => by
    rw [addL_vec ((hm l).mp hl).len gl hc, l0 l hl, Int.zero_add]
    have h2 : (2 : Int) ^ k ∣ (a : Int) * Md.vec g c - (a : Int) * 2 ^ e := by
      rw [← Int.mul_sub]
      exact Int.dvd_mul_of_dvd_right h1
    have p1 : (0 : Int) < 2 ^ e := Md.p2 e
    have ak : (a : Int) * 2 ^ e < 2 ^ k := by
      have : (a : Int) < 2 ^ (k - e) := by exact_mod_cast ha
      rw [Md.pow_split he]
      exact Int.mul_lt_mul_of_pos_right this p1
    refine Md.cg_of_eq (w := k) ?_ ⟨Int.emod_nonneg _ (Int.ne_of_gt (Md.p2 k)), Int.emod_lt_of_pos _ (Md.p2 k)⟩ ⟨Int.mul_nonneg (Int.natCast_nonneg a) (Int.le_of_lt p1), ak⟩
    have h3 := Int.dvd_add (Md.mod_cg (w := k) ((a : Int) * Md.vec g c)) h2
    have e3 : (a : Int) * Md.vec g c % 2 ^ k - (a : Int) * Md.vec g c + ((a : Int) * Md.vec g c - (a : Int) * 2 ^ e) = (a : Int) * Md.vec g c % 2 ^ k - (a : Int) * 2 ^ e := by omega
    rwa [e3] at h3
  refine ⟨(Md.prodL (List.range (2 ^ (k - e))) L).map fun q => addL k q.1 g q.2, ?_, fun l => ?_, ?_⟩
  · refine List.pairwise_map.mpr ((Md.prod_nodup nd List.nodup_range).imp_of_mem fun {p q} hp hq ne e => ne ?_)
    obtain ⟨p1, p2⟩ := Md.prod_mem.mp hp
    obtain ⟨q1, q2⟩ := Md.prod_mem.mp hq
    have e1 : p.1 = q.1 := by
      have h3 : Md.vec (addL k p.1 g p.2) c = Md.vec (addL k q.1 g q.2) c := congrArg (fun l => Md.vec l c) e
      rw [at_c _ _ p2 (List.mem_range.mp p1), at_c _ _ q2 (List.mem_range.mp q1)] at h3
      have := Int.eq_of_mul_eq_mul_right (Int.ne_of_gt (Md.p2 _)) h3
      omega
    have e2 : p.2 = q.2 := by
      have hp2 := (hm _).mp p2
      have hq2 := (hm _).mp q2
      refine Md.ext_n hp2.len hq2.len fun i hi => ?_
      have h3 : Md.vec (addL k p.1 g p.2) i = Md.vec (addL k q.1 g q.2) i := congrArg (fun l => Md.vec l i) e
      rw [addL_vec hp2.len gl hi, addL_vec hq2.len gl hi, e1] at h3
      refine Md.cg_of_eq (w := k) ?_ (Md.red_vec hp2.red i) (Md.red_vec hq2.red i)
      have c1 := Md.emod_cg (Md.vec p.2 i + (q.1 : Int) * Md.vec g i) (2 ^ k)
      have c2 := Md.mod_cg (w := k) (Md.vec q.2 i + (q.1 : Int) * Md.vec g i)
      rw [h3] at c1
      have := Int.dvd_add c1 c2
      have e3 : Md.vec p.2 i + (q.1 : Int) * Md.vec g i - (Md.vec q.2 i + (q.1 : Int) * Md.vec g i) % 2 ^ k + ((Md.vec q.2 i + (q.1 : Int) * Md.vec g i) % 2 ^ k - (Md.vec q.2 i + (q.1 : Int) * Md.vec g i)) = Md.vec p.2 i - Md.vec q.2 i := by omega
      rw [e3] at this
      exact this
    exact Prod.ext e1 e2
  · rw [List.mem_map]
    constructor
    · rintro ⟨q, hq, rfl⟩
      obtain ⟨_, q2⟩ := Md.prod_mem.mp hq
      exact (((hm _).mp q2).mono fun xs hx => List.mem_append_left _ hx).addL gl (List.mem_append_right _ (List.mem_singleton_self _)) _
    · intro h
      obtain ⟨l1, f, h2, hf, rfl⟩ := h.split gl
      refine ⟨(f % 2 ^ (k - e), l1), Md.prod_mem.mpr ⟨List.mem_range.mpr (Nat.mod_lt _ (Nat.pow_pos (by decide))), (hm l1).mpr h2⟩, ?_⟩
      refine Md.ext_n (addL_len h2.len gl) (addL_len h2.len gl) fun i hi => ?_
      show Md.vec (addL k _ g l1) i = Md.vec (addL k f g l1) i
      rw [addL_vec h2.len gl hi, addL_vec h2.len gl hi]
      refine (Int.emod_eq_emod_iff_emod_sub_eq_zero).mpr (Int.emod_eq_zero_of_dvd ?_)
      obtain ⟨d, hd⟩ := hk i
      have e2 : ((f % 2 ^ (k - e) : Nat) : Int) = (f : Int) - 2 ^ (k - e) * ((f / 2 ^ (k - e) : Nat) : Int) := by
        have h4 : f % 2 ^ (k - e) + 2 ^ (k - e) * (f / 2 ^ (k - e)) = f := Nat.mod_add_div f _
        have h5 : ((f % 2 ^ (k - e) + 2 ^ (k - e) * (f / 2 ^ (k - e)) : Nat) : Int) = (f : Int) := by rw [h4]
        push_cast at h5 ⊢
        omega
      refine ⟨-((f / 2 ^ (k - e) : Nat) : Int) * d, ?_⟩
      rw [e2, Int.sub_mul]
      have e5 : 2 ^ (k - e) * ((f / 2 ^ (k - e) : Nat) : Int) * Md.vec g i = 2 ^ k * (((f / 2 ^ (k - e) : Nat) : Int) * d) := by
        rw [Int.mul_right_comm, hd, Int.mul_assoc, Int.mul_comm d]
      rw [e5, Int.neg_mul, Int.mul_neg]
      omega
  · rw [List.length_map, Md.prod_len, List.length_range]
end

section
variable {P : Program} {w : World} {K : PySem.W.Frag} {mg : Str → Option Value} {base : Heap} {A : Ad}
end
end K14

namespace K14
open PySem PySem.Spec PyProof.Rows L2 Lk
local macro_rules | `(tactic| walk_at "lk") => `(tactic| (repeat (first
  | with_reducible refine ssq ?_ | with_reducible refine sas ?_ | with_reducible refine sgn ?_ | ((with_reducible show tVar _ _ _ _); refine sv rfl ?_) | with_reducible refine sc ?_ | with_reducible refine sop ?_ | with_reducible refine sun ?_
  | with_reducible refine sI0 ?_ | with_reducible refine sU ?_ | with_reducible refine stt ?_ | with_reducible refine stB ?_ | with_reducible refine sbl ?_ | with_reducible refine snt ?_ | with_reducible refine sif ?_ | with_reducible refine scB ?_
  | with_reducible refine scn ?_ | with_reducible refine snl ?_ | with_reducible refine scl ?_ | with_reducible refine stu ?_ | with_reducible refine sli ?_ | with_reducible refine sdr ?_ | with_reducible refine srt ?_ | with_reducible refine snx ?_ | with_reducible refine sfor ?_ | with_reducible refine sils ?_ | with_reducible refine sien ?_ | with_reducible refine sor ?_ | with_reducible refine sfg ?_
  | with_reducible refine sav ?_ | with_reducible refine sov ?_ | with_reducible refine snv ?_ | with_reducible refine sch ?_ | with_reducible refine san ?_ | with_reducible refine ssll ?_ | with_reducible refine spt ?_ | with_reducible refine snp ?_ | with_reducible refine sin ?_ | with_reducible refine sfl ?_ | with_reducible refine sfd ?_ | with_reducible refine smt ?_ | with_reducible refine sbt ?_ | with_reducible refine sbm ?_ | with_reducible refine sifx ?_
  | ((with_reducible show Or _ _); first | refine Or.inl ⟨_, rfl, ?_⟩ | refine Or.inr ⟨_, rfl, ?_⟩))))

/-! ### tables in steps by their exponents -/
/-- a part: its column, its exponent, its row -/
abbrev Part := Nat × Nat × List Int
def gen1 (t : Part) : List Int := t.2.2.map (2 ^ t.2.1 * ·)
theorem vec_gen (t : Part) (i : Nat) : Md.vec (gen1 t) i = 2 ^ t.2.1 * Md.vec t.2.2 i := by
  unfold Md.vec gen1
  rw [List.getD_eq_getElem?_getD, List.getElem?_map, List.getD_eq_getElem?_getD]
  cases t.2.2[i]? with
  | none => exact (Int.mul_zero _).symm
  | some a => rfl
structure Tri (k n : Nat) (ts : List Part) : Prop where
  at_ : ∀ t ∈ ts, t.1 < n ∧ t.2.1 < k ∧ t.2.2.length = n ∧ Md.vec t.2.2 t.1 = 1
  zero : ts.Pairwise fun a b => Md.vec b.2.2 a.1 = 0
  asc : ts.Pairwise fun a b => a.2.1 ≤ b.2.1
section
variable {k n : Nat} {xss yss : List (List Int)} {ts : List Part}
theorem dbls_len {j : Nat} (x : List Int) : (dbls j x).length = x.length := by
  induction j with
  | zero => rfl
  | succ j ih => rw [dbls, dbl, List.length_map, ih]
theorem inm_mem {A B : List (List Int)} {l : List Int} (h : ∀ r, r ∈ A ↔ r ∈ B) : InM k n A l ↔ InM k n B l := inm_iff fun x => ⟨fun a => a.mono fun y ⟨r, hr, e⟩ => ⟨r, (h r).mp hr, e⟩, fun a => a.mono fun y ⟨r, hr, e⟩ => ⟨r, (h r).mpr hr, e⟩⟩
theorem pow_min {e0 j : Nat} : (2 : Int) ^ k ∣ 2 ^ j * (2 ^ e0 * 1) - 2 ^ (min (e0 + j) k) := by
  rw [Int.mul_one, ← Int.pow_add, Nat.add_comm j e0]
  by_cases h : e0 + j ≤ k
  · rw [Nat.min_eq_left h, Int.sub_self]
    exact Int.dvd_zero _
  · rw [Nat.min_eq_right (by omega)]
    exact Int.dvd_sub ⟨2 ^ (e0 + j - k), by rw [← Int.pow_add]; congr 1; omega⟩ (Int.dvd_refl _)
theorem pow_kill {e0 j : Nat} (a : Int) : (2 : Int) ^ k ∣ 2 ^ (k - min (e0 + j) k) * (2 ^ j * (2 ^ e0 * a)) := by
  rw [← Int.mul_assoc, ← Int.mul_assoc, ← Int.pow_add, ← Int.pow_add]
  exact Int.dvd_mul_of_dvd_left ⟨2 ^ (k - min (e0 + j) k + j + e0 - k), by rw [← Int.pow_add]; congr 1; omega⟩
theorem tri_siz (j : Nat) : ∀ {ts : List Part}, Tri k n ts → Siz k n (ts.map gen1) j (2 ^ (ts.map fun t => k - (t.2.1 + j)).sum)
  | [], _ => ⟨[List.replicate n 0], List.pairwise_singleton _ _, fun l => by
    rw [List.mem_singleton]
    exact ⟨fun e => e ▸ InM.zero, fun h => h.nil⟩, rfl⟩
  | t :: ts, h => by
    obtain ⟨z1, z2⟩ := List.pairwise_cons.mp h.zero
    obtain ⟨a1, a2⟩ := List.pairwise_cons.mp h.asc
    obtain ⟨L, nd, hm, hl⟩ := tri_siz j (ts := ts) ⟨fun t ht => h.at_ t (List.mem_cons_of_mem _ ht), z2, a2⟩
    obtain ⟨t1, t2, t3, t4⟩ := h.at_ t (List.mem_cons_self ..)
    obtain ⟨L', nd', hm', hl'⟩ := cnt_add (g := dbls j (gen1 t)) (c := t.1) (e := min (t.2.1 + j) k) (by rw [dbls_len, gen1, List.length_map, t3]) t1 (Nat.min_le_right _ _) (by
      rw [vec_dbls, vec_gen, t4]
      exact pow_min) (fun r hr => by
      obtain ⟨r1, hr1, rfl⟩ := List.mem_map.mp hr
      obtain ⟨u, hu, rfl⟩ := List.mem_map.mp hr1
      rw [vec_dbls, vec_gen, z1 u hu, Int.mul_zero, Int.mul_zero]
      exact Int.dvd_zero _) (fun i => by
      rw [vec_dbls, vec_gen]
      exact pow_kill _) nd hm
    refine ⟨L', nd', fun l => ?_, ?_⟩
    · rw [hm']
      refine inm_mem fun r => ?_
      rw [List.map_cons, List.map_cons, List.mem_append, List.mem_singleton, List.mem_cons]
      exact Or.comm
    · rw [hl', hl, List.map_cons, List.sum_cons, Nat.pow_add]
      congr 2
      omega
/-- the exponents to which a table can be brought -/
def Smi (k n : Nat) (xss : List (List Int)) (es : List Nat) : Prop := ∃ ts : List Part, Tri k n ts ∧ es = ts.map (·.2.1) ∧ ∀ x, Sp2 k n xss x ↔ Sp2 k n (ts.map gen1) x
theorem Smi.siz {es : List Nat} (h : Smi k n xss es) (j : Nat) : Siz k n xss j (2 ^ (es.map fun e => k - (e + j)).sum) := by
  obtain ⟨ts, h1, rfl, h2⟩ := h
  have := (tri_siz j h1).span fun x => (h2 x).symm
  rw [List.map_map]
  exact this
theorem Smi.lt {es : List Nat} (h : Smi k n xss es) : ∀ e ∈ es, e < k := by
  obtain ⟨ts, h1, rfl, _⟩ := h
  intro e he
  obtain ⟨t, ht, rfl⟩ := List.mem_map.mp he
  exact (h1.at_ t ht).2.1
theorem Smi.asc {es : List Nat} (h : Smi k n xss es) : es.Pairwise (· ≤ ·) := by
  obtain ⟨ts, h1, rfl, _⟩ := h
  exact List.pairwise_map.mpr h1.asc
/-- how many exponents there are below a bound -/
def below (k : Nat) (es : List Nat) (j : Nat) : Nat := (es.filter fun e => decide (e + j < k)).length
theorem sum_step (j : Nat) : ∀ es : List Nat, (es.map fun e => k - (e + j)).sum = (es.map fun e => k - (e + (j + 1))).sum + below k es j
  | [] => rfl
  | e :: es => by
    have ih := sum_step j es
    unfold below at ih ⊢
    rw [List.map_cons, List.sum_cons, List.map_cons, List.sum_cons, List.filter_cons, ih]
    by_cases h : e + j < k
    · rw [if_pos (decide_eq_true h), List.length_cons]
      omega
    · rw [if_neg (by rw [decide_eq_false h]; decide)]
      omega
/-- the list by its counts -/
def flatE (b : Nat → Nat) (m : Nat) : List Nat := (List.range m).flatMap fun p => List.replicate (b p) p
theorem flatMap_cg {α β : Type} {f g : α → List β} {l : List α} (h : ∀ a ∈ l, f a = g a) : l.flatMap f = l.flatMap g := by
  rw [List.flatMap_def, List.flatMap_def, List.map_congr_left h]
theorem flatE_succ (b : Nat → Nat) (m : Nat) : flatE b (m + 1) = flatE b m ++ List.replicate (b m) m := by
  unfold flatE
  rw [List.range_succ, List.flatMap_append]
  simp
theorem asc_split {m : Nat} : ∀ {es : List Nat}, es.Pairwise (· ≤ ·) → (∀ e ∈ es, e < m + 1) → es = (es.filter fun e => decide (e < m)) ++ List.replicate (es.filter fun e => decide (e = m)).length m
  | [], _, _ => rfl
  | e :: es, h, hl => by
    obtain ⟨h1, h2⟩ := List.pairwise_cons.mp h
    have ih := asc_split h2 fun x hx => hl x (List.mem_cons_of_mem _ hx)
    have he := hl e (List.mem_cons_self ..)
    by_cases c : e < m
    · rw [List.filter_cons (p := fun e => decide (e < m)), if_pos (decide_eq_true c), List.filter_cons (p := fun e => decide (e = m)), if_neg (by rw [decide_eq_false (by omega)]; decide), List.cons_append, ← ih]
    · obtain rfl : e = m := by omega
      have hno : es.filter (fun x => decide (x < e)) = [] := List.filter_eq_nil_iff.mpr fun x hx => by
        have := h1 x hx
        rw [decide_eq_false (by omega)]
        decide
      rw [List.filter_cons (p := fun x => decide (x < e)), if_neg (by rw [decide_eq_false c]; decide), List.filter_cons (p := fun x => decide (x = e)), if_pos (decide_eq_true rfl), hno, List.nil_append, List.length_cons, List.replicate_succ]
      rw [hno, List.nil_append] at ih
      rw [← ih]
theorem flatE_of : ∀ {m : Nat} {es : List Nat}, es.Pairwise (· ≤ ·) → (∀ e ∈ es, e < m) → es = flatE (fun p => (es.filter fun e => decide (e = p)).length) m
  | 0, es, _, hl => by
    cases es with
    | nil => rfl
    | cons e es => exact absurd (hl e (List.mem_cons_self ..)) (Nat.not_lt_zero e)
  | m + 1, es, h, hl => by
    rw [flatE_succ]
    have h1 := asc_split h hl
    have h2 := flatE_of (m := m) (es := es.filter fun e => decide (e < m)) (h.filter _) fun e he => of_decide_eq_true (List.mem_filter.mp he).2
    have h3 : flatE (fun p => ((es.filter fun e => decide (e < m)).filter fun e => decide (e = p)).length) m = flatE (fun p => (es.filter fun e => decide (e = p)).length) m := by
      unfold flatE
      refine flatMap_cg fun p hp => ?_
      have hpm := List.mem_range.mp hp
      show List.replicate ((es.filter fun e => decide (e < m)).filter fun e => decide (e = p)).length p = List.replicate (es.filter fun e => decide (e = p)).length p
      rw [List.filter_filter]
      congr 2
      refine List.filter_congr fun x _ => ?_
      by_cases c : x = p
      · subst c
        rw [decide_eq_true rfl, decide_eq_true hpm]
        rfl
      · rw [decide_eq_false c]
        rfl
    rw [← h3, ← h2]
    exact h1
theorem below_diff {es : List Nat} {p : Nat} (hp : p < k) : below k es (k - 1 - p) = below k es (k - p) + (es.filter fun e => decide (e = p)).length := by
  unfold below
  induction es with
  | nil => rfl
  | cons e es ih =>
    rw [List.filter_cons, List.filter_cons, List.filter_cons]
    by_cases c : e = p
    · subst c
      rw [if_pos (decide_eq_true (by omega)), if_neg (by rw [decide_eq_false (by omega)]; decide), if_pos (decide_eq_true rfl), List.length_cons, List.length_cons]
      omega
    · by_cases d : e < p
      · rw [if_pos (decide_eq_true (by omega)), if_pos (decide_eq_true (by omega)), if_neg (by rw [decide_eq_false c]; decide), List.length_cons, List.length_cons]
        omega
      · rw [if_neg (by rw [decide_eq_false (by omega)]; decide), if_neg (by rw [decide_eq_false (by omega)]; decide), if_neg (by rw [decide_eq_false c]; decide)]
        exact ih
theorem pow2_eq {a b : Nat} (h : 2 ^ a = 2 ^ b) : a = b := Nat.le_antisymm ((Nat.pow_le_pow_iff_right (by decide)).mp (Nat.le_of_eq h)) ((Nat.pow_le_pow_iff_right (by decide)).mp (Nat.le_of_eq h.symm))
/-- equally many elements: equal exponents -/
theorem sums_uniq {es es' : List Nat} (h1 : es.Pairwise (· ≤ ·)) (h2 : es'.Pairwise (· ≤ ·)) (l1 : ∀ e ∈ es, e < k) (l2 : ∀ e ∈ es', e < k) (h : ∀ j, (es.map fun e => k - (e + j)).sum = (es'.map fun e => k - (e + j)).sum) : es = es' := by
  have hb : ∀ j, below k es j = below k es' j := fun j => by
    have a := sum_step (k := k) j es
    have b := sum_step (k := k) j es'
    have c := h j
    have d := h (j + 1)
    omega
  rw [flatE_of h1 l1, flatE_of h2 l2]
  unfold flatE
  refine flatMap_cg fun p hp => ?_
  have hpk := List.mem_range.mp hp
  have a := below_diff (es := es) hpk
  have b := below_diff (es := es') hpk
  rw [hb, hb] at a
  show List.replicate (es.filter fun e => decide (e = p)).length p = List.replicate (es'.filter fun e => decide (e = p)).length p
  congr 1
  omega
theorem Smi.uniq {n' : Nat} {es es' : List Nat} (h : Smi k n xss es) (h' : Smi k n' yss es') (e : ∀ j c, Siz k n xss j c → Siz k n' yss j c) : es = es' :=
  sums_uniq h.asc h'.asc h.lt h'.lt fun j => pow2_eq ((e j _ (h.siz j)).uniq (h'.siz j))
end

section
variable {P : Program} {w : World} {K : PySem.W.Frag} {mg : Str → Option Value} {base : Heap} {A : Ad}
end
end K14

namespace K14
open PySem PySem.Spec PyProof.Rows L2 Lk
local macro_rules | `(tactic| walk_at "lk") => `(tactic| (repeat (first
  | with_reducible refine ssq ?_ | with_reducible refine sas ?_ | with_reducible refine sgn ?_ | ((with_reducible show tVar _ _ _ _); refine sv rfl ?_) | with_reducible refine sc ?_ | with_reducible refine sop ?_ | with_reducible refine sun ?_
  | with_reducible refine sI0 ?_ | with_reducible refine sU ?_ | with_reducible refine stt ?_ | with_reducible refine stB ?_ | with_reducible refine sbl ?_ | with_reducible refine snt ?_ | with_reducible refine sif ?_ | with_reducible refine scB ?_
  | with_reducible refine scn ?_ | with_reducible refine snl ?_ | with_reducible refine scl ?_ | with_reducible refine stu ?_ | with_reducible refine sli ?_ | with_reducible refine sdr ?_ | with_reducible refine srt ?_ | with_reducible refine snx ?_ | with_reducible refine sfor ?_ | with_reducible refine sils ?_ | with_reducible refine sien ?_ | with_reducible refine sor ?_ | with_reducible refine sfg ?_
  | with_reducible refine sav ?_ | with_reducible refine sov ?_ | with_reducible refine snv ?_ | with_reducible refine sch ?_ | with_reducible refine san ?_ | with_reducible refine ssll ?_ | with_reducible refine spt ?_ | with_reducible refine snp ?_ | with_reducible refine sin ?_ | with_reducible refine sfl ?_ | with_reducible refine sfd ?_ | with_reducible refine smt ?_ | with_reducible refine sbt ?_ | with_reducible refine sbm ?_ | with_reducible refine sifx ?_
  | ((with_reducible show Or _ _); first | refine Or.inl ⟨_, rfl, ?_⟩ | refine Or.inr ⟨_, rfl, ?_⟩))))

/-! ### a column changed by the next one -/
def colop (a : Nat) (f : Int) (r : List Int) : List Int := r.set a (r.getD a 0 + f * r.getD (a + 1) 0)
def phi (a : Nat) (f : Int) (x : Md.Vec) : Md.Vec := fun i => x i + if i = a then f * x (a + 1) else 0
section
variable {k n a : Nat} {f : Int} {xss : List (List Int)} {x : Md.Vec}
theorem colop_len (r : List Int) : (colop a f r).length = r.length := List.length_set ..
theorem vec_colop {r : List Int} (h : a < r.length) (i : Nat) : Md.vec (colop a f r) i = phi a f (Md.vec r) i := by
  unfold Md.vec colop phi
  rw [List.getD_eq_getElem?_getD, List.getElem?_set]
  by_cases c : a = i
  · subst c
    rw [if_pos rfl, if_pos h, if_pos rfl]
    rfl
  · rw [if_neg c, if_neg (Ne.symm c), Int.add_zero]
    show _ = r.getD i 0
    rw [List.getD_eq_getElem?_getD]
theorem phi_lin (q : Int) (u z : Md.Vec) (i : Nat) : phi a f (fun i => q * u i + z i) i = q * phi a f u i + phi a f z i := by
  unfold phi
  by_cases c : i = a
  · rw [if_pos c, if_pos c, if_pos c]
    show q * u i + z i + f * (q * u (a + 1) + z (a + 1)) = q * (u i + f * u (a + 1)) + (z i + f * z (a + 1))
    rw [Int.mul_add f, Int.mul_add q, Int.mul_left_comm f]
    omega
  · rw [if_neg c, if_neg c, if_neg c, Int.add_zero, Int.add_zero, Int.add_zero]
theorem phi_cg {x y : Md.Vec} (ha : a + 1 < n) (h : Md.Cg (2 ^ k) n x y) : Md.Cg (2 ^ k) n (phi a f x) (phi a f y) := fun i hi => by
  have h1 := h i hi
  have h2 := Int.dvd_mul_of_dvd_right (b := f) (h (a + 1) ha)
  unfold phi
  split
  · have := Int.dvd_add h1 h2
    rw [Int.mul_sub] at this
    have e : x i - y i + (f * x (a + 1) - f * y (a + 1)) = x i + f * x (a + 1) - (y i + f * y (a + 1)) := by omega
    rwa [e] at this
  · rw [Int.add_zero, Int.add_zero]
    exact h1
theorem sp_col (ha : a + 1 < n) (hl : ∀ r ∈ xss, r.length = n) : Sp2 k n (xss.map (colop a f)) x ↔ ∃ z, Sp2 k n xss z ∧ Md.Cg (2 ^ k) n x (phi a f z) := by
  constructor
  · rintro ⟨l, h, hc⟩
    have : ∀ l : List (Int × Md.Vec), (∀ p ∈ l, Gr (xss.map (colop a f)) p.2) → ∃ z, Sp2 k n xss z ∧ Md.Cg (2 ^ k) n (Md.lin l) (phi a f z) := by
      intro l
      induction l with
      | nil =>
        refine fun _ => ⟨_, Md.S.zero, fun i _ => ⟨0, ?_⟩⟩
        show (0 : Int) - (0 + if i = a then f * 0 else 0) = _
        split <;> simp
      | cons p l ih =>
        intro hp
        obtain ⟨z, hz, hcg⟩ := ih fun q hq => hp q (List.mem_cons_of_mem _ hq)
        obtain ⟨v, hv, e⟩ := hp p (List.mem_cons_self ..)
        obtain ⟨u, hu, rfl⟩ := List.mem_map.mp hv
        refine ⟨_, (Md.S.mul p.1 (Md.S.gen ⟨u, hu, rfl⟩)).add hz, fun i hi => ?_⟩
        have := hcg i hi
        have e3 : p.2 i = phi a f (Md.vec u) i := by rw [e]; exact vec_colop (by rw [hl u hu]; omega) i
        show (2 : Int) ^ k ∣ (p.1 * p.2 i + Md.lin l i) - phi a f (fun i => p.1 * Md.vec u i + z i) i
        have e2 : (p.1 * p.2 i + Md.lin l i) - phi a f (fun i => p.1 * Md.vec u i + z i) i = Md.lin l i - phi a f z i := by
          rw [e3, phi_lin]
          omega
        rw [e2]
        exact this
    obtain ⟨z, hz, hd⟩ := this l h
    exact ⟨z, hz, hc.trans hd⟩
  · rintro ⟨z, ⟨l, h, hc⟩, hd⟩
    have : ∀ l : List (Int × Md.Vec), (∀ p ∈ l, Gr xss p.2) → Sp2 k n (xss.map (colop a f)) (phi a f (Md.lin l)) := by
      intro l
      induction l with
      | nil =>
        refine fun _ => Md.S.zero.cg fun i _ => ⟨0, ?_⟩
        show ((0 : Int) + if i = a then f * 0 else 0) - 0 = _
        split <;> simp
      | cons p l ih =>
        intro hp
        obtain ⟨v, hv, e⟩ := hp p (List.mem_cons_self ..)
        refine ((Md.S.mul p.1 (Md.S.gen (M := 2 ^ k) (n := n) (G := Gr (xss.map (colop a f))) ⟨_, List.mem_map.mpr ⟨v, hv, rfl⟩, rfl⟩)).add (ih fun q hq => hp q (List.mem_cons_of_mem _ hq))).cg fun i _ => ⟨0, ?_⟩
        have e4 : Md.vec (colop a f v) i = phi a f p.2 i := by rw [e]; exact vec_colop (by rw [hl v hv]; omega) i
        show phi a f (fun i => p.1 * p.2 i + Md.lin l i) i - (p.1 * Md.vec (colop a f v) i + phi a f (Md.lin l) i) = _
        rw [e4, phi_lin]
        omega
    exact (this l h).cg (hd.trans (phi_cg ha hc))
theorem dbls_colop {j : Nat} {r : List Int} (hr : a < r.length) : dbls j (colop a f r) = colop a f (dbls j r) := by
  refine Md.ext_n (n := r.length) (by rw [dbls_len, colop_len]) (by rw [colop_len, dbls_len]) fun i hi => ?_
  show Md.vec (dbls j (colop a f r)) i = Md.vec (colop a f (dbls j r)) i
  rw [vec_dbls, vec_colop hr, vec_colop (by rw [dbls_len]; exact hr)]
  unfold phi
  rw [vec_dbls, vec_dbls, Int.mul_add]
  split
  · rw [Int.mul_left_comm]
  · rw [Int.mul_zero]
theorem siz_col {j c : Nat} (ha : a + 1 < n) (hl : ∀ r ∈ xss, r.length = n) (h : Siz k n xss j c) : Siz k n (xss.map (colop a f)) j c := by
  obtain ⟨L, nd, hm, rfl⟩ := h
  have eA : (xss.map (colop a f)).map (dbls j) = (xss.map (dbls j)).map (colop a f) := by
    rw [List.map_map, List.map_map]
    refine List.map_congr_left fun r hr => ?_
    exact dbls_colop (by rw [hl r hr]; omega)
  have hlA : ∀ r ∈ xss.map (dbls j), r.length = n := fun r hr => by
    obtain ⟨u, hu, rfl⟩ := List.mem_map.mp hr
    rw [dbls_len, hl u hu]
  have rd : ∀ b : Int, 0 ≤ b % 2 ^ k ∧ b % 2 ^ k < 2 ^ k := fun b => ⟨Int.emod_nonneg _ (Int.ne_of_gt (Md.p2 k)), Int.emod_lt_of_pos _ (Md.p2 k)⟩
  refine ⟨L.map fun l => Md.tab n fun i => phi a f (Md.vec l) i % 2 ^ k, ?_, fun l => ?_, List.length_map ..⟩
  · refine List.pairwise_map.mpr (nd.imp_of_mem fun {p q} hp hq ne e => ne ?_)
    have mp := (hm p).mp hp
    have mq := (hm q).mp hq
    have key : ∀ i, i < n → (2 : Int) ^ k ∣ phi a f (Md.vec p) i - phi a f (Md.vec q) i := fun i hi => by
      have := Md.tab_inj e hi
      have c1 := Md.emod_cg (phi a f (Md.vec p) i) (2 ^ k)
      have c2 := Md.mod_cg (w := k) (phi a f (Md.vec q) i)
      rw [this] at c1
      have := Int.dvd_add c1 c2
      rwa [show phi a f (Md.vec p) i - phi a f (Md.vec q) i % 2 ^ k + (phi a f (Md.vec q) i % 2 ^ k - phi a f (Md.vec q) i) = phi a f (Md.vec p) i - phi a f (Md.vec q) i by omega] at this
    have off : ∀ i, i < n → i ≠ a → Md.vec p i = Md.vec q i := fun i hi hn => by
      have := key i hi
      unfold phi at this
      rw [if_neg hn, if_neg hn, Int.add_zero, Int.add_zero] at this
      exact Md.cg_of_eq this (Md.red_vec mp.red i) (Md.red_vec mq.red i)
    refine Md.ext_n mp.len mq.len fun i hi => ?_
    by_cases c : i = a
    · subst c
      have := key i hi
      unfold phi at this
      rw [if_pos rfl, if_pos rfl, off (i + 1) ha (by omega)] at this
      rw [show Md.vec p i + f * Md.vec q (i + 1) - (Md.vec q i + f * Md.vec q (i + 1)) = Md.vec p i - Md.vec q i by omega] at this
      exact Md.cg_of_eq this (Md.red_vec mp.red i) (Md.red_vec mq.red i)
    · exact off i hi c
  · rw [eA, List.mem_map]
    constructor
    · rintro ⟨y, hy, rfl⟩
      have my := (hm y).mp hy
      refine ⟨Md.tab_len, Md.red_tab fun i _ => rd _, (sp_col ha hlA).mpr ⟨_, my.sum, fun i hi => ?_⟩⟩
      rw [Md.vec_tab hi]
      exact Md.mod_cg _
    · intro h
      obtain ⟨z, hz, hc⟩ := (sp_col ha hlA).mp h.sum
      refine ⟨Md.tab n fun i => z i % 2 ^ k, (hm _).mpr ⟨Md.tab_len, Md.red_tab fun i _ => rd _, hz.cg fun i hi => by
        rw [Md.vec_tab hi]
        exact Md.mod_cg _⟩, ?_⟩
      refine Md.ext_n Md.tab_len h.len fun i hi => ?_
      show Md.vec (Md.tab n _) i = Md.vec l i
      rw [Md.vec_tab hi]
      refine Md.cg_of_eq ?_ (rd _) (Md.red_vec h.red i)
      have c0 : Md.Cg (2 ^ k) n (Md.vec (Md.tab n fun i => z i % 2 ^ k)) z := fun i hi => by
        rw [Md.vec_tab hi]
        exact Md.mod_cg _
      have c1 := phi_cg (f := f) ha c0 i hi
      have c2 := Md.mod_cg (w := k) (phi a f (Md.vec (Md.tab n fun i => z i % 2 ^ k)) i)
      have c3 := hc i hi
      have := Int.dvd_sub (Int.dvd_add c2 c1) c3
      rwa [show phi a f (Md.vec (Md.tab n fun i => z i % 2 ^ k)) i % 2 ^ k - phi a f (Md.vec (Md.tab n fun i => z i % 2 ^ k)) i + (phi a f (Md.vec (Md.tab n fun i => z i % 2 ^ k)) i - phi a f z i) - (Md.vec l i - phi a f z i) = phi a f (Md.vec (Md.tab n fun i => z i % 2 ^ k)) i % 2 ^ k - Md.vec l i by omega] at this
end

section
variable {P : Program} {w : World} {K : PySem.W.Frag} {mg : Str → Option Value} {base : Heap} {A : Ad}
end
end K14

namespace K14
open PySem PySem.Spec PyProof.Rows L2 Lk
local macro_rules | `(tactic| walk_at "lk") => `(tactic| (repeat (first
  | with_reducible refine ssq ?_ | with_reducible refine sas ?_ | with_reducible refine sgn ?_ | ((with_reducible show tVar _ _ _ _); refine sv rfl ?_) | with_reducible refine sc ?_ | with_reducible refine sop ?_ | with_reducible refine sun ?_
  | with_reducible refine sI0 ?_ | with_reducible refine sU ?_ | with_reducible refine stt ?_ | with_reducible refine stB ?_ | with_reducible refine sbl ?_ | with_reducible refine snt ?_ | with_reducible refine sif ?_ | with_reducible refine scB ?_
  | with_reducible refine scn ?_ | with_reducible refine snl ?_ | with_reducible refine scl ?_ | with_reducible refine stu ?_ | with_reducible refine sli ?_ | with_reducible refine sdr ?_ | with_reducible refine srt ?_ | with_reducible refine snx ?_ | with_reducible refine sfor ?_ | with_reducible refine sils ?_ | with_reducible refine sien ?_ | with_reducible refine sor ?_ | with_reducible refine sfg ?_
  | with_reducible refine sav ?_ | with_reducible refine sov ?_ | with_reducible refine snv ?_ | with_reducible refine sch ?_ | with_reducible refine san ?_ | with_reducible refine ssll ?_ | with_reducible refine spt ?_ | with_reducible refine snp ?_ | with_reducible refine sin ?_ | with_reducible refine sfl ?_ | with_reducible refine sfd ?_ | with_reducible refine smt ?_ | with_reducible refine sbt ?_ | with_reducible refine sbm ?_ | with_reducible refine sifx ?_
  | ((with_reducible show Or _ _); first | refine Or.inl ⟨_, rfl, ?_⟩ | refine Or.inr ⟨_, rfl, ?_⟩))))

/-! ### rows as columns -/
theorem allL_in {m : Nat} : ∀ {n : Nat} {l : List Int}, l ∈ allL m n → l.length = n ∧ ∀ a ∈ l, 0 ≤ a ∧ a < (m : Int)
  | 0, l, h => by
    rw [List.mem_singleton.mp h]
    exact ⟨rfl, fun a ha => by cases ha⟩
  | n + 1, l, h => by
    obtain ⟨b, hb, h2⟩ := List.mem_flatMap.mp h
    obtain ⟨l', h3, rfl⟩ := List.mem_map.mp h2
    obtain ⟨i1, i2⟩ := allL_in h3
    have := List.mem_range.mp hb
    refine ⟨by rw [List.length_cons, i1], fun a ha => ?_⟩
    rcases List.mem_cons.mp ha with rfl | ha
    · omega
    · exact i2 a ha
theorem allL_nodup (m : Nat) : ∀ n : Nat, (allL m n).Nodup
  | 0 => List.pairwise_singleton _ _
  | n + 1 => by
    have ih := allL_nodup m n
    unfold allL
    refine List.pairwise_flatMap.mpr ⟨fun a _ => List.pairwise_map.mpr (ih.imp fun ne e => ne (List.cons.inj e).2), List.nodup_range.imp_of_mem fun {a b} _ _ ne x hx y hy e => ?_⟩
    obtain ⟨_, _, rfl⟩ := List.mem_map.mp hx
    obtain ⟨_, _, rfl⟩ := List.mem_map.mp hy
    have := (List.cons.inj e).1
    omega
section
variable {k m n : Nat}
/-- all rows of m numbers -/
def allR (k m : Nat) : List (List Int) := allL (2 ^ k) m
theorem allR_mem {l : List Int} : l ∈ allR k m ↔ l.length = m ∧ Md.RedL k l := by
  have e : ((2 ^ k : Nat) : Int) = 2 ^ k := by norm_cast
  constructor
  · intro h
    obtain ⟨h1, h2⟩ := allL_in h
    exact ⟨h1, fun a ha => by have := h2 a ha; rwa [e] at this⟩
  · rintro ⟨h1, h2⟩
    exact allL_mem h1 fun a ha => by rw [e]; exact h2 a ha
theorem allR_len : (allR k m).length = 2 ^ (k * m) := by
  unfold allR
  rw [allL_len, ← Nat.pow_mul]
/-- a number at one place more -/
def shft (k m c : Nat) (a : Int) (y : List Int) : List Int := Md.tab m fun i => (Md.vec y i + if i = c then a else 0) % 2 ^ k
theorem rd_ (k : Nat) (b : Int) : 0 ≤ b % 2 ^ k ∧ b % 2 ^ k < 2 ^ k := ⟨Int.emod_nonneg _ (Int.ne_of_gt (Md.p2 k)), Int.emod_lt_of_pos _ (Md.p2 k)⟩
theorem shft_in {c : Nat} {a : Int} {y : List Int} : shft k m c a y ∈ allR k m := allR_mem.mpr ⟨Md.tab_len, Md.red_tab fun i _ => rd_ k _⟩
theorem dot_cgl {y z v : Md.Vec} (h : Md.Cg (2 ^ k) m y z) : (2 : Int) ^ k ∣ Md.dot m y v - Md.dot m z v := by
  rw [Md.dot_comm (y := y), Md.dot_comm (y := z)]
  exact Md.dot_cg h
theorem dot_add {y z v : Md.Vec} : Md.dot m (fun i => y i + z i) v = Md.dot m y v + Md.dot m z v := by
  rw [Md.dot_comm, Md.dot_comm (y := y), Md.dot_comm (y := z)]
  have := Md.dot_lin (y := v) (u := y) (v := z) 1 (n := m)
  rw [Int.one_mul] at this
  rw [← this]
  congr 1
  funext i
  rw [Int.one_mul]
theorem dot_shft {c : Nat} {a : Int} {y : List Int} {g : Md.Vec} (hc : c < m) : (2 : Int) ^ k ∣ Md.dot m (Md.vec (shft k m c a y)) g - (Md.dot m (Md.vec y) g + a * g c) := by
  have h1 : Md.Cg (2 ^ k) m (Md.vec (shft k m c a y)) (fun i => Md.vec y i + if i = c then a else 0) := fun i hi => by
    unfold shft
    rw [Md.vec_tab hi]
    exact Md.mod_cg _
  have h2 := dot_cgl (v := g) h1
  rwa [dot_add, Md.dot_one hc] at h2
theorem shft_back {c : Nat} {a : Int} {y : List Int} (hy : y ∈ allR k m) : shft k m c a (shft k m c (-a) y) = y := by
  obtain ⟨h1, h2⟩ := allR_mem.mp hy
  refine Md.ext_n Md.tab_len h1 fun i hi => ?_
  show Md.vec (shft k m c a (shft k m c (-a) y)) i = Md.vec y i
  unfold shft
  rw [Md.vec_tab hi, Md.vec_tab hi]
  refine Md.cg_of_eq (w := k) ?_ (rd_ k _) (Md.red_vec h2 i)
  have c1 := Md.mod_cg (w := k) ((Md.vec y i + if i = c then -a else 0) % 2 ^ k + if i = c then a else 0)
  have c2 := Md.mod_cg (w := k) (Md.vec y i + if i = c then -a else 0)
  have := Int.dvd_add c1 c2
  generalize ((Md.vec y i + if i = c then -a else 0) % 2 ^ k + if i = c then a else 0) % 2 ^ k = A at this ⊢
  generalize (Md.vec y i + if i = c then -a else 0) % 2 ^ k = B at this
  split at this
  · rwa [show A - (B + a) + (B - (Md.vec y i + -a)) = A - Md.vec y i by omega] at this
  · rwa [show A - (B + 0) + (B - (Md.vec y i + 0)) = A - Md.vec y i by omega] at this
theorem shft_inj {c : Nat} {a : Int} {y z : List Int} (hy : y ∈ allR k m) (hz : z ∈ allR k m) (e : shft k m c a y = shft k m c a z) : y = z := by
  have := congrArg (shft k m c (-a)) e
  have b : ∀ {x : List Int}, x ∈ allR k m → shft k m c (-a) (shft k m c a x) = x := fun {x} hx => by
    have := shft_back (c := c) (a := -a) hx
    rwa [Int.neg_neg] at this
  rwa [b hy, b hz] at this
open Classical in
/-- what is 0 with all of some rows -/
noncomputable def annR (k m : Nat) (G : List (List Int)) : List (List Int) := (allR k m).filter fun y => decide (∀ g ∈ G, (2 : Int) ^ k ∣ Md.dot m (Md.vec y) (Md.vec g))
theorem annR_mem {G : List (List Int)} {y : List Int} : y ∈ annR k m G ↔ y ∈ allR k m ∧ ∀ g ∈ G, (2 : Int) ^ k ∣ Md.dot m (Md.vec y) (Md.vec g) := by
  unfold annR
  rw [List.mem_filter, decide_eq_true_iff]
theorem ann_add {G : List (List Int)} {g : List Int} {c e : Nat} (hc : c < m) (he : e ≤ k) (h1 : (2 : Int) ^ k ∣ Md.vec g c - 2 ^ e) (hz : ∀ r ∈ G, (2 : Int) ^ k ∣ Md.vec r c) (hd : ∀ i, (2 : Int) ^ e ∣ Md.vec g i) :
    (annR k m G).length = (annR k m (g :: G)).length * 2 ^ (k - e) := by
  have de : ∀ y : List Int, (2 : Int) ^ e ∣ Md.dot m (Md.vec y) (Md.vec g) % 2 ^ k := fun y => by
    have a1 : (2 : Int) ^ e ∣ Md.dot m (Md.vec y) (Md.vec g) := Md.dot_S (n := m) (M := 2 ^ e) (G := fun v => v = Md.vec g) (fun v hv => by
      subst hv
      have z : Md.Cg (2 ^ e) m (Md.vec g) (fun _ => 0) := fun i _ => by
        show (2 : Int) ^ e ∣ Md.vec g i - 0
        rw [Int.sub_zero]
        exact hd i
      have := Md.dot_cg (y := Md.vec y) z
      rwa [Md.dot_zero (v := fun _ => 0) fun i _ => Int.mul_zero _, Int.sub_zero] at this) (Md.S.gen rfl)
    have a2 : (2 : Int) ^ e ∣ 2 ^ k := ⟨2 ^ (k - e), by rw [Int.mul_comm]; exact Md.pow_split he⟩
    have := Int.dvd_add (Int.dvd_trans a2 (Md.mod_cg (w := k) (Md.dot m (Md.vec y) (Md.vec g)))) a1
    rwa [Int.sub_add_cancel] at this
  have pe := Md.p2 e
  have key := Md.fiber_len (f := fun y : List Int => (Md.dot m (Md.vec y) (Md.vec g) % 2 ^ k / 2 ^ e).toNat) (r := (annR k m (g :: G)).length) (L' := List.range (2 ^ (k - e))) (L := annR k m G) List.nodup_range (fun y _ => ?_) (fun a ha => ?_)
  · rwa [List.length_range] at key
  · obtain ⟨b1, b2⟩ := rd_ k (Md.dot m (Md.vec y) (Md.vec g))
    have h3 : Md.dot m (Md.vec y) (Md.vec g) % 2 ^ k / 2 ^ e < 2 ^ (k - e) := by
      refine Int.ediv_lt_of_lt_mul pe ?_
      rw [← Md.pow_split he]
      exact b2
    have h4 : 0 ≤ Md.dot m (Md.vec y) (Md.vec g) % 2 ^ k / 2 ^ e := Int.ediv_nonneg b1 (Int.le_of_lt pe)
    refine List.mem_range.mpr ?_
    have h5 : ((2 ^ (k - e) : Nat) : Int) = 2 ^ (k - e) := by norm_cast
    omega
  · have ha2 := List.mem_range.mp ha
    have ak : (a : Int) * 2 ^ e < 2 ^ k := by
      have : (a : Int) < 2 ^ (k - e) := by exact_mod_cast ha2
      rw [Md.pow_split he]
      exact Int.mul_lt_mul_of_pos_right this pe
    have ak0 : 0 ≤ (a : Int) * 2 ^ e := Int.mul_nonneg (Int.natCast_nonneg a) (Int.le_of_lt pe)
    have nd : ∀ G : List (List Int), (annR k m G).Nodup := fun G => (allL_nodup _ _).filter _
    have sG : ∀ (b : Int) (y : List Int), ∀ r ∈ G, (2 : Int) ^ k ∣ Md.dot m (Md.vec y) (Md.vec r) → (2 : Int) ^ k ∣ Md.dot m (Md.vec (shft k m c b y)) (Md.vec r) := fun b y r hr hy => by
      have c1 := dot_shft (k := k) (a := b) (y := y) (g := Md.vec r) hc
      have c2 := Int.dvd_add c1 (Int.dvd_add hy (Int.dvd_mul_of_dvd_right (b := b) (hz r hr)))
      rwa [Int.sub_add_cancel] at c2
    refine (Md.len_bij (shft k m c (a : Int)) (nd (g :: G)) ((nd G).filter _) (fun x hx y hy e => shft_inj (annR_mem.mp hx).1 (annR_mem.mp hy).1 e) fun y => ?_).symm
    rw [List.mem_filter, decide_eq_true_iff, annR_mem]
    constructor
    · rintro ⟨⟨y1, y2⟩, y3⟩
      refine ⟨shft k m c (-(a : Int)) y, annR_mem.mpr ⟨shft_in, fun r hr => ?_⟩, shft_back y1⟩
      rcases List.mem_cons.mp hr with rfl | hr
      · have c1 := dot_shft (k := k) (a := -(a : Int)) (y := y) (g := Md.vec r) hc
        have c2 : Md.dot m (Md.vec y) (Md.vec r) % 2 ^ k = (a : Int) * 2 ^ e := by
          obtain ⟨q, hq⟩ := de y
          have h0 := (rd_ k (Md.dot m (Md.vec y) (Md.vec r))).1
          rw [hq] at y3 h0 ⊢
          rw [Int.mul_ediv_cancel_left _ (Int.ne_of_gt pe)] at y3
          have : 0 ≤ q := by
            by_cases z : 0 ≤ q
            · exact z
            · have := Int.mul_neg_of_pos_of_neg pe (show q < 0 by omega)
              omega
          rw [Int.mul_comm]
          congr 1
          omega
        have c3 := Md.emod_cg (Md.dot m (Md.vec y) (Md.vec r)) (2 ^ k)
        rw [c2] at c3
        have c4 := Int.dvd_mul_of_dvd_right (b := (a : Int)) h1
        rw [Int.mul_sub] at c4
        have c5 := Int.dvd_sub (Int.dvd_add c1 c3) c4
        have e5 : Md.dot m (Md.vec (shft k m c (-(a : Int)) y)) (Md.vec r) - (Md.dot m (Md.vec y) (Md.vec r) + -(a : Int) * Md.vec r c) + (Md.dot m (Md.vec y) (Md.vec r) - (a : Int) * 2 ^ e) - ((a : Int) * Md.vec r c - (a : Int) * 2 ^ e) = Md.dot m (Md.vec (shft k m c (-(a : Int)) y)) (Md.vec r) := by
          rw [Int.neg_mul]
          omega
        rwa [e5] at c5
      · exact sG _ _ r hr (y2 r hr)
    · rintro ⟨x, hx, rfl⟩
      obtain ⟨x1, x2⟩ := annR_mem.mp hx
      refine ⟨⟨shft_in, fun r hr => sG _ _ r hr (x2 r (List.mem_cons_of_mem _ hr))⟩, ?_⟩
      have c1 := dot_shft (k := k) (a := (a : Int)) (y := x) (g := Md.vec g) hc
      have c4 := Int.dvd_mul_of_dvd_right (b := (a : Int)) h1
      rw [Int.mul_sub] at c4
      have c5 := Int.dvd_add (Int.dvd_add c1 (x2 g (List.mem_cons_self ..))) c4
      have e5 : Md.dot m (Md.vec (shft k m c (a : Int) x)) (Md.vec g) - (Md.dot m (Md.vec x) (Md.vec g) + (a : Int) * Md.vec g c) + Md.dot m (Md.vec x) (Md.vec g) + ((a : Int) * Md.vec g c - (a : Int) * 2 ^ e) = Md.dot m (Md.vec (shft k m c (a : Int) x)) (Md.vec g) - (a : Int) * 2 ^ e := by omega
      rw [e5] at c5
      have c6 := Int.dvd_add (Md.mod_cg (w := k) (Md.dot m (Md.vec (shft k m c (a : Int) x)) (Md.vec g))) c5
      have c7 : Md.dot m (Md.vec (shft k m c (a : Int) x)) (Md.vec g) % 2 ^ k = (a : Int) * 2 ^ e := Md.cg_of_eq (w := k) (by
        rwa [show Md.dot m (Md.vec (shft k m c (a : Int) x)) (Md.vec g) % 2 ^ k - Md.dot m (Md.vec (shft k m c (a : Int) x)) (Md.vec g) + (Md.dot m (Md.vec (shft k m c (a : Int) x)) (Md.vec g) - (a : Int) * 2 ^ e) = Md.dot m (Md.vec (shft k m c (a : Int) x)) (Md.vec g) % 2 ^ k - (a : Int) * 2 ^ e by omega] at c6) (rd_ k _) ⟨ak0, ak⟩
      rw [c7, Int.mul_ediv_cancel _ (Int.ne_of_gt pe)]
      rfl
/-- how many are 0 with a table in steps -/
theorem tri_ann (j : Nat) : ∀ {ts : List Part}, Tri k m ts → 2 ^ (k * m) = (annR k m ((ts.map gen1).map (dbls j))).length * 2 ^ (ts.map fun t => k - (t.2.1 + j)).sum
  | [], _ => by
    have e : annR k m (([].map gen1).map (dbls j)) = allR k m := List.filter_eq_self.mpr fun y _ => decide_eq_true fun g hg => by cases hg
    rw [e, allR_len]
    exact (Nat.mul_one _).symm
  | t :: ts, h => by
    obtain ⟨z1, z2⟩ := List.pairwise_cons.mp h.zero
    obtain ⟨a1, a2⟩ := List.pairwise_cons.mp h.asc
    have ih := tri_ann j (ts := ts) ⟨fun t ht => h.at_ t (List.mem_cons_of_mem _ ht), z2, a2⟩
    obtain ⟨t1, t2, t3, t4⟩ := h.at_ t (List.mem_cons_self ..)
    have := ann_add (k := k) (m := m) (G := (ts.map gen1).map (dbls j)) (g := dbls j (gen1 t)) (c := t.1) (e := min (t.2.1 + j) k) t1 (Nat.min_le_right _ _) (by
      rw [vec_dbls, vec_gen, t4]
      exact pow_min) (fun r hr => by
      obtain ⟨r1, hr1, rfl⟩ := List.mem_map.mp hr
      obtain ⟨u, hu, rfl⟩ := List.mem_map.mp hr1
      rw [vec_dbls, vec_gen, z1 u hu, Int.mul_zero, Int.mul_zero]
      exact Int.dvd_zero _) (fun i => by
      rw [vec_dbls, vec_gen, ← Int.mul_assoc, ← Int.pow_add]
      exact Int.dvd_mul_of_dvd_left ⟨2 ^ (j + t.2.1 - min (t.2.1 + j) k), by rw [← Int.pow_add]; congr 1; omega⟩)
    rw [ih, this, List.map_cons, List.map_cons, List.map_cons, List.sum_cons, Nat.pow_add, Nat.mul_assoc]
    congr 3
    omega
end

section
variable {P : Program} {w : World} {K : PySem.W.Frag} {mg : Str → Option Value} {base : Heap} {A : Ad}
end
end K14

namespace K14
open PySem PySem.Spec PyProof.Rows L2 Lk
local macro_rules | `(tactic| walk_at "lk") => `(tactic| (repeat (first
  | with_reducible refine ssq ?_ | with_reducible refine sas ?_ | with_reducible refine sgn ?_ | ((with_reducible show tVar _ _ _ _); refine sv rfl ?_) | with_reducible refine sc ?_ | with_reducible refine sop ?_ | with_reducible refine sun ?_
  | with_reducible refine sI0 ?_ | with_reducible refine sU ?_ | with_reducible refine stt ?_ | with_reducible refine stB ?_ | with_reducible refine sbl ?_ | with_reducible refine snt ?_ | with_reducible refine sif ?_ | with_reducible refine scB ?_
  | with_reducible refine scn ?_ | with_reducible refine snl ?_ | with_reducible refine scl ?_ | with_reducible refine stu ?_ | with_reducible refine sli ?_ | with_reducible refine sdr ?_ | with_reducible refine srt ?_ | with_reducible refine snx ?_ | with_reducible refine sfor ?_ | with_reducible refine sils ?_ | with_reducible refine sien ?_ | with_reducible refine sor ?_ | with_reducible refine sfg ?_
  | with_reducible refine sav ?_ | with_reducible refine sov ?_ | with_reducible refine snv ?_ | with_reducible refine sch ?_ | with_reducible refine san ?_ | with_reducible refine ssll ?_ | with_reducible refine spt ?_ | with_reducible refine snp ?_ | with_reducible refine sin ?_ | with_reducible refine sfl ?_ | with_reducible refine sfd ?_ | with_reducible refine smt ?_ | with_reducible refine sbt ?_ | with_reducible refine sbm ?_ | with_reducible refine sifx ?_
  | ((with_reducible show Or _ _); first | refine Or.inl ⟨_, rfl, ?_⟩ | refine Or.inr ⟨_, rfl, ?_⟩))))

section
variable {k n : Nat} {A xss : List (List Int)}
/-- the t-th column -/
def colV (A : List (List Int)) (t : Nat) : Md.Vec := fun i => Md.vec (A.getD i []) t
def colsOf (n : Nat) (xss : List (List Int)) : List (List Int) := (List.range n).map fun t => xss.map fun r => r.getD t 0
theorem dot_ext {m : Nat} {y u v : Md.Vec} (h : ∀ i, i < m → u i = v i) : Md.dot m y u = Md.dot m y v := by
  unfold Md.dot
  congr 1
  exact List.map_congr_left fun i hi => by rw [h i (List.mem_range.mp hi)]
theorem vec_col {t i : Nat} (hi : i < A.length) : Md.vec (A.map fun r => r.getD t 0) i = colV A t i := by
  unfold Md.vec colV
  rw [List.getD_eq_getElem?_getD, List.getElem?_map, List.getElem?_eq_getElem hi, List.getD_eq_getElem?_getD, List.getElem?_eq_getElem hi]
  rfl
theorem dot_linl {m : Nat} {q : Int} {u z v : Md.Vec} : Md.dot m (fun i => q * u i + z i) v = q * Md.dot m u v + Md.dot m z v := by
  rw [Md.dot_comm, Md.dot_lin, Md.dot_comm (y := v) (v := u), Md.dot_comm (y := v) (v := z)]
/-- elements are sums of multiples of the rows, with factors in their order -/
theorem span_comb {x : Md.Vec} : Sp2 k n A x ↔ ∃ y : Md.Vec, Md.Cg (2 ^ k) n x (fun t => Md.dot A.length y (colV A t)) := by
  constructor
  · rintro ⟨l, h, hc⟩
    have : ∀ l : List (Int × Md.Vec), (∀ p ∈ l, Gr A p.2) → ∃ y : Md.Vec, ∀ t, Md.lin l t = Md.dot A.length y (colV A t) := by
      intro l
      induction l with
      | nil => exact fun _ => ⟨fun _ => 0, fun t => (Md.dot_zero fun i _ => Int.zero_mul _).symm⟩
      | cons p l ih =>
        intro hp
        obtain ⟨y, hy⟩ := ih fun q hq => hp q (List.mem_cons_of_mem _ hq)
        obtain ⟨v, hv, e⟩ := hp p (List.mem_cons_self ..)
        obtain ⟨i, hi⟩ := List.getElem?_of_mem hv
        have hil := (List.getElem?_eq_some_iff.mp hi).1
        refine ⟨fun i' => p.1 * (if i' = i then 1 else 0) + y i', fun t => ?_⟩
        rw [dot_linl, Md.dot_one hil, ← hy, Int.one_mul]
        show p.1 * p.2 t + Md.lin l t = _
        congr 2
        rw [e]
        unfold colV
        rw [List.getD_eq_getElem?_getD, hi]
        rfl
    obtain ⟨y, hy⟩ := this l h
    refine ⟨y, hc.trans fun t _ => ?_⟩
    rw [hy t, Int.sub_self]
    exact Int.dvd_zero _
  · rintro ⟨y, hc⟩
    have : ∀ m, m ≤ A.length → Sp2 k n A (fun t => Md.dot m y (colV A t)) := fun m => by
      induction m with
      | zero => exact fun _ => Md.S.zero
      | succ m ih =>
        intro hm
        have hg : Sp2 k n A (Md.vec (A.getD m [])) := Md.S.gen ⟨_, by
          rw [List.getD_eq_getElem?_getD, List.getElem?_eq_getElem (by omega)]
          exact List.getElem_mem _, rfl⟩
        refine ((ih (by omega)).add (Md.S.mul (y m) hg)).cg fun t _ => ?_
        rw [Md.dot_succ]
        show (2 : Int) ^ k ∣ Md.dot m y (colV A t) + y m * colV A t m - (Md.dot m y (colV A t) + y m * Md.vec (A.getD m []) t)
        unfold colV
        rw [Int.sub_self]
        exact Int.dvd_zero _
    exact (this _ (Nat.le_refl _)).cg hc
def comb (k n : Nat) (A : List (List Int)) (y : List Int) : List Int := Md.tab n fun t => Md.dot A.length (Md.vec y) (colV A t) % 2 ^ k
theorem comb_eq {y l : List Int} (h : l.length = n) (r : Md.RedL k l) : comb k n A y = l ↔ ∀ t, t < n → (2 : Int) ^ k ∣ Md.dot A.length (Md.vec y) (colV A t) - Md.vec l t := by
  constructor
  · rintro rfl t ht
    unfold comb
    rw [Md.vec_tab ht]
    exact Md.emod_cg _ _
  · intro hd
    refine Md.ext_n Md.tab_len h fun t ht => ?_
    show Md.vec (comb k n A y) t = Md.vec l t
    unfold comb
    rw [Md.vec_tab ht]
    have := Int.dvd_add (Md.mod_cg (w := k) (Md.dot A.length (Md.vec y) (colV A t))) (hd t ht)
    refine Md.cg_of_eq (w := k) ?_ (rd_ k _) (Md.red_vec r t)
    rwa [show Md.dot A.length (Md.vec y) (colV A t) % 2 ^ k - Md.dot A.length (Md.vec y) (colV A t) + (Md.dot A.length (Md.vec y) (colV A t) - Md.vec l t) = Md.dot A.length (Md.vec y) (colV A t) % 2 ^ k - Md.vec l t by omega] at this
theorem comb_in {l : List Int} : InM k n A l ↔ ∃ y ∈ allR k A.length, comb k n A y = l := by
  constructor
  · intro h
    obtain ⟨y, hy⟩ := span_comb.mp h.sum
    refine ⟨Md.tab A.length fun i => y i % 2 ^ k, allR_mem.mpr ⟨Md.tab_len, Md.red_tab fun i _ => rd_ k _⟩, (comb_eq h.len h.red).mpr fun t ht => ?_⟩
    have c0 : Md.Cg (2 ^ k) A.length (Md.vec (Md.tab A.length fun i => y i % 2 ^ k)) y := fun i hi => by
      rw [Md.vec_tab hi]
      exact Md.mod_cg _
    have := Int.dvd_sub (dot_cgl (v := colV A t) c0) (hy t ht)
    rwa [show Md.dot A.length (Md.vec (Md.tab A.length fun i => y i % 2 ^ k)) (colV A t) - Md.dot A.length y (colV A t) - (Md.vec l t - Md.dot A.length y (colV A t)) = Md.dot A.length (Md.vec (Md.tab A.length fun i => y i % 2 ^ k)) (colV A t) - Md.vec l t by omega] at this
  · rintro ⟨y, _, rfl⟩
    refine ⟨Md.tab_len, Md.red_tab fun i _ => rd_ k _, span_comb.mpr ⟨Md.vec y, fun t ht => ?_⟩⟩
    unfold comb
    rw [Md.vec_tab ht]
    exact Md.mod_cg _
theorem ann_cols {y : List Int} : y ∈ annR k A.length (colsOf n A) ↔ y ∈ allR k A.length ∧ ∀ t, t < n → (2 : Int) ^ k ∣ Md.dot A.length (Md.vec y) (colV A t) := by
  rw [annR_mem]
  refine and_congr Iff.rfl ⟨fun h t ht => ?_, fun h g hg => ?_⟩
  · have := h _ (List.mem_map.mpr ⟨t, List.mem_range.mpr ht, rfl⟩)
    rwa [dot_ext fun i hi => vec_col hi] at this
  · obtain ⟨t, ht, rfl⟩ := List.mem_map.mp hg
    rw [dot_ext fun i hi => vec_col hi]
    exact h t (List.mem_range.mp ht)
theorem row_count {L : List (List Int)} (nd : L.Nodup) (hm : ∀ l, l ∈ L ↔ InM k n A l) : 2 ^ (k * A.length) = (annR k A.length (colsOf n A)).length * L.length := by
  rw [← allR_len]
  have ndR : (allR k A.length).Nodup := allL_nodup _ _
  refine Md.fiber_len (comb k n A) _ nd (fun y hy => (hm _).mpr (comb_in.mpr ⟨y, hy, rfl⟩)) fun l hl => ?_
  have ml := (hm l).mp hl
  obtain ⟨y0, hy0, e0⟩ := comb_in.mp ml
  have h0 := (comb_eq ml.len ml.red).mp e0
  have r0 := allR_mem.mp hy0
  have dadd : ∀ (a b : List Int) (t : Nat), (2 : Int) ^ k ∣ Md.dot A.length (Md.vec (Md.addR k A.length a b)) (colV A t) - (Md.dot A.length (Md.vec a) (colV A t) + Md.dot A.length (Md.vec b) (colV A t)) := fun a b t => by
    rw [← dot_add]
    refine dot_cgl fun i hi => ?_
    show (2 : Int) ^ k ∣ (Md.addR k A.length a b).getD i 0 - (a.getD i 0 + b.getD i 0)
    rw [Md.addR_at hi]
    exact Md.mod_cg _
  have dneg : ∀ (b : List Int) (t : Nat), (2 : Int) ^ k ∣ Md.dot A.length (Md.vec (Md.negR k A.length b)) (colV A t) - -Md.dot A.length (Md.vec b) (colV A t) := fun b t => by
    have e : Md.dot A.length (fun i => -1 * Md.vec b i + (fun _ => (0 : Int)) i) (colV A t) = -Md.dot A.length (Md.vec b) (colV A t) := by
      rw [dot_linl, Md.dot_zero (y := fun _ => (0 : Int)) fun i _ => Int.zero_mul _]
      omega
    rw [← e]
    refine dot_cgl fun i hi => ?_
    show (2 : Int) ^ k ∣ (Md.negR k A.length b).getD i 0 - (-1 * b.getD i 0 + 0)
    rw [Md.negR_at hi, show -1 * b.getD i 0 + 0 = -b.getD i 0 by omega]
    exact Md.mod_cg _
  refine (Md.len_bij (fun y => Md.addR k A.length y y0) (ndR.filter _) (ndR.filter _) (fun a ha b hb e => ?_) fun b => ?_).symm
  · have a1 := allR_mem.mp (List.mem_filter.mp ha).1
    have b1 := allR_mem.mp (List.mem_filter.mp hb).1
    exact Md.add_inj a1.1 b1.1 a1.2 b1.2 e
  · rw [List.mem_filter, decide_eq_true_iff]
    constructor
    · rintro ⟨hb, eb⟩
      have b1 := allR_mem.mp hb
      have hb2 := (comb_eq ml.len ml.red).mp eb
      refine ⟨Md.addR k A.length b (Md.negR k A.length y0), ann_cols.mpr ⟨allR_mem.mpr ⟨Md.addR_len, Md.addR_red⟩, fun t ht => ?_⟩, Md.add_neg b1.1 b1.2⟩
      have := Int.dvd_add (Int.dvd_add (dadd b (Md.negR k A.length y0) t) (dneg y0 t)) (Int.dvd_sub (hb2 t ht) (h0 t ht))
      generalize Md.dot A.length (Md.vec (Md.addR k A.length b (Md.negR k A.length y0))) (colV A t) = u1 at this ⊢
      generalize Md.dot A.length (Md.vec (Md.negR k A.length y0)) (colV A t) = u2 at this
      generalize Md.dot A.length (Md.vec b) (colV A t) = u3 at this
      generalize Md.dot A.length (Md.vec y0) (colV A t) = u4 at this
      rwa [show u1 - (u3 + u2) + (u2 - -u4) + (u3 - Md.vec l t - (u4 - Md.vec l t)) = u1 by omega] at this
    · rintro ⟨a, ha, rfl⟩
      obtain ⟨a1, a2⟩ := ann_cols.mp ha
      refine ⟨allR_mem.mpr ⟨Md.addR_len, Md.addR_red⟩, (comb_eq ml.len ml.red).mpr fun t ht => ?_⟩
      have := Int.dvd_add (dadd a y0 t) (Int.dvd_add (a2 t ht) (h0 t ht))
      generalize Md.dot A.length (Md.vec (Md.addR k A.length a y0)) (colV A t) = u1 at this ⊢
      generalize Md.dot A.length (Md.vec a) (colV A t) = u3 at this
      generalize Md.dot A.length (Md.vec y0) (colV A t) = u4 at this
      rwa [show u1 - (u3 + u4) + (u3 + (u4 - Md.vec l t)) = u1 - Md.vec l t by omega] at this
open Classical in
theorem els_ex (k n : Nat) (A : List (List Int)) : ∃ L : List (List Int), L.Nodup ∧ ∀ l, l ∈ L ↔ InM k n A l :=
  ⟨(allR k n).filter fun l => decide (InM k n A l), (allL_nodup _ _).filter _, fun l => by
    rw [List.mem_filter, decide_eq_true_iff, allR_mem]
    exact ⟨fun h => h.2, fun h => ⟨⟨h.len, h.red⟩, h⟩⟩⟩
theorem annR_span {m : Nat} {G G' : List (List Int)} (h : ∀ x, Sp2 k m G x ↔ Sp2 k m G' x) : (annR k m G).length = (annR k m G').length := by
  refine Md.nodup_len ((allL_nodup _ _).filter _) ((allL_nodup _ _).filter _) fun y => ?_
  have key : ∀ {G : List (List Int)}, y ∈ annR k m G ↔ y ∈ allR k m ∧ ∀ x, Sp2 k m G x → (2 : Int) ^ k ∣ Md.dot m (Md.vec y) x := fun {G} => by
    rw [annR_mem]
    refine and_congr Iff.rfl ⟨fun hg x hx => Md.dot_S (fun v hv => ?_) hx, fun hx g hg => hx _ (Md.S.gen ⟨g, hg, rfl⟩)⟩
    obtain ⟨g, hg', rfl⟩ := hv
    exact hg g hg'
  show y ∈ annR k m G ↔ y ∈ annR k m G'
  rw [key, key]
  exact and_congr Iff.rfl ⟨fun a x hx => a x ((h x).mpr hx), fun a x hx => a x ((h x).mp hx)⟩
theorem cols_dbls {j : Nat} : colsOf n (xss.map (dbls j)) = (colsOf n xss).map (dbls j) := by
  unfold colsOf
  rw [List.map_map]
  refine List.map_congr_left fun t _ => ?_
  rw [List.map_map]
  refine Md.ext_n (n := xss.length) (List.length_map ..) (by show (dbls j _).length = _; rw [dbls_len, List.length_map]) fun i hi => ?_
  show Md.vec (xss.map ((fun r => r.getD t 0) ∘ dbls j)) i = Md.vec (dbls j (xss.map fun r => r.getD t 0)) i
  rw [vec_dbls, vec_col hi]
  unfold Md.vec colV
  rw [List.getD_eq_getElem?_getD, List.getElem?_map, List.getElem?_eq_getElem hi, List.getD_eq_getElem?_getD, List.getElem?_eq_getElem hi]
  exact vec_dbls _ t j
theorem Smi.cols {es : List Nat} (h : Smi k xss.length (colsOf n xss) es) (j : Nat) : Siz k n xss j (2 ^ (es.map fun e => k - (e + j)).sum) := by
  obtain ⟨ts, h1, rfl, h2⟩ := h
  obtain ⟨L, nd, hm⟩ := els_ex k n (xss.map (dbls j))
  refine ⟨L, nd, hm, ?_⟩
  have a := row_count nd hm
  rw [List.length_map, cols_dbls] at a
  have e : (annR k xss.length ((colsOf n xss).map (dbls j))).length = (annR k xss.length ((ts.map gen1).map (dbls j))).length := annR_span fun x => by
    rw [dbls_iff, dbls_iff]
    exact ⟨fun ⟨z, a, b⟩ => ⟨z, (h2 z).mp a, b⟩, fun ⟨z, a, b⟩ => ⟨z, (h2 z).mpr a, b⟩⟩
  rw [e, tri_ann j h1] at a
  rw [List.map_map]
  have pos : 0 < (annR k xss.length ((ts.map gen1).map (dbls j))).length := by
    refine Nat.pos_of_ne_zero fun z => ?_
    have := tri_ann j h1
    rw [z, Nat.zero_mul] at this
    exact absurd this (Nat.ne_of_gt (Nat.pow_pos (by decide)))
  exact (Nat.eq_of_mul_eq_mul_left pos a).symm
/-- rows and columns have the same exponents -/
theorem smi_cols {es es' : List Nat} (h : Smi k n xss es) (h' : Smi k xss.length (colsOf n xss) es') : es = es' :=
  sums_uniq h.asc h'.asc h.lt h'.lt fun j => pow2_eq ((h.siz j).uniq (h'.cols j))
end

section
variable {P : Program} {w : World} {K : PySem.W.Frag} {mg : Str → Option Value} {base : Heap} {A : Ad}
end
end K14

namespace K14
open PySem PySem.Spec PyProof.Rows L2 Lk
local macro_rules | `(tactic| walk_at "lk") => `(tactic| (repeat (first
  | with_reducible refine ssq ?_ | with_reducible refine sas ?_ | with_reducible refine sgn ?_ | ((with_reducible show tVar _ _ _ _); refine sv rfl ?_) | with_reducible refine sc ?_ | with_reducible refine sop ?_ | with_reducible refine sun ?_
  | with_reducible refine sI0 ?_ | with_reducible refine sU ?_ | with_reducible refine stt ?_ | with_reducible refine stB ?_ | with_reducible refine sbl ?_ | with_reducible refine snt ?_ | with_reducible refine sif ?_ | with_reducible refine scB ?_
  | with_reducible refine scn ?_ | with_reducible refine snl ?_ | with_reducible refine scl ?_ | with_reducible refine stu ?_ | with_reducible refine sli ?_ | with_reducible refine sdr ?_ | with_reducible refine srt ?_ | with_reducible refine snx ?_ | with_reducible refine sfor ?_ | with_reducible refine sils ?_ | with_reducible refine sien ?_ | with_reducible refine sor ?_ | with_reducible refine sfg ?_
  | with_reducible refine sav ?_ | with_reducible refine sov ?_ | with_reducible refine snv ?_ | with_reducible refine sch ?_ | with_reducible refine san ?_ | with_reducible refine ssll ?_ | with_reducible refine spt ?_ | with_reducible refine snp ?_ | with_reducible refine sin ?_ | with_reducible refine sfl ?_ | with_reducible refine sfd ?_ | with_reducible refine smt ?_ | with_reducible refine sbt ?_ | with_reducible refine sbm ?_ | with_reducible refine sifx ?_
  | ((with_reducible show Or _ _); first | refine Or.inl ⟨_, rfl, ?_⟩ | refine Or.inr ⟨_, rfl, ?_⟩))))

theorem ix_tupB {X : Cx} {K : PySem.W.Frag} (h : X.K = K) : IxR X (rIxT K) := by
  subst h
  exact ix_tup
theorem lcg_zipR {K : PySem.W.Frag} {J : L2.It} {G : Hp → Prop} {n p q : Nat} {xs ys : Nat → Option V} {te : TE} {vs : List Nat} {σ : L2.St} {H : Hp} {D : Addr} {Qd : Hp → Prop} (w : Walk J n G (YPair xs ys)) (zs : List Int) (hn : zs.length = n) (h3 : n ≤ 1000) (hD : H D = none) (hG : ∀ H', Same H H' → G H')
    (hw : ∀ x y, wipe (((wipe σ vs).set p (some x)).set q (some y)) vs = wipe σ vs)
    (he : ∀ (i : Nat) (x y : V) (z : Int) (H' : Hp) (R : VK), xs i = some x → ys i = some y → zs[i]? = some z → Same H H' → R (.int z) H' → te (((wipe σ vs).set p (some x)).set q (some y)) H' R)
    (k : ∀ H', Same H H' → H' D = some (.lst (zs.map V.int)) → Qd H') : LcG J (gTup K 2 (gCons (gName p) (gCons (gName q) gNil))) tYes te vs σ H D Qd := by
  refine lc_it w (fun i H' => Same H H' ∧ H' D = some (.lst ((zs.take i).map V.int))) ⟨same_new hD, upd_same⟩ (fun i H' _ h => hG H' h.1) (fun i v H1 H2 hi h hy => ?_) (fun H' h => ?_)
  · obtain ⟨T, x, y, rfl, hT, rfl, e1, e2⟩ := hy
    obtain ⟨s1, hDl⟩ := h
    have s2 : Same H1 (upd H1 T (.tup [x, y])) := same_new hT
    refine g_pair (SqT.of upd_same) ⟨hw _ _, ?_⟩
    have e3 := s2 _ _ hDl
    generalize upd H1 T (.tup [x, y]) = H2 at s2 e3 ⊢
    have hz : zs[i]? = some (zs[i]'(by omega)) := List.getElem?_eq_getElem (by omega)
    unfold tYes
    simp only [if_true]
    refine he i x y _ H2 _ e1 e2 hz (s1.trans s2) ⟨_, e3, ?_, fun c o e => ?_, ?_⟩
    · rw [List.length_map, List.length_take]
      exact small1000 (by omega)
    · rw [upd_ne (ne_of_none e hD)]
      exact s2 _ _ (s1 _ _ e)
    · rw [upd_same, List.take_succ, hz, List.map_append]
      rfl
  · rw [← hn, List.take_length] at h
    exact k H' h.1 h.2
def spLow (K : PySem.W.Frag) : Sp := fun vs H Q _ => ∃ (a : Addr) (xs : List Int) (k : Nat), vs = [.ref a, .int (k : Int)] ∧ SqE K H a (xs.map V.int) ∧ xs.length ≤ 1000 ∧ k ≤ 64 ∧ ∀ p H', Same H H' → H' p = some (.tup ((xs.map (· % 2 ^ k)).map V.int)) → Q (.ref p) H'
/-- a row less a multiple of a part -/
def clr (k c : Nat) (p xs : List Int) : List Int := (List.zipWith (fun x l => x - xs.getD c 0 * l) xs p).map (· % 2 ^ k)
def spClr (K : PySem.W.Frag) : Sp := fun vs H Q _ => ∃ (a b : Addr) (xs ps : List Int) (c k : Nat), vs = [.ref a, .int (c : Int), .ref b, .int (k : Int)] ∧ H a = some (.tup (xs.map V.int)) ∧ H b = some (.tup (ps.map V.int)) ∧ c < xs.length ∧ ps.length = xs.length ∧ xs.length ≤ 1000 ∧ k ≤ 64 ∧ (∀ x ∈ xs, x.natAbs < 2 ^ 64) ∧ (∀ x ∈ ps, x.natAbs < 2 ^ 64) ∧
  ∀ p H', Same H H' → H' p = some (.tup ((clr k c ps xs).map V.int)) → Q (.ref p) H'
/-- the best place among what was seen -/
def Best (H : Hp) (R : List (List Int)) (seen : List Int) (v : V) : Prop := (v = .non ∧ ∀ x ∈ seen, x = 0) ∨
  ∃ (p : Addr) (a c : Nat) (row : List Int) (e u : Nat), v = .ref p ∧ H p = some (.tup [.int (a : Int), .int (c : Int)]) ∧ R[a]? = some row ∧ row[c]? = some ((2 ^ e * (2 * u + 1) : Nat) : Int) ∧ ∀ x ∈ seen, (2 : Int) ^ e ∣ x
theorem Best.same {H H' : Hp} {R : List (List Int)} {seen : List Int} {v : V} (s : Same H H') (h : Best H R seen v) : Best H' R seen v := h.imp id fun ⟨p, a, c, row, e, u, h1, h2, h3⟩ => ⟨p, a, c, row, e, u, h1, s _ _ h2, h3⟩
def spLeast (K : PySem.W.Frag) : Sp := fun vs H Q _ => ∃ (l : Addr) (us : List V) (R : List (List Int)), vs = [.ref l] ∧ SqL K H l us ∧ F2 (TupH H) us R ∧ us.length ≤ 1000 ∧ (∀ r ∈ R, r.length ≤ 1000) ∧ (∀ r ∈ R, ∀ x ∈ r, 0 ≤ x) ∧
  ∀ v H', Same H H' → Best H' R R.flatten v → Q v H'
theorem pw_dvd {a b : Nat} (h : a ≤ b) : (2 : Int) ^ a ∣ 2 ^ b := ⟨2 ^ (b - a), by rw [← Int.pow_add]; congr 1; omega⟩
theorem odd_split (n : Nat) (h : n ≠ 0) : ∃ e u : Nat, n = 2 ^ e * (2 * u + 1) := by
  induction n using Nat.strongRecOn with
  | ind n ih =>
    by_cases c : n % 2 = 1
    · exact ⟨0, n / 2, by rw [Nat.pow_zero]; omega⟩
    · obtain ⟨e, u, he⟩ := ih (n / 2) (by omega) (by omega)
      refine ⟨e + 1, u, ?_⟩
      rw [Nat.pow_succ, Nat.mul_right_comm, ← he]
      omega

section
variable {P : Program} {w : World} {K : PySem.W.Frag} {mg : Str → Option Value} {base : Heap} {A : Ad}
abbrev s_lowered : Stmt := top 10
theorem sc_lowered : FnScope ["numbers", "width", "mask", "number"] ["numbers", "width"] (defScope s_lowered) := ⟨rfl, rfl, rfl, by decide +kernel, rfl, by decide +kernel, by decide +kernel⟩
theorem ok_lowered {f : Addr} {fd : FuncData} (F : Fun K "lowered" "lowered" s_lowered f fd) (T : Txt P w K mg base A) : FnOk P w K mg base CX0 1 f fd ["numbers", "width"] (spLow K) := by
  refine F.ok sc_lowered (fun vs H Q E h => ?_) (fun cdv Ar outer s H vs Q E hr h => ?_)
  · obtain ⟨a, xs, k, rfl, _⟩ := h
    rfl
  · obtain ⟨a, xs, k, rfl, hx, hl, hk, q⟩ := h
    refine ⟨_, (pss_cons (ps_set (i := 2) sc_lowered.nd rfl (Or.inr rfl) (pe_op op_sub (pe_op op_oneShl pe_int (pv 1)) pe_int))
        (pss_one (ps_ret (pe_callTy call_tupOf (by rfl) T.z_tuple (by decide +kernel) (pa_cons (pe_lc (own := [("number", 3)]) (g := gName 3) (tt := tYes) rfl sc_lowered.nd (pi_either (pv 0)) (blkOk_by (own := [("number", 3)]) (N := ["numbers", "width", "mask", "number"]) (sc := defScope s_lowered) (by decide +kernel)) (fun _ _ _ _ _ => pg_name (i := 3) sc_lowered.nd rfl (Or.inl rfl)) (fun _ _ _ _ _ => pts_nil) (fun _ _ _ _ _ => (pe_op op_andM (pv 3) (pv 2)))) pa_nil))))), ?_⟩
    walk_at "lk"
    refine ⟨k, rfl, rfl, by omega, ?_⟩
    walk_at "lk"
    refine tlc_mapE (ys := xs.map fun x => V.int (x % 2 ^ k)) rfl hx (by rw [List.length_map, List.length_map]) (by rw [List.length_map]; exact hl) (fun _ => rfl) (fun i x y H' hi hy s' R r => ?_) (fun D H' s' hD hDl => ?_)
    · rw [List.getElem?_map] at hi hy
      cases e : xs[i]? with
      | none => rw [e] at hi; cases hi
      | some z =>
        rw [e] at hi hy
        cases hi
        cases hy
        walk_at "lk"
        exact ⟨z, k, rfl, rfl, r _ (Same.refl _)⟩
    · walk_at "lk"
      refine s_tupL hDl fun p H2 s2 _ hp => q p H2 (s'.trans s2) ?_
      rw [hp, List.map_map]
      rfl
abbrev s__cleared : Stmt := top 18
theorem sc__cleared : FnScope ["row", "column", "part", "width", "number", "less"] ["row", "column", "part", "width"] (defScope s__cleared) := ⟨rfl, rfl, rfl, by decide +kernel, rfl, by decide +kernel, by decide +kernel⟩
theorem ok_cleared {f : Addr} {fd : FuncData} (F : Fun K "_cleared" "_cleared" s__cleared f fd) (T : Txt P w K mg base A) (c_lowered : Cal P w K mg base 1 "lowered" ["numbers", "width"] (spLow K)) : FnOk P w K mg base CX0 2 f fd ["row", "column", "part", "width"] (spClr K) := by
  refine F.ok sc__cleared (fun vs H Q E h => ?_) (fun cdv Ar outer s H vs Q E hr h => ?_)
  · obtain ⟨a, b, xs, ps, c, k, rfl, _⟩ := h
    rfl
  · obtain ⟨a, b, xs, ps, c, k, rfl, ha, hb, hc, hps, hl, hk, bx, bp, q⟩ := h
    refine ⟨_, (pss_one (ps_ret (pcal c_lowered hr (by decide) (pa_cons (pe_lc (own := [("number", 4), ("less", 5)]) (g := gTup K 2 (gCons (gName 4) (gCons (gName 5) gNil))) (tt := tYes) rfl sc__cleared.nd (show PI _ _ _ (iZipM skT skT K (tCons (tVar 0) (tCons (tVar 2) tNil))) from pi_zipM (by rfl) T.z_zip (pa_cons (pv 0) (pa_cons (pv 2) pa_nil))) (blkOk_by (own := [("number", 4), ("less", 5)]) (N := ["row", "column", "part", "width", "number", "less"]) (sc := defScope s__cleared) (by decide +kernel)) (fun _ _ _ _ _ => pg_tup rfl (pgs_cons (pg_name (i := 4) sc__cleared.nd rfl (Or.inl rfl)) (pgs_cons (pg_name (i := 5) sc__cleared.nd rfl (Or.inl rfl)) pgs_nil))) (fun _ _ _ _ _ => pts_nil) (fun _ _ _ _ _ => (pe_op op_sub (pv 4) (pe_op op_mulX (show PE _ _ (tOp (rIxT K) (tVar 0) (tVar 1)) from pe_ix (ix_tupB (K := K) (by rfl)) (pv 0) (pv 1) (fun _ _ => rfl)) (pv 5))))) (pa_cons (pv 3) pa_nil))))), ?_⟩
    walk_at "lk"
    refine slc ?_
    walk_at "lk"
    refine ⟨_, rfl, _, rfl, a, b, _, _, rfl, SqT.of ha, SqT.of hb, fun D hD => ?_⟩
    refine lcg_zipR (K := K) (walk_zipM (k1 := skT) (k2 := skT) (K := K) (a := a) (b := b) (xs := xs.map V.int) (ys := ps.map V.int) (by rw [List.length_map, List.length_map, hps])) (List.zipWith (fun x l => x - xs.getD c 0 * l) xs ps) (by rw [List.length_zipWith, List.length_map, hps, Nat.min_self]) (by rw [List.length_map]; exact hl) hD (fun H' s => ⟨SqT.of (s _ _ ha), SqT.of (s _ _ hb)⟩) (fun _ _ => rfl) (fun j x y z H2 R2 hx hy hz s2 r2 => ?_) (fun H' s hDl => ?_)
    · have hat : xs[c]? = some (xs.getD c 0) := by
        rw [List.getD_eq_getElem?_getD, List.getElem?_eq_getElem hc]
        rfl
      rw [List.getElem?_map, Option.map_eq_some_iff] at hx hy
      obtain ⟨x0, hx, rfl⟩ := hx
      obtain ⟨y0, hy, rfl⟩ := hy
      rw [List.getElem?_zipWith, hx, hy] at hz
      cases hz
      walk_at "lk"
      refine ⟨a, _, (c : Int), _, rfl, rfl, SqT.of (s2 _ _ ha), Lk.atI_nat (by rw [List.getElem?_map, hat]; rfl), ?_⟩
      walk_at "lk"
      refine sI (mul_le (a := 64) (b := 64) (bx _ (List.mem_of_getElem? hat)) (bp _ (List.mem_of_getElem? hy)) (by decide)) ?_
      walk_at "lk"
      exact r2
    · walk_at "lk"
      refine ⟨D, _, k, rfl, .inl (SqL.of hDl), by rw [List.length_zipWith, hps, Nat.min_self]; exact hl, hk, fun p H2 s2 hp => q p H2 (s.trans s2) hp⟩
abbrev s__least_place : Stmt := top 17
theorem sc__least_place : FnScope ["rows", "best", "at", "row", "column", "number"] ["rows"] (defScope s__least_place) := ⟨rfl, rfl, rfl, by decide +kernel, rfl, by decide +kernel, by decide +kernel⟩
theorem ok_least_place {f : Addr} {fd : FuncData} (F : Fun K "_least_place" "_least_place" s__least_place f fd) (T : Txt P w K mg base A) (c_valuation : Cal P w K mg base 1 "valuation" ["number"] spVal) : FnOk P w K mg base CX0 2 f fd ["rows"] (spLeast K) := by
  refine F.ok sc__least_place (fun vs H Q E h => ?_) (fun cdv Ar outer s H vs Q E hr h => ?_)
  · obtain ⟨l, us, R, rfl, _⟩ := h
    rfl
  · obtain ⟨l, us, R, rfl, hl, hu, hul, hrl, h0, q⟩ := h
    refine ⟨_, (pss_cons (ps_set (i := 1) sc__least_place.nd rfl (Or.inl rfl) pe_non)
        (pss_cons (ps_for PassesOwn.never rfl (pi_enum (by rfl) T.z_enumerate (pa_cons (pv 0) pa_nil)) (pg_tup rfl (pgs_cons (pg_name (i := 2) sc__least_place.nd rfl (Or.inl rfl)) (pgs_cons (pg_name (i := 3) sc__least_place.nd rfl (Or.inl rfl)) pgs_nil))) (pss_one (ps_for PassesOwn.never rfl (pi_enumT (by rfl) T.z_enumerate (pa_cons (pv 3) pa_nil)) (pg_tup rfl (pgs_cons (pg_name (i := 4) sc__least_place.nd rfl (Or.inl rfl)) (pgs_cons (pg_name (i := 5) sc__least_place.nd rfl (Or.inl rfl)) pgs_nil))) (pss_one (ps_if (PW.pt (pw_and (pt_truth (pv 5) (fun _ => rfl)) (pw_and1 (PW.pt (pw_or (pt_cmpR op_isN (pv 1) pe_non (nomark _)) (pw_or1 (pt_cmpR op_lt (pcal c_valuation hr (by decide) (pa_cons (pv 5) pa_nil)) (pcal c_valuation hr (by decide) (pa_cons (pe_ix ix_tup (pe_ix ix_list (pv 0) (pe_ix ix_tup (pv 1) pe_int (fun _ _ => rfl)) (fun _ _ => rfl)) (pe_ix ix_tup (pv 1) pe_int (fun _ _ => rfl)) (fun _ _ => rfl)) pa_nil)) (nomark _)))))))) (pss_one (ps_set (i := 1) sc__least_place.nd rfl (Or.inl rfl) (pe_tup (pa_cons (pv 2) (pa_cons (pv 4) pa_nil))))) pss_nil)))))
        (pss_one (ps_ret (pv 1))))), ?_⟩
    walk_at "lk"
    refine ⟨l, us, rfl, hl, ?_⟩
    refine en_by (fun i σ' H' => (∃ b e2 e3 e4 e5, σ' = [some (.ref l), some b, e2, e3, e4, e5] ∧ Best H' R (R.take i).flatten b) ∧ Same H H') ⟨⟨_, _, _, _, _, rfl, .inl ⟨rfl, fun x hx => by simp at hx⟩⟩, Same.refl _⟩ (fun i σ' H' _ h => h.2.seq hl) ?_ ?_
    · rintro i v p σ' H1 hi ⟨⟨b, e2, e3, e4, e5, rfl, hb⟩, s1⟩ hp
      obtain ⟨row, hrow, r, rfl, hr⟩ := hu.at hi
      refine g_pair (SqT.of upd_same) ?_
      have s2 : Same H1 (upd H1 p (.tup [.int (i : Nat), .ref r])) := same_new hp
      generalize upd H1 p (.tup [.int (i : Nat), .ref r]) = H2 at s2 ⊢
      have s02 := s1.trans s2
      have hr2 : H2 r = some (.tup (row.map V.int)) := s02 _ _ hr
      have hrm := List.mem_of_getElem? hrow
      walk_at "lk"
      refine ⟨_, rfl, r, _, rfl, SqT.of hr2, ?_⟩
      refine for_it (walk_enumT (K := K) (a := r) (xs := row.map V.int)) (fun j σ' H' => (∃ b e4 e5, σ' = [some (.ref l), some b, some (.int (i : Nat)), some (.ref r), e4, e5] ∧ Best H' R ((R.take i).flatten ++ row.take j) b) ∧ Same H H') ⟨⟨_, _, _, rfl, by rw [List.take_zero, List.append_nil]; exact hb.same s2⟩, s02⟩ (fun j σ' H' _ h => SqT.of (h.2 _ _ hr)) ?_ ?_
      · rintro j v σ' H3 H4 hj ⟨⟨b', e4, e5, rfl, hb3⟩, s3⟩ hy
        obtain ⟨T', x, y, rfl, hT, rfl, ex, ey⟩ := hy
        rw [List.length_map] at hj
        obtain rfl : x = .int (j : Nat) := (Option.some.inj ex).symm
        have hz : row[j]? = some row[j] := List.getElem?_eq_getElem hj
        obtain rfl : y = .int row[j] := by
          have ey' : (row.map V.int)[j]? = some y := ey
          rw [List.getElem?_map, hz] at ey'
          exact (Option.some.inj ey').symm
        generalize row[j] = z at hz ⊢
        have s4 : Same H3 (upd H3 T' (.tup [.int (j : Nat), .int z])) := same_new hT
        refine g_pair (SqT.of upd_same) ?_
        generalize upd H3 T' (.tup [.int (j : Nat), .int z]) = H5 at s4 ⊢
        have s05 := s3.trans s4
        have hb5 := hb3.same s4
        have htk : row.take (j + 1) = row.take j ++ [z] := by
          rw [List.take_succ, hz]
          rfl
        have z0 := h0 row hrm z (List.mem_of_getElem? hz)
        walk_at "lk"
        refine ⟨z != 0, rfl, ?_⟩
        by_cases zz : z = 0
        · subst zz
          refine iff_ rfl ?_
          refine iff_ rfl ?_
          refine ⟨⟨_, _, _, rfl, ?_⟩, s05⟩
          rw [htk, ← List.append_assoc]
          rcases hb5 with ⟨rfl, hall⟩ | ⟨p', a', c', row', e', u', rfl, hp', hR', hc', hdiv⟩
          · exact .inl ⟨rfl, fun x hx => (List.mem_append.mp hx).elim (hall x) fun h => List.mem_singleton.mp h⟩
          · exact .inr ⟨p', a', c', row', e', u', rfl, hp', hR', hc', fun x hx => (List.mem_append.mp hx).elim (hdiv x) fun h => by rw [List.mem_singleton.mp h]; exact Int.dvd_zero _⟩
        refine ift_ (by simp [zz]) ?_
        obtain ⟨e, u, heu⟩ := odd_split z.toNat (by omega)
        have hzn : z = ((2 ^ e * (2 * u + 1) : Nat) : Int) := by rw [← heu]; omega
        have best : ∀ (H6 : Hp) (p6 : Addr), Same H5 H6 → H6 p6 = some (.tup [.int (i : Nat), .int (j : Nat)]) → (∀ x ∈ (R.take i).flatten ++ row.take j, (2 : Int) ^ e ∣ x) → Best H6 R ((R.take i).flatten ++ row.take (j + 1)) (.ref p6) := fun H6 p6 _ h6 hall => by
          refine .inr ⟨p6, i, j, row, e, u, rfl, h6, hrow, by rw [hz, hzn], fun x hx => ?_⟩
          rw [htk, ← List.append_assoc] at hx
          rcases List.mem_append.mp hx with hx | hx
          · exact hall x hx
          · rw [List.mem_singleton.mp hx, hzn]
            push_cast
            exact Int.dvd_mul_right _ _
        rcases hb5 with ⟨rfl, hall⟩ | ⟨p', a', c', row', e', u', rfl, hp', hR', hc', hdiv⟩
        · walk_at "lk"
          refine ⟨rfl, _, rfl, ?_⟩
          refine ift_ rfl ?_
          refine ift_ rfl ?_
          walk_at "lk"
          refine snw (Nat.le_of_ble_eq_true rfl) fun p6 hp6 => ?_
          have s6 : Same H5 (upd H5 p6 (.tup [.int (i : Nat), .int (j : Nat)])) := same_new hp6
          exact ⟨⟨_, _, _, rfl, best _ p6 s6 upd_same fun x hx => by rw [hall x hx]; exact Int.dvd_zero _⟩, s05.trans s6⟩
        · walk_at "lk"
          refine ⟨rfl, _, rfl, ?_⟩
          refine iff_ rfl ?_
          walk_at "lk"
          refine ⟨_, e, u, by rw [hzn]; rfl, rfl, ?_⟩
          walk_at "lk"
          refine sft (v := .int (a' : Int)) (SqT.of hp') (Lk.atI_nat (i := 0) rfl) ?_
          obtain ⟨v', hv', r', rfl, hr'⟩ := hu.get hR'
          refine sfr (v := .ref r') (s05.seq hl) (Lk.atI_nat hv') ?_
          walk_at "lk"
          refine sft (v := .int (c' : Int)) (SqT.of hp') (Lk.atI_nat (i := 1) rfl) ?_
          refine sft (v := .int ((2 ^ e' * (2 * u' + 1) : Nat) : Int)) (SqT.of (s05 _ _ hr')) (Lk.atI_nat (by rw [List.getElem?_map, hc']; rfl)) ?_
          walk_at "lk"
          refine ⟨_, e', u', rfl, rfl, ?_⟩
          walk_at "lk"
          by_cases lt : e < e'
          · refine ift_ (decide_eq_true (by omega)) ?_
            walk_at "lk"
            refine snw (Nat.le_of_ble_eq_true rfl) fun p6 hp6 => ?_
            have s6 : Same H5 (upd H5 p6 (.tup [.int (i : Nat), .int (j : Nat)])) := same_new hp6
            exact ⟨⟨_, _, _, rfl, best _ p6 s6 upd_same fun x hx => Int.dvd_trans (pw_dvd (Nat.le_of_lt lt)) (hdiv x hx)⟩, s05.trans s6⟩
          · refine iff_ (decide_eq_false (by omega)) ?_
            refine ⟨⟨_, _, _, rfl, .inr ⟨p', a', c', row', e', u', rfl, hp', hR', hc', fun x hx => ?_⟩⟩, s05⟩
            rw [htk, ← List.append_assoc] at hx
            rcases List.mem_append.mp hx with hx | hx
            · exact hdiv x hx
            · rw [List.mem_singleton.mp hx, hzn]
              push_cast
              exact Int.dvd_trans (pw_dvd (show e' ≤ e by omega)) (Int.dvd_mul_right _ _)
      · rintro σ' H3 ⟨⟨b', e4, e5, rfl, hb3⟩, s3⟩
        refine ⟨⟨_, _, _, _, _, rfl, ?_⟩, s3⟩
        rw [List.length_map, List.take_length] at hb3
        rw [List.take_succ, hrow]
        simpa using hb3
    · rintro σ' H1 ⟨⟨b, e2, e3, e4, e5, rfl, hb⟩, s1⟩
      dsimp only
      walk_at "lk"
      rw [hu.len, List.take_length] at hb
      exact q b H1 s1 hb
end
end K14

namespace K14
open PySem PySem.Spec PyProof.Rows L2 Lk
local macro_rules | `(tactic| walk_at "lk") => `(tactic| (repeat (first
  | with_reducible refine ssq ?_ | with_reducible refine sas ?_ | with_reducible refine sgn ?_ | ((with_reducible show tVar _ _ _ _); refine sv rfl ?_) | with_reducible refine sc ?_ | with_reducible refine sop ?_ | with_reducible refine sun ?_
  | with_reducible refine sI0 ?_ | with_reducible refine sU ?_ | with_reducible refine stt ?_ | with_reducible refine stB ?_ | with_reducible refine sbl ?_ | with_reducible refine snt ?_ | with_reducible refine sif ?_ | with_reducible refine scB ?_
  | with_reducible refine scn ?_ | with_reducible refine snl ?_ | with_reducible refine scl ?_ | with_reducible refine stu ?_ | with_reducible refine sli ?_ | with_reducible refine sdr ?_ | with_reducible refine srt ?_ | with_reducible refine snx ?_ | with_reducible refine sfor ?_ | with_reducible refine sils ?_ | with_reducible refine sien ?_ | with_reducible refine sor ?_ | with_reducible refine sfg ?_
  | with_reducible refine sav ?_ | with_reducible refine sov ?_ | with_reducible refine snv ?_ | with_reducible refine sch ?_ | with_reducible refine san ?_ | with_reducible refine ssll ?_ | with_reducible refine spt ?_ | with_reducible refine snp ?_ | with_reducible refine sin ?_ | with_reducible refine sfl ?_ | with_reducible refine sfd ?_ | with_reducible refine smt ?_ | with_reducible refine sbt ?_ | with_reducible refine sbm ?_ | with_reducible refine sifx ?_
  | ((with_reducible show Or _ _); first | refine Or.inl ⟨_, rfl, ?_⟩ | refine Or.inr ⟨_, rfl, ?_⟩))))

/-! ### one round of smith -/
theorem vec_at {r : List Int} {i : Nat} {x : Int} (h : r[i]? = some x) : Md.vec r i = x := by
  unfold Md.vec
  rw [List.getD_eq_getElem?_getD, h]
  rfl
theorem vec_in {r : List Int} {i : Nat} (h : i < r.length) : Md.vec r i ∈ r := by
  unfold Md.vec
  rw [List.getD_eq_getElem?_getD, List.getElem?_eq_getElem h]
  exact List.getElem_mem h
theorem vec_map {r : List Int} {f : Int → Int} {i : Nat} (h : i < r.length) : Md.vec (r.map f) i = f (Md.vec r i) := by
  unfold Md.vec
  rw [List.getD_eq_getElem?_getD, List.getElem?_map, List.getD_eq_getElem?_getD, List.getElem?_eq_getElem h]
  rfl
theorem vec_clr {k c i : Nat} {p r : List Int} (hr : i < r.length) (hp : i < p.length) : Md.vec (clr k c p r) i = (Md.vec r i - Md.vec r c * Md.vec p i) % 2 ^ k := by
  unfold clr
  rw [vec_map (by rw [List.length_zipWith]; omega)]
  unfold Md.vec
  rw [List.getD_eq_getElem?_getD, List.getElem?_zipWith, List.getElem?_eq_getElem hr, List.getElem?_eq_getElem hp, List.getD_eq_getElem?_getD (l := r) (i := i), List.getElem?_eq_getElem hr, List.getD_eq_getElem?_getD (l := p), List.getElem?_eq_getElem hp]
  rfl
theorem clr_len {k c : Nat} {p r : List Int} (h : p.length = r.length) : (clr k c p r).length = r.length := by
  unfold clr
  rw [List.length_map, List.length_zipWith, h, Nat.min_self]
theorem clr_red {k c : Nat} {p r : List Int} : Md.RedL k (clr k c p r) := fun a ha => by
  obtain ⟨b, _, rfl⟩ := List.mem_map.mp ha
  exact rd_ k b
/-- the part -/
def partL (k e : Nat) (f : Int) (r : List Int) : List Int := r.map fun x => (f * x % 2 ^ k) / 2 ^ e
/-- what stands between the rounds -/
structure Stk (k n : Nat) (xss : List (List Int)) (ts : List Part) (R : List (List Int)) : Prop where
  row : ∀ r ∈ R, r.length = n ∧ Md.RedL k r
  span : ∀ x, Sp2 k n xss x ↔ Sp2 k n (ts.map gen1 ++ R) x
  tri : Tri k n ts
  zero : ∀ t ∈ ts, ∀ r ∈ R, Md.vec r t.1 = 0
  div : ∀ t ∈ ts, ∀ r ∈ R, ∀ x ∈ r, (2 : Int) ^ t.2.1 ∣ x
section
variable {k n a c e u : Nat} {f : Int} {xss R : List (List Int)} {ts : List Part} {row : List Int}
theorem odd_exp {e0 e u : Nat} (h : (2 : Int) ^ e0 ∣ ((2 ^ e * (2 * u + 1) : Nat) : Int)) : e0 ≤ e := by
  by_cases z : e0 ≤ e
  · exact z
  · exfalso
    have h1 : (2 : Int) ^ (e + 1) ∣ ((2 ^ e * (2 * u + 1) : Nat) : Int) := Int.dvd_trans (pw_dvd (show e + 1 ≤ e0 by omega)) h
    obtain ⟨q, hq⟩ := h1
    push_cast at hq
    rw [Int.pow_succ, Int.mul_assoc] at hq
    have := Int.eq_of_mul_eq_mul_left (Int.ne_of_gt (Md.p2 e)) hq
    omega
structure Pivot (k n a c e u : Nat) (f : Int) (R : List (List Int)) (row : List Int) : Prop where
  at_ : R[a]? = some row
  col : row[c]? = some ((2 ^ e * (2 * u + 1) : Nat) : Int)
  div : ∀ r ∈ R, ∀ x ∈ r, (2 : Int) ^ e ∣ x
  inv : (2 : Int) ^ k ∣ f * ((2 * u + 1 : Nat) : Int) - 1
theorem Stk.exp (h : Stk k n xss ts R) (hp : Pivot k n a c e u f R row) : e < k := by
  have hm := List.mem_of_getElem? hp.at_
  have h1 := ((h.row row hm).2 _ (List.mem_of_getElem? hp.col)).2
  have h2 : 2 ^ e ≤ 2 ^ e * (2 * u + 1) := Nat.le_mul_of_pos_right _ (by omega)
  have h3 : 2 ^ e < 2 ^ k := by
    have : ((2 ^ e * (2 * u + 1) : Nat) : Int) < ((2 ^ k : Nat) : Int) := by
      push_cast at h1 ⊢
      exact h1
    omega
  exact (Nat.pow_lt_pow_iff_right (by decide)).mp h3
theorem part_mul (he : e < k) {x : Int} (h : (2 : Int) ^ e ∣ x) : 2 ^ e * ((f * x % 2 ^ k) / 2 ^ e) = f * x % 2 ^ k := by
  refine Int.mul_ediv_cancel' ?_
  have := Int.dvd_add (Int.dvd_trans (pw_dvd (Nat.le_of_lt he)) (Md.mod_cg (w := k) (f * x))) (Int.dvd_mul_of_dvd_right (b := f) h)
  rwa [Int.sub_add_cancel] at this
theorem Stk.part (h : Stk k n xss ts R) (hp : Pivot k n a c e u f R row) {i : Nat} (hi : i < n) : 2 ^ e * Md.vec (partL k e f row) i = f * Md.vec row i % 2 ^ k := by
  have hm := List.mem_of_getElem? hp.at_
  have hl := (h.row row hm).1
  unfold partL
  rw [vec_map (by omega)]
  exact part_mul (h.exp hp) (hp.div row hm _ (vec_in (by omega)))
theorem Stk.one (h : Stk k n xss ts R) (hp : Pivot k n a c e u f R row) : Md.vec (partL k e f row) c = 1 := by
  have hm := List.mem_of_getElem? hp.at_
  have hc : c < n := by
    rw [← (h.row row hm).1]
    exact (List.getElem?_eq_some_iff.mp hp.col).1
  have h1 := h.part hp hc
  rw [vec_at hp.col] at h1
  have h2 : f * ((2 ^ e * (2 * u + 1) : Nat) : Int) % 2 ^ k = 2 ^ e := by
    refine Md.cg_of_eq (w := k) ?_ (rd_ k _) ⟨Int.le_of_lt (Md.p2 e), ?_⟩
    · have a1 := Md.mod_cg (w := k) (f * ((2 ^ e * (2 * u + 1) : Nat) : Int))
      have a2 := Int.dvd_mul_of_dvd_right (b := (2 : Int) ^ e) hp.inv
      have a3 := Int.dvd_add a1 a2
      have e3 : f * ((2 ^ e * (2 * u + 1) : Nat) : Int) = 2 ^ e * (f * ((2 * u + 1 : Nat) : Int)) := by
        push_cast
        rw [Int.mul_left_comm]
      rw [Int.mul_sub, Int.mul_one, ← e3] at a3
      rwa [show f * ((2 ^ e * (2 * u + 1) : Nat) : Int) % 2 ^ k - f * ((2 ^ e * (2 * u + 1) : Nat) : Int) + (f * ((2 ^ e * (2 * u + 1) : Nat) : Int) - 2 ^ e) = f * ((2 ^ e * (2 * u + 1) : Nat) : Int) % 2 ^ k - 2 ^ e by omega] at a3
    · have := (Nat.pow_lt_pow_iff_right (a := 2) (by decide)).mpr (h.exp hp)
      exact_mod_cast this
  rw [h2] at h1
  have : (2 : Int) ^ e * Md.vec (partL k e f row) c = 2 ^ e * 1 := by rw [h1, Int.mul_one]
  exact Int.eq_of_mul_eq_mul_left (Int.ne_of_gt (Md.p2 e)) this
theorem Stk.bound (h : Stk k n xss ts R) (hp : Pivot k n a c e u f R row) : ∀ x ∈ partL k e f row, 0 ≤ x ∧ x < 2 ^ k := fun x hx => by
  obtain ⟨y, hy, rfl⟩ := List.mem_map.mp hx
  obtain ⟨b1, b2⟩ := rd_ k (f * y)
  exact ⟨Int.ediv_nonneg b1 (Int.le_of_lt (Md.p2 e)), Int.lt_of_le_of_lt (Int.ediv_le_self _ b1) b2⟩
/-- a round more -/
theorem Stk.next (h : Stk k n xss ts R) (hp : Pivot k n a c e u f R row) : Stk k n xss (ts ++ [(c, e, partL k e f row)]) ((R.eraseIdx a).map (clr k c (partL k e f row))) := by
  have hm := List.mem_of_getElem? hp.at_
  have hek := h.exp hp
  obtain ⟨hl, hred⟩ := h.row row hm
  have hpl : (partL k e f row).length = n := by rw [partL, List.length_map, hl]
  have hc : c < n := by
    rw [← hl]
    exact (List.getElem?_eq_some_iff.mp hp.col).1
  have one := h.one hp
  have sub : ∀ r ∈ R.eraseIdx a, r ∈ R := fun r hr => List.mem_of_mem_eraseIdx hr
  have pz : ∀ t ∈ ts, Md.vec (partL k e f row) t.1 = 0 := fun t ht => by
    have h1 := h.part hp (h.tri.at_ t ht).1
    rw [h.zero t ht row hm, Int.mul_zero, Int.zero_emod] at h1
    have : (2 : Int) ^ e * Md.vec (partL k e f row) t.1 = 2 ^ e * 0 := by rw [h1, Int.mul_zero]
    exact Int.eq_of_mul_eq_mul_left (Int.ne_of_gt (Md.p2 e)) this
  have vc : ∀ r ∈ R.eraseIdx a, ∀ i, i < n → Md.vec (clr k c (partL k e f row) r) i = (Md.vec r i - Md.vec r c * Md.vec (partL k e f row) i) % 2 ^ k := fun r hr i hi => vec_clr (by rw [(h.row r (sub r hr)).1]; exact hi) (by rw [hpl]; exact hi)
  have gE : ∀ i, i < n → (2 : Int) ^ k ∣ Md.vec (gen1 (c, e, partL k e f row)) i - f * Md.vec row i := fun i hi => by
    rw [vec_gen, h.part hp hi]
    exact Md.mod_cg _
  have qd : ∀ r ∈ R, ∃ q : Int, Md.vec r c = 2 ^ e * q := fun r hr => hp.div r hr _ (vec_in (by rw [(h.row r hr).1]; exact hc))
  refine ⟨fun r hr => ?_, fun x => ?_, ⟨fun t ht => ?_, ?_, ?_⟩, fun t ht r hr => ?_, fun t ht r hr x hx => ?_⟩
  · obtain ⟨r0, h0, rfl⟩ := List.mem_map.mp hr
    have := (h.row r0 (sub r0 h0)).1
    exact ⟨by rw [clr_len (by rw [hpl, this]), this], clr_red⟩
  · rw [h.span]
    constructor
    · refine fun hx => hx.trans fun y ⟨r, hr, ey⟩ => ?_
      rw [ey]
      rcases List.mem_append.mp hr with hr | hr
      · exact Md.S.gen ⟨r, List.mem_append_left _ (by rw [List.map_append]; exact List.mem_append_left _ hr), rfl⟩
      · have hg : Sp2 k n ((ts ++ [(c, e, partL k e f row)]).map gen1 ++ (R.eraseIdx a).map (clr k c (partL k e f row))) (Md.vec (gen1 (c, e, partL k e f row))) := Md.S.gen ⟨_, List.mem_append_left _ (List.mem_map.mpr ⟨_, List.mem_append_right _ (List.mem_singleton_self _), rfl⟩), rfl⟩
        obtain ⟨j, hj⟩ := List.getElem?_of_mem hr
        by_cases z : j = a
        · rw [z, hp.at_] at hj
          cases hj
          refine (Md.S.mul ((2 * u + 1 : Nat) : Int) hg).cg fun i hi => ?_
          have a1 := Int.dvd_mul_of_dvd_right (b := ((2 * u + 1 : Nat) : Int)) (gE i hi)
          have a2 := Int.dvd_mul_of_dvd_left (c := Md.vec row i) hp.inv
          have a3 := Int.dvd_neg.mpr (Int.dvd_add a1 a2)
          have e3 : -(((2 * u + 1 : Nat) : Int) * (Md.vec (gen1 (c, e, partL k e f row)) i - f * Md.vec row i) + (f * ((2 * u + 1 : Nat) : Int) - 1) * Md.vec row i) = Md.vec row i - ((2 * u + 1 : Nat) : Int) * Md.vec (gen1 (c, e, partL k e f row)) i := by
            rw [Int.mul_sub, Int.sub_mul, Int.one_mul, ← Int.mul_assoc, Int.mul_comm f]
            omega
          rwa [e3] at a3
        · have hre : r ∈ R.eraseIdx a := List.mem_eraseIdx_iff_getElem?.mpr ⟨j, z, hj⟩
          obtain ⟨q, hq⟩ := qd r hr
          have hr' : Sp2 k n ((ts ++ [(c, e, partL k e f row)]).map gen1 ++ (R.eraseIdx a).map (clr k c (partL k e f row))) (Md.vec (clr k c (partL k e f row) r)) := Md.S.gen ⟨_, List.mem_append_right _ (List.mem_map.mpr ⟨r, hre, rfl⟩), rfl⟩
          refine (hr'.add (Md.S.mul q hg)).cg fun i hi => ?_
          show (2 : Int) ^ k ∣ Md.vec r i - (Md.vec (clr k c (partL k e f row) r) i + q * Md.vec (gen1 (c, e, partL k e f row)) i)
          rw [vc r hre i hi, vec_gen, hq]
          have := Md.emod_cg (Md.vec r i - 2 ^ e * q * Md.vec (partL k e f row) i) (2 ^ k)
          have e3 : q * (2 ^ e * Md.vec (partL k e f row) i) = 2 ^ e * q * Md.vec (partL k e f row) i := by
            rw [← Int.mul_assoc, Int.mul_comm q]
          show (2 : Int) ^ k ∣ Md.vec r i - ((Md.vec r i - 2 ^ e * q * Md.vec (partL k e f row) i) % 2 ^ k + q * (2 ^ e * Md.vec (partL k e f row) i))
          rw [e3]
          generalize 2 ^ e * q * Md.vec (partL k e f row) i = A at this ⊢
          generalize (Md.vec r i - A) % 2 ^ k = B at this ⊢
          rwa [show Md.vec r i - (B + A) = Md.vec r i - A - B by omega]
    · refine fun hx => hx.trans fun y ⟨r, hr, ey⟩ => ?_
      rw [ey]
      have hrow : Sp2 k n (ts.map gen1 ++ R) (Md.vec row) := Md.S.gen ⟨row, List.mem_append_right _ hm, rfl⟩
      have hg : Sp2 k n (ts.map gen1 ++ R) (Md.vec (gen1 (c, e, partL k e f row))) := (Md.S.mul f hrow).cg gE
      rcases List.mem_append.mp hr with hr | hr
      · rw [List.map_append] at hr
        rcases List.mem_append.mp hr with hr | hr
        · exact Md.S.gen ⟨r, List.mem_append_left _ hr, rfl⟩
        · rw [List.mem_singleton.mp hr]
          exact hg
      · obtain ⟨r0, h0, rfl⟩ := List.mem_map.mp hr
        obtain ⟨q, hq⟩ := qd r0 (sub r0 h0)
        have hr0 : Sp2 k n (ts.map gen1 ++ R) (Md.vec r0) := Md.S.gen ⟨r0, List.mem_append_right _ (sub r0 h0), rfl⟩
        refine (hr0.sub (Md.S.mul q hg)).cg fun i hi => ?_
        show (2 : Int) ^ k ∣ Md.vec (clr k c (partL k e f row) r0) i - (Md.vec r0 i - q * Md.vec (gen1 (c, e, partL k e f row)) i)
        rw [vc r0 h0 i hi, vec_gen, hq]
        have e3 : q * (2 ^ e * Md.vec (partL k e f row) i) = 2 ^ e * q * Md.vec (partL k e f row) i := by
          rw [← Int.mul_assoc, Int.mul_comm q]
        show (2 : Int) ^ k ∣ (Md.vec r0 i - 2 ^ e * q * Md.vec (partL k e f row) i) % 2 ^ k - (Md.vec r0 i - q * (2 ^ e * Md.vec (partL k e f row) i))
        rw [e3]
        exact Md.mod_cg _
  · rcases List.mem_append.mp ht with ht | ht
    · exact h.tri.at_ t ht
    · rw [List.mem_singleton.mp ht]
      exact ⟨hc, hek, hpl, one⟩
  · refine List.pairwise_append.mpr ⟨h.tri.zero, List.pairwise_singleton _ _, fun t ht b hb => ?_⟩
    rw [List.mem_singleton.mp hb]
    exact pz t ht
  · refine List.pairwise_append.mpr ⟨h.tri.asc, List.pairwise_singleton _ _, fun t ht b hb => ?_⟩
    rw [List.mem_singleton.mp hb]
    exact odd_exp (h.div t ht row hm _ (List.mem_of_getElem? hp.col))
  · obtain ⟨r0, h0, rfl⟩ := List.mem_map.mp hr
    rcases List.mem_append.mp ht with ht | ht
    · rw [vc r0 h0 t.1 (h.tri.at_ t ht).1, h.zero t ht r0 (sub r0 h0), pz t ht, Int.mul_zero, Int.sub_zero, Int.zero_emod]
    · rw [List.mem_singleton.mp ht]
      show Md.vec (clr k c (partL k e f row) r0) c = 0
      rw [vc r0 h0 c hc, one, Int.mul_one, Int.sub_self, Int.zero_emod]
  · obtain ⟨r0, h0, rfl⟩ := List.mem_map.mp hr
    have l0 := (h.row r0 (sub r0 h0)).1
    have d1 : (2 : Int) ^ e ∣ x := by
      obtain ⟨i, hi⟩ := List.getElem?_of_mem hx
      have hil := (List.getElem?_eq_some_iff.mp hi).1
      rw [clr_len (by rw [hpl, l0]), l0] at hil
      rw [← vec_at hi, vc r0 h0 i hil]
      obtain ⟨q, hq⟩ := qd r0 (sub r0 h0)
      have b1 := hp.div r0 (sub r0 h0) _ (vec_in (i := i) (by rw [l0]; exact hil))
      have b2 : (2 : Int) ^ e ∣ Md.vec r0 c * Md.vec (partL k e f row) i := Int.dvd_mul_of_dvd_left ⟨q, hq⟩
      have b3 := Int.dvd_add (Int.dvd_trans (pw_dvd (Nat.le_of_lt hek)) (Md.mod_cg (w := k) (Md.vec r0 i - Md.vec r0 c * Md.vec (partL k e f row) i))) (Int.dvd_sub b1 b2)
      rwa [Int.sub_add_cancel] at b3
    rcases List.mem_append.mp ht with ht | ht
    · exact Int.dvd_trans (pw_dvd (odd_exp (h.div t ht row hm _ (List.mem_of_getElem? hp.col)))) d1
    · rw [List.mem_singleton.mp ht]
      exact d1
theorem Stk.done (h : Stk k n xss ts R) (h0 : ∀ r ∈ R, ∀ x ∈ r, x = 0) : Smi k n xss (ts.map (·.2.1)) := by
  refine ⟨ts, h.tri, rfl, fun x => ?_⟩
  rw [h.span]
  constructor
  · refine fun hx => hx.trans fun y ⟨r, hr, ey⟩ => ?_
    rw [ey]
    rcases List.mem_append.mp hr with hr | hr
    · exact Md.S.gen ⟨r, hr, rfl⟩
    · refine Md.S.zero.cg fun i hi => ?_
      rw [h0 r hr _ (vec_in (by rw [(h.row r hr).1]; exact hi)), Int.sub_self]
      exact Int.dvd_zero _
  · exact fun hx => hx.mono fun y ⟨r, hr, ey⟩ => ⟨r, List.mem_append_left _ hr, ey⟩
theorem Stk.start (hl : ∀ r ∈ xss, r.length = n) : Stk k n xss [] (xss.map fun r => r.map (· % 2 ^ k)) := by
  refine ⟨fun r hr => ?_, fun x => ?_, ⟨fun t ht => (by cases ht), .nil, .nil⟩, fun t ht => (by cases ht), fun t ht => (by cases ht)⟩
  · obtain ⟨r0, h0, rfl⟩ := List.mem_map.mp hr
    refine ⟨by rw [List.length_map, hl r0 h0], fun a ha => ?_⟩
    obtain ⟨b, _, rfl⟩ := List.mem_map.mp ha
    exact rd_ k b
  · have cg : ∀ r ∈ xss, Md.Cg (2 ^ k) n (Md.vec (r.map (· % 2 ^ k))) (Md.vec r) := fun r hr i hi => by
      rw [vec_map (by rw [hl r hr]; exact hi)]
      exact Md.mod_cg _
    rw [List.map_nil, List.nil_append]
    constructor
    · refine fun hx => hx.trans fun y ⟨r, hr, ey⟩ => ?_
      rw [ey]
      exact (Md.S.gen (M := 2 ^ k) (n := n) (G := Gr (xss.map fun r => r.map (· % 2 ^ k))) ⟨_, List.mem_map.mpr ⟨r, hr, rfl⟩, rfl⟩).cg (cg r hr).symm
    · refine fun hx => hx.trans fun y ⟨r, hr, ey⟩ => ?_
      obtain ⟨r0, h0, rfl⟩ := List.mem_map.mp hr
      rw [ey]
      exact (Md.S.gen (M := 2 ^ k) (n := n) (G := Gr xss) ⟨r0, h0, rfl⟩).cg (cg r0 h0)
end

section
variable {P : Program} {w : World} {K : PySem.W.Frag} {mg : Str → Option Value} {base : Heap} {A : Ad}
end
end K14

namespace K14
open PySem PySem.Spec PyProof.Rows L2 Lk
local macro_rules | `(tactic| walk_at "lk") => `(tactic| (repeat (first
  | with_reducible refine ssq ?_ | with_reducible refine sas ?_ | with_reducible refine sgn ?_ | ((with_reducible show tVar _ _ _ _); refine sv rfl ?_) | with_reducible refine sc ?_ | with_reducible refine sop ?_ | with_reducible refine sun ?_
  | with_reducible refine sI0 ?_ | with_reducible refine sU ?_ | with_reducible refine stt ?_ | with_reducible refine stB ?_ | with_reducible refine sbl ?_ | with_reducible refine snt ?_ | with_reducible refine sif ?_ | with_reducible refine scB ?_
  | with_reducible refine scn ?_ | with_reducible refine snl ?_ | with_reducible refine scl ?_ | with_reducible refine stu ?_ | with_reducible refine sli ?_ | with_reducible refine sdr ?_ | with_reducible refine srt ?_ | with_reducible refine snx ?_ | with_reducible refine sfor ?_ | with_reducible refine sils ?_ | with_reducible refine sien ?_ | with_reducible refine sor ?_ | with_reducible refine sfg ?_
  | with_reducible refine sav ?_ | with_reducible refine sov ?_ | with_reducible refine snv ?_ | with_reducible refine sch ?_ | with_reducible refine san ?_ | with_reducible refine ssll ?_ | with_reducible refine spt ?_ | with_reducible refine snp ?_ | with_reducible refine sin ?_ | with_reducible refine sfl ?_ | with_reducible refine sfd ?_ | with_reducible refine smt ?_ | with_reducible refine sbt ?_ | with_reducible refine sbm ?_ | with_reducible refine sifx ?_
  | ((with_reducible show Or _ _); first | refine Or.inl ⟨_, rfl, ?_⟩ | refine Or.inr ⟨_, rfl, ?_⟩))))

theorem lcg_mapTi {K : PySem.W.Frag} {H : Hp} {σ : L2.St} {a D : Addr} {k : Nat} {te : TE} {vs : List Nat} {Qd : Hp → Prop} {xs : List Int} {f : Int → Int} (hx : H a = some (.tup (xs.map V.int))) (hn : xs.length ≤ 1000) (hD : H D = none)
    (hw : ∀ x, wipe ((wipe σ vs).set k (some x)) vs = wipe σ vs)
    (he : ∀ (x : Int) (H' : Hp), x ∈ xs → Same H H' → ∀ Q : VK, Q (.int (f x)) H' → te ((wipe σ vs).set k (some (.int x))) H' Q)
    (q : ∀ H', Same H H' → H' D = some (.lst ((xs.map f).map V.int)) → Qd H') : LcG (Itt K a) (gName k) tYes te vs σ H D Qd := by
  refine lcg_mapW (walk_tup (K := K) (a := a) (xs := xs.map V.int)) xs (by rw [List.length_map]) (fun _ v x => v = .int x) (fun _ v x => v = .int x) (fun _ h => h) (fun _ h => h) f (by rw [List.length_map]; exact Nat.le_of_lt (small1000 hn)) hD (fun H' s => same_sqT s (SqT.of hx)) (fun i x H1 H2 hi s hy => ?_) hw (fun i x a H' ha hv s Q qq => ?_) (fun ys H' s h1 h2 => ?_)
  · obtain ⟨rfl, hy⟩ := hy
    rw [List.getElem?_map] at hy
    obtain ⟨z, hz, rfl⟩ := Option.map_eq_some_iff.mp hy
    exact ⟨rfl, z, hz, rfl⟩
  · subst hv
    exact he a H' (List.mem_of_getElem? ha) s Q (qq _ H' (Same.refl _) rfl)
  · exact q H' s (by rw [h1, f2_ints_of h2])
theorem siT {K : PySem.W.Frag} {te : TE} {σ : L2.St} {H : Hp} {R : L2.It → Hp → Prop} (q : te σ H fun x H1 => ∃ a, x = .ref a ∧ (∃ xs, SqT K H1 a xs) ∧ R (Itt K a) H1) : iTup K te σ H R := q
theorem slcE {K : PySem.W.Frag} {tv : TE} {g : TG} {tt : TT} {te : TE} {vs : List Nat} {σ : L2.St} {H : Hp} {Q : VK} {a : Addr} {xs : List V} (hx : SqE K H a xs) (e : ∀ Q : VK, Q (.ref a) H → tv σ H Q)
    (q : ∀ (J : L2.It) (G : Hp → Prop), Walk J xs.length G (YAt xs) → (∀ H', Same H H' → G H') → ∀ D, H D = none → LcG J g tt te vs σ H D (Q (.ref D))) : tLc (iEither K tv) g tt te vs σ H Q := by
  rcases hx with h | h
  · exact .inl (e _ ⟨a, rfl, ⟨xs, h⟩, q _ _ (walk_list (K := K) (a := a) (xs := xs)) fun H' s => s.seq h⟩)
  · exact .inr (e _ ⟨a, rfl, ⟨xs, h⟩, q _ _ (walk_tup (K := K) (a := a) (xs := xs)) fun H' s => same_sqT s h⟩)
theorem cut_to (xs : List V) (a : Nat) : cutV xs none (some (a : Int)) = xs.take a := by
  unfold cutV
  rw [show HT.sIx xs.length 0 none = 0 from rfl, HT.sIx_nat, List.drop_zero, Nat.sub_zero]
  by_cases h : a ≤ xs.length
  · rw [Nat.min_eq_left h]
  · rw [Nat.min_eq_right (by omega), List.take_of_length_le (Nat.le_refl _), List.take_of_length_le (by omega)]
theorem cut_from (xs : List V) (a : Nat) : cutV xs (some (a : Int)) none = xs.drop a := by
  unfold cutV
  rw [show HT.sIx xs.length xs.length none = xs.length from rfl, HT.sIx_nat]
  by_cases h : a ≤ xs.length
  · rw [Nat.min_eq_left h, List.take_of_length_le (by rw [List.length_drop]; exact Nat.le_refl _)]
  · rw [Nat.min_eq_right (by omega), Nat.sub_self, List.take_zero, List.drop_eq_nil_iff.mpr (by omega)]
theorem f2_erase {α : Type} {R : V → α → Prop} : ∀ (m : Nat) {vs : List V} {as : List α}, F2 R vs as → F2 R (vs.eraseIdx m) (as.eraseIdx m)
  | _, _, _, .nil => by rw [List.eraseIdx_nil, List.eraseIdx_nil]; exact .nil
  | 0, _, _, .cons h t => t
  | m + 1, _, _, .cons h t => .cons h (f2_erase m t)
/-- v stands for a part -/
def PartH (H : Hp) (v : V) (t : Part) : Prop := ∃ b p, v = .ref b ∧ H b = some (.tup [.int (t.1 : Int), .int (t.2.1 : Int), .ref p])
theorem PartH.ts {H H' : Hp} {v : V} {t : Part} (s : Ts H H') (h : PartH H v t) : PartH H' v t := let ⟨b, p, e, h⟩ := h; ⟨b, p, e, s _ _ h⟩
def Wide (xss : List (List Int)) : Prop := ∀ xs ∈ xss, ∀ x ∈ xs, x.natAbs < 2 ^ 1000
def spStk (K : PySem.W.Frag) : Sp := fun vs H Q _ => ∃ (k n : Nat) (l : Addr) (us : List V) (xss : List (List Int)), vs = [.int (k : Int), .ref l] ∧ 1 ≤ k ∧ k ≤ 64 ∧ n ≤ 1000 ∧ xss.length ≤ 1000 ∧ SqE K H l us ∧ F2 (RowD K n H) us xss ∧
  ∀ (ts : List Part) (D : Addr) (ws : List V) (H' : Hp), Same H H' → H D = none → H' D = some (.lst ws) → F2 (PartH H') ws ts → Smi k n xss (ts.map (·.2.1)) → ts.length ≤ 1000 → Q (.ref D) H'

section
variable {P : Program} {w : World} {K : PySem.W.Frag} {mg : Str → Option Value} {base : Heap} {A : Ad}
abbrev s_stacked : Stmt := top 16
theorem sc_stacked : FnScope ["width", "rows", "found", "place", "at", "column", "exponent", "factor", "part", "row", "number"] ["width", "rows"] (defScope s_stacked) := ⟨rfl, rfl, rfl, by decide +kernel, rfl, by decide +kernel, by decide +kernel⟩
theorem ok_stacked {f : Addr} {fd : FuncData} (F : Fun K "stacked" "stacked" s_stacked f fd) (T : Txt P w K mg base A) (c_lowered : Cal P w K mg base 1 "lowered" ["numbers", "width"] (spLow K)) (c_valuation : Cal P w K mg base 1 "valuation" ["number"] spVal) (c_odd_inverse : Cal P w K mg base 1 "odd_inverse" ["odd", "mask"] spInvO) (c__cleared : Cal P w K mg base 2 "_cleared" ["row", "column", "part", "width"] (spClr K)) (c__least_place : Cal P w K mg base 2 "_least_place" ["rows"] (spLeast K)) : FnOk P w K mg base CX0 3 f fd ["width", "rows"] (spStk K) := by
  refine F.ok sc_stacked (fun vs H Q E h => ?_) (fun cdv Ar outer s H vs Q E hr h => ?_)
  · obtain ⟨k, n, l, us, xss, rfl, _⟩ := h
    rfl
  · obtain ⟨k, n, l, us, xss, rfl, k1, k2, hn, hx, hl, hr0, q⟩ := h
    refine ⟨_, (pss_cons (ps_setLc (i := 1) (own := [("row", 9)]) (g := gName 9) (tt := tYes) rfl sc_stacked.nd rfl rfl (by rfl) (pi_either (pv 1)) (blkOk_by (own := [("row", 9)]) (N := ["width", "rows", "found", "place", "at", "column", "exponent", "factor", "part", "row", "number"]) (sc := defScope s_stacked) (by decide +kernel)) (fun _ _ _ _ _ => pg_name (i := 9) sc_stacked.nd rfl (Or.inl rfl)) (fun _ _ _ _ _ => pts_nil) (fun _ _ _ _ _ => (pcal c_lowered hr (by decide) (pa_cons (pv 9) (pa_cons (pv 0) pa_nil)))))
        (pss_cons (ps_set (i := 2) sc_stacked.nd rfl (Or.inl rfl) (pe_lst pa_nil))
        (pss_cons (ps_set (i := 3) sc_stacked.nd rfl (Or.inl rfl) (pcal c__least_place hr (by decide) (pa_cons (pv 1) pa_nil)))
        (pss_cons (ps_while PassesOwn.never (pt_cmpR op_notN (pv 3) pe_non (nomark _)) (pss_cons (ps_asg (pv 3) (pg_tup rfl (pgs_cons (pg_name (i := 4) sc_stacked.nd rfl (Or.inl rfl)) (pgs_cons (pg_name (i := 5) sc_stacked.nd rfl (Or.inr rfl)) pgs_nil))))
        (pss_cons (ps_set (i := 6) sc_stacked.nd rfl (Or.inr rfl) (pcal c_valuation hr (by decide) (pa_cons (pe_ix ix_tup (pe_ix ix_list (pv 1) (pv 4) (fun _ _ => rfl)) (pv 5) (fun _ _ => rfl)) pa_nil)))
        (pss_cons (ps_set (i := 7) sc_stacked.nd rfl (Or.inr rfl) (pcal c_odd_inverse hr (by decide) (pa_cons (pe_op op_shr (pe_ix ix_tup (pe_ix ix_list (pv 1) (pv 4) (fun _ _ => rfl)) (pv 5) (fun _ _ => rfl)) (pv 6)) (pa_cons (pe_op op_sub (pe_op op_oneShl pe_int (pv 0)) pe_int) pa_nil))))
        (pss_cons (ps_set (i := 8) sc_stacked.nd rfl (Or.inr rfl) (pe_callTy call_tupOf (by rfl) T.z_tuple (by decide +kernel) (pa_cons (pe_lc (own := [("number", 10)]) (g := gName 10) (tt := tYes) rfl sc_stacked.nd (pi_tup (pcal c_lowered hr (by decide) (pa_cons (pe_lc (own := [("number", 10)]) (g := gName 10) (tt := tYes) rfl sc_stacked.nd (pi_tup (pe_ix ix_list (pv 1) (pv 4) (fun _ _ => rfl))) (blkOk_by (own := [("number", 10)]) (N := ["width", "rows", "found", "place", "at", "column", "exponent", "factor", "part", "row", "number"]) (sc := defScope s_stacked) (by decide +kernel)) (fun _ _ _ _ _ => pg_name (i := 10) sc_stacked.nd rfl (Or.inl rfl)) (fun _ _ _ _ _ => pts_nil) (fun _ _ _ _ _ => (pe_op op_mulX (pv 7) (pv 10)))) (pa_cons (pv 0) pa_nil)))) (blkOk_by (own := [("number", 10)]) (N := ["width", "rows", "found", "place", "at", "column", "exponent", "factor", "part", "row", "number"]) (sc := defScope s_stacked) (by decide +kernel)) (fun _ _ _ _ _ => pg_name (i := 10) sc_stacked.nd rfl (Or.inl rfl)) (fun _ _ _ _ _ => pts_nil) (fun _ _ _ _ _ => (pe_op op_shr (pv 10) (pv 6)))) pa_nil)))
        (pss_cons (ps_expr (pe_bm PySem.F.plainAttrs_list PySem.F.slot_list_append PySem.F.type_list_append mt_append (pv 2) (pa_cons (pe_tup (pa_cons (pv 5) (pa_cons (pv 6) (pa_cons (pv 8) pa_nil)))) pa_nil)))
        (pss_cons (ps_setLc (i := 1) (own := [("row", 9)]) (g := gName 9) (tt := tYes) rfl sc_stacked.nd rfl rfl (by rfl) (pi_list (pe_op op_cat (pe_slice sl_list (pv 1) po_none (po_some (pv 4))) (pe_slice sl_list (pv 1) (po_some (pe_op op_add (pv 4) pe_int)) po_none))) (blkOk_by (own := [("row", 9)]) (N := ["width", "rows", "found", "place", "at", "column", "exponent", "factor", "part", "row", "number"]) (sc := defScope s_stacked) (by decide +kernel)) (fun _ _ _ _ _ => pg_name (i := 9) sc_stacked.nd rfl (Or.inl rfl)) (fun _ _ _ _ _ => pts_nil) (fun _ _ _ _ _ => (pcal c__cleared hr (by decide) (pa_cons (pv 9) (pa_cons (pv 5) (pa_cons (pv 8) (pa_cons (pv 0) pa_nil)))))))
        (pss_one (ps_set (i := 3) sc_stacked.nd rfl (Or.inl rfl) (pcal c__least_place hr (by decide) (pa_cons (pv 1) pa_nil)))))))))))
        (pss_one (ps_ret (pv 2))))))), ?_⟩
    have hul := hr0.len
    have hlen : ∀ r ∈ xss, r.length = n := fun r hr => by
      obtain ⟨i, hi⟩ := List.getElem?_of_mem hr
      obtain ⟨_, _, _, _, _, h⟩ := hr0.get hi
      exact h
    walk_at "lk"
    refine slcE hl (fun Q hQ => sv rfl hQ) fun J G wk hG D hD => ?_
    refine lcg_mapV wk xss hul.symm (RowD K n) TupH (fun t h => h.ts t) (fun r => r.map (· % 2 ^ k)) (by have := Nat.le_of_lt (small1000 hx); omega) hD hG (fun i x H1 H2 hi s hy => ?_) (fun _ => rfl) (fun i x r H2 hi hv s2 R qr => ?_) (fun us1 H1 s1 hD1 hu1 => ?_)
    · obtain ⟨rfl, hx⟩ := hy
      obtain ⟨r, hr, hrd⟩ := hr0.at hx
      exact ⟨rfl, r, hr, hrd.same s⟩
    · obtain ⟨b, rfl, hb, hbl⟩ := hv
      walk_at "lk"
      refine ⟨b, r, k, rfl, hb, by omega, k2, fun p H3 s3 hp => qr _ H3 s3 ⟨p, rfl, hp⟩⟩
    walk_at "lk"
    refine snw (Nat.le_of_ble_eq_true rfl) fun F0 hF0 => ?_
    have s2 : Same H1 (upd H1 F0 (.lst [])) := same_new hF0
    have e2 : (upd H1 F0 (.lst [])) F0 = some (.lst []) := upd_same
    generalize upd H1 F0 (.lst []) = H2 at s2 e2 ⊢
    have st0 := Stk.start (k := k) hlen
    have hul1 : us1.length = xss.length := by rw [hu1.len, List.length_map]
    walk_at "lk"
    refine ⟨D, us1, _, rfl, SqL.of (s2 _ _ hD1), hu1.mono fun _ _ h => h.ts (Ts.of s2), by omega, fun r hr => by rw [(st0.row r hr).1]; exact hn, fun r hr x hx => ((st0.row r hr).2 x hx).1, fun v H3 s3 hbest => ?_⟩
    walk_at "lk"
    have nF : H F0 = none := by
      cases ho : H F0 with
      | none => rfl
      | some o =>
        have := s1 _ _ ho
        rw [hF0] at this
        cases this
    have s03 := (s1.trans s2).trans s3
    refine ⟨fun m σ' H' => ∃ (lR : Addr) (usR : List V) (R : List (List Int)) (ts : List Part) (ws : List V) (v : V), m = R.length ∧ Same H H' ∧ (∃ e4 e5 e6 e7 e8 e9 e10, σ' = [some (.int (k : Int)), some (.ref lR), some (.ref F0), some v, e4, e5, e6, e7, e8, e9, e10]) ∧ lR ≠ F0 ∧ H' lR = some (.lst usR) ∧ F2 (TupH H') usR R ∧ H' F0 = some (.lst ws) ∧ F2 (PartH H') ws ts ∧ Stk k n xss ts R ∧ Best H' R R.flatten v ∧ ts.length + R.length = xss.length,
      ⟨_, D, us1, _, [], [], v, rfl, s03, ⟨_, _, _, _, _, _, _, rfl⟩, (fun z => by rw [z, hF0] at hD1; cases hD1), s3 _ _ (s2 _ _ hD1), hu1.mono fun _ _ h => h.ts (Ts.of (s2.trans s3)), s3 _ _ e2, .nil, st0, hbest, by rw [List.length_map]; exact Nat.zero_add _⟩, ?_⟩
    clear hbest s3 e2 s2 hul1 hu1 hD1 s1 s03
    rintro m σ' H4 ⟨lR, usR, R, ts, ws, v, rfl, s4, ⟨e4, e5, e6, e7, e8, e9, e10, rfl⟩, nRF, hR4, hu4, hF4, hw4, st, hb, hcnt⟩
    have hRl : usR.length = R.length := hu4.len
    walk_at "lk"
    refine ⟨rfl, ?_⟩
    rcases hb with ⟨rfl, hz⟩ | ⟨p, a, c, row, e, u, rfl, hp, hrow, hcol, hdiv⟩
    · refine ⟨_, rfl, ?_⟩
      refine iff_ rfl ?_
      walk_at "lk"
      exact q ts F0 ws H4 s4 nF hF4 hw4 (st.done fun r hr x hx => hz x (List.mem_flatten.mpr ⟨r, hr, hx⟩)) (by omega)
    refine ⟨_, rfl, ?_⟩
    refine ift_ rfl ?_
    have hrm := List.mem_of_getElem? hrow
    obtain ⟨hrl, hrr⟩ := st.row row hrm
    have hdv : ∀ r ∈ R, ∀ x ∈ r, (2 : Int) ^ e ∣ x := fun r hr x hx => hdiv x (List.mem_flatten.mpr ⟨r, hr, hx⟩)
    obtain ⟨vr, hvr, br, rfl, hbr⟩ := hu4.get hrow
    refine ⟨fun σ' H' => ∃ (lR : Addr) (usR : List V) (R' : List (List Int)) (ts : List Part) (ws : List V) (v : V), R'.length < R.length ∧ Same H H' ∧ (∃ e4 e5 e6 e7 e8 e9 e10, σ' = [some (.int (k : Int)), some (.ref lR), some (.ref F0), some v, e4, e5, e6, e7, e8, e9, e10]) ∧ lR ≠ F0 ∧ H' lR = some (.lst usR) ∧ F2 (TupH H') usR R' ∧ H' F0 = some (.lst ws) ∧ F2 (PartH H') ws ts ∧ Stk k n xss ts R' ∧ Best H' R' R'.flatten v ∧ ts.length + R'.length = xss.length,
      fun σ' H' ⟨lR, usR, R', ts, ws, v, h1, h2⟩ => ⟨R'.length, h1, lR, usR, R', ts, ws, v, rfl, h2⟩, ?_⟩
    walk_at "lk"
    refine g_pair (SqT.of hp) ?_
    walk_at "lk"
    refine sfr (v := .ref br) (SqL.of hR4) (Lk.atI_nat hvr) ?_
    walk_at "lk"
    refine sft (v := .int ((2 ^ e * (2 * u + 1) : Nat) : Int)) (SqT.of hbr) (Lk.atI_nat (by rw [List.getElem?_map, hcol]; rfl)) ?_
    walk_at "lk"
    refine ⟨_, e, u, rfl, rfl, ?_⟩
    walk_at "lk"
    refine sfr (v := .ref br) (SqL.of hR4) (Lk.atI_nat hvr) ?_
    walk_at "lk"
    refine sft (v := .int ((2 ^ e * (2 * u + 1) : Nat) : Int)) (SqT.of hbr) (Lk.atI_nat (by rw [List.getElem?_map, hcol]; rfl)) ?_
    walk_at "lk"
    refine sI (Int.natCast_nonneg e) ?_
    have hdivq : ((2 ^ e * (2 * u + 1) : Nat) : Int) / 2 ^ ((e : Int)).toNat = ((2 * u + 1 : Nat) : Int) := by
      rw [Int.toNat_natCast]
      push_cast
      exact Int.mul_ediv_cancel_left _ (Int.ne_of_gt (Md.p2 e))
    rw [hdivq]
    walk_at "lk"
    refine ⟨k, rfl, rfl, by omega, ?_⟩
    walk_at "lk"
    have hlt : ((2 ^ e * (2 * u + 1) : Nat) : Int) < 2 ^ k := (hrr _ (List.mem_of_getElem? hcol)).2
    have hole : ((2 * u + 1 : Nat) : Int) ≤ ((2 ^ e * (2 * u + 1) : Nat) : Int) := by
      have := Nat.le_mul_of_pos_left (2 * u + 1) (Nat.pow_pos (n := e) (show 0 < 2 by decide))
      omega
    refine ⟨_, k, rfl, k1, k2, by omega, by omega, by omega, fun f f0 f1 hf => ?_⟩
    have pv : Pivot k n a c e u f R row := ⟨hrow, hcol, hdv, hf⟩
    have hek := st.exp pv
    walk_at "lk"
    have k64 : (2 : Nat) ^ k ≤ 2 ^ 64 := Nat.pow_le_pow_right (by decide) k2
    have bnd : ∀ x : Int, 0 ≤ x → x < 2 ^ k → x.natAbs < 2 ^ 64 := fun x x0 x1 => Nat.lt_of_lt_of_le (ab_of x0 x1) k64
    refine slc (siT ?_)
    walk_at "lk"
    refine slc (siT ?_)
    walk_at "lk"
    refine sfr (v := .ref br) (SqL.of hR4) (Lk.atI_nat hvr) ?_
    refine ⟨br, rfl, ⟨_, SqT.of hbr⟩, fun D1 hD1 => ?_⟩
    refine lcg_mapTi (f := fun x => f * x) hbr (by rw [hrl]; exact hn) hD1 (fun _ => rfl) (fun x H5 hx s5 R5 r5 => ?_) (fun H5 s5 hDl5 => ?_)
    · walk_at "lk"
      exact sI (mul_le (a := 64) (b := 64) (bnd f f0 f1) (bnd x (hrr x hx).1 (hrr x hx).2) (by decide)) r5
    walk_at "lk"
    refine ⟨D1, row.map (fun x => f * x), k, rfl, .inl (SqL.of hDl5), by rw [List.length_map, hrl]; exact hn, k2, fun p2 H6 s6 hp2 => ?_⟩
    refine ⟨p2, rfl, ⟨_, SqT.of hp2⟩, fun D2 hD2 => ?_⟩
    refine lcg_mapTi (f := fun x => x / 2 ^ e) hp2 (by rw [List.length_map, List.length_map, hrl]; exact hn) hD2 (fun _ => rfl) (fun x H7 hx s7 R7 r7 => ?_) (fun H7 s7 hDl7 => ?_)
    · walk_at "lk"
      refine sI (Int.natCast_nonneg e) ?_
      rw [Int.toNat_natCast]
      exact r7
    walk_at "lk"
    refine s_tupL hDl7 fun pp H8 s8 hppn hpp => ?_
    have epart : ((row.map fun x => f * x).map (· % 2 ^ k)).map (fun x => x / 2 ^ e) = partL k e f row := by
      rw [List.map_map, List.map_map]
      rfl
    rw [epart] at hpp
    have s48 := ((s5.trans s6).trans s7).trans s8
    walk_at "lk"
    refine ⟨.inl ⟨rfl, _, SqL.of (s48 _ _ hF4)⟩, ?_⟩
    walk_at "lk"
    refine snw (Nat.le_of_ble_eq_true rfl) fun q9 hq9 => ?_
    have s9 : Same H8 (upd H8 q9 (.tup [.int (c : Int), .int (e : Int), .ref pp])) := same_new hq9
    have e9 : (upd H8 q9 (.tup [.int (c : Int), .int (e : Int), .ref pp])) q9 = some (.tup [.int (c : Int), .int (e : Int), .ref pp]) := upd_same
    generalize upd H8 q9 (.tup [.int (c : Int), .int (e : Int), .ref pp]) = H9 at s9 e9 ⊢
    have s49 := s48.trans s9
    have hwl : ws.length = ts.length := hw4.len
    walk_at "lk"
    refine ⟨F0, ws, .ref q9, rfl, rfl, s49 _ _ hF4, small1000 (by omega), ?_⟩
    dsimp only
    have nq9 : ∀ {b : Addr} {o : HO}, H9 b = some o → (∀ xs, o ≠ .lst xs) → b ≠ F0 := fun h1 h2 z => by
      rw [z, s49 _ _ hF4] at h1
      exact h2 _ (Option.some.inj h1).symm
    have t10 : Ts H9 (upd H9 F0 (.lst (ws ++ [.ref q9]))) := Ts.lst (s49 _ _ hF4)
    have e10' : (upd H9 F0 (.lst (ws ++ [.ref q9]))) F0 = some (.lst (ws ++ [.ref q9])) := upd_same
    have hR10 : (upd H9 F0 (.lst (ws ++ [.ref q9]))) lR = some (.lst usR) := by
      rw [upd_ne nRF]
      exact s49 _ _ hR4
    have s10 : Same H (upd H9 F0 (.lst (ws ++ [.ref q9]))) := fun b o h => by
      rw [upd_ne (ne_of_none h nF)]
      exact s49 _ _ (s4 _ _ h)
    have hu10 : F2 (TupH (upd H9 F0 (.lst (ws ++ [.ref q9])))) usR R := hu4.mono fun _ _ h => (h.ts (Ts.of s49)).ts t10
    have hw10 : F2 (PartH (upd H9 F0 (.lst (ws ++ [.ref q9])))) (ws ++ [.ref q9]) (ts ++ [(c, e, partL k e f row)]) := (hw4.mono fun _ _ h => (h.ts (Ts.of s49)).ts t10).append (.cons ⟨q9, pp, rfl, t10 _ _ e9⟩ .nil)
    have hpp10 : (upd H9 F0 (.lst (ws ++ [.ref q9]))) pp = some (.tup ((partL k e f row).map V.int)) := t10 _ _ (s9 _ _ hpp)
    generalize upd H9 F0 (.lst (ws ++ [.ref q9])) = H10 at e10' hR10 s10 hu10 hw10 hpp10 ⊢
    have haR : a < R.length := (List.getElem?_eq_some_iff.mp hrow).1
    walk_at "lk"
    refine slc ?_
    walk_at "lk"
    refine ⟨lR, usR, rfl, SqL.of hR10, fun l1 hl1 => ?_⟩
    rw [cut_to]
    have s11 : Same H10 (upd H10 l1 (.lst (usR.take a))) := same_new hl1
    have e11 : (upd H10 l1 (.lst (usR.take a))) l1 = some (.lst (usR.take a)) := upd_same
    generalize upd H10 l1 (.lst (usR.take a)) = H11 at s11 e11 ⊢
    walk_at "lk"
    refine ⟨lR, usR, rfl, SqL.of (s11 _ _ hR10), fun l2 hl2 => ?_⟩
    rw [show (a : Int) + 1 = ((a + 1 : Nat) : Int) by norm_cast, cut_from]
    have s12 : Same H11 (upd H11 l2 (.lst (usR.drop (a + 1)))) := same_new hl2
    have e12 : (upd H11 l2 (.lst (usR.drop (a + 1)))) l2 = some (.lst (usR.drop (a + 1))) := upd_same
    generalize upd H11 l2 (.lst (usR.drop (a + 1))) = H12 at s12 e12 ⊢
    walk_at "lk"
    refine ⟨l1, l2, _, _, rfl, rfl, s12 _ _ e11, e12, Nat.le_of_lt (small1000 (by rw [List.length_take, List.length_drop]; omega)), fun l3 hl3 => ?_⟩
    rw [← List.eraseIdx_eq_take_drop_succ]
    have s13 : Same H12 (upd H12 l3 (.lst (usR.eraseIdx a))) := same_new hl3
    have e13 : (upd H12 l3 (.lst (usR.eraseIdx a))) l3 = some (.lst (usR.eraseIdx a)) := upd_same
    generalize upd H12 l3 (.lst (usR.eraseIdx a)) = H13 at s13 e13 ⊢
    have s1013 := (s11.trans s12).trans s13
    have hu13 : F2 (TupH H13) (usR.eraseIdx a) (R.eraseIdx a) := f2_erase a (hu10.mono fun _ _ h => h.ts (Ts.of s1013))
    refine ⟨l3, rfl, ⟨_, SqL.of e13⟩, fun D4 hD4 => ?_⟩
    have hEl : (usR.eraseIdx a).length = (R.eraseIdx a).length := hu13.len
    have hE1 : (R.eraseIdx a).length = R.length - 1 := by rw [List.length_eraseIdx, if_pos haR]
    refine lcg_mapV (walk_list (K := K) (a := l3) (xs := usR.eraseIdx a)) (R.eraseIdx a) hEl.symm TupH TupH (fun t h => h.ts t) (clr k c (partL k e f row)) (by have := Nat.le_of_lt (small1000 hx); omega) hD4 (fun H' s => SqL.of (s _ _ e13)) (fun i x H1 H2 hi s hy => ?_) (fun _ => rfl) (fun i x r H14 hi hv s14 R14 qr => ?_) (fun us4 H14 s14 hD4l hu14 => ?_)
    · obtain ⟨rfl, hx⟩ := hy
      obtain ⟨r, hr, hrd⟩ := hu13.at hx
      exact ⟨rfl, r, hr, hrd.ts (Ts.of s)⟩
    · obtain ⟨b, rfl, hb⟩ := hv
      have hrR : r ∈ R := List.mem_of_mem_eraseIdx (List.mem_of_getElem? hi)
      obtain ⟨rl, rr⟩ := st.row r hrR
      have hc : c < n := by
        rw [← hrl]
        exact (List.getElem?_eq_some_iff.mp hcol).1
      walk_at "lk"
      exact ⟨b, pp, r, partL k e f row, c, k, rfl, hb, s14 _ _ (s1013 _ _ hpp10), by rw [rl]; exact hc, by rw [partL, List.length_map, hrl, rl], by rw [rl]; exact hn, k2, fun x hx => bnd x (rr x hx).1 (rr x hx).2, fun x hx => bnd x (st.bound pv x hx).1 (st.bound pv x hx).2, fun p H15 s15 hp15 => qr _ H15 s15 ⟨p, rfl, hp15⟩⟩
    have st' := st.next pv
    walk_at "lk"
    have h4l : us4.length = R.length - 1 := by rw [hu14.len, List.length_map, hE1]
    refine ⟨D4, us4, _, rfl, SqL.of hD4l, hu14, by omega, fun r hr => by rw [(st'.row r hr).1]; exact hn, fun r hr x hx => ((st'.row r hr).2 x hx).1, fun v H15 s15 hbest => ?_⟩
    walk_at "lk"
    have s1015 := (s1013.trans s14).trans s15
    refine ⟨D4, us4, _, _, _, v, by rw [List.length_map, hE1]; omega, s10.trans s1015, ⟨_, _, _, _, _, _, _, rfl⟩, (fun z => by rw [z, s1013 _ _ e10'] at hD4; cases hD4), s15 _ _ hD4l, hu14.mono fun _ _ h => h.ts (Ts.of s15), s1015 _ _ e10', hw10.mono fun _ _ h => h.ts (Ts.of s1015), st', hbest, ?_⟩
    rw [List.length_append, List.length_singleton, List.length_map, hE1]
    omega
end
end K14

namespace K14
open PySem PySem.Spec PyProof.Rows L2 Lk
local macro_rules | `(tactic| walk_at "lk") => `(tactic| (repeat (first
  | with_reducible refine ssq ?_ | with_reducible refine sas ?_ | with_reducible refine sgn ?_ | ((with_reducible show tVar _ _ _ _); refine sv rfl ?_) | with_reducible refine sc ?_ | with_reducible refine sop ?_ | with_reducible refine sun ?_
  | with_reducible refine sI0 ?_ | with_reducible refine sU ?_ | with_reducible refine stt ?_ | with_reducible refine stB ?_ | with_reducible refine sbl ?_ | with_reducible refine snt ?_ | with_reducible refine sif ?_ | with_reducible refine scB ?_
  | with_reducible refine scn ?_ | with_reducible refine snl ?_ | with_reducible refine scl ?_ | with_reducible refine stu ?_ | with_reducible refine sli ?_ | with_reducible refine sdr ?_ | with_reducible refine srt ?_ | with_reducible refine snx ?_ | with_reducible refine sfor ?_ | with_reducible refine sils ?_ | with_reducible refine sien ?_ | with_reducible refine sor ?_ | with_reducible refine sfg ?_
  | with_reducible refine sav ?_ | with_reducible refine sov ?_ | with_reducible refine snv ?_ | with_reducible refine sch ?_ | with_reducible refine san ?_ | with_reducible refine ssll ?_ | with_reducible refine spt ?_ | with_reducible refine snp ?_ | with_reducible refine sin ?_ | with_reducible refine sfl ?_ | with_reducible refine sfd ?_ | with_reducible refine smt ?_ | with_reducible refine sbt ?_ | with_reducible refine sbm ?_ | with_reducible refine sifx ?_
  | ((with_reducible show Or _ _); first | refine Or.inl ⟨_, rfl, ?_⟩ | refine Or.inr ⟨_, rfl, ?_⟩))))

theorem g_trip {K : PySem.W.Frag} {H : Hp} {σ : L2.St} {i j k : Nat} {x y z : V} {p : Addr} {R : L2.St → Hp → Prop} (h : SqT K H p [x, y, z]) (q : R (((σ.set i (some x)).set j (some y)).set k (some z)) H) : gTup K 3 (gCons (gName i) (gCons (gName j) (gCons (gName k) gNil))) (.ref p) σ H R :=
  ⟨p, [x, y, z], rfl, h, rfl, x, [y, z], rfl, y, [z], rfl, z, [], rfl, rfl, q⟩
theorem sxe {K : PySem.W.Frag} {H : Hp} {a : Addr} {xs : List V} {i : Int} {v : V} {Q : VK} (h : SqE K H a xs) (e : atI xs i = some v) (q : Q v H) : rIxL K (.ref a) (.int i) H Q ∨ rIxT K (.ref a) (.int i) H Q :=
  h.elim (fun h => .inl ⟨a, xs, i, v, rfl, rfl, h, e, q⟩) fun h => .inr ⟨a, xs, i, v, rfl, rfl, h, e, q⟩
def spTab (K : PySem.W.Frag) : Sp := fun vs H Q _ => ∃ (k n : Nat) (l : Addr) (us : List V) (xss : List (List Int)), vs = [.int (k : Int), .ref l] ∧ 1 ≤ k ∧ k ≤ 64 ∧ n ≤ 1000 ∧ xss.length ≤ 1000 ∧ SqE K H l us ∧ F2 (RowD K n H) us xss ∧ ∀ H', Same H H' → Q .non H'
def spSmith (K : PySem.W.Frag) : Sp := fun vs H Q _ => ∃ (k n : Nat) (l : Addr) (us : List V) (xss : List (List Int)), vs = [.int (k : Int), .ref l] ∧ 1 ≤ k ∧ k ≤ 64 ∧ n ≤ 1000 ∧ xss.length ≤ 1000 ∧ SqE K H l us ∧ F2 (RowD K n H) us xss ∧
  ∀ (es : List Nat) (D : Addr) (H' : Hp), Smi k n xss es → Same H H' → H D = none → H' D = some (.lst (es.map fun e : Nat => V.int (e : Int))) → Q (.ref D) H'

section
variable {P : Program} {w : World} {K : PySem.W.Frag} {mg : Str → Option Value} {base : Heap} {A : Ad}
abbrev s__check_table : Stmt := top 20
theorem sc__check_table : FnScope ["width", "table", "size"] ["width", "table"] (defScope s__check_table) := ⟨rfl, rfl, rfl, by decide +kernel, rfl, by decide +kernel, by decide +kernel⟩
theorem ok_check_table {f : Addr} {fd : FuncData} (F : Fun K "_check_table" "_check_table" s__check_table f fd) (T : Txt P w K mg base A) (c_is_width : Cal P w K mg base 3 "is_width" ["value"] (spWidth K)) (c__check_list : Cal P w K mg base 3 "_check_list" ["size", "part", "rows"] (spChkList K)) : FnOk P w K mg base CX0 4 f fd ["width", "table"] (spTab K) := by
  refine F.ok sc__check_table (fun vs H Q E h => ?_) (fun cdv Ar outer s H vs Q E hr h => ?_)
  · obtain ⟨k, n, l, us, xss, rfl, _⟩ := h
    rfl
  · obtain ⟨k, n, l, us, xss, rfl, k1, k2, hn, hx, hl, hr0, q⟩ := h
    refine ⟨_, (pss_cons (ps_if (pt_not (pt_val (pcal c_is_width hr (by decide) (pa_cons (pv 0) pa_nil)))) (pss_one ps_never) pss_nil)
        (pss_cons (ps_if (pt_not (pt_val (pe_callB call_isiT (by rfl) T.z_isinstance (by decide +kernel) (pa_cons (pv 1) (pa_cons (pe_tup (pa_cons (pe_bltn (v := .ty "list") (by rfl) T.z_list (by first | exact PySem.boot_list | decide +kernel) rfl) (pa_cons (pe_bltn (v := .ty "tuple") (by rfl) T.z_tuple (by first | exact PySem.boot_tuple | decide +kernel) rfl) pa_nil))) pa_nil))))) (pss_one ps_never) pss_nil)
        (pss_one (ps_if (pt_cmpR op_gt (pe_callB call_len_seq (by rfl) T.z_len PySem.boot_len (pa_cons (pv 1) pa_nil)) pe_int (nomark _)) (pss_cons (ps_set (i := 2) sc__check_table.nd rfl (Or.inl rfl) (pe_ifExp (pt_val (pe_callB call_isiT (by rfl) T.z_isinstance (by decide +kernel) (pa_cons (pe_ix (ix_list.or ix_tup) (pv 1) pe_int (fun _ _ => rfl)) (pa_cons (pe_tup (pa_cons (pe_bltn (v := .ty "list") (by rfl) T.z_list (by first | exact PySem.boot_list | decide +kernel) rfl) (pa_cons (pe_bltn (v := .ty "tuple") (by rfl) T.z_tuple (by first | exact PySem.boot_tuple | decide +kernel) rfl) pa_nil))) pa_nil)))) (pe_callB call_len_seq (by rfl) T.z_len PySem.boot_len (pa_cons (pe_ix (ix_list.or ix_tup) (pv 1) pe_int (fun _ _ => rfl)) pa_nil)) pe_int))
        (pss_one (ps_expr (pcal c__check_list hr (by decide) (pa_cons (pv 2) (pa_cons pe_str (pa_cons (pv 1) pa_nil))))))) pss_nil)))), ?_⟩
    obtain ⟨ds, hds⟩ := rows_dp hr0
    obtain ⟨d, hd, hs⟩ := sqe_lt hl hds
    walk_at "lk"
    refine ⟨_, .int k, rfl, .int _, ?_⟩
    walk_at "lk"
    refine iff_ (by
      have h1 : decide ((1 : Int) ≤ (k : Int)) = true := decide_eq_true (by omega)
      have h2 : decide ((k : Int) ≤ 64) = true := decide_eq_true (by omega)
      simp [withinD, h1, h2]) ?_
    walk_at "lk"
    refine snw (Nat.le_of_ble_eq_true rfl) fun p0 hp0 => ?_
    have s1 : Same H (upd H p0 (.tup [.ty "list", .ty "tuple"])) := same_new hp0
    have e0 : (upd H p0 (.tup [.ty "list", .ty "tuple"])) p0 = some (.tup [.ty "list", .ty "tuple"]) := upd_same
    generalize upd H p0 (.tup [.ty "list", .ty "tuple"]) = H1 at s1 e0 ⊢
    walk_at "lk"
    refine s_isiLT (dp_same s1 hd) e0 ?_
    rw [hs]
    walk_at "lk"
    refine iff_ rfl ?_
    walk_at "lk"
    have hl1 := hl.same s1
    refine ⟨l, us, rfl, hl1, ?_⟩
    walk_at "lk"
    have hul := hr0.len
    cases hr0 with
    | nil =>
      refine iff_ rfl ?_
      walk_at "lk"
      exact q H1 s1
    | @cons v vs xs xss h t =>
      refine ift_ (by simp) ?_
      have hr1 : F2 (RowD K n H1) (v :: vs) (xs :: xss) := (F2.cons h t).mono fun _ _ h => h.same s1
      obtain ⟨r, rfl, hr, hrl⟩ := h.same s1
      obtain ⟨d2, hd2, hs2⟩ := sqe_lt hr (dp_ints xs)
      walk_at "lk"
      refine sxe hl1 (Lk.atI_nat (i := 0) (x := .ref r) rfl) ?_
      walk_at "lk"
      refine snw (Nat.le_of_ble_eq_true rfl) fun p1 hp1 => ?_
      have s2 : Same H1 (upd H1 p1 (.tup [.ty "list", .ty "tuple"])) := same_new hp1
      have e1 : (upd H1 p1 (.tup [.ty "list", .ty "tuple"])) p1 = some (.tup [.ty "list", .ty "tuple"]) := upd_same
      generalize upd H1 p1 (.tup [.ty "list", .ty "tuple"]) = H2 at s2 e1 ⊢
      walk_at "lk"
      refine s_isiLT (dp_same s2 hd2) e1 ?_
      refine ⟨_, rfl, ?_⟩
      refine ift_ hs2 ?_
      walk_at "lk"
      refine sxe (hl1.same s2) (Lk.atI_nat (i := 0) (x := .ref r) rfl) ?_
      refine ⟨r, _, rfl, hr.same s2, ?_⟩
      rw [List.length_map, hrl]
      walk_at "lk"
      refine ⟨n, _, l, _, _, rfl, hl1.same s2, hr1.mono fun _ _ h => h.same s2, fun H3 s3 => ?_⟩
      walk_at "lk"
      exact q H3 ((s1.trans s2).trans s3)
abbrev s_smith : Stmt := top 15
theorem sc_smith : FnScope ["width", "table", "exponent", "_"] ["width", "table"] (defScope s_smith) := ⟨rfl, rfl, rfl, by decide +kernel, rfl, by decide +kernel, by decide +kernel⟩
theorem ok_smith {f : Addr} {fd : FuncData} (F : Fun K "smith" "smith" s_smith f fd) (T : Txt P w K mg base A) (c__check_table : Cal P w K mg base 4 "_check_table" ["width", "table"] (spTab K)) (c_stacked : Cal P w K mg base 3 "stacked" ["width", "rows"] (spStk K)) : FnOk P w K mg base CX0 5 f fd ["width", "table"] (spSmith K) := by
  refine F.ok sc_smith (fun vs H Q E h => ?_) (fun cdv Ar outer s H vs Q E hr h => ?_)
  · obtain ⟨k, n, l, us, xss, rfl, _⟩ := h
    rfl
  · obtain ⟨k, n, l, us, xss, rfl, k1, k2, hn, hx, hl, hr0, q⟩ := h
    refine ⟨_, (pss_cons (ps_expr (pcal c__check_table hr (by decide) (pa_cons (pv 0) (pa_cons (pv 1) pa_nil))))
        (pss_one (ps_ret (pe_lc (own := [("_", 3), ("exponent", 2)]) (g := gTup K 3 (gCons (gName 3) (gCons (gName 2) (gCons (gName 3) gNil)))) (tt := tYes) rfl sc_smith.nd (pi_list (pcal c_stacked hr (by decide) (pa_cons (pv 0) (pa_cons (pv 1) pa_nil)))) (blkOk_by (own := [("_", 3), ("exponent", 2)]) (N := ["width", "table", "exponent", "_"]) (sc := defScope s_smith) (by decide +kernel)) (fun _ _ _ _ _ => pg_tup rfl (pgs_cons (pg_name (i := 3) sc_smith.nd rfl (Or.inl rfl)) (pgs_cons (pg_name (i := 2) sc_smith.nd rfl (Or.inl rfl)) (pgs_cons (pg_name (i := 3) sc_smith.nd rfl (Or.inl rfl)) pgs_nil)))) (fun _ _ _ _ _ => pts_nil) (fun _ _ _ _ _ => (pv 2)))))), ?_⟩
    walk_at "lk"
    refine ⟨k, n, l, us, xss, rfl, k1, k2, hn, hx, hl, hr0, fun H1 s1 => ?_⟩
    walk_at "lk"
    refine slc ?_
    walk_at "lk"
    refine ⟨k, n, l, us, xss, rfl, k1, k2, hn, hx, hl.same s1, hr0.mono fun _ _ h => h.same s1, fun ts D0 ws H2 s2 hD0 hD0l hws hsm hsml => ?_⟩
    walk_at "lk"
    refine ⟨D0, rfl, ⟨_, SqL.of hD0l⟩, fun D hD => ?_⟩
    have hwl := hws.len
    have hts : ts.length ≤ 1000 := hsml
    refine lc_it (walk_list (K := K) (a := D0) (xs := ws)) (fun i H' => Same H2 H' ∧ H' D = some (.lst ((ts.take i).map fun t : Part => V.int (t.2.1 : Int)))) ⟨same_new hD, upd_same⟩ (fun i H' _ h => SqL.of (h.1 _ _ hD0l)) (fun i v H3 H4 hi h hy => ?_) (fun H3 h => ?_)
    · obtain ⟨rfl, hv⟩ := hy
      obtain ⟨s3, hD3⟩ := h
      obtain ⟨tt, htt, b, pp, rfl, hb⟩ := hws.at hv
      refine g_trip (SqT.of (s3 _ _ hb)) ?_
      refine ⟨rfl, ?_⟩
      unfold tYes
      simp only [if_true]
      walk_at "lk"
      refine ⟨_, hD3, ?_, fun c o e => ?_, ?_⟩
      · rw [List.length_map, List.length_take]
        exact small1000 (by omega)
      · rw [upd_ne (ne_of_none e hD)]
        exact s3 _ _ e
      · rw [upd_same, List.take_succ, htt, List.map_append]
        rfl
    · obtain ⟨s3, hD3⟩ := h
      rw [hwl, List.take_length] at hD3
      have hDH : H D = none := by
        cases ho : H D with
        | none => rfl
        | some o =>
          have := s2 _ _ (s1 _ _ ho)
          rw [hD] at this
          cases this
      exact q (ts.map (·.2.1)) D H3 hsm ((s1.trans s2).trans s3) hDH (by rw [hD3, List.map_map]; rfl)
end
end K14

namespace K14
open PySem PySem.Spec PyProof.Rows L2 Lk
local macro_rules | `(tactic| walk_at "lk") => `(tactic| (repeat (first
  | with_reducible refine ssq ?_ | with_reducible refine sas ?_ | with_reducible refine sgn ?_ | ((with_reducible show tVar _ _ _ _); refine sv rfl ?_) | with_reducible refine sc ?_ | with_reducible refine sop ?_ | with_reducible refine sun ?_
  | with_reducible refine sI0 ?_ | with_reducible refine sU ?_ | with_reducible refine stt ?_ | with_reducible refine stB ?_ | with_reducible refine sbl ?_ | with_reducible refine snt ?_ | with_reducible refine sif ?_ | with_reducible refine scB ?_
  | with_reducible refine scn ?_ | with_reducible refine snl ?_ | with_reducible refine scl ?_ | with_reducible refine stu ?_ | with_reducible refine sli ?_ | with_reducible refine sdr ?_ | with_reducible refine srt ?_ | with_reducible refine snx ?_ | with_reducible refine sfor ?_ | with_reducible refine sils ?_ | with_reducible refine sien ?_ | with_reducible refine sor ?_ | with_reducible refine sfg ?_
  | with_reducible refine sav ?_ | with_reducible refine sov ?_ | with_reducible refine snv ?_ | with_reducible refine sch ?_ | with_reducible refine san ?_ | with_reducible refine ssll ?_ | with_reducible refine spt ?_ | with_reducible refine snp ?_ | with_reducible refine sin ?_ | with_reducible refine sfl ?_ | with_reducible refine sfd ?_ | with_reducible refine smt ?_ | with_reducible refine sbt ?_ | with_reducible refine sbm ?_ | with_reducible refine sifx ?_
  | ((with_reducible show Or _ _); first | refine Or.inl ⟨_, rfl, ?_⟩ | refine Or.inr ⟨_, rfl, ?_⟩))))

theorem spr2 {i j : Nat} {ta : TA} {D : Ends} {σ : L2.St} {H : Hp} (q : ta σ H fun vs H1 => ∃ v w, vs = [v, w] ∧ D.nx ((σ.set i (some v)).set j (some w)) H1) : tPar i j ta D σ H := q
theorem dbl_few {k n : Nat} {L M : List (List Int)} (k1 : 1 ≤ k) (hkn : k * n ≤ 6) (hL : ∀ l ∈ L, l.length = n) (nd : M.Nodup) (h : ∀ x ∈ M, x ∈ L.map (dblE k)) : M.length ≤ 62 := by
  have half : ∀ l : List Int, (dblE k l).map (· / 2) = l.map (· % 2 ^ (k - 1)) := fun l => by
    unfold dblE
    rw [List.map_map]
    refine List.map_congr_left fun a _ => ?_
    show (2 * a) % 2 ^ k / 2 = a % 2 ^ (k - 1)
    have e : (2 : Int) ^ k = 2 * 2 ^ (k - 1) := by
      rw [show k = (k - 1) + 1 by omega, Int.pow_succ, Nat.add_sub_cancel, Int.mul_comm]
    rw [e, Int.mul_emod_mul_of_pos _ _ (by decide)]
    exact Int.mul_ediv_cancel_left _ (by decide)
  have back : ∀ l : List Int, ((dblE k l).map (· / 2)).map (2 * ·) = dblE k l := fun l => by
    unfold dblE
    rw [List.map_map, List.map_map]
    refine List.map_congr_left fun a _ => ?_
    show 2 * ((2 * a) % 2 ^ k / 2) = (2 * a) % 2 ^ k
    have e : (2 : Int) ^ k = 2 * 2 ^ (k - 1) := by
      rw [show k = (k - 1) + 1 by omega, Int.pow_succ, Nat.add_sub_cancel, Int.mul_comm]
    rw [e, Int.mul_emod_mul_of_pos _ _ (by decide), Int.mul_ediv_cancel_left _ (by decide)]
  have nd2 : (M.map fun l => l.map (· / 2)).Nodup := List.pairwise_map.mpr (nd.imp_of_mem fun {a b} ha hb ne e => ne (by
    obtain ⟨x, _, rfl⟩ := List.mem_map.mp (h a ha)
    obtain ⟨y, _, rfl⟩ := List.mem_map.mp (h b hb)
    rw [← back x, ← back y, e]))
  have := els_few (k := k - 1) (n := n) nd2 fun l hl => by
    obtain ⟨x, hx, rfl⟩ := List.mem_map.mp hl
    obtain ⟨y, hy, rfl⟩ := List.mem_map.mp (h x hx)
    rw [half]
    refine ⟨by rw [List.length_map]; exact hL y hy, fun a ha => ?_⟩
    obtain ⟨b, _, rfl⟩ := List.mem_map.mp ha
    exact ⟨Int.emod_nonneg _ (Int.ne_of_gt (Md.p2 _)), Int.emod_lt_of_pos _ (Md.p2 _)⟩
  rw [List.length_map] at this
  refine Nat.le_trans this ?_
  by_cases z : n = 0
  · rw [z, Nat.mul_zero]
    decide
  · have e : (k - 1) * n ≤ 5 := by
      rw [Nat.sub_mul]
      omega
    exact Nat.le_trans (Nat.pow_le_pow_right (n := 2) (by decide) e) (by decide)
theorem inm_dim {k n : Nat} {xss L : List (List Int)} (h : ∀ l ∈ L, InM k n xss l) : Dim n (2 ^ k) L := fun l hl => ⟨(h l hl).len, fun a ha => (h l hl).red a ha⟩
theorem inm_few {k n : Nat} {xss L : List (List Int)} (nd : L.Nodup) (h : ∀ l ∈ L, InM k n xss l) : 1 ≤ n ∨ L.length ≤ 1 := by
  by_cases z : 1 ≤ n
  · exact .inl z
  · have := els_few nd fun l hl => ⟨(h l hl).len, (h l hl).red⟩
    rw [show n = 0 by omega, Nat.mul_zero, Nat.pow_zero] at this
    exact .inr this
theorem un64 {j : Nat} {A : Around} (h : Room j A) : A.units + 64 < cLine := by
  have := h.un
  omega
theorem flatE_le {b : Nat → Nat} {p m : Nat} (h : p ≤ m) : (flatE b p).length ≤ (flatE b m).length := by
  induction m with
  | zero => rw [Nat.le_zero.mp h]; exact Nat.le_refl _
  | succ m ih =>
    by_cases c : p = m + 1
    · rw [c]; exact Nat.le_refl _
    · rw [flatE_succ, List.length_append]
      have := ih (by omega)
      omega
theorem below_all {k : Nat} {es : List Nat} (h : ∀ e ∈ es, e < k) : below k es 0 = es.length := by
  unfold below
  rw [List.filter_eq_self.mpr fun e he => decide_eq_true (by have := h e he; omega)]
theorem below_none {k : Nat} {es : List Nat} : below k es k = 0 := by
  unfold below
  rw [List.filter_eq_nil_iff.mpr fun e he => by rw [decide_eq_false (by omega)]; decide]
  rfl
def spHalf : Sp := fun vs H Q _ => ∃ r : Nat, vs = [.int ((2 ^ r : Nat) : Int)] ∧ r ≤ 60 ∧ Q (.int (r : Int)) H
/-- for these exponents -/
def spDue (K : PySem.W.Frag) : Sp := fun vs H Q _ => ∃ (k n : Nat) (l : Addr) (us : List V) (xss : List (List Int)) (es : List Nat), vs = [.int (k : Int), .int (n : Int), .ref l] ∧ 1 ≤ k ∧ k * n ≤ 6 ∧ k ≤ 6 ∧ n ≤ 6 ∧ SqE K H l us ∧ F2 (RowD K n H) us xss ∧ (∀ xs ∈ xss, ∀ x ∈ xs, x.natAbs < 2 ^ 300) ∧ Smi k n xss es ∧
  ∀ (D : Addr) (H' : Hp), Same H H' → H D = none → H' D = some (.lst (es.map fun e : Nat => V.int (e : Int))) → Q (.ref D) H'

section
variable {P : Program} {w : World} {K : PySem.W.Frag} {mg : Str → Option Value} {base : Heap} {A : Ad}
abbrev s__law_halves : Stmt := top 28
theorem sc__law_halves : FnScope ["_law_number_here", "_law_found"] ["_law_number_here"] (defScope s__law_halves) := ⟨rfl, rfl, rfl, by decide +kernel, rfl, by decide +kernel, by decide +kernel⟩
theorem ok_halves {f : Addr} {fd : FuncData} (F : Fun K "_law_halves" "_law_halves" s__law_halves f fd) (T : Txt P w K mg base A) : FnOk P w K mg base CX0 1 f fd ["_law_number_here"] spHalf := by
  refine F.ok sc__law_halves (fun vs H Q E h => ?_) (fun cdv Ar outer s H vs Q E hr h => ?_)
  · obtain ⟨r, rfl, _⟩ := h
    rfl
  · obtain ⟨r, rfl, hr60, q⟩ := h
    refine ⟨_, (pss_cons (ps_set (i := 1) sc__law_halves.nd rfl (Or.inl rfl) pe_int)
        (pss_cons (ps_while PassesOwn.never (pt_cmpR op_gt (pv 0) pe_int (nomark _)) (pss_one (ps_par (i := 0) (j := 1) (by rfl) sc__law_halves.nd rfl rfl (by decide) rfl rfl (pa_cons (pe_op op_fdiv (pv 0) pe_int) (pa_cons (pe_op op_add (pv 1) pe_int) pa_nil)) (by rfl))))
        (pss_one (ps_ret (pv 1))))), ?_⟩
    walk_at "lk"
    refine ⟨fun m σ' H' => ∃ i : Nat, i ≤ r ∧ m = r - i ∧ H' = H ∧ σ' = [some (.int ((2 ^ (r - i) : Nat) : Int)), some (.int (i : Int))], ⟨_, 0, Nat.zero_le _, rfl, rfl, rfl⟩, ?_⟩
    rintro m σ' H' ⟨i, hi, rfl, rfl, rfl⟩
    walk_at "lk"
    by_cases z : i = r
    · subst z
      refine iff_ (by rw [Nat.sub_self]; rfl) ?_
      walk_at "lk"
      exact q
    · have h1 : 2 ^ (r - i) = 2 * 2 ^ (r - (i + 1)) := by
        rw [show r - i = (r - (i + 1)) + 1 by omega, Nat.pow_succ, Nat.mul_comm]
      have h2 : 0 < 2 ^ (r - (i + 1)) := Nat.pow_pos (by decide)
      refine ift_ (decide_eq_true (by omega)) ?_
      refine ⟨fun σ' H'' => H'' = H' ∧ σ' = [some (.int ((2 ^ (r - (i + 1)) : Nat) : Int)), some (.int ((i + 1 : Nat) : Int))], fun σ' H'' ⟨e1, e2⟩ => ⟨r - (i + 1), by omega, i + 1, by omega, rfl, e1, e2⟩, ?_⟩
      refine spr2 ?_
      walk_at "lk"
      refine sI ⟨by decide, by decide⟩ ?_
      walk_at "lk"
      refine ⟨_, _, rfl, rfl, ?_⟩
      have e1 : ((2 ^ (r - i) : Nat) : Int) / 2 = ((2 ^ (r - (i + 1)) : Nat) : Int) := by rw [h1]; omega
      have e2 : (i : Int) + 1 = ((i + 1 : Nat) : Int) := by norm_cast
      rw [e1, e2]
      rfl
abbrev s__law_due : Stmt := top 29
theorem sc__law_due : FnScope ["_law_width", "_law_size", "_law_rows", "_law_some", "_law_steps", "_law_turn", "_law_found", "_law_power", "_law_doubles", "_law_later", "_law_here", "_law_behind", "_law_one", "_law_number_here"] ["_law_width", "_law_size", "_law_rows"] (defScope s__law_due) := ⟨rfl, rfl, rfl, by decide +kernel, rfl, by decide +kernel, by decide +kernel⟩
theorem ok_due {f : Addr} {fd : FuncData} (F : Fun K "_law_due" "_law_due" s__law_due f fd) (T : Txt P w K mg base A) (c__law_elements : Cal P w K mg base 2 "_law_elements" ["_law_width", "_law_size", "_law_rows"] (spElems K)) (c__law_halves : Cal P w K mg base 1 "_law_halves" ["_law_number_here"] spHalf) : FnOk P w K mg base CX0 4 f fd ["_law_width", "_law_size", "_law_rows"] (spDue K) := by
  refine F.ok sc__law_due (fun vs H Q E h => ?_) (fun cdv Ar outer s H vs Q E hr h => ?_)
  · obtain ⟨k, n, l, us, xss, es, rfl, _⟩ := h
    rfl
  · obtain ⟨k, n, l, us, xss, es, rfl, k1, kn6, k6, n6, hl, hr0, hbd, hsm, q⟩ := h
    refine ⟨_, (pss_cons (ps_par (i := 3) (j := 4) (by rfl) sc__law_due.nd rfl rfl (by decide) rfl rfl (pa_cons (pe_callB (show CallR _ _ (rSortTD K) from cr_sortTD rfl) (by rfl) T.z_sorted (by decide +kernel) (pa_cons (pcal c__law_elements hr (by decide) (pa_cons (pv 0) (pa_cons (pv 1) (pa_cons (pv 2) pa_nil)))) pa_nil)) (pa_cons (pe_lst pa_nil) pa_nil)) (by rfl))
        (pss_cons (ps_for PassesOwn.never rfl (pi_range1 (by rfl) T.z_range (pa_cons (pv 0) pa_nil)) (pg_name (i := 5) sc__law_due.nd rfl (Or.inl rfl)) (pss_cons (ps_setLc (i := 8) (own := [("_law_one", 12)]) (g := gName 12) (tt := tYes) rfl sc__law_due.nd rfl rfl (by rfl) (pi_list (pv 3)) (blkOk_by (own := [("_law_one", 12)]) (N := ["_law_width", "_law_size", "_law_rows", "_law_some", "_law_steps", "_law_turn", "_law_found", "_law_power", "_law_doubles", "_law_later", "_law_here", "_law_behind", "_law_one", "_law_number_here"]) (sc := defScope s__law_due) (by decide +kernel)) (fun _ _ _ _ _ => pg_name (i := 12) sc__law_due.nd rfl (Or.inl rfl)) (fun _ _ _ _ _ => pts_nil) (fun _ _ _ _ _ => (pe_callTy (show CallR _ _ (rTupOf K) from call_tupOf) (by rfl) T.z_tuple (by decide +kernel) (pa_cons (pe_lc (own := [("_law_number_here", 13)]) (g := gName 13) (tt := tYes) rfl sc__law_due.nd (show PI _ _ _ (iTup K (tVar 12)) from pi_tup (pv 12)) (blkOk_by (by kernel_rfl)) (fun _ _ _ _ _ => pg_name (i := 13) sc__law_due.nd rfl (Or.inl rfl)) (fun _ _ _ _ _ => pts_nil) (fun _ _ _ _ _ => (pe_op op_mod (pe_callTy call_int1 (by rfl) T.z_int (by decide +kernel) (pa_cons (pe_op op_mulX pe_int (pv 13)) pa_nil)) (pe_op op_oneShl pe_int (pv 0))))) pa_nil))))
        (pss_cons (ps_set (i := 9) sc__law_due.nd rfl (Or.inl rfl) (pe_callB (show CallR _ _ (rSortSetT K P w) from cr_sortSetT rfl) (by rfl) T.z_sorted (by decide +kernel) (pa_cons (pe_callTy (show CallR _ _ (rSetFew K P w) from cr_setFew rfl (un64 hr)) (by rfl) T.z_set (by decide +kernel) (pa_cons (pv 8) pa_nil)) pa_nil)))
        (pss_cons (ps_expr (pe_bm PySem.F.plainAttrs_list PySem.F.slot_list_append PySem.F.type_list_append mt_append (pv 4) (pa_cons (pcal c__law_halves hr (by decide) (pa_cons (pe_op op_fdiv (pe_callB call_len_seq (by rfl) T.z_len PySem.boot_len (pa_cons (pv 3) pa_nil)) (pe_callB call_len_seq (by rfl) T.z_len PySem.boot_len (pa_cons (pv 9) pa_nil))) pa_nil)) pa_nil)))
        (pss_one (ps_set (i := 3) sc__law_due.nd rfl (Or.inl rfl) (pv 9)))))))
        (pss_cons (ps_set (i := 6) sc__law_due.nd rfl (Or.inl rfl) (pe_lst pa_nil))
        (pss_cons (ps_for PassesOwn.never rfl (pi_range1 (by rfl) T.z_range (pa_cons (pv 0) pa_nil)) (pg_name (i := 7) sc__law_due.nd rfl (Or.inl rfl)) (pss_cons (ps_par (i := 10) (j := 11) (by rfl) sc__law_due.nd rfl rfl (by decide) rfl rfl (pa_cons (pe_ix ix_list (pv 4) (pe_op op_sub (pe_op op_sub (pv 0) pe_int) (pv 7)) (fun _ _ => rfl)) (pa_cons (pe_ix ix_list (pe_op op_cat (pv 4) (pe_lst (pa_cons pe_int pa_nil))) (pe_op op_sub (pv 0) (pv 7)) (fun _ _ => rfl)) pa_nil)) (by rfl))
        (pss_one (ps_set (i := 6) sc__law_due.nd rfl (Or.inl rfl) (pe_op op_cat (pv 6) (pe_op op_rep (pe_lst (pa_cons (pv 7) pa_nil)) (pe_op op_sub (pv 10) (pv 11))))))))
        (pss_one (ps_ret (pv 6))))))), ?_⟩
    refine spr2 ?_
    walk_at "lk"
    refine ⟨k, n, l, us, xss, rfl, k1, kn6, k6, n6, hl, hr0, hbd, fun d L H1 s1 hdn hd hnd hmem => ?_⟩
    have hels : ∀ l ∈ L, InM k n xss l := fun l h => (hmem l).mp h
    walk_at "lk"
    refine s_sortD hd (inm_few hnd hels) (inm_dim hels) fun lS0 us0 L0 H2 s2 hS0n hS0 hus0 pm0 as0 => ?_
    walk_at "lk"
    refine snw (Nat.le_of_ble_eq_true rfl) fun S hS => ?_
    have s3 : Same H2 (upd H2 S (.lst [])) := same_new hS
    have e3 : (upd H2 S (.lst [])) S = some (.lst []) := upd_same
    generalize upd H2 S (.lst []) = H3 at s3 e3 ⊢
    walk_at "lk"
    refine ⟨_, _, rfl, ?_⟩
    have s23 := s2.trans s3
    have newS : H S = none := by
      cases ho : H S with
      | none => rfl
      | some o =>
        have := s2 _ _ (s1 _ _ ho)
        rw [hS] at this
        cases this
    have hes := hsm.lt
    have sizes : ∀ (j : Nat) (LS : List (List Int)), LS.Nodup → (∀ l, l ∈ LS ↔ InM k n (xss.map (dbls j)) l) → LS.length = 2 ^ (es.map fun e => k - (e + j)).sum := fun j LS nd hm => (show Siz k n xss j LS.length from ⟨LS, nd, hm, rfl⟩).uniq (hsm.siz j)
    have six : ∀ j, (es.map fun e => k - (e + j)).sum ≤ 6 := fun j => by
      obtain ⟨LS, nd, hm, hl⟩ := hsm.siz j
      have h1 := els_few (k := k) (n := n) nd fun l hl => ⟨((hm l).mp hl).len, ((hm l).mp hl).red⟩
      rw [hl] at h1
      have h2 := (Nat.pow_le_pow_iff_right (a := 2) (by decide)).mp h1
      omega
    walk_at "lk"
    refine srg ?_
    walk_at "lk"
    refine ⟨(k : Int), rfl, by omega, by omega, ?_⟩
    rw [Int.toNat_natCast]
    refine for_range (fun j σ' H' => ∃ (lS : Addr) (usS : List V) (LS : List (List Int)), (∃ e5 e6 e7 e8 e9 e10 e11 e12 e13, σ' = [some (.int (k : Int)), some (.int (n : Int)), some (.ref l), some (.ref lS), some (.ref S), e5, e6, e7, e8, e9, e10, e11, e12, e13]) ∧ Same H H' ∧ lS ≠ S ∧ H' lS = some (.lst usS) ∧ F2 (TupH H') usS LS ∧ LS.Nodup ∧ (∀ l, l ∈ LS ↔ InM k n (xss.map (dbls j)) l) ∧ H' S = some (.lst ((List.range j).map fun i => V.int (below k es i : Int)))) ?_ ?_ ?_
    · exact ⟨lS0, us0, L0, ⟨_, _, _, _, _, _, _, _, _, rfl⟩, s1.trans s23, (fun z => by rw [z, hS] at hS0; cases hS0), s3 _ _ hS0, hus0.mono fun _ _ h => h.ts (Ts.of s3), pm0.nodup_iff.mpr hnd, fun l => by rw [pm0.mem_iff, hmem, map_dbls0], e3⟩
    · rintro j σ' H4 hj ⟨lS, usS, LS, ⟨e5, e6, e7, e8, e9, e10, e11, e12, e13, rfl⟩, s4, nSS, hlS, huS, hndS, hmS, hS4⟩
      have hLS := sizes j LS hndS hmS
      have hul : usS.length = LS.length := huS.len
      have hLSl : LS.length ≤ 64 := by
        rw [hLS]
        exact Nat.le_trans (Nat.pow_le_pow_right (n := 2) (by decide) (six j)) (by decide)
      have elS : ∀ l ∈ LS, l.length = n ∧ Md.RedL k l := fun l h => ⟨((hmS l).mp h).len, ((hmS l).mp h).red⟩
      walk_at "lk"
      refine slc ?_
      walk_at "lk"
      refine ⟨lS, rfl, ⟨_, SqL.of hlS⟩, fun D hD => ?_⟩
      refine lcg_mapV (walk_list (K := K) (a := lS) (xs := usS)) LS hul.symm TupH TupH (fun t h => h.ts t) (dblE k) (by have := Nat.le_of_lt (small1000 (show (64 : Nat) ≤ 1000 by decide)); omega) hD (fun H' s => SqL.of (s _ _ hlS)) (fun i x Ha Hb hi s hy => ?_) (fun _ => rfl) (fun i x l0 H5 hi hx s5 R5 q5 => ?_) (fun ys5 H5 s5 hDl hys5 => ?_)
      · obtain ⟨rfl, hx⟩ := hy
        obtain ⟨r, hr, hrd⟩ := huS.at hx
        exact ⟨rfl, r, hr, hrd.ts (Ts.of s)⟩
      · obtain ⟨b, rfl, hb⟩ := hx
        obtain ⟨l1, l2⟩ := elS l0 (List.mem_of_getElem? hi)
        walk_at "lk"
        refine slc (siT ?_)
        refine sv rfl ?_
        refine ⟨b, rfl, ⟨_, SqT.of hb⟩, fun D2 hD2 => ?_⟩
        refine lcg_mapTi (f := fun a => (2 * a) % 2 ^ k) hb (by rw [l1]; omega) hD2 (fun _ => rfl) (fun a H6 hm s6 R6 r6 => ?_) (fun H6 s6 hDl6 => ?_)
        · have hr1 := l2 a hm
          have hp2 : (2 : Int) ^ k ≤ 2 ^ 6 := by exact_mod_cast Nat.pow_le_pow_right (n := 2) (by decide) k6
          walk_at "lk"
          refine sI (mul_le (a := 2) (b := 7) (by decide) (by omega) (by decide)) ?_
          walk_at "lk"
          refine ⟨k, rfl, rfl, by omega, ?_⟩
          refine sI (Int.pow_pos (by decide)) ?_
          exact r6
        walk_at "lk"
        refine s_tupL hDl6 fun t2 H7 s7 ht2n ht2 => ?_
        exact q5 _ _ (s6.trans s7) ⟨t2, rfl, ht2⟩
      walk_at "lk"
      refine s_sortFew (fun v H1 h => snl h) hDl hys5 (fun M nd h => dbl_few k1 kn6 (fun l hl => (elS l hl).1) nd h) (by
        by_cases z : 1 ≤ n
        · exact .inl z
        · refine .inr fun M nd h => ?_
          have := els_few (k := k) (n := n) nd fun x hx => by
            obtain ⟨y, hy, rfl⟩ := List.mem_map.mp (h x hx)
            exact ⟨by rw [dblE_len]; exact (elS y hy).1, dblE_red⟩
          rwa [show n = 0 by omega, Nat.mul_zero, Nat.pow_zero] at this) (n := n) (B := 2 ^ k) (fun x hx => by
          obtain ⟨y, hy, rfl⟩ := List.mem_map.mp hx
          exact ⟨by rw [dblE_len]; exact (elS y hy).1, fun a ha => dblE_red a ha⟩) fun pL ysL M H6 s6 hpLn hpL hysL ndM hmM asM => ?_
      have hmM2 : ∀ x, x ∈ M ↔ InM k n (xss.map (dbls (j + 1))) x := fun x => by
        rw [hmM, map_dbls, dbl_mem, List.mem_map]
        exact ⟨fun ⟨y, a, b⟩ => ⟨y, (hmS y).mp a, b⟩, fun ⟨y, a, b⟩ => ⟨y, (hmS y).mpr a, b⟩⟩
      have hM := sizes (j + 1) M ndM hmM2
      have s46 := s5.trans s6
      walk_at "lk"
      refine ⟨.inl ⟨rfl, _, SqL.of (s46 _ _ hS4)⟩, ?_⟩
      walk_at "lk"
      refine ⟨lS, usS, rfl, .inl (SqL.of (s46 _ _ hlS)), ?_⟩
      walk_at "lk"
      refine ⟨pL, ysL, rfl, .inl (SqL.of hpL), ?_⟩
      have hyl : ysL.length = M.length := hysL.len
      have hMp : 0 < M.length := by rw [hM]; exact Nat.pow_pos (by decide)
      have hMl : M.length ≤ 64 := by
        rw [hM]
        exact Nat.le_trans (Nat.pow_le_pow_right (n := 2) (by decide) (six (j + 1))) (by decide)
      refine sI ⟨by omega, by omega⟩ ?_
      have equo : ((usS.length : Nat) : Int) / ((ysL.length : Nat) : Int) = ((2 ^ below k es j : Nat) : Int) := by
        rw [hul, hyl, hLS, hM, sum_step, Nat.pow_add]
        have hp : (0 : Nat) < 2 ^ (es.map fun e => k - (e + (j + 1))).sum := Nat.pow_pos (by decide)
        generalize 2 ^ (es.map fun e => k - (e + (j + 1))).sum = A at hp ⊢
        push_cast
        exact Int.mul_ediv_cancel_left _ (by omega)
      rw [equo]
      walk_at "lk"
      refine ⟨below k es j, rfl, by have := six j; have := sum_step (k := k) j es; omega, ?_⟩
      walk_at "lk"
      refine ⟨S, _, .int (below k es j : Int), rfl, rfl, s46 _ _ hS4, small1000 (by rw [List.length_map, List.length_range]; omega), ?_⟩
      have npS : pL ≠ S := fun z => by
        have := s5 _ _ hS4
        rw [z, this] at hpLn
        cases hpLn
      have t7 : Ts H6 (upd H6 S (.lst ((List.range j).map (fun i => V.int (below k es i : Int)) ++ [.int (below k es j : Int)]))) := Ts.lst (s46 _ _ hS4)
      dsimp only
      walk_at "lk"
      refine ⟨pL, ysL, M, ⟨_, _, _, _, _, _, _, _, _, rfl⟩, fun b o h => ?_, npS, ?_, hysL.mono fun _ _ h => h.ts t7, ndM, hmM2, ?_⟩
      · rw [upd_ne (ne_of_none h newS)]
        exact s46 _ _ (s4 _ _ h)
      · rw [upd_ne npS]
        exact hpL
      · rw [upd_same, List.range_succ, List.map_append]
        rfl
    rintro σ' H4 ⟨lS, usS, LS, ⟨e5, e6, e7, e8, e9, e10, e11, e12, e13, rfl⟩, s4, nSS, hlS, huS, hndS, hmS, hS4⟩
    dsimp only
    walk_at "lk"
    refine snw (Nat.le_of_ble_eq_true rfl) fun F0 hF0 => ?_
    have s5 : Same H4 (upd H4 F0 (.lst [])) := same_new hF0
    have e5' : (upd H4 F0 (.lst [])) F0 = some (.lst []) := upd_same
    generalize upd H4 F0 (.lst []) = H5 at s5 e5' ⊢
    have newF : H F0 = none := by
      cases ho : H F0 with
      | none => rfl
      | some o =>
        have := s4 _ _ ho
        rw [hF0] at this
        cases this
    have hb0 : (fun p => (es.filter fun e => decide (e = p)).length) = fun p => (es.filter fun e => decide (e = p)).length := rfl
    have hesl : es.length ≤ 6 := by
      have h1 := below_all hes
      have := six 0
      have := sum_step (k := k) 0 es
      omega
    generalize hbb : (fun p => (es.filter fun e => decide (e = p)).length) = b at hb0
    have hflat : flatE b k = es := by
      rw [← hbb]
      exact (flatE_of hsm.asc hes).symm
    have hfl : ∀ p, p ≤ k → (flatE b p).length ≤ 6 := fun p hp => by
      have := flatE_le (b := b) hp
      rw [hflat] at this
      omega
    have hbk : ∀ p, p < k → below k es (k - 1 - p) = below k es (k - p) + b p := fun p hp => by
      rw [← hbb]
      exact below_diff hp
    walk_at "lk"
    refine srg ?_
    walk_at "lk"
    refine ⟨(k : Int), rfl, by omega, by omega, ?_⟩
    rw [Int.toNat_natCast]
    refine for_range (fun p σ' H' => ∃ F : Addr, (∃ e3 e5 e7 e8 e9 e10 e11 e12 e13, σ' = [some (.int (k : Int)), some (.int (n : Int)), some (.ref l), e3, some (.ref S), e5, some (.ref F), e7, e8, e9, e10, e11, e12, e13]) ∧ Same H5 H' ∧ H F = none ∧ H' F = some (.lst ((flatE b p).map fun e : Nat => V.int (e : Int)))) ⟨F0, ⟨_, _, _, _, _, _, _, _, _, rfl⟩, Same.refl _, newF, e5'⟩ ?_ ?_
    · rintro p σ' H6 hp ⟨F, ⟨e3, e5, e7, e8, e9, e10, e11, e12, e13, rfl⟩, s6, nF, hF⟩
      have hS6 := s6 _ _ (s5 _ _ hS4)
      walk_at "lk"
      refine spr2 ?_
      walk_at "lk"
      have hz0 : (0 : Int) + (p : Int) = (p : Int) := Int.zero_add _
      rw [hz0, show (k : Int) - 1 - (p : Int) = ((k - 1 - p : Nat) : Int) by omega]
      refine sfr (v := .int (below k es (k - 1 - p) : Int)) (SqL.of hS6) (Lk.atI_nat (by rw [List.getElem?_map, List.getElem?_range (by omega)]; rfl)) ?_
      walk_at "lk"
      refine snw (Nat.le_of_ble_eq_true rfl) fun z0 hz0n => ?_
      have s7 : Same H6 (upd H6 z0 (.lst [.int 0])) := same_new hz0n
      have e7' : (upd H6 z0 (.lst [.int 0])) z0 = some (.lst [.int 0]) := upd_same
      generalize upd H6 z0 (.lst [.int 0]) = H7 at s7 e7' ⊢
      walk_at "lk"
      refine ⟨S, z0, _, _, rfl, rfl, s7 _ _ hS6, e7', Nat.le_of_lt (small1000 (by simp; omega)), fun l8 hl8 => ?_⟩
      have s8 : Same H7 (upd H7 l8 (.lst ((List.range k).map (fun i => V.int (below k es i : Int)) ++ [.int 0]))) := same_new hl8
      have e8' : (upd H7 l8 (.lst ((List.range k).map (fun i => V.int (below k es i : Int)) ++ [.int 0]))) l8 = some (.lst ((List.range k).map (fun i => V.int (below k es i : Int)) ++ [.int 0])) := upd_same
      generalize upd H7 l8 (.lst ((List.range k).map (fun i => V.int (below k es i : Int)) ++ [.int 0])) = H8 at s8 e8' ⊢
      walk_at "lk"
      rw [show (k : Int) - (p : Int) = ((k - p : Nat) : Int) by omega]
      have hbeh : ((List.range k).map (fun i => V.int (below k es i : Int)) ++ [V.int 0])[k - p]? = some (.int (below k es (k - p) : Int)) := by
        by_cases c : p = 0
        · subst c
          rw [Nat.sub_zero, List.getElem?_append_right (by simp), List.length_map, List.length_range, Nat.sub_self, below_none]
          rfl
        · rw [List.getElem?_append_left (by rw [List.length_map, List.length_range]; omega), List.getElem?_map, List.getElem?_range (by omega)]
          rfl
      refine sfr (v := .int (below k es (k - p) : Int)) (SqL.of e8') (Lk.atI_nat hbeh) ?_
      walk_at "lk"
      refine ⟨_, _, rfl, ?_⟩
      walk_at "lk"
      refine snw (Nat.le_of_ble_eq_true rfl) fun l9 hl9 => ?_
      have s9 : Same H8 (upd H8 l9 (.lst [.int (p : Int)])) := same_new hl9
      have e9' : (upd H8 l9 (.lst [.int (p : Int)])) l9 = some (.lst [.int (p : Int)]) := upd_same
      generalize upd H8 l9 (.lst [.int (p : Int)]) = H9 at s9 e9' ⊢
      walk_at "lk"
      have hbb2 := hbk p hp
      have hfs := hfl (p + 1) hp
      rw [flatE_succ, List.length_append, List.length_replicate] at hfs
      rw [show ((below k es (k - 1 - p) : Nat) : Int) - ((below k es (k - p) : Nat) : Int) = ((b p : Nat) : Int) by omega]
      refine ⟨l9, (b p : Int), _, rfl, rfl, e9', by omega, by omega, Nat.le_of_lt (small1000 (by rw [List.length_singleton, Int.toNat_natCast]; omega)), fun l10 hl10 => ?_⟩
      rw [Int.toNat_natCast]
      have erep : (List.replicate (b p) [V.int (p : Int)]).flatten = List.replicate (b p) (V.int (p : Int)) := by
        induction b p with
        | zero => rfl
        | succ m ih => rw [List.replicate_succ, List.flatten_cons, ih]; rfl
      rw [erep]
      have s10 : Same H9 (upd H9 l10 (.lst (List.replicate (b p) (V.int (p : Int))))) := same_new hl10
      have e10' : (upd H9 l10 (.lst (List.replicate (b p) (V.int (p : Int))))) l10 = some (.lst (List.replicate (b p) (V.int (p : Int)))) := upd_same
      generalize upd H9 l10 (.lst (List.replicate (b p) (V.int (p : Int)))) = H10 at s10 e10' ⊢
      have s610 := ((s7.trans s8).trans s9).trans s10
      walk_at "lk"
      refine ⟨F, l10, _, _, rfl, rfl, s610 _ _ hF, e10', Nat.le_of_lt (small1000 (by rw [List.length_map, List.length_replicate]; omega)), fun l11 hl11 => ?_⟩
      have s11 : Same H10 (upd H10 l11 (.lst ((flatE b p).map (fun e : Nat => V.int (e : Int)) ++ List.replicate (b p) (V.int (p : Int))))) := same_new hl11
      refine ⟨l11, ⟨_, _, _, _, _, _, _, _, _, rfl⟩, s6.trans (s610.trans s11), ?_, ?_⟩
      · cases ho : H l11 with
        | none => rfl
        | some o =>
          have := s610 _ _ (s6 _ _ (s5 _ _ (s4 _ _ ho)))
          rw [hl11] at this
          cases this
      · rw [upd_same, flatE_succ, List.map_append, List.map_replicate]
    · rintro σ' H6 ⟨F, ⟨e3, e5, e7, e8, e9, e10, e11, e12, e13, rfl⟩, s6, nF, hF⟩
      dsimp only
      walk_at "lk"
      rw [hflat] at hF
      exact q F H6 ((s4.trans s5).trans s6) nF hF
end
end K14

namespace K14
open PySem PySem.Spec PyProof.Rows L2 Lk
local macro_rules | `(tactic| walk_at "lk") => `(tactic| (repeat (first
  | with_reducible refine ssq ?_ | with_reducible refine sas ?_ | with_reducible refine sgn ?_ | ((with_reducible show tVar _ _ _ _); refine sv rfl ?_) | with_reducible refine sc ?_ | with_reducible refine sop ?_ | with_reducible refine sun ?_
  | with_reducible refine sI0 ?_ | with_reducible refine sU ?_ | with_reducible refine stt ?_ | with_reducible refine stB ?_ | with_reducible refine sbl ?_ | with_reducible refine snt ?_ | with_reducible refine sif ?_ | with_reducible refine scB ?_
  | with_reducible refine scn ?_ | with_reducible refine snl ?_ | with_reducible refine scl ?_ | with_reducible refine stu ?_ | with_reducible refine sli ?_ | with_reducible refine sdr ?_ | with_reducible refine srt ?_ | with_reducible refine snx ?_ | with_reducible refine sfor ?_ | with_reducible refine sils ?_ | with_reducible refine sien ?_ | with_reducible refine sor ?_ | with_reducible refine sfg ?_
  | with_reducible refine sav ?_ | with_reducible refine sov ?_ | with_reducible refine snv ?_ | with_reducible refine sch ?_ | with_reducible refine san ?_ | with_reducible refine ssll ?_ | with_reducible refine spt ?_ | with_reducible refine snp ?_ | with_reducible refine sin ?_ | with_reducible refine sfl ?_ | with_reducible refine sfd ?_ | with_reducible refine smt ?_ | with_reducible refine sbt ?_ | with_reducible refine sbm ?_ | with_reducible refine sifx ?_
  | ((with_reducible show Or _ _); first | refine Or.inl ⟨_, rfl, ?_⟩ | refine Or.inr ⟨_, rfl, ?_⟩))))

/-! ### changed tables -/
/-- the row is a list of its own -/
def RowB (b : Nat) (p : Addr) (n : Nat) (H : Hp) (v : V) (xs : List Int) : Prop := ∃ r, v = .ref r ∧ r ≠ p ∧ H r = some (.lst (xs.map V.int)) ∧ xs.length = n ∧ ∀ x ∈ xs, x.natAbs < 2 ^ b
theorem RowB.mono {b b' : Nat} {p : Addr} {n : Nat} {H : Hp} {v : V} {xs : List Int} (h : RowB b p n H v xs) (hb : b ≤ b') : RowB b' p n H v xs := let ⟨r, h1, h2, h3, h4, h5⟩ := h
  ⟨r, h1, h2, h3, h4, fun x hx => Nat.lt_of_lt_of_le (h5 x hx) (Nat.pow_le_pow_right (by decide) hb)⟩
theorem RowB.wk {b : Nat} {p : Addr} {n : Nat} {H H' : Hp} {v : V} {xs : List Int} (h : RowB b p n H v xs) (s : Wk p H H') : RowB b p n H' v xs := let ⟨r, h1, h2, h3, h4⟩ := h
  ⟨r, h1, h2, s.at h2 h3, h4⟩
theorem RowB.d {K : PySem.W.Frag} {b : Nat} {p : Addr} {n : Nat} {H : Hp} {v : V} {xs : List Int} (h : RowB b p n H v xs) : RowD K n H v xs := let ⟨r, h1, _, h3, h4, _⟩ := h
  ⟨r, h1, .inl (SqL.of h3), h4⟩
def Inj (us : List V) : Prop := ∀ (i j : Nat) (v : V), us[i]? = some v → us[j]? = some v → i = j
structure Sit (H0 : Hp) (p : Addr) (k n m : Nat) (xss : List (List Int)) (b : Nat) (H : Hp) (l : Addr) (us : List V) (R : List (List Int)) : Prop where
  wk : Wk p H0 H
  lp : l ≠ p
  ln : H0 l = none
  at_ : H l = some (.lst us)
  rows : F2 (RowB b p n H) us R
  fresh : ∀ r, V.ref r ∈ us → H0 r = none ∧ r ≠ l
  inj : Inj us
  len : R.length = m
  siz : ∀ j c, Siz k n xss j c → Siz k n R j c
section
variable {H0 H H' : Hp} {p l : Addr} {k n m b : Nat} {xss R : List (List Int)} {us : List V}
theorem Sit.draw (S : Sit H0 p k n m xss b H l us R) (s : Wk p H H') : Sit H0 p k n m xss b H' l us R := ⟨S.wk.trans s, S.lp, S.ln, s.at S.lp S.at_, S.rows.mono fun _ _ h => h.wk s, S.fresh, S.inj, S.len, S.siz⟩
theorem Sit.same (S : Sit H0 p k n m xss b H l us R) (s : Same H H') : Sit H0 p k n m xss b H' l us R := S.draw (Wk.of S.wk.2 s)
theorem Sit.mono {b' : Nat} (S : Sit H0 p k n m xss b H l us R) (hb : b ≤ b') : Sit H0 p k n m xss b' H l us R := ⟨S.wk, S.lp, S.ln, S.at_, S.rows.mono fun _ _ h => h.mono hb, S.fresh, S.inj, S.len, S.siz⟩
theorem Sit.rlen (S : Sit H0 p k n m xss b H l us R) : ∀ r ∈ R, r.length = n := fun r hr => by
  obtain ⟨i, hi⟩ := List.getElem?_of_mem hr
  obtain ⟨_, _, _, _, _, _, h, _⟩ := S.rows.get hi
  exact h
theorem f2_memv {α : Type} {R S : V → α → Prop} : ∀ {vs : List V} {as : List α}, F2 R vs as → (∀ v a, v ∈ vs → R v a → S v a) → F2 S vs as
  | _, _, .nil, _ => .nil
  | _, _, .cons h t, f => .cons (f _ _ (List.mem_cons_self ..) h) (f2_memv t fun v a m => f v a (List.mem_cons_of_mem _ m))
theorem f2_set {α : Type} {Rr : V → α → Prop} {x : V} {a : α} : ∀ {vs : List V} {as : List α} (i : Nat), F2 Rr vs as → Rr x a → F2 Rr (vs.set i x) (as.set i a)
  | _, _, _, .nil, _ => .nil
  | _, _, 0, .cons _ t, h => .cons h t
  | _, _, i + 1, .cons h' t, h => .cons h' (f2_set i t h)
theorem span_set {i : Nat} {r r' : List Int} (hi : R[i]? = some r) (h1 : Sp2 k n R (Md.vec r')) (h2 : Sp2 k n (R.set i r') (Md.vec r)) (x : Md.Vec) : Sp2 k n R x ↔ Sp2 k n (R.set i r') x := by
  have hil := (List.getElem?_eq_some_iff.mp hi).1
  constructor
  · refine fun h => h.trans fun y ⟨s, hs, e⟩ => ?_
    rw [e]
    obtain ⟨j, hj⟩ := List.getElem?_of_mem hs
    by_cases c : j = i
    · rw [c, hi] at hj
      cases hj
      exact h2
    · refine Md.S.gen ⟨s, List.mem_of_getElem? (i := j) ?_, rfl⟩
      rw [List.getElem?_set_ne (Ne.symm c)]
      exact hj
  · refine fun h => h.trans fun y ⟨s, hs, e⟩ => ?_
    rw [e]
    rcases List.mem_or_eq_of_mem_set hs with hs | rfl
    · exact Md.S.gen ⟨s, hs, rfl⟩
    · exact h1
theorem odd_unit (f : Int) (k : Nat) : ∃ g : Int, (2 : Int) ^ k ∣ (2 * f + 1) * g - 1 := by
  have : ∀ j : Nat, ∃ g : Int, (2 : Int) ^ j ∣ (2 * f + 1) * g - 1 := fun j => by
    induction j with
    | zero => exact ⟨0, ⟨-1, by omega⟩⟩
    | succ j ih =>
      obtain ⟨g, q, hq⟩ := ih
      rcases Int.emod_two_eq q with h | h
      · refine ⟨g, ⟨q / 2, ?_⟩⟩
        rw [hq, Int.pow_succ, Int.mul_assoc]
        congr 1
        omega
      · refine ⟨g + 2 ^ j, ⟨(q + 2 * f + 1) / 2, ?_⟩⟩
        have e1 : (2 * f + 1) * (g + 2 ^ j) - 1 = 2 ^ j * q + (2 * f + 1) * 2 ^ j := by
          rw [Int.mul_add, ← hq]
          omega
        rw [e1, Int.pow_succ, Int.mul_assoc, Int.mul_comm (2 * f + 1), ← Int.mul_add]
        congr 1
        omega
  exact this k
/-- a row times an odd number -/
theorem span_odd {i : Nat} {r : List Int} {f : Int} (hl : ∀ r ∈ R, r.length = n) (hi : R[i]? = some r) (x : Md.Vec) : Sp2 k n R x ↔ Sp2 k n (R.set i (r.map fun x => x * (2 * f + 1))) x := by
  have hil := (List.getElem?_eq_some_iff.mp hi).1
  have hr := List.mem_of_getElem? hi
  have hv : ∀ t, t < n → Md.vec (r.map fun x => x * (2 * f + 1)) t = (2 * f + 1) * Md.vec r t := fun t ht => by
    rw [vec_map (by rw [hl r hr]; exact ht), Int.mul_comm]
  refine span_set hi ((Md.S.mul (2 * f + 1) (Md.S.gen (M := 2 ^ k) (n := n) (G := Gr R) ⟨r, hr, rfl⟩)).cg fun t ht => ?_) ?_ x
  · rw [hv t ht, Int.sub_self]
    exact Int.dvd_zero _
  · obtain ⟨g, hg⟩ := odd_unit f k
    refine (Md.S.mul g (Md.S.gen (M := 2 ^ k) (n := n) (G := Gr (R.set i (r.map fun x => x * (2 * f + 1)))) ⟨_, List.mem_of_getElem? (i := i) (List.getElem?_set_self hil), rfl⟩)).cg fun t ht => ?_
    show (2 : Int) ^ k ∣ Md.vec r t - g * Md.vec (r.map fun x => x * (2 * f + 1)) t
    rw [hv t ht]
    have := Int.dvd_neg.mpr (Int.dvd_mul_of_dvd_left (c := Md.vec r t) hg)
    have e : -(((2 * f + 1) * g - 1) * Md.vec r t) = Md.vec r t - g * ((2 * f + 1) * Md.vec r t) := by
      rw [Int.sub_mul, Int.one_mul, Int.mul_comm (2 * f + 1) g, Int.mul_assoc]
      omega
    rwa [e] at this
/-- a row more a multiple of another -/
theorem span_more {i j : Nat} {r s : List Int} {f : Int} (hl : ∀ r ∈ R, r.length = n) (hi : R[i]? = some r) (hj : R[j]? = some s) (ne : i ≠ j) (x : Md.Vec) : Sp2 k n R x ↔ Sp2 k n (R.set i (List.zipWith (fun a b => a + f * b) r s)) x := by
  have hil := (List.getElem?_eq_some_iff.mp hi).1
  have hr := List.mem_of_getElem? hi
  have hs := List.mem_of_getElem? hj
  have hv : ∀ t, t < n → Md.vec (List.zipWith (fun a b => a + f * b) r s) t = Md.vec r t + f * Md.vec s t := fun t ht => by
    have h1 : t < r.length := by rw [hl r hr]; exact ht
    have h2 : t < s.length := by rw [hl s hs]; exact ht
    unfold Md.vec
    rw [List.getD_eq_getElem?_getD, List.getElem?_zipWith, List.getElem?_eq_getElem h1, List.getElem?_eq_getElem h2, List.getD_eq_getElem?_getD (l := r), List.getElem?_eq_getElem h1, List.getD_eq_getElem?_getD (l := s), List.getElem?_eq_getElem h2]
    rfl
  refine span_set hi (((Md.S.gen (M := 2 ^ k) (n := n) (G := Gr R) ⟨r, hr, rfl⟩).add (Md.S.mul f (Md.S.gen ⟨s, hs, rfl⟩))).cg fun t ht => ?_) ?_ x
  · rw [hv t ht, Int.sub_self]
    exact Int.dvd_zero _
  · refine ((Md.S.gen (M := 2 ^ k) (n := n) (G := Gr (R.set i (List.zipWith (fun a b => a + f * b) r s))) ⟨_, List.mem_of_getElem? (i := i) (List.getElem?_set_self hil), rfl⟩).sub (Md.S.mul f (Md.S.gen ⟨s, List.mem_of_getElem? (i := j) (by rw [List.getElem?_set_ne ne]; exact hj), rfl⟩))).cg fun t ht => ?_
    show (2 : Int) ^ k ∣ Md.vec r t - (Md.vec (List.zipWith (fun a b => a + f * b) r s) t - f * Md.vec s t)
    rw [hv t ht]
    exact ⟨0, by omega⟩
theorem inj_set {i : Nat} {x : V} (h : Inj us) (hx : x ∉ us) : Inj (us.set i x) := fun a c v ha hc => by
  rw [List.getElem?_set] at ha hc
  split at ha
  · next e1 =>
    split at hc
    · next e2 => omega
    · split at ha
      · cases ha
        exact absurd (List.mem_of_getElem? hc) hx
      · cases ha
  · split at hc
    · split at hc
      · cases hc
        exact absurd (List.mem_of_getElem? ha) hx
      · cases hc
    · exact h a c v ha hc
theorem inj_snoc {x : V} (h : Inj us) (hx : x ∉ us) : Inj (us ++ [x]) := fun a c v ha hc => by
  by_cases h1 : a < us.length
  · rw [List.getElem?_append_left h1] at ha
    by_cases h2 : c < us.length
    · rw [List.getElem?_append_left h2] at hc
      exact h a c v ha hc
    · rw [List.getElem?_append_right (by omega)] at hc
      have := List.mem_singleton.mp (List.mem_of_getElem? hc)
      subst this
      exact absurd (List.mem_of_getElem? ha) hx
  · have l1 := (List.getElem?_eq_some_iff.mp ha).1
    by_cases h2 : c < us.length
    · rw [List.getElem?_append_right (by omega)] at ha
      rw [List.getElem?_append_left h2] at hc
      have := List.mem_singleton.mp (List.mem_of_getElem? ha)
      subst this
      exact absurd (List.mem_of_getElem? hc) hx
    · have l2 := (List.getElem?_eq_some_iff.mp hc).1
      rw [List.length_append, List.length_singleton] at l1 l2
      omega
/-- one row is another list now -/
theorem Sit.set {i : Nat} {r' : Addr} {xs : List Int} (S : Sit H0 p k n m xss b H l us R) (hp : r' ≠ p) (hl : r' ≠ l) (h0 : H0 r' = none) (hu : V.ref r' ∉ us) (hr : H r' = some (.lst (xs.map V.int))) (hn : xs.length = n) (hb : ∀ x ∈ xs, x.natAbs < 2 ^ b) (hs : ∀ j c, Siz k n R j c → Siz k n (R.set i xs) j c) :
    Sit H0 p k n m xss b (upd H l (.lst (us.set i (.ref r')))) l (us.set i (.ref r')) (R.set i xs) := by
  have keep : ∀ {v : V} {xs : List Int}, v ∈ us ∨ v = .ref r' → RowB b p n H v xs → RowB b p n (upd H l (.lst (us.set i (.ref r')))) v xs := fun hv ⟨q, e, h2, h3, h4⟩ => ⟨q, e, h2, by
    rw [upd_ne]
    · exact h3
    · rcases hv with hv | hv
      · rw [e] at hv
        exact (S.fresh q hv).2
      · rw [e] at hv
        cases hv
        exact hl, h4⟩
  refine ⟨S.wk.updD S.ln S.lp, S.lp, S.ln, upd_same, f2_set i (f2_memv S.rows fun v xs hv h => keep (.inl hv) h) (keep (.inr rfl) ⟨r', rfl, hp, hr, hn, hb⟩), fun q hq => ?_, inj_set S.inj hu, by rw [List.length_set]; exact S.len, fun j c h => hs j c (S.siz j c h)⟩
  rcases List.mem_or_eq_of_mem_set hq with hq | hq
  · exact S.fresh q hq
  · cases hq
    exact ⟨h0, hl⟩
theorem swap_get {α : Type} {vs : List α} {a c : Nat} {x y : α} (ha : vs[a]? = some x) (hc : vs[c]? = some y) (i : Nat) : ((vs.set a y).set c x)[i]? = vs[if i = c then a else if i = a then c else i]? := by
  have hal := (List.getElem?_eq_some_iff.mp ha).1
  have hcl := (List.getElem?_eq_some_iff.mp hc).1
  rw [List.getElem?_set, List.getElem?_set]
  by_cases h1 : i = c
  · subst h1
    rw [if_pos rfl, if_pos (by rw [List.length_set]; exact hcl), if_pos rfl, ha]
  · rw [if_neg (Ne.symm h1), if_neg h1]
    by_cases h2 : i = a
    · subst h2
      rw [if_pos rfl, if_pos hal, if_pos rfl, hc]
    · rw [if_neg (Ne.symm h2), if_neg h2]
theorem swap_mem {α : Type} {vs : List α} {a c : Nat} {x y z : α} (ha : vs[a]? = some x) (hc : vs[c]? = some y) : z ∈ (vs.set a y).set c x ↔ z ∈ vs := by
  constructor
  · intro h
    obtain ⟨i, hi⟩ := List.getElem?_of_mem h
    rw [swap_get ha hc] at hi
    exact List.mem_of_getElem? hi
  · intro h
    obtain ⟨i, hi⟩ := List.getElem?_of_mem h
    refine List.mem_of_getElem? (i := if i = c then a else if i = a then c else i) ?_
    rw [swap_get ha hc, ← hi]
    congr 1
    by_cases h1 : i = c
    · subst h1
      rw [if_pos rfl]
      by_cases h2 : a = i
      · rw [if_pos h2, h2]
      · rw [if_neg h2, if_pos rfl]
    · rw [if_neg h1]
      by_cases h2 : i = a
      · subst h2
        rw [if_pos rfl, if_pos rfl]
      · rw [if_neg h2, if_neg h1, if_neg h2]
theorem Sit.swap {a c : Nat} {x y : V} {r s : List Int} (S : Sit H0 p k n m xss b H l us R) (ha : us[a]? = some x) (hc : us[c]? = some y) (ra : R[a]? = some r) (rc : R[c]? = some s) :
    Sit H0 p k n m xss b (upd (upd H l (.lst (us.set a y))) l (.lst ((us.set a y).set c x))) l ((us.set a y).set c x) ((R.set a s).set c r) := by
  rw [upd_upd]
  have rx : RowB b p n H x r := by
    obtain ⟨v, hv, h⟩ := S.rows.get ra
    rw [ha] at hv
    cases hv
    exact h
  have ry : RowB b p n H y s := by
    obtain ⟨v, hv, h⟩ := S.rows.get rc
    rw [hc] at hv
    cases hv
    exact h
  have f := f2_set c (f2_set a S.rows ry) rx
  refine ⟨S.wk.updD S.ln S.lp, S.lp, S.ln, upd_same, f2_memv f fun v xs hv ⟨q, e, h2, h3, h4⟩ => ⟨q, e, h2, ?_, h4⟩, fun q hq => S.fresh q ((swap_mem ha hc).mp hq), fun i j v hi hj => ?_, by rw [List.length_set, List.length_set]; exact S.len, fun j c' h => (S.siz j c' h).span fun z => ?_⟩
  · rw [upd_ne]
    · exact h3
    · rw [e] at hv
      exact (S.fresh q ((swap_mem ha hc).mp hv)).2
  · rw [swap_get ha hc] at hi hj
    have := S.inj _ _ v hi hj
    split at this <;> split at this <;> (try split at this) <;> (try split at this) <;> omega
  · exact ⟨fun h => h.mono fun y ⟨t, ht, e⟩ => ⟨t, (swap_mem ra rc).mpr ht, e⟩, fun h => h.mono fun y ⟨t, ht, e⟩ => ⟨t, (swap_mem ra rc).mp ht, e⟩⟩
end

section
variable {P : Program} {w : World} {K : PySem.W.Frag} {mg : Str → Option Value} {base : Heap} {A : Ad}
end
end K14

namespace K14
open PySem PySem.Spec PyProof.Rows L2 Lk
local macro_rules | `(tactic| walk_at "lk") => `(tactic| (repeat (first
  | with_reducible refine ssq ?_ | with_reducible refine sas ?_ | with_reducible refine sgn ?_ | ((with_reducible show tVar _ _ _ _); refine sv rfl ?_) | with_reducible refine sc ?_ | with_reducible refine sop ?_ | with_reducible refine sun ?_
  | with_reducible refine sI0 ?_ | with_reducible refine sU ?_ | with_reducible refine stt ?_ | with_reducible refine stB ?_ | with_reducible refine sbl ?_ | with_reducible refine snt ?_ | with_reducible refine sif ?_ | with_reducible refine scB ?_
  | with_reducible refine scn ?_ | with_reducible refine snl ?_ | with_reducible refine scl ?_ | with_reducible refine stu ?_ | with_reducible refine sli ?_ | with_reducible refine sdr ?_ | with_reducible refine srt ?_ | with_reducible refine snx ?_ | with_reducible refine sfor ?_ | with_reducible refine sils ?_ | with_reducible refine sien ?_ | with_reducible refine sor ?_ | with_reducible refine sfg ?_
  | with_reducible refine sav ?_ | with_reducible refine sov ?_ | with_reducible refine snv ?_ | with_reducible refine sch ?_ | with_reducible refine san ?_ | with_reducible refine ssll ?_ | with_reducible refine spt ?_ | with_reducible refine snp ?_ | with_reducible refine sin ?_ | with_reducible refine sfl ?_ | with_reducible refine sfd ?_ | with_reducible refine smt ?_ | with_reducible refine sbt ?_ | with_reducible refine sbm ?_ | with_reducible refine sifx ?_
  | ((with_reducible show Or _ _); first | refine Or.inl ⟨_, rfl, ?_⟩ | refine Or.inr ⟨_, rfl, ?_⟩))))

def rListQ (K : PySem.W.Frag) : List V → Hp → VK → Prop := fun xs H Q => ∃ (p : Addr) (ys : List V), xs = [V.ref p] ∧ (SqL K H p ys ∨ SqT K H p ys) ∧ ∀ l, H l = none → Q (.ref l) (upd H l (.lst ys))
theorem szip {k1 k2 : SeqK} {K : PySem.W.Frag} {ta : TA} {σ : L2.St} {H : Hp} {R : L2.It → Hp → Prop} (q : ta σ H fun vs H1 => ∃ a b xs ys, vs = [.ref a, .ref b] ∧ k1.sq K H1 a xs ∧ k2.sq K H1 b ys ∧ R (Itm k1 k2 K a b) H1) : iZipM k1 k2 K ta σ H R := q
theorem f2_of {α : Type} {R : V → α → Prop} : ∀ {vs : List V} {as : List α}, vs.length = as.length → (∀ (i : Nat) (v : V) (a : α), vs[i]? = some v → as[i]? = some a → R v a) → F2 R vs as
  | [], [], _, _ => .nil
  | [], _ :: _, h, _ => by cases h
  | _ :: _, [], h, _ => by cases h
  | v :: vs, a :: as, h, f => .cons (f 0 v a rfl rfl) (f2_of (by simpa using h) fun i v a h1 h2 => f (i + 1) v a h1 h2)
theorem ixn_nat {n a : Nat} (h : a < n) : ixN n (a : Int) = some a := by
  unfold ixN
  rw [if_pos (Int.natCast_nonneg a), if_pos (by omega)]
  rfl
theorem ab_grow {x f : Int} {b b' : Nat} (hx : x.natAbs < 2 ^ b) (hf : f.natAbs < 2 ^ 8) (h : b + 8 ≤ b') : (x * f).natAbs < 2 ^ b' :=
  Nat.lt_of_lt_of_le (ab_mul hx hf) (Nat.pow_le_pow_right (by decide) h)
theorem ab_more {x y f : Int} {b b' : Nat} (hx : x.natAbs < 2 ^ b) (hy : y.natAbs < 2 ^ b) (hf : f.natAbs < 64) (h : b + 8 ≤ b') : (x + f * y).natAbs < 2 ^ b' := by
  have h1 := ab_mul (a := 6) hf hy
  have h2 : (2 : Nat) ^ (6 + b) = 64 * 2 ^ b := by rw [Nat.pow_add]
  have h3 : 2 ^ b * 256 ≤ 2 ^ b' := by
    have := Nat.pow_le_pow_right (n := 2) (by decide) h
    rw [Nat.pow_add] at this
    exact this
  generalize f * y = z at h1 ⊢
  rw [h2] at h1
  generalize (2 : Nat) ^ b = B at *
  omega
theorem Sit.notin {H0 H : Hp} {p l r : Addr} {k n m b : Nat} {xss R : List (List Int)} {us : List V} (S : Sit H0 p k n m xss b H l us R) (h : H r = none) : V.ref r ∉ us := fun hm => by
  obtain ⟨i, hi⟩ := List.getElem?_of_mem hm
  obtain ⟨_, _, q, e, _, h2, _⟩ := S.rows.at hi
  cases e
  rw [h] at h2
  cases h2
def spChg : Sp := fun vs H Q _ => ∃ (p l0 : Addr) (k n : Nat) (us0 : List V) (xss : List (List Int)), vs = [.ref p, .int (k : Int), .ref l0] ∧ Wl H p ∧ l0 ≠ p ∧ H l0 = some (.lst us0) ∧ F2 (RowP p n H) us0 xss ∧ 1 ≤ k ∧ k ≤ 6 ∧ 1 ≤ n ∧ n ≤ 6 ∧ 0 < us0.length ∧ us0.length ≤ 4 ∧
  ∀ (l : Addr) (us : List V) (R : List (List Int)) (H' : Hp), Sit H p k n xss.length xss 300 H' l us R → Q (.ref l) H'

section
variable {P : Program} {w : World} {K : PySem.W.Frag} {mg : Str → Option Value} {base : Heap} {A : Ad}
abbrev s__law_changed : Stmt := top 30
theorem sc__law_changed : FnScope ["_law_source_here", "_law_width", "_law_rows", "_law_turn", "_law_way", "_law_factor", "_law_one", "_law_other", "_law_kept", "_law_at", "_law_row", "_law_number_here", "_law_b", "_law_a"] ["_law_source_here", "_law_width", "_law_rows"] (defScope s__law_changed) := ⟨rfl, rfl, rfl, by decide +kernel, rfl, by decide +kernel, by decide +kernel⟩
theorem ok_changed {f : Addr} {fd : FuncData} (F : Fun K "_law_changed" "_law_changed" s__law_changed f fd) (T : Txt P w K mg base A) (c__law_draw : Cal P w K mg base 1 "_law_draw" ["_law_source_here", "_law_many"] spDraw) : FnOk P w K mg base CX0 3 f fd ["_law_source_here", "_law_width", "_law_rows"] spChg := by
  refine F.ok sc__law_changed (fun vs H Q E h => ?_) (fun cdv Ar outer s H vs Q E hr h => ?_)
  · obtain ⟨p, l0, k, n, us0, xss, rfl, _⟩ := h
    rfl
  · obtain ⟨p, l0, k, n, us0, xss, rfl, hw, nl0, hl0, hr0, k1, k6, n1, n6, hpos, hle, q⟩ := h
    refine ⟨_, (pss_cons (ps_setLc (i := 2) (own := [("_law_row", 10)]) (g := gName 10) (tt := tYes) rfl sc__law_changed.nd rfl rfl (by rfl) (pi_list (pv 2)) (blkOk_by (own := [("_law_row", 10)]) (N := ["_law_source_here", "_law_width", "_law_rows", "_law_turn", "_law_way", "_law_factor", "_law_one", "_law_other", "_law_kept", "_law_at", "_law_row", "_law_number_here", "_law_b", "_law_a"]) (sc := defScope s__law_changed) (by decide +kernel)) (fun _ _ _ _ _ => pg_name (i := 10) sc__law_changed.nd rfl (Or.inl rfl)) (fun _ _ _ _ _ => pts_nil) (fun _ _ _ _ _ => (pe_callTy (show CallR _ _ (rListQ K) from call_list_of) (by rfl) T.z_list (by decide +kernel) (pa_cons (pv 10) pa_nil))))
        (pss_cons (ps_for PassesOwn.never rfl (pi_range1 (by rfl) T.z_range (pa_cons (pcal c__law_draw hr (by decide) (pa_cons (pv 0) (pa_cons pe_int pa_nil))) pa_nil)) (pg_name (i := 3) sc__law_changed.nd rfl (Or.inl rfl)) (pss_cons (ps_asg (pe_tup (pa_cons (pcal c__law_draw hr (by decide) (pa_cons (pv 0) (pa_cons pe_int pa_nil))) (pa_cons (pcal c__law_draw hr (by decide) (pa_cons (pv 0) (pa_cons (pe_op op_oneShl pe_int (pv 1)) pa_nil))) pa_nil))) (pg_tup rfl (pgs_cons (pg_name (i := 4) sc__law_changed.nd rfl (Or.inl rfl)) (pgs_cons (pg_name (i := 5) sc__law_changed.nd rfl (Or.inr rfl)) pgs_nil))))
        (pss_cons (ps_par (i := 6) (j := 7) (by rfl) sc__law_changed.nd rfl rfl (by decide) rfl rfl (pa_cons (pcal c__law_draw hr (by decide) (pa_cons (pv 0) (pa_cons (pe_callB call_len_seq (by rfl) T.z_len PySem.boot_len (pa_cons (pv 2) pa_nil)) pa_nil))) (pa_cons (pcal c__law_draw hr (by decide) (pa_cons (pv 0) (pa_cons (pe_callB call_len_seq (by rfl) T.z_len PySem.boot_len (pa_cons (pv 2) pa_nil)) pa_nil))) pa_nil)) (by rfl))
        (pss_one (ps_if (pt_cmpR op_eq (pv 4) pe_int (nomark _)) (pss_cons (ps_set (i := 8) sc__law_changed.nd rfl (Or.inl rfl) (pe_ix ix_list (pv 2) (pv 6) (fun _ _ => rfl)))
        (pss_cons (ps_asg (pe_ix ix_list (pv 2) (pv 7) (fun _ _ => rfl)) (pg_sub (pv 2) (pv 6) set_list))
        (pss_one (ps_asg (pv 8) (pg_sub (pv 2) (pv 7) set_list))))) (pss_one (ps_if (pt_cmpR op_eq (pv 4) pe_int (nomark _)) (pss_one (ps_asg (pe_lc (own := [("_law_number_here", 11)]) (g := gName 11) (tt := tYes) rfl sc__law_changed.nd (pi_list (pe_ix ix_list (pv 2) (pv 6) (fun _ _ => rfl))) (blkOk_by (own := [("_law_number_here", 11)]) (N := ["_law_source_here", "_law_width", "_law_rows", "_law_turn", "_law_way", "_law_factor", "_law_one", "_law_other", "_law_kept", "_law_at", "_law_row", "_law_number_here", "_law_b", "_law_a"]) (sc := defScope s__law_changed) (by decide +kernel)) (fun _ _ _ _ _ => pg_name (i := 11) sc__law_changed.nd rfl (Or.inl rfl)) (fun _ _ _ _ _ => pts_nil) (fun _ _ _ _ _ => (pe_op op_mulX (pv 11) (pe_op op_add (pe_op op_mulX pe_int (pv 5)) pe_int)))) (pg_sub (pv 2) (pv 6) set_list))) (pss_one (ps_if (PW.pt (pw_and (pt_cmpR op_eq (pv 4) pe_int (nomark _)) (pw_and1 (pt_cmpR op_ne (pv 6) (pv 7) (nomark _))))) (pss_one (ps_asg (pe_lc (own := [("_law_a", 13), ("_law_b", 12)]) (g := gTup K 2 (gCons (gName 13) (gCons (gName 12) gNil))) (tt := tYes) rfl sc__law_changed.nd (show PI _ _ _ (iZipM skL skL K (tCons _ (tCons _ tNil))) from pi_zipM (by rfl) T.z_zip (pa_cons (pe_ix ix_list (pv 2) (pv 6) (fun _ _ => rfl)) (pa_cons (pe_ix ix_list (pv 2) (pv 7) (fun _ _ => rfl)) pa_nil))) (blkOk_by (own := [("_law_a", 13), ("_law_b", 12)]) (N := ["_law_source_here", "_law_width", "_law_rows", "_law_turn", "_law_way", "_law_factor", "_law_one", "_law_other", "_law_kept", "_law_at", "_law_row", "_law_number_here", "_law_b", "_law_a"]) (sc := defScope s__law_changed) (by decide +kernel)) (fun _ _ _ _ _ => pg_tup rfl (pgs_cons (pg_name (i := 13) sc__law_changed.nd rfl (Or.inl rfl)) (pgs_cons (pg_name (i := 12) sc__law_changed.nd rfl (Or.inl rfl)) pgs_nil))) (fun _ _ _ _ _ => pts_nil) (fun _ _ _ _ _ => (pe_op op_add (pv 13) (pe_op op_mulX (pv 5) (pv 12))))) (pg_sub (pv 2) (pv 6) set_list))) (pss_one (ps_if (PW.pt (pw_and (pt_cmpR op_eq (pv 4) pe_int (nomark _)) (pw_and1 (pt_cmpR op_gt (pe_callB call_len_seq (by rfl) T.z_len PySem.boot_len (pa_cons (pe_ix ix_list (pv 2) pe_int (fun _ _ => rfl)) pa_nil)) pe_int (nomark _))))) (pss_cons (ps_set (i := 9) sc__law_changed.nd rfl (Or.inl rfl) (pcal c__law_draw hr (by decide) (pa_cons (pv 0) (pa_cons (pe_op op_sub (pe_callB call_len_seq (by rfl) T.z_len PySem.boot_len (pa_cons (pe_ix ix_list (pv 2) pe_int (fun _ _ => rfl)) pa_nil)) pe_int) pa_nil))))
        (pss_one (ps_for PassesOwn.never rfl (pi_list (pv 2)) (pg_name (i := 10) sc__law_changed.nd rfl (Or.inl rfl)) (pss_one (ps_asg (pe_op op_add (pe_ix ix_list (pv 10) (pv 9) (fun _ _ => rfl)) (pe_op op_mulX (pv 5) (pe_ix ix_list (pv 10) (pe_op op_add (pv 9) pe_int) (fun _ _ => rfl)))) (pg_sub (pv 10) (pv 9) set_list)))))) pss_nil)))))))))))
        (pss_one (ps_ret (pv 2))))), ?_⟩
    have hul0 := hr0.len
    walk_at "lk"
    refine slc ?_
    walk_at "lk"
    refine ⟨l0, rfl, ⟨_, SqL.of hl0⟩, fun D hD => ?_⟩
    have nD : D ≠ p := ne_new hw hD
    refine lc_it (walk_list (K := K) (a := l0) (xs := us0)) (fun i H' => Same H H' ∧ ∃ ys, H' D = some (.lst ys) ∧ F2 (fun v xs => ∃ a, v = .ref a ∧ a ≠ D ∧ H a = none ∧ H' a = some (.lst (xs.map V.int)) ∧ xs.length = n ∧ ∀ x ∈ xs, x.natAbs < 2 ^ 200) ys (xss.take i) ∧ Inj ys) ⟨same_new hD, [], upd_same, .nil, fun i j v hi => by simp at hi⟩ (fun i H' _ h => SqL.of (h.1 _ _ hl0)) ?_ ?_
    · rintro i v H1 H2 hi ⟨s1, ys, hDl, hf, hinj⟩ hy
      obtain ⟨rfl, hv⟩ := hy
      obtain ⟨xs, hxs, r, rfl, nr, hr, hrl, hrb⟩ := hr0.at hv
      refine ⟨rfl, ?_⟩
      unfold tYes
      simp only [if_true]
      walk_at "lk"
      have hr2 : SqL K H2 r (xs.map V.int) ∨ SqT K H2 r (xs.map V.int) := hr.imp (fun h => SqL.of (s1 _ _ h)) (fun h => SqT.of (s1 _ _ h))
      refine ⟨r, _, rfl, hr2, fun a ha => ?_⟩
      have s2 : Same H2 (upd H2 a (.lst (xs.map V.int))) := same_new ha
      have naD : a ≠ D := fun z => by rw [z, hDl] at ha; cases ha
      have hnew : H a = none := by
        cases ho : H a with
        | none => rfl
        | some o =>
          have := s1 _ _ ho
          rw [ha] at this
          cases this
      have hyl : ys.length = i := by
        rw [hf.len, List.length_take]
        omega
      refine ⟨ys, s2 _ _ hDl, small1000 (by omega), fun c o e => ?_, _, upd_same, ?_, ?_⟩
      · rw [upd_ne (ne_of_none e hD)]
        exact s2 _ _ (s1 _ _ e)
      · rw [List.take_succ, hxs]
        refine (hf.mono fun v xs ⟨b, h1, h2, h3, h4, h5⟩ => ⟨b, h1, h2, h3, ?_, h5⟩).append (.cons ⟨a, rfl, naD, hnew, ?_, hrl, hrb⟩ .nil)
        · rw [upd_ne naD, upd_same]
        · rw [upd_ne h2]
          exact s2 _ _ h4
      · refine inj_snoc hinj fun hm => ?_
        obtain ⟨j, hj⟩ := List.getElem?_of_mem hm
        obtain ⟨_, _, b, e, _, _, h4, _⟩ := hf.at hj
        cases e
        rw [ha] at h4
        cases h4
    rintro H1 ⟨s1, ys, hDl, hf, hinj⟩
    rw [hul0, List.take_length] at hf
    have S0 : Sit H p k n xss.length xss 200 H1 D ys xss := ⟨Wk.of hw s1, nD, hD, hDl, hf.mono fun v xs ⟨a, h1, h2, h3, h4, h5, h6⟩ => ⟨a, h1, ne_new hw h3, h4, h5, h6⟩, fun r hr => by
      obtain ⟨j, hj⟩ := List.getElem?_of_mem hr
      obtain ⟨_, _, b, e, h2, h3, _⟩ := hf.at hj
      cases e
      exact ⟨h3, h2⟩, hinj, rfl, fun j c h => h⟩
    clear hf hinj hDl
    generalize xss.length = m at S0 hul0 q ⊢
    walk_at "lk"
    refine srg ?_
    walk_at "lk"
    refine ⟨p, 6, rfl, by decide, by decide, S0.wk.2, fun r6 H2 r0 r1 w2 => ?_⟩
    walk_at "lk"
    refine ⟨r6, rfl, by omega, by omega, ?_⟩
    refine for_range (fun t σ' H' => ∃ us R, (∃ e3 e4 e5 e6 e7 e8 e9 e10 e11 e12 e13, σ' = [some (.ref p), some (.int (k : Int)), some (.ref D), e3, e4, e5, e6, e7, e8, e9, e10, e11, e12, e13]) ∧ Sit H p k n m xss (210 + 10 * t) H' D us R) ⟨_, _, ⟨_, _, _, _, _, _, _, _, _, _, _, rfl⟩, (S0.draw w2).mono (by omega)⟩ ?_ ?_
    · rintro t σ' H3 ht ⟨us, R, ⟨e3, e4, e5, e6, e7, e8, e9, e10, e11, e12, e13, rfl⟩, S⟩
      have ht6 : t < 6 := by omega
      have hul : us.length = m := by rw [S.rows.len, S.len]
      walk_at "lk"
      refine ⟨p, 4, rfl, by decide, by decide, S.wk.2, fun way H4 a0 a1 w4 => ?_⟩
      have S4 := S.draw w4
      walk_at "lk"
      refine ⟨k, rfl, rfl, by omega, ?_⟩
      walk_at "lk"
      have hk2 : (2 : Int) ^ k ≤ 2 ^ 6 := by exact_mod_cast Nat.pow_le_pow_right (n := 2) (by decide) k6
      have hkp := Md.p2 k
      refine ⟨p, (2 : Int) ^ k, rfl, hkp, Nat.lt_of_lt_of_le (show ((2 : Int) ^ k).natAbs < 65 by omega) (by decide), S4.wk.2, fun f H5 f0 f1 w5 => ?_⟩
      have S5 := S4.draw w5
      walk_at "lk"
      refine snw (Nat.le_of_ble_eq_true rfl) fun t6 ht6 => ?_
      have s6 : Same H5 (upd H5 t6 (.tup [.int way, .int f])) := same_new ht6
      have e6' : (upd H5 t6 (.tup [.int way, .int f])) t6 = some (.tup [.int way, .int f]) := upd_same
      generalize upd H5 t6 (.tup [.int way, .int f]) = H6 at s6 e6' ⊢
      have S6 := S5.same s6
      refine g_pair (SqT.of e6') ?_
      walk_at "lk"
      refine spr2 ?_
      walk_at "lk"
      refine ⟨D, us, rfl, .inl (SqL.of S6.at_), ?_⟩
      rw [hul]
      walk_at "lk"
      refine ⟨p, (m : Int), rfl, by omega, Nat.lt_of_lt_of_le (show ((m : Int)).natAbs < 5 by omega) (by decide), S6.wk.2, fun one H7 o0 o1 w7 => ?_⟩
      have S7 := S6.draw w7
      walk_at "lk"
      refine ⟨D, us, rfl, .inl (SqL.of S7.at_), ?_⟩
      rw [hul]
      walk_at "lk"
      refine ⟨p, (m : Int), rfl, by omega, Nat.lt_of_lt_of_le (show ((m : Int)).natAbs < 5 by omega) (by decide), S7.wk.2, fun oth H8 q0 q1 w8 => ?_⟩
      have S8 := S7.draw w8
      walk_at "lk"
      refine ⟨_, _, rfl, ?_⟩
      clear S4 S5 S6 S7 S e6' s6 ht6
      obtain ⟨a, rfl⟩ := Int.eq_ofNat_of_zero_le o0
      obtain ⟨c, rfl⟩ := Int.eq_ofNat_of_zero_le q0
      have hau : us[a]? = some (us[a]'(by omega)) := List.getElem?_eq_getElem _
      have hcu : us[c]? = some (us[c]'(by omega)) := List.getElem?_eq_getElem _
      obtain ⟨ra, hra, xa⟩ := S8.rows.at hau
      obtain ⟨rc, hrc, xc⟩ := S8.rows.at hcu
      generalize us[a]'(by omega) = va at hau xa
      generalize us[c]'(by omega) = vc at hcu xc
      obtain ⟨aa, rfl, naa, haa, hla, hba⟩ := xa
      obtain ⟨ac, rfl, nac, hac, hlc, hbc⟩ := xc
      walk_at "lk"
      refine sEq rfl ?_
      refine ⟨_, rfl, ?_⟩
      by_cases w0 : way = 0
      · subst w0
        refine ift_ rfl ?_
        walk_at "lk"
        refine sfr (v := .ref aa) (SqL.of S8.at_) (Lk.atI_nat hau) ?_
        walk_at "lk"
        refine sfr (v := .ref ac) (SqL.of S8.at_) (Lk.atI_nat hcu) ?_
        walk_at "lk"
        refine ⟨D, us, (a : Int), a, rfl, rfl, S8.at_, ixn_nat (by omega), ?_⟩
        dsimp only
        walk_at "lk"
        refine ⟨D, _, (c : Int), c, rfl, rfl, upd_same, ixn_nat (by rw [List.length_set]; omega), ?_⟩
        exact ⟨_, _, ⟨_, _, _, _, _, _, _, _, _, _, _, rfl⟩, (S8.swap hau hcu hra hrc).mono (by omega)⟩
      refine iff_ (decide_eq_false fun z => w0 (V.int.inj z)) ?_
      walk_at "lk"
      refine sEq rfl ?_
      refine ⟨_, rfl, ?_⟩
      by_cases w1 : way = 1
      · subst w1
        refine ift_ rfl ?_
        walk_at "lk"
        refine slc ?_
        walk_at "lk"
        refine sfr (v := .ref aa) (SqL.of S8.at_) (Lk.atI_nat hau) ?_
        refine ⟨aa, rfl, ⟨_, SqL.of haa⟩, fun D9 hD9 => ?_⟩
        refine lcg_mapV (walk_list (K := K) (a := aa) (xs := ra.map V.int)) ra (by rw [List.length_map]) (fun _ v x => v = .int x) (fun _ v x => v = .int x) (fun _ h => h) (fun x => x * (2 * f + 1)) (by rw [List.length_map, hla]; exact Nat.le_trans n6 (by decide)) hD9 (fun H' s => SqL.of (s _ _ haa)) (fun i x Ha Hb hi s hy => ?_) (fun _ => rfl) (fun i x z Ha hz hx s Qa qa => ?_) (fun ys H9 s9 hD9l hys => ?_)
        · obtain ⟨rfl, hy⟩ := hy
          rw [List.getElem?_map] at hy
          obtain ⟨z, hz, rfl⟩ := Option.map_eq_some_iff.mp hy
          exact ⟨rfl, z, hz, rfl⟩
        · subst hx
          walk_at "lk"
          refine sI (mul_le (a := 2) (b := 10) (by decide) (Nat.lt_of_lt_of_le (show f.natAbs < 64 by omega) (by decide)) (by decide)) ?_
          walk_at "lk"
          refine sI (mul_le (a := 300) (b := 8) (Nat.lt_of_lt_of_le (hba z (List.mem_of_getElem? hz)) (Nat.pow_le_pow_right (by decide) (by omega))) (Nat.lt_of_lt_of_le (show (2 * f + 1).natAbs < 256 by omega) (by decide)) (by decide)) ?_
          exact qa _ _ (Same.refl _) rfl
        rw [f2_ints_of hys] at hD9l
        walk_at "lk"
        refine ⟨D, us, (a : Int), a, rfl, rfl, s9 _ _ S8.at_, ixn_nat (by omega), ?_⟩
        have S9 := (S8.same s9).mono (show 210 + 10 * t ≤ 210 + 10 * (t + 1) by omega)
        refine ⟨_, _, ⟨_, _, _, _, _, _, _, _, _, _, _, rfl⟩, S9.set (i := a) (r' := D9) (xs := ra.map fun x => x * (2 * f + 1)) (ne_new S8.wk.2 hD9) (fun z => by rw [z, S8.at_] at hD9; cases hD9) (S8.wk.none hw hD9) (S8.notin hD9) hD9l (by rw [List.length_map, hla]) (fun y hy => ?_) fun j c h => h.span fun z => span_odd S8.rlen hra z⟩
        obtain ⟨x, hx, rfl⟩ := List.mem_map.mp hy
        exact ab_grow (hba x hx) (show (2 * f + 1).natAbs < 2 ^ 8 by omega) (by omega)
      refine iff_ (decide_eq_false fun z => w1 (V.int.inj z)) ?_
      walk_at "lk"
      refine sEq rfl ?_
      refine ⟨_, rfl, ?_⟩
      by_cases w2' : way = 2 ∧ a ≠ c
      · obtain ⟨rfl, hac2⟩ := w2'
        refine ift_ rfl ?_
        walk_at "lk"
        refine sNe rfl ?_
        refine ⟨_, rfl, ?_⟩
        refine ift_ (by
          rw [decide_eq_false fun z => hac2 (by have := V.int.inj z; omega)]
          rfl) ?_
        walk_at "lk"
        refine slc (szip ?_)
        walk_at "lk"
        refine sfr (v := .ref aa) (SqL.of S8.at_) (Lk.atI_nat hau) ?_
        walk_at "lk"
        refine sfr (v := .ref ac) (SqL.of S8.at_) (Lk.atI_nat hcu) ?_
        walk_at "lk"
        refine ⟨aa, ac, _, _, rfl, SqL.of haa, SqL.of hac, fun D9 hD9 => ?_⟩
        refine tlc_zipMi (k1 := skL) (k2 := skL) (fs := ra) (gs := rc) (f := fun x y => x + f * y) (SqL.of haa) (SqL.of hac) (by rw [hla, hlc]) (by rw [hla]; omega) hD9 (fun _ _ => rfl) (fun x y Ha Ra hx hy r => ?_) (fun H9 s9 hD9l => ?_)
        · walk_at "lk"
          refine sI (mul_le (a := 10) (b := 300) (Nat.lt_of_lt_of_le (show f.natAbs < 64 by omega) (by decide)) (Nat.lt_of_lt_of_le (hbc y hy) (Nat.pow_le_pow_right (by decide) (by omega))) (by decide)) ?_
          walk_at "lk"
          exact r
        walk_at "lk"
        refine ⟨D, us, (a : Int), a, rfl, rfl, s9 _ _ S8.at_, ixn_nat (by omega), ?_⟩
        have S9 := (S8.same s9).mono (show 210 + 10 * t ≤ 210 + 10 * (t + 1) by omega)
        refine ⟨_, _, ⟨_, _, _, _, _, _, _, _, _, _, _, rfl⟩, S9.set (i := a) (r' := D9) (xs := List.zipWith (fun x y => x + f * y) ra rc) (ne_new S8.wk.2 hD9) (fun z => by rw [z, S8.at_] at hD9; cases hD9) (S8.wk.none hw hD9) (S8.notin hD9) hD9l (by rw [List.length_zipWith, hla, hlc, Nat.min_self]) (fun y hy => ?_) fun j c h => h.span fun z => span_more S8.rlen hra hrc hac2 z⟩
        obtain ⟨i, hi⟩ := List.getElem?_of_mem hy
        rw [List.getElem?_zipWith] at hi
        cases h1 : ra[i]? with
        | none => rw [h1] at hi; cases hi
        | some x =>
          cases h2 : rc[i]? with
          | none => rw [h1, h2] at hi; cases hi
          | some z =>
            rw [h1, h2] at hi
            cases hi
            exact ab_more (hba x (List.mem_of_getElem? h1)) (hbc z (List.mem_of_getElem? h2)) (show f.natAbs < 64 by omega) (by omega)
      by_cases w2 : way = 2
      · subst w2
        have hac2 : a = c := Classical.byContradiction fun z => w2' ⟨rfl, z⟩
        subst hac2
        refine ift_ rfl ?_
        walk_at "lk"
        refine sNe rfl ?_
        refine ⟨_, rfl, ?_⟩
        refine iff_ (by rw [decide_eq_true rfl]; rfl) ?_
        walk_at "lk"
        refine sEq rfl ?_
        refine ⟨_, rfl, ?_⟩
        refine iff_ rfl ?_
        refine iff_ rfl ?_
        walk_at "lk"
        exact ⟨us, R, ⟨_, _, _, _, _, _, _, _, _, _, _, rfl⟩, S8.mono (by omega)⟩
      obtain rfl : way = 3 := by omega
      refine iff_ rfl ?_
      refine iff_ rfl ?_
      walk_at "lk"
      refine sEq rfl ?_
      refine ⟨_, rfl, ?_⟩
      refine ift_ rfl ?_
      have h0u : us[0]? = some (us[0]'(by omega)) := List.getElem?_eq_getElem _
      obtain ⟨r0', hr0', x0⟩ := S8.rows.at h0u
      generalize us[0]'(by omega) = v0 at h0u x0
      obtain ⟨a00, rfl, na0, ha0, hl0', _⟩ := x0
      walk_at "lk"
      refine sfr (v := .ref a00) (SqL.of S8.at_) (Lk.atI_nat (i := 0) h0u) ?_
      walk_at "lk"
      refine ⟨a00, _, rfl, .inl (SqL.of ha0), ?_⟩
      rw [List.length_map, hl0']
      walk_at "lk"
      by_cases n2 : n = 1
      · refine iff_ (by rw [n2]; rfl) ?_
        walk_at "lk"
        exact ⟨us, R, ⟨_, _, _, _, _, _, _, _, _, _, _, rfl⟩, S8.mono (by omega)⟩
      refine ift_ (decide_eq_true (by omega)) ?_
      walk_at "lk"
      refine sfr (v := .ref a00) (SqL.of S8.at_) (Lk.atI_nat (i := 0) h0u) ?_
      walk_at "lk"
      refine ⟨a00, _, rfl, .inl (SqL.of ha0), ?_⟩
      rw [List.length_map, hl0']
      walk_at "lk"
      refine ⟨p, (n : Int) - 1, rfl, by omega, Nat.lt_of_lt_of_le (show ((n : Int) - 1).natAbs < 6 by omega) (by decide), S8.wk.2, fun z H9 z0 z1 w9 => ?_⟩
      have S9 := S8.draw w9
      obtain ⟨col, rfl⟩ := Int.eq_ofNat_of_zero_le z0
      have hcol : col + 1 < n := by omega
      clear hau hcu hra hrc haa hac hba hbc ha0 S8
      walk_at "lk"
      refine ⟨D, rfl, ⟨_, SqL.of S9.at_⟩, ?_⟩
      refine for_list (xs := us) (fun i σ' H' => (∃ e3 e4 e6 e7 e8 e10 e11 e12 e13, σ' = [some (.ref p), some (.int (k : Int)), some (.ref D), e3, e4, some (.int f), e6, e7, e8, some (.int (col : Int)), e10, e11, e12, e13]) ∧ Wk p H H' ∧ H' D = some (.lst us) ∧
        ∀ (j : Nat) (v : V) (r : List Int), us[j]? = some v → R[j]? = some r → RowB (210 + 10 * (t + 1)) p n H' v (if j < i then colop col f r else r)) ⟨⟨_, _, _, _, _, _, _, _, _, rfl⟩, S9.wk, S9.at_, fun j v r hv hr => ?_⟩ (fun i σ' H' _ h => SqL.of h.2.2.1) ?_ ?_
      · rw [if_neg (Nat.not_lt_zero j)]
        obtain ⟨v', hv', h⟩ := S9.rows.get hr
        rw [hv] at hv'
        cases hv'
        exact h.mono (by omega)
      · rintro i v σ' H10 hi ⟨⟨e3, e4, e6, e7, e8, e10, e11, e12, e13, rfl⟩, w10, hD10, hrows⟩
        obtain ⟨r, hr, hrb⟩ := S9.rows.at hi
        have h1 := hrows i v r hi hr
        rw [if_neg (Nat.lt_irrefl i)] at h1
        obtain ⟨b, rfl, nb, hb, hbl, _⟩ := h1
        obtain ⟨_, _, _, _, _, hbb⟩ := hrb
        obtain ⟨hf0, hfD⟩ := S9.fresh b (List.mem_of_getElem? hi)
        have hc0 : r[col]? = some (r.getD col 0) := by
          rw [List.getD_eq_getElem?_getD, List.getElem?_eq_getElem (by omega)]
          rfl
        have hc1 : r[col + 1]? = some (r.getD (col + 1) 0) := by
          rw [List.getD_eq_getElem?_getD, List.getElem?_eq_getElem (by omega)]
          rfl
        walk_at "lk"
        refine sfr (v := .int (r.getD col 0)) (SqL.of hb) (Lk.atI_nat (by rw [List.getElem?_map, hc0]; rfl)) ?_
        walk_at "lk"
        rw [show (col : Int) + 1 = ((col + 1 : Nat) : Int) by norm_cast]
        refine sfr (v := .int (r.getD (col + 1) 0)) (SqL.of hb) (Lk.atI_nat (by rw [List.getElem?_map, hc1]; rfl)) ?_
        walk_at "lk"
        refine sI (mul_le (a := 10) (b := 300) (Nat.lt_of_lt_of_le (show f.natAbs < 64 by omega) (by decide)) (Nat.lt_of_lt_of_le (hbb _ (List.mem_of_getElem? hc1)) (Nat.pow_le_pow_right (by decide) (by omega))) (by decide)) ?_
        walk_at "lk"
        refine ⟨b, _, (col : Int), col, rfl, rfl, hb, ixn_nat (by rw [List.length_map]; omega), ?_⟩
        have est : (r.map V.int).set col (.int (r.getD col 0 + f * r.getD (col + 1) 0)) = (colop col f r).map V.int := by
          unfold colop
          rw [List.map_set]
        rw [est]
        refine ⟨⟨_, _, _, _, _, _, _, _, _, rfl⟩, w10.updD hf0 nb, by rw [upd_ne (Ne.symm hfD)]; exact hD10, fun j v r2 hv hr2 => ?_⟩
        by_cases hji : j = i
        · subst hji
          rw [hi] at hv
          cases hv
          rw [hr] at hr2
          cases hr2
          rw [if_pos (Nat.lt_succ_self j)]
          refine ⟨b, rfl, nb, upd_same, by rw [colop_len]; exact hbl, fun x hx => ?_⟩
          unfold colop at hx
          rcases List.mem_or_eq_of_mem_set hx with hx | rfl
          · exact Nat.lt_of_lt_of_le (hbb x hx) (Nat.pow_le_pow_right (by decide) (by omega))
          · exact ab_more (hbb _ (List.mem_of_getElem? hc0)) (hbb _ (List.mem_of_getElem? hc1)) (show f.natAbs < 64 by omega) (by omega)
        · have h2 := hrows j v r2 hv hr2
          have eif : (if j < i + 1 then colop col f r2 else r2) = if j < i then colop col f r2 else r2 := by
            by_cases q : j < i
            · rw [if_pos q, if_pos (by omega)]
            · rw [if_neg q, if_neg (by omega)]
          rw [eif]
          obtain ⟨b2, e2, nb2, hb2, h3⟩ := h2
          refine ⟨b2, e2, nb2, ?_, h3⟩
          rw [upd_ne]
          · exact hb2
          · rintro rfl
            rw [e2] at hv
            exact hji (S9.inj j i _ hv hi)
      · rintro σ' H10 ⟨⟨e3, e4, e6, e7, e8, e10, e11, e12, e13, rfl⟩, w10, hD10, hrows⟩
        refine ⟨us, R.map (colop col f), ⟨_, _, _, _, _, _, _, _, _, _, _, rfl⟩, w10, S9.lp, S9.ln, hD10, f2_of (by rw [List.length_map, S9.rows.len]) fun j v r hv hr => ?_, S9.fresh, S9.inj, by rw [List.length_map]; exact S9.len, fun j c h => siz_col hcol S9.rlen (S9.siz j c h)⟩
        rw [List.getElem?_map] at hr
        obtain ⟨r1, hr1, rfl⟩ := Option.map_eq_some_iff.mp hr
        have := hrows j v r1 hv hr1
        rwa [if_pos (List.getElem?_eq_some_iff.mp hv).1] at this
    · rintro σ' H3 ⟨us, R, ⟨e3, e4, e5, e6, e7, e8, e9, e10, e11, e12, e13, rfl⟩, S⟩
      dsimp only
      walk_at "lk"
      exact q D us R H3 (S.mono (by omega))
end
end K14

namespace K14
open PySem PySem.Spec PyProof.Rows L2 Lk
local macro_rules | `(tactic| walk_at "lk") => `(tactic| (repeat (first
  | with_reducible refine ssq ?_ | with_reducible refine sas ?_ | with_reducible refine sgn ?_ | ((with_reducible show tVar _ _ _ _); refine sv rfl ?_) | with_reducible refine sc ?_ | with_reducible refine sop ?_ | with_reducible refine sun ?_
  | with_reducible refine sI0 ?_ | with_reducible refine sU ?_ | with_reducible refine stt ?_ | with_reducible refine stB ?_ | with_reducible refine sbl ?_ | with_reducible refine snt ?_ | with_reducible refine sif ?_ | with_reducible refine scB ?_
  | with_reducible refine scn ?_ | with_reducible refine snl ?_ | with_reducible refine scl ?_ | with_reducible refine stu ?_ | with_reducible refine sli ?_ | with_reducible refine sdr ?_ | with_reducible refine srt ?_ | with_reducible refine snx ?_ | with_reducible refine sfor ?_ | with_reducible refine sils ?_ | with_reducible refine sien ?_ | with_reducible refine sor ?_ | with_reducible refine sfg ?_
  | with_reducible refine sav ?_ | with_reducible refine sov ?_ | with_reducible refine snv ?_ | with_reducible refine sch ?_ | with_reducible refine san ?_ | with_reducible refine ssll ?_ | with_reducible refine spt ?_ | with_reducible refine snp ?_ | with_reducible refine sin ?_ | with_reducible refine sfl ?_ | with_reducible refine sfd ?_ | with_reducible refine smt ?_ | with_reducible refine sbt ?_ | with_reducible refine sbm ?_ | with_reducible refine sifx ?_
  | ((with_reducible show Or _ _); first | refine Or.inl ⟨_, rfl, ?_⟩ | refine Or.inr ⟨_, rfl, ?_⟩))))

/-! ### each table has exponents -/
section
variable {k n : Nat} {xss : List (List Int)}
theorem piv_ex {ts : List Part} {R : List (List Int)} (st : Stk k n xss ts R) (h : ∃ r ∈ R, ∃ x ∈ r, x ≠ 0) : ∃ (a c e u : Nat) (f : Int) (row : List Int), Pivot k n a c e u f R row := by
  obtain ⟨r, hr, x, hx, x0⟩ := h
  have pos : ∀ r ∈ R, ∀ x ∈ r, 0 ≤ x := fun r hr x hx => ((st.row r hr).2 x hx).1
  have val : ∀ r ∈ R, ∀ x ∈ r, x ≠ 0 → ∃ e u : Nat, x = ((2 ^ e * (2 * u + 1) : Nat) : Int) := fun r hr x hx h0 => by
    have := pos r hr x hx
    obtain ⟨e, u, h⟩ := odd_split x.toNat (by omega)
    exact ⟨e, u, by rw [← h]; omega⟩
  obtain ⟨e1, u1, h1⟩ := val r hr x hx x0
  obtain ⟨e, _, ⟨r2, hr2, u, hm⟩, hmin⟩ := L2.st_least (p := fun e => ∃ r ∈ R, ∃ u : Nat, ((2 ^ e * (2 * u + 1) : Nat) : Int) ∈ r) e1 ⟨r, hr, u1, h1 ▸ hx⟩
  obtain ⟨a, ha⟩ := List.getElem?_of_mem hr2
  obtain ⟨c, hc⟩ := List.getElem?_of_mem hm
  obtain ⟨f, hf⟩ := odd_unit (u : Int) k
  refine ⟨a, c, e, u, f, r2, ha, hc, fun r hr x hx => ?_, ?_⟩
  · by_cases z : x = 0
    · rw [z]
      exact Int.dvd_zero _
    · obtain ⟨e', u', h'⟩ := val r hr x hx z
      have : e ≤ e' := by
        by_cases q : e ≤ e'
        · exact q
        · exact absurd ⟨r, hr, u', h' ▸ hx⟩ (hmin e' (by omega))
      rw [h']
      push_cast
      exact Int.dvd_trans (pw_dvd this) (Int.dvd_mul_right _ _)
  · push_cast
    rw [Int.mul_comm]
    exact hf
theorem stk_ex : ∀ (m : Nat) {ts : List Part} {R : List (List Int)}, R.length ≤ m → Stk k n xss ts R → ∃ es, Smi k n xss es
  | m, ts, R, hm, st => by
    by_cases h : ∃ r ∈ R, ∃ x ∈ r, x ≠ 0
    · obtain ⟨a, c, e, u, f, row, hp⟩ := piv_ex st h
      have hl := (List.getElem?_eq_some_iff.mp hp.at_).1
      match m with
      | 0 => omega
      | m + 1 => exact stk_ex m (by rw [List.length_map, List.length_eraseIdx, if_pos hl]; omega) (st.next hp)
    · exact ⟨_, st.done fun r hr x hx => Classical.byContradiction fun z => h ⟨r, hr, x, hx, z⟩⟩
theorem smi_ex (hl : ∀ r ∈ xss, r.length = n) : ∃ es, Smi k n xss es := stk_ex _ (Nat.le_refl _) (Stk.start hl)
theorem smi_nil : Smi k n [] [] := ⟨[], ⟨fun t ht => (by cases ht), .nil, .nil⟩, rfl, fun x => Iff.rfl⟩
theorem Smi.same {es es' : List Nat} (h : Smi k n xss es) (h' : Smi k n xss es') : es = es' := h.uniq h' fun _ _ z => z
theorem smi_zero {es : List Nat} (h : Smi k 0 xss es) : es = [] := by
  obtain ⟨ts, h1, rfl, _⟩ := h
  cases ts with
  | nil => rfl
  | cons t ts => exact absurd (h1.at_ t (List.mem_cons_self ..)).1 (Nat.not_lt_zero _)
theorem cols_len {R : List (List Int)} : ∀ c ∈ colsOf n R, c.length = R.length := fun c hc => by
  obtain ⟨t, _, rfl⟩ := List.mem_map.mp hc
  rw [List.length_map]
end

section
variable {P : Program} {w : World} {K : PySem.W.Frag} {mg : Str → Option Value} {base : Heap} {A : Ad}
end
end K14

namespace K14
open PySem PySem.Spec PyProof.Rows L2 Lk
local macro_rules | `(tactic| walk_at "lk") => `(tactic| (repeat (first
  | with_reducible refine ssq ?_ | with_reducible refine sas ?_ | with_reducible refine sgn ?_ | ((with_reducible show tVar _ _ _ _); refine sv rfl ?_) | with_reducible refine sc ?_ | with_reducible refine sop ?_ | with_reducible refine sun ?_
  | with_reducible refine sI0 ?_ | with_reducible refine sU ?_ | with_reducible refine stt ?_ | with_reducible refine stB ?_ | with_reducible refine sbl ?_ | with_reducible refine snt ?_ | with_reducible refine sif ?_ | with_reducible refine scB ?_
  | with_reducible refine scn ?_ | with_reducible refine snl ?_ | with_reducible refine scl ?_ | with_reducible refine stu ?_ | with_reducible refine sli ?_ | with_reducible refine sdr ?_ | with_reducible refine srt ?_ | with_reducible refine snx ?_ | with_reducible refine sfor ?_ | with_reducible refine sils ?_ | with_reducible refine sien ?_ | with_reducible refine sor ?_ | with_reducible refine sfg ?_
  | with_reducible refine sav ?_ | with_reducible refine sov ?_ | with_reducible refine snv ?_ | with_reducible refine sch ?_ | with_reducible refine san ?_ | with_reducible refine ssll ?_ | with_reducible refine spt ?_ | with_reducible refine snp ?_ | with_reducible refine sin ?_ | with_reducible refine sfl ?_ | with_reducible refine sfd ?_ | with_reducible refine smt ?_ | with_reducible refine sbt ?_ | with_reducible refine sbm ?_ | with_reducible refine sifx ?_
  | ((with_reducible show Or _ _); first | refine Or.inl ⟨_, rfl, ?_⟩ | refine Or.inr ⟨_, rfl, ?_⟩))))

theorem ix_listB {X : Cx} {K : PySem.W.Frag} (h : X.K = K) : IxR X (rIxL K) := by
  subst h
  exact ix_list
def goodD (d : PyData) : Prop := d.canLay0 = true ∧ d.depth ≤ 2 ∧ nbD d = true
theorem row_dpS {K : PySem.W.Frag} {n : Nat} {H : Hp} {v : V} {xs : List Int} (h : RowD K n H v xs) : ∃ d, Dp K H v d ∧ goodD d := by
  obtain ⟨r, rfl, hr, _⟩ := h
  rcases hr with hr | hr
  · refine ⟨intsL xs, dp_intsL hr, SeqAt.canLay_of_shaped (intsL_shaped xs), ?_, ?_⟩
    · unfold intsL
      rw [PyData.depth]
      have := dep_map (f := PyData.int) (n := 0) (xs := xs) fun _ _ => by simp [PyData.depth]
      omega
    · unfold intsL
      rw [nbD]
      exact nb_map (fun _ => by rw [nbD]) xs
  · exact ⟨intsD xs, .tup hr (dp_i _), ints_cl xs, Nat.le_trans (ints_dep xs) (by decide), nb_ints xs⟩
theorem dps_of {K : PySem.W.Frag} {H : Hp} : ∀ {ys : List V}, (∀ y ∈ ys, ∃ d, Dp K H y d ∧ goodD d) → ∃ ds, DpAll K H ys ds ∧ ∀ d ∈ ds, goodD d
  | [], _ => ⟨[], .nil, fun d h => by cases h⟩
  | y :: ys, h => by
    obtain ⟨d, hd, hg⟩ := h y (List.mem_cons_self ..)
    obtain ⟨ds, hds, hgs⟩ := dps_of fun z hz => h z (List.mem_cons_of_mem _ hz)
    refine ⟨d :: ds, .cons hd hds, fun e he => ?_⟩
    rcases List.mem_cons.mp he with rfl | he
    · exact hg
    · exact hgs e he
theorem nb_all : ∀ {ds : List PyData}, (∀ d ∈ ds, goodD d) → nbAll ds = true
  | [], _ => by rw [nbAll]
  | d :: ds, h => by
    rw [nbAll, (h d (List.mem_cons_self ..)).2.2, nb_all fun e he => h e (List.mem_cons_of_mem _ he)]
    rfl
theorem s_eqNil {K : PySem.W.Frag} {H : Hp} {a b : Addr} {ys : List V} {Q : VK} (h : H a = some (.lst ys)) (hd : ∀ y ∈ ys, ∃ d, Dp K H y d ∧ goodD d) (h' : H b = some (.lst [])) (q : Q (.bl ys.isEmpty) H) : rEqD K (.ref a) (.ref b) H Q := by
  obtain ⟨ds, hds, hg⟩ := dps_of hd
  have sh : SeqAt.shaped (.list ds) = true := by
    refine shaped_of ?_ ?_
    · rw [PyData.canLay0]
      have := cl_map (f := id) (xs := ds) fun x hx => (hg x hx).1
      rwa [List.map_id] at this
    · rw [PyData.depth]
      have := dep_map (f := id) (n := 2) (xs := ds) fun x hx => (hg x hx).2.1
      rw [List.map_id] at this
      omega
  have sh0 : SeqAt.shaped (.list []) = true := by decide
  refine ⟨.list ds, .list [], .lst (SqL.of h) hds, .lst (SqL.of h') .nil, sh, sh0, ?_⟩
  cases hds with
  | nil =>
    have : PyData.eqv (.list []) (.list []) = true := SeqAt.eqv_refl _ (SeqAt.canLay_of_shaped sh0)
    rw [this]
    exact q
  | cons hd1 hds1 =>
    have : ∀ d ds', (∀ x ∈ d :: ds', goodD x) → PyData.eqv (.list (d :: ds')) (.list []) = false := fun d ds' hg => by
      rw [Bool.eq_false_iff]
      intro e
      have nb1 : nbD (.list (d :: ds')) = true := by rw [nbD]; exact nb_all hg
      have nb2 : nbD (.list []) = true := by rw [nbD, nbAll]
      have := PyData.list.inj (eqv_eq _ _ nb1 nb2 e)
      cases this
    rw [this _ _ hg]
    exact q
def spRight : Sp := fun vs H Q _ => ∃ p : Addr, vs = [.ref p] ∧ Wl H p ∧ ∀ H', Wk p H H' → Q (.bl true) H'
theorem tup_rowD {K : PySem.W.Frag} {n : Nat} {H : Hp} : ∀ {us : List V} {L : List (List Int)}, F2 (TupH H) us L → (∀ l ∈ L, l.length = n) → F2 (RowD K n H) us L
  | _, _, .nil, _ => .nil
  | _, _, .cons h t, hl => by
    obtain ⟨b, e, hb⟩ := h
    exact .cons ⟨b, e, .inr (SqT.of hb), hl _ (List.mem_cons_self ..)⟩ (tup_rowD t fun l h => hl l (List.mem_cons_of_mem _ h))
def nI (es : List Nat) : List Int := es.map fun e : Nat => (e : Int)
theorem nI_map (es : List Nat) : (es.map fun e : Nat => V.int (e : Int)) = (nI es).map V.int := by
  unfold nI
  rw [List.map_map]
  rfl

section
variable {P : Program} {w : World} {K : PySem.W.Frag} {mg : Str → Option Value} {base : Heap} {A : Ad}
abbrev s__law_right : Stmt := top 31
theorem sc__law_right : FnScope ["_law_source_here", "_law_width", "_law_size", "_law_rows", "_law_due_here", "_law_told", "_law_turn", "_law_some", "_law_columns", "_law_at", "_law_row"] ["_law_source_here"] (defScope s__law_right) := ⟨rfl, rfl, rfl, by decide +kernel, rfl, by decide +kernel, by decide +kernel⟩
theorem ok_right {f : Addr} {fd : FuncData} (F : Fun K "_law_right" "_law_right" s__law_right f fd) (T : Txt P w K mg base A) (c__law_small : Cal P w K mg base 4 "_law_small" ["_law_source_here"] spSmall) (c__law_due : Cal P w K mg base 4 "_law_due" ["_law_width", "_law_size", "_law_rows"] (spDue K)) (c_smith : Cal P w K mg base 5 "smith" ["width", "table"] (spSmith K)) (c__law_changed : Cal P w K mg base 3 "_law_changed" ["_law_source_here", "_law_width", "_law_rows"] spChg) : FnOk P w K mg base CX0 6 f fd ["_law_source_here"] spRight := by
  refine F.ok sc__law_right (fun vs H Q E h => ?_) (fun cdv Ar outer s H vs Q E hr h => ?_)
  · obtain ⟨p, rfl, _⟩ := h
    rfl
  · obtain ⟨p, rfl, hw, q⟩ := h
    refine ⟨_, (pss_cons (ps_asg (pcal c__law_small hr (by decide) (pa_cons (pv 0) pa_nil)) (pg_tup rfl (pgs_cons (pg_name (i := 1) sc__law_right.nd rfl (Or.inl rfl)) (pgs_cons (pg_name (i := 2) sc__law_right.nd rfl (Or.inl rfl)) (pgs_cons (pg_name (i := 3) sc__law_right.nd rfl (Or.inl rfl)) pgs_nil)))))
        (pss_cons (ps_set (i := 4) sc__law_right.nd rfl (Or.inl rfl) (pcal c__law_due hr (by decide) (pa_cons (pv 1) (pa_cons (pv 2) (pa_cons (pv 3) pa_nil)))))
        (pss_cons (ps_set (i := 5) sc__law_right.nd rfl (Or.inl rfl) (pcal c_smith hr (by decide) (pa_cons (pv 1) (pa_cons (pv 3) pa_nil))))
        (pss_cons (ps_if (PW.pt (pw_or (pt_cmpR (op_neD hr.units) (pv 5) (pv 4) (nomark _)) (pw_or1 (pt_not (pt_val (pe_callB call_isi (by rfl) T.z_isinstance (by decide +kernel) (pa_cons (pv 5) (pa_cons (pe_bltn (v := .ty "list") (by rfl) T.z_list (by first | exact PySem.boot_list | decide +kernel) rfl) pa_nil)))))))) (pss_one (ps_ret pe_bl)) pss_nil)
        (pss_cons (ps_if (PW.pt (pw_or (pt_cmpR (op_eqD hr.units) (pv 3) (pe_lst pa_nil) (nomark _)) (pw_or1 (pt_cmpR op_eq (pv 2) pe_int (nomark _))))) (pss_one (ps_ret (pe_and (pe_cmpR (op_eqD hr.units) (pcal c_smith hr (by decide) (pa_cons (pv 1) (pa_cons (pe_lst pa_nil) pa_nil))) (pe_lst pa_nil) (nomark _)) (pe_one (pe_cmpR (op_eqD hr.units) (pcal c_smith hr (by decide) (pa_cons (pv 1) (pa_cons (pe_tup pa_nil) pa_nil))) (pe_lst pa_nil) (nomark _)))))) pss_nil)
        (pss_cons (ps_for PassesOwn.never rfl (pi_range1 (by rfl) T.z_range (pa_cons pe_int pa_nil)) (pg_name (i := 6) sc__law_right.nd rfl (Or.inl rfl)) (pss_cons (ps_set (i := 7) sc__law_right.nd rfl (Or.inr rfl) (pcal c__law_changed hr (by decide) (pa_cons (pv 0) (pa_cons (pv 1) (pa_cons (pv 3) pa_nil)))))
        (pss_cons (ps_setLc (i := 8) (own := [("_law_at", 9)]) (g := gName 9) (tt := tYes) rfl sc__law_right.nd rfl rfl (by rfl) (pi_range1 (by rfl) T.z_range (pa_cons (pv 2) pa_nil)) (blkOk_by (own := [("_law_at", 9)]) (N := ["_law_source_here", "_law_width", "_law_size", "_law_rows", "_law_due_here", "_law_told", "_law_turn", "_law_some", "_law_columns", "_law_at", "_law_row"]) (sc := defScope s__law_right) (by decide +kernel)) (fun _ _ _ _ _ => pg_name (i := 9) sc__law_right.nd rfl (Or.inr rfl)) (fun _ _ _ _ _ => pts_nil) (fun _ _ _ _ _ => (pe_callTy (show CallR _ _ (rTupOf K) from call_tupOf) (by rfl) T.z_tuple (by decide +kernel) (pa_cons (pe_lc (own := [("_law_row", 10)]) (g := gName 10) (tt := tYes) rfl sc__law_right.nd (show PI _ _ _ (iList K (tVar 7)) from pi_list (pv 7)) (blkOk_by (by kernel_rfl)) (fun _ _ _ _ _ => pg_name (i := 10) sc__law_right.nd rfl (Or.inl rfl)) (fun _ _ _ _ _ => pts_nil) (fun _ _ _ _ _ => (show PE _ _ (tOp (rIxL K) (tVar 10) (tVar 9)) from pe_ix (ix_listB (K := K) (by rfl)) (pv 10) (pv 9) (fun _ _ => rfl)))) pa_nil))))
        (pss_one (ps_if (PW.pt (pw_or (pt_cmpR (op_neD hr.units) (pcal c_smith hr (by decide) (pa_cons (pv 1) (pa_cons (pv 7) pa_nil))) (pv 4) (nomark _)) (pw_or1 (pt_cmpR (op_neD hr.units) (pcal c_smith hr (by decide) (pa_cons (pv 1) (pa_cons (pe_callTy call_tupOf (by rfl) T.z_tuple (by decide +kernel) (pa_cons (pv 8) pa_nil)) pa_nil))) (pv 4) (nomark _))))) (pss_one (ps_ret pe_bl)) pss_nil)))))
        (pss_one (ps_ret (pe_cmpR (op_eqD hr.units) (pcal c_smith hr (by decide) (pa_cons (pv 1) (pa_cons (pv 3) pa_nil))) (pv 4) (nomark _)))))))))), ?_⟩
    walk_at "lk"
    refine ⟨p, rfl, hw, fun tt l k n us xss H1 w1 htt hkn nl hln hl hr0 hul => ?_⟩
    obtain ⟨k1, k6, n6, kn6⟩ := smalls_ok _ hkn
    dsimp only at k1 k6 n6 kn6
    have rowsD : F2 (RowD K n H1) us xss := hr0.mono fun _ _ h => h.d
    have hlen : ∀ r ∈ xss, r.length = n := fun xs hx => by
      obtain ⟨i, hi⟩ := List.getElem?_of_mem hx
      obtain ⟨v, _, r, _, _, _, hl, _⟩ := hr0.get hi
      exact hl
    have hbd : ∀ xs ∈ xss, ∀ x ∈ xs, x.natAbs < 2 ^ 300 := fun xs hx x hxx => by
      obtain ⟨i, hi⟩ := List.getElem?_of_mem hx
      obtain ⟨v, _, r, _, _, _, _, hb⟩ := hr0.get hi
      exact Nat.lt_of_lt_of_le (hb x hxx) (Nat.pow_le_pow_right (n := 2) (by decide) (by decide))
    have hxl : xss.length ≤ 4 := by rw [← hr0.len]; exact hul
    obtain ⟨es, hes⟩ := smi_ex (k := k) hlen
    refine g_trip (SqT.of htt) ?_
    walk_at "lk"
    refine ⟨k, n, l, us, xss, es, rfl, k1, kn6, k6, n6, .inl (SqL.of hl), rowsD, hbd, hes, fun D1 H2 s2 hD1n hD1 => ?_⟩
    rw [nI_map] at hD1
    walk_at "lk"
    refine ⟨k, n, l, us, xss, rfl, k1, by omega, by omega, by omega, .inl (SqL.of (s2 _ _ hl)), rowsD.mono fun _ _ h => h.same s2, fun es2 D2 H3 h2 s3 hD2n hD2 => ?_⟩
    rw [h2.same hes, nI_map] at hD2
    have s23 := s2.trans s3
    have hD13 := s3 _ _ hD1
    walk_at "lk"
    refine s_neIL (SqL.of hD2) (SqL.of hD13) ?_
    refine ⟨_, rfl, ?_⟩
    refine iff_ (by simp) ?_
    walk_at "lk"
    refine s_isi (dp_intsL (SqL.of hD2)) (ki_list _) ?_
    walk_at "lk"
    refine iff_ rfl ?_
    walk_at "lk"
    refine snw (Nat.le_of_ble_eq_true rfl) fun z0 hz0 => ?_
    have s4 : Same H3 (upd H3 z0 (.lst [])) := same_new hz0
    have e4 : (upd H3 z0 (.lst [])) z0 = some (.lst []) := upd_same
    generalize upd H3 z0 (.lst []) = H4 at s4 e4 ⊢
    have s14 := s23.trans s4
    have rows4 : F2 (RowD K n H4) us xss := rowsD.mono fun _ _ h => h.same s14
    refine s_eqNil (s14 _ _ hl) (fun y hy => by
      obtain ⟨i, hi⟩ := List.getElem?_of_mem hy
      obtain ⟨xs, _, h⟩ := rows4.at hi
      exact row_dpS h) e4 ?_
    refine ⟨_, rfl, ?_⟩
    by_cases u0 : us.isEmpty = true
    · refine ift_ u0 ?_
      refine ift_ rfl ?_
      walk_at "lk"
      refine snw (Nat.le_of_ble_eq_true rfl) fun z1 hz1 => ?_
      have s5 : Same H4 (upd H4 z1 (.lst [])) := same_new hz1
      have e5 : (upd H4 z1 (.lst [])) z1 = some (.lst []) := upd_same
      generalize upd H4 z1 (.lst []) = H5 at s5 e5 ⊢
      walk_at "lk"
      refine ⟨k, n, z1, [], [], rfl, k1, by omega, by omega, by decide, .inl (SqL.of e5), .nil, fun es3 D6 H6 h3 s6 hD6n hD6 => ?_⟩
      obtain rfl := h3.same smi_nil
      walk_at "lk"
      refine snw (Nat.le_of_ble_eq_true rfl) fun z2 hz2 => ?_
      have s7 : Same H6 (upd H6 z2 (.lst [])) := same_new hz2
      have e7 : (upd H6 z2 (.lst [])) z2 = some (.lst []) := upd_same
      generalize upd H6 z2 (.lst []) = H7 at s7 e7 ⊢
      refine s_eqIL (xs := []) (ys := []) (SqL.of (s7 _ _ hD6)) (SqL.of e7) ?_
      rw [decide_eq_true rfl]
      walk_at "lk"
      refine ift_ rfl ?_
      walk_at "lk"
      refine snw (Nat.le_of_ble_eq_true rfl) fun z3 hz3 => ?_
      have s8 : Same H7 (upd H7 z3 (.tup [])) := same_new hz3
      have e8 : (upd H7 z3 (.tup [])) z3 = some (.tup []) := upd_same
      generalize upd H7 z3 (.tup []) = H8 at s8 e8 ⊢
      walk_at "lk"
      refine ⟨k, n, z3, [], [], rfl, k1, by omega, by omega, by decide, .inr (SqT.of e8), .nil, fun es4 D9 H9 h4 s9 hD9n hD9 => ?_⟩
      obtain rfl := h4.same smi_nil
      walk_at "lk"
      refine snw (Nat.le_of_ble_eq_true rfl) fun z4 hz4 => ?_
      have s10 : Same H9 (upd H9 z4 (.lst [])) := same_new hz4
      have e10 : (upd H9 z4 (.lst [])) z4 = some (.lst []) := upd_same
      generalize upd H9 z4 (.lst []) = H10 at s10 e10 ⊢
      refine s_eqIL (xs := []) (ys := []) (SqL.of (s10 _ _ hD9)) (SqL.of e10) ?_
      rw [decide_eq_true rfl]
      exact q H10 (w1.st ((((s14.trans s5).trans (s6.trans s7)).trans (s8.trans s9)).trans s10))
    refine iff_ (by simpa using u0) ?_
    walk_at "lk"
    refine sEq rfl ?_
    refine ⟨_, rfl, ?_⟩
    by_cases n0 : n = 0
    · refine ift_ (by rw [n0]; rfl) ?_
      walk_at "lk"
      refine snw (Nat.le_of_ble_eq_true rfl) fun z1 hz1 => ?_
      have s5 : Same H4 (upd H4 z1 (.lst [])) := same_new hz1
      have e5 : (upd H4 z1 (.lst [])) z1 = some (.lst []) := upd_same
      generalize upd H4 z1 (.lst []) = H5 at s5 e5 ⊢
      walk_at "lk"
      refine ⟨k, n, z1, [], [], rfl, k1, by omega, by omega, by decide, .inl (SqL.of e5), .nil, fun es3 D6 H6 h3 s6 hD6n hD6 => ?_⟩
      obtain rfl := h3.same smi_nil
      walk_at "lk"
      refine snw (Nat.le_of_ble_eq_true rfl) fun z2 hz2 => ?_
      have s7 : Same H6 (upd H6 z2 (.lst [])) := same_new hz2
      have e7 : (upd H6 z2 (.lst [])) z2 = some (.lst []) := upd_same
      generalize upd H6 z2 (.lst []) = H7 at s7 e7 ⊢
      refine s_eqIL (xs := []) (ys := []) (SqL.of (s7 _ _ hD6)) (SqL.of e7) ?_
      rw [decide_eq_true rfl]
      walk_at "lk"
      refine ift_ rfl ?_
      walk_at "lk"
      refine snw (Nat.le_of_ble_eq_true rfl) fun z3 hz3 => ?_
      have s8 : Same H7 (upd H7 z3 (.tup [])) := same_new hz3
      have e8 : (upd H7 z3 (.tup [])) z3 = some (.tup []) := upd_same
      generalize upd H7 z3 (.tup []) = H8 at s8 e8 ⊢
      walk_at "lk"
      refine ⟨k, n, z3, [], [], rfl, k1, by omega, by omega, by decide, .inr (SqT.of e8), .nil, fun es4 D9 H9 h4 s9 hD9n hD9 => ?_⟩
      obtain rfl := h4.same smi_nil
      walk_at "lk"
      refine snw (Nat.le_of_ble_eq_true rfl) fun z4 hz4 => ?_
      have s10 : Same H9 (upd H9 z4 (.lst [])) := same_new hz4
      have e10 : (upd H9 z4 (.lst [])) z4 = some (.lst []) := upd_same
      generalize upd H9 z4 (.lst []) = H10 at s10 e10 ⊢
      refine s_eqIL (xs := []) (ys := []) (SqL.of (s10 _ _ hD9)) (SqL.of e10) ?_
      rw [decide_eq_true rfl]
      exact q H10 (w1.st ((((s14.trans s5).trans (s6.trans s7)).trans (s8.trans s9)).trans s10))
    refine iff_ (decide_eq_false fun z => n0 (by have := V.int.inj z; omega)) ?_
    walk_at "lk"
    refine srg ?_
    walk_at "lk"
    refine ⟨3, rfl, by decide, by decide, ?_⟩
    have npos : 1 ≤ n := by omega
    have upos : 0 < us.length := by
      cases us with
      | nil => exact absurd rfl u0
      | cons v vs => exact Nat.succ_pos _
    have hl4 := s14 _ _ hl
    have hD14 := s4 _ _ hD13
    have nD1 : D1 ≠ p := ne_new w1.2 hD1n
    have w4 : Wl H4 p := w1.2.same s14
    have rowsP : F2 (RowP p n H4) us xss := hr0.mono fun v xs ⟨r, e, a1, a2, a3⟩ => ⟨r, e, a1, a2.imp (s14 _ _) (s14 _ _), a3⟩
    refine for_range (fun i σ' H' => (∃ e6 e7 e8 e9 e10, σ' = [some (.ref p), some (.int (k : Int)), some (.int (n : Int)), some (.ref l), some (.ref D1), some (.ref D2), e6, e7, e8, e9, e10]) ∧ Wk p H4 H') ⟨⟨_, _, _, _, _, rfl⟩, Wk.refl w4⟩ ?_ ?_
    · rintro i σ' H5 hi ⟨⟨e6, e7, e8, e9, e10, rfl⟩, w5⟩
      walk_at "lk"
      refine ⟨p, l, k, n, us, xss, rfl, w5.2, nl, w5.at nl hl4, (loc_row.f2 w5 rowsP), k1, k6, npos, n6, upos, hul, fun lR usR R H6 S => ?_⟩
      have hRl := S.rlen
      have hul6 : usR.length = R.length := S.rows.len
      have hR4 : R.length ≤ 4 := by rw [S.len]; exact hxl
      have w6 := w5.trans S.wk
      have hD16 := w6.at nD1 hD14
      walk_at "lk"
      refine slc (srg ?_)
      walk_at "lk"
      refine ⟨(n : Int), rfl, by omega, by omega, fun D7 hD7 => ?_⟩
      rw [Int.toNat_natCast]
      refine lcg_mapV (walk_range (lo := 0) (n := n)) (List.range n) List.length_range (fun _ v (j : Nat) => v = .int (j : Int)) TupH (fun t h => h.ts t) (fun j => R.map fun r => r.getD j 0) (by have := Nat.le_of_lt (small1000 (show (6 : Nat) ≤ 1000 by decide)); omega) hD7 (fun H' s => trivial) (fun j x Ha Hb hj s hy => ?_) (fun _ => rfl) (fun j x j2 H8 hj hx s8 R8 r8 => ?_) (fun ys7 H7 s7 hD7l hys7 => ?_)
      · exact ⟨hy.1, j, List.getElem?_range hj, by rw [hy.2]; show V.int (0 + (j : Int)) = _; rw [Int.zero_add]⟩
      · subst hx
        have hj6 : j2 < n := List.mem_range.mp (List.mem_of_getElem? hj)
        walk_at "lk"
        refine slc ?_
        walk_at "lk"
        refine ⟨lR, rfl, ⟨_, SqL.of (s8 _ _ S.at_)⟩, fun D8 hD8 => ?_⟩
        refine lcg_mapV (walk_list (K := K) (a := lR) (xs := usR)) R hul6.symm (RowB 300 p n) (fun _ v x => v = .int x) (fun _ h => h) (fun r => r.getD j2 0) (by have := Nat.le_of_lt (small1000 (show (4 : Nat) ≤ 1000 by decide)); omega) hD8 (fun H' s => SqL.of (s _ _ (s8 _ _ S.at_))) (fun i x Ha Hb hi s hy => ?_) (fun _ => rfl) (fun i x r Ha hi hx s Qa qa => ?_) (fun ys9 H9 s9 hD9l hys9 => ?_)
        · obtain ⟨rfl, hx⟩ := hy
          obtain ⟨r, hr, hrd⟩ := S.rows.at hx
          obtain ⟨b, e1, e2, e3, e4⟩ := hrd
          exact ⟨rfl, r, hr, b, e1, e2, s _ _ (s8 _ _ e3), e4⟩
        · obtain ⟨b, rfl, _, hb, hbl, _⟩ := hx
          walk_at "lk"
          refine sfr (v := .int (r.getD j2 0)) (SqL.of hb) (Lk.atI_nat (by
            rw [List.getElem?_map, List.getElem?_eq_getElem (by omega)]
            rw [List.getD_eq_getElem?_getD, List.getElem?_eq_getElem (by omega)]
            rfl)) ?_
          exact qa _ _ (Same.refl _) rfl
        rw [f2_ints_of hys9] at hD9l
        walk_at "lk"
        refine s_tupL hD9l fun t10 H10 s10 ht10n ht10 => ?_
        exact r8 _ _ (s9.trans s10) ⟨t10, rfl, ht10⟩
      walk_at "lk"
      have S7 := S.same s7
      refine ⟨k, n, lR, usR, R, rfl, k1, by omega, by omega, by omega, .inl (SqL.of S7.at_), S7.rows.mono fun _ _ h => h.d, fun es7 D8 H8 h7 s8 hD8n hD8 => ?_⟩
      have ee7 : es = es7 := hes.uniq h7 S.siz
      rw [← ee7, nI_map] at hD8
      have s78 := s7.trans s8
      walk_at "lk"
      refine s_neIL (SqL.of hD8) (SqL.of (s78 _ _ hD16)) ?_
      refine ⟨_, rfl, ?_⟩
      refine iff_ (by simp) ?_
      walk_at "lk"
      refine s_tupL (s8 _ _ hD7l) fun t9 H9 s9 ht9n ht9 => ?_
      have s79 := s8.trans s9
      have hcl : (colsOf n R).length = n := by unfold colsOf; rw [List.length_map, List.length_range]
      walk_at "lk"
      refine ⟨k, R.length, t9, ys7, colsOf n R, rfl, k1, by omega, by omega, by omega, .inr (SqT.of ht9), tup_rowD (hys7.mono fun _ _ h => h.ts (Ts.of s79)) cols_len, fun es8 D10 H10 h8 s10 hD10n hD10 => ?_⟩
      have ee8 : es = es8 := by
        rw [ee7]
        exact smi_cols h7 h8
      rw [← ee8, nI_map] at hD10
      walk_at "lk"
      refine s_neIL (SqL.of hD10) (SqL.of (s10 _ _ (s9 _ _ (s78 _ _ hD16)))) ?_
      refine ⟨_, rfl, ?_⟩
      refine iff_ (by simp) ?_
      exact ⟨⟨_, _, _, _, _, rfl⟩, w6.st ((s78.trans s9).trans s10)⟩
    · rintro σ' H5 ⟨⟨e6, e7, e8, e9, e10, rfl⟩, w5⟩
      dsimp only
      walk_at "lk"
      refine ⟨k, n, l, us, xss, rfl, k1, by omega, by omega, by omega, .inl (SqL.of (w5.at nl hl4)), (loc_row.f2 w5 rowsP).mono fun _ _ h => h.d, fun es5 D6 H6 h5 s6 hD6n hD6 => ?_⟩
      rw [h5.same hes, nI_map] at hD6
      walk_at "lk"
      refine s_eqIL (SqL.of hD6) (SqL.of (s6 _ _ (w5.at nD1 hD14))) ?_
      rw [decide_eq_true rfl]
      exact q H6 (((w1.st s14).trans w5).st s6)
end
end K14

namespace K14
open PySem PySem.Spec PyProof.Rows L2 Lk
local macro_rules | `(tactic| walk_at "lk") => `(tactic| (repeat (first
  | with_reducible refine ssq ?_ | with_reducible refine sas ?_ | with_reducible refine sgn ?_ | ((with_reducible show tVar _ _ _ _); refine sv rfl ?_) | with_reducible refine sc ?_ | with_reducible refine sop ?_ | with_reducible refine sun ?_
  | with_reducible refine sI0 ?_ | with_reducible refine sU ?_ | with_reducible refine stt ?_ | with_reducible refine stB ?_ | with_reducible refine sbl ?_ | with_reducible refine snt ?_ | with_reducible refine sif ?_ | with_reducible refine scB ?_
  | with_reducible refine scn ?_ | with_reducible refine snl ?_ | with_reducible refine scl ?_ | with_reducible refine stu ?_ | with_reducible refine sli ?_ | with_reducible refine sdr ?_ | with_reducible refine srt ?_ | with_reducible refine snx ?_ | with_reducible refine sfor ?_ | with_reducible refine sils ?_ | with_reducible refine sien ?_ | with_reducible refine sor ?_ | with_reducible refine sfg ?_
  | with_reducible refine sav ?_ | with_reducible refine sov ?_ | with_reducible refine snv ?_ | with_reducible refine sch ?_ | with_reducible refine san ?_ | with_reducible refine ssll ?_ | with_reducible refine spt ?_ | with_reducible refine snp ?_ | with_reducible refine sin ?_ | with_reducible refine sfl ?_ | with_reducible refine sfd ?_ | with_reducible refine smt ?_ | with_reducible refine sbt ?_ | with_reducible refine sbm ?_ | with_reducible refine sifx ?_
  | ((with_reducible show Or _ _); first | refine Or.inl ⟨_, rfl, ?_⟩ | refine Or.inr ⟨_, rfl, ?_⟩))))

def spLaw (K : PySem.W.Frag) : Sp := fun vs H Q _ => ∃ (a : Addr) (ns : List Int), vs = [.ref a] ∧ SqL K H a (ns.map V.int) ∧ ns.length ≤ 63 ∧ ∀ H', Q (.bl true) H'

section
variable {P : Program} {w : World} {K : PySem.W.Frag} {mg : Str → Option Value} {base : Heap} {A : Ad}
abbrev s_law : Stmt := top 32
theorem sc_law : FnScope ["_law_script", "_law_k", "_law_cell"] ["_law_script"] (defScope s_law) := ⟨rfl, rfl, rfl, by decide +kernel, rfl, by decide +kernel, by decide +kernel⟩
theorem ok_law {f : Addr} {fd : FuncData} (F : Fun K "law" "law" s_law f fd) (T : Txt P w K mg base A) (c__law_right : Cal P w K mg base 6 "_law_right" ["_law_source_here"] spRight) (c__law_source : Cal P w K mg base 1 "_law_source" ["_law_cell"] spSource) : FnOk P w K mg base CX0 7 f fd ["_law_script"] (spLaw K) := by
  refine F.ok sc_law (fun vs H Q E h => ?_) (fun cdv Ar outer s H vs Q E hr h => ?_)
  · obtain ⟨a, ns, rfl, _⟩ := h
    rfl
  · obtain ⟨a, ns, rfl, hS, hlen, k⟩ := h
    refine ⟨_, (pss_cons (ps_for PassesOwn.never rfl (pi_enum (by rfl) T.z_enumerate (pa_cons (pe_slice sl_list (pe_op op_catL (pv 0) (pe_lst (pa_cons pe_int pa_nil))) po_none (po_some pe_int)) pa_nil)) (pg_tup rfl (pgs_cons (pg_name (i := 1) sc_law.nd rfl (Or.inl rfl)) (pgs_cons (pg_name (i := 2) sc_law.nd rfl (Or.inl rfl)) pgs_nil))) (pss_one (ps_if (pt_not (pt_val (pcal c__law_right hr (by decide) (pa_cons (pcal c__law_source hr (by decide) (pa_cons (pe_op op_add (pv 2) (pe_op op_mul (pe_op op_mul pe_int (pv 1)) (pe_callTy call_int1 (by rfl) T.z_int (by decide +kernel) (pa_cons (pe_cmpR op_lt (pe_callB call_abs (by rfl) T.z_abs (by decide +kernel) (pa_cons (pv 2) pa_nil)) (pe_op op_pow pe_int pe_int) (nomark _)) pa_nil)))) pa_nil)) pa_nil)))) (pss_one (ps_ret pe_bl)) pss_nil)))
        (pss_one (ps_ret pe_bl))), ?_⟩
    walk_at "lk"
    refine snw (Nat.le_of_ble_eq_true rfl) fun z hz => ?_
    refine ⟨a, z, _, _, rfl, rfl, (same_new hz).seq hS, upd_same, Nat.le_of_lt (small1000 (by rw [List.length_map]; show ns.length + 1 ≤ 1000; omega)), fun l1 hl1 => ?_⟩
    walk_at "lk"
    refine ⟨l1, _, rfl, SqL.of upd_same, fun l2 hl2 => ?_⟩
    have ois : ∀ y ∈ cutV (ns.map V.int ++ [V.int 0]) none (some 6), ∃ n, y = V.int n := fun y hy => by
      have h1 : y ∈ ns.map V.int ++ [V.int 0] := List.mem_of_mem_drop (List.mem_of_mem_take hy)
      rcases List.mem_append.mp h1 with h2 | h2
      · obtain ⟨n, _, rfl⟩ := List.mem_map.mp h2
        exact ⟨n, rfl⟩
      · exact ⟨0, List.mem_singleton.mp h2⟩
    generalize cutV (ns.map V.int ++ [V.int 0]) none (some 6) = xs at ois ⊢
    walk_at "lk"
    refine ⟨l2, xs, rfl, SqL.of upd_same, ?_⟩
    generalize hHL : upd (upd (upd H z (.lst [.int 0])) l1 (.lst (ns.map V.int ++ [V.int 0]))) l2 (.lst xs) = HL
    have e2 : HL l2 = some (.lst xs) := by rw [← hHL, upd_same]
    refine en_by (fun i σ H' => (∃ e1 e2, σ = [some (.ref a), e1, e2]) ∧ Same HL H') ⟨⟨_, _, rfl⟩, Same.refl _⟩ (fun i σ H' _ h => SqL.of (h.2 _ _ e2)) ?_ ?_
    · rintro i y p σ H1 hi ⟨⟨u1, u2, rfl⟩, s1⟩ hp
      obtain ⟨n, rfl⟩ := ois y (List.mem_of_getElem? hi)
      refine g_pair (SqT.of upd_same) ?_
      have s2 : Same HL (upd H1 p (.tup [.int (i : Nat), .int n])) := s1.trans (same_new hp)
      generalize upd H1 p (.tup [.int (i : Nat), .int n]) = H2 at s2 ⊢
      walk_at "lk"
      refine sI (.inl ⟨by decide, by decide⟩) ?_
      walk_at "lk"
      refine ⟨n, rfl, ?_⟩
      walk_at "lk"
      refine sI ⟨by decide, by decide, by decide⟩ ?_
      walk_at "lk"
      refine sI (cmul01 _) ?_
      walk_at "lk"
      refine ⟨_, rfl, fun q H3 s3 hq hw => ?_⟩
      walk_at "lk"
      refine ⟨q, rfl, hw, fun H4 fr => ?_⟩
      walk_at "lk"
      refine iff_ rfl ?_
      walk_at "lk"
      refine ⟨⟨_, _, rfl⟩, fun b o e => fr.1 b o ?_ ?_⟩
      · exact ne_of_none (s2 b o e) hq
      · exact s3 _ _ (s2 b o e)
    · rintro σ H1 ⟨⟨u1, u2, rfl⟩, s1⟩
      walk_at "lk"
      exact k _
end
end K14

namespace K14
open PySem PySem.Spec PyProof.Rows L2 Lk
theorem all_mk {P : PySem.Program} {w : World} {K : PySem.W.Frag} {h : Heap} {mg : Str → Option Value} {fa : Addr} {A : Ad} (X : K.In h) (G0 : h.Ns mainGlobals mg) (hfa : mg "law" = some (.ref fa)) (TT : ∀ base, Txt P w K mg base A)
    {f0 : Addr} {od0 an0 : Option Addr} {sl0 : Array (Option Value)} {oc0 kV0 dc0 pm0 cd0 ct0 : Value} (a0 : PySem.W.nsIn K mainGlobals "is_integer" = some (some (.ref f0))) (l0 : K.lookup f0 = some ⟨oc0, od0, .func (PySem.W.fnOf "is_integer" "is_integer" (defArgs s_is_integer) (defBody s_is_integer) (defScope s_is_integer) .none kV0 dc0 pm0 an0 cd0 ct0), sl0⟩) (c0 : PySem.W.codeIn K cd0 "is_integer" = true) (k0 : PySem.W.keepIn K (.ref f0) = true)
    {f1 : Addr} {od1 an1 : Option Addr} {sl1 : Array (Option Value)} {oc1 kV1 dc1 pm1 cd1 ct1 : Value} (a1 : PySem.W.nsIn K mainGlobals "is_within" = some (some (.ref f1))) (l1 : K.lookup f1 = some ⟨oc1, od1, .func (PySem.W.fnOf "is_within" "is_within" (defArgs s_is_within) (defBody s_is_within) (defScope s_is_within) .none kV1 dc1 pm1 an1 cd1 ct1), sl1⟩) (c1 : PySem.W.codeIn K cd1 "is_within" = true) (k1 : PySem.W.keepIn K (.ref f1) = true)
    {f2 : Addr} {od2 an2 : Option Addr} {sl2 : Array (Option Value)} {oc2 kV2 dc2 pm2 cd2 ct2 : Value} (a2 : PySem.W.nsIn K mainGlobals "is_width" = some (some (.ref f2))) (l2 : K.lookup f2 = some ⟨oc2, od2, .func (PySem.W.fnOf "is_width" "is_width" (defArgs s_is_width) (defBody s_is_width) (defScope s_is_width) .none kV2 dc2 pm2 an2 cd2 ct2), sl2⟩) (c2 : PySem.W.codeIn K cd2 "is_width" = true) (k2 : PySem.W.keepIn K (.ref f2) = true)
    {f3 : Addr} {od3 an3 : Option Addr} {sl3 : Array (Option Value)} {oc3 kV3 dc3 pm3 cd3 ct3 : Value} (a3 : PySem.W.nsIn K mainGlobals "is_sequence" = some (some (.ref f3))) (l3 : K.lookup f3 = some ⟨oc3, od3, .func (PySem.W.fnOf "is_sequence" "is_sequence" (defArgs s_is_sequence) (defBody s_is_sequence) (defScope s_is_sequence) .none kV3 dc3 pm3 an3 cd3 ct3), sl3⟩) (c3 : PySem.W.codeIn K cd3 "is_sequence" = true) (k3 : PySem.W.keepIn K (.ref f3) = true)
    {f4 : Addr} {od4 an4 : Option Addr} {sl4 : Array (Option Value)} {oc4 kV4 dc4 pm4 cd4 ct4 : Value} (a4 : PySem.W.nsIn K mainGlobals "wrong_integer" = some (some (.ref f4))) (l4 : K.lookup f4 = some ⟨oc4, od4, .func (PySem.W.fnOf "wrong_integer" "wrong_integer" (defArgs s_wrong_integer) (defBody s_wrong_integer) (defScope s_wrong_integer) .none kV4 dc4 pm4 an4 cd4 ct4), sl4⟩) (c4 : PySem.W.codeIn K cd4 "wrong_integer" = true) (k4 : PySem.W.keepIn K (.ref f4) = true)
    {f5 : Addr} {od5 an5 : Option Addr} {sl5 : Array (Option Value)} {oc5 kV5 dc5 pm5 cd5 ct5 : Value} (a5 : PySem.W.nsIn K mainGlobals "_check_list" = some (some (.ref f5))) (l5 : K.lookup f5 = some ⟨oc5, od5, .func (PySem.W.fnOf "_check_list" "_check_list" (defArgs s__check_list) (defBody s__check_list) (defScope s__check_list) .none kV5 dc5 pm5 an5 cd5 ct5), sl5⟩) (c5 : PySem.W.codeIn K cd5 "_check_list" = true) (k5 : PySem.W.keepIn K (.ref f5) = true)
    {f6 : Addr} {od6 an6 : Option Addr} {sl6 : Array (Option Value)} {oc6 kV6 dc6 pm6 cd6 ct6 : Value} (a6 : PySem.W.nsIn K mainGlobals "valuation" = some (some (.ref f6))) (l6 : K.lookup f6 = some ⟨oc6, od6, .func (PySem.W.fnOf "valuation" "valuation" (defArgs s_valuation) (defBody s_valuation) (defScope s_valuation) .none kV6 dc6 pm6 an6 cd6 ct6), sl6⟩) (c6 : PySem.W.codeIn K cd6 "valuation" = true) (k6 : PySem.W.keepIn K (.ref f6) = true)
    {f7 : Addr} {od7 an7 : Option Addr} {sl7 : Array (Option Value)} {oc7 kV7 dc7 pm7 cd7 ct7 : Value} (a7 : PySem.W.nsIn K mainGlobals "odd_inverse" = some (some (.ref f7))) (l7 : K.lookup f7 = some ⟨oc7, od7, .func (PySem.W.fnOf "odd_inverse" "odd_inverse" (defArgs s_odd_inverse) (defBody s_odd_inverse) (defScope s_odd_inverse) .none kV7 dc7 pm7 an7 cd7 ct7), sl7⟩) (c7 : PySem.W.codeIn K cd7 "odd_inverse" = true) (k7 : PySem.W.keepIn K (.ref f7) = true)
    {f8 : Addr} {od8 an8 : Option Addr} {sl8 : Array (Option Value)} {oc8 kV8 dc8 pm8 cd8 ct8 : Value} (a8 : PySem.W.nsIn K mainGlobals "lowered" = some (some (.ref f8))) (l8 : K.lookup f8 = some ⟨oc8, od8, .func (PySem.W.fnOf "lowered" "lowered" (defArgs s_lowered) (defBody s_lowered) (defScope s_lowered) .none kV8 dc8 pm8 an8 cd8 ct8), sl8⟩) (c8 : PySem.W.codeIn K cd8 "lowered" = true) (k8 : PySem.W.keepIn K (.ref f8) = true)
    {f9 : Addr} {od9 an9 : Option Addr} {sl9 : Array (Option Value)} {oc9 kV9 dc9 pm9 cd9 ct9 : Value} (a9 : PySem.W.nsIn K mainGlobals "_cleared" = some (some (.ref f9))) (l9 : K.lookup f9 = some ⟨oc9, od9, .func (PySem.W.fnOf "_cleared" "_cleared" (defArgs s__cleared) (defBody s__cleared) (defScope s__cleared) .none kV9 dc9 pm9 an9 cd9 ct9), sl9⟩) (c9 : PySem.W.codeIn K cd9 "_cleared" = true) (k9 : PySem.W.keepIn K (.ref f9) = true)
    {f10 : Addr} {od10 an10 : Option Addr} {sl10 : Array (Option Value)} {oc10 kV10 dc10 pm10 cd10 ct10 : Value} (a10 : PySem.W.nsIn K mainGlobals "_least_place" = some (some (.ref f10))) (l10 : K.lookup f10 = some ⟨oc10, od10, .func (PySem.W.fnOf "_least_place" "_least_place" (defArgs s__least_place) (defBody s__least_place) (defScope s__least_place) .none kV10 dc10 pm10 an10 cd10 ct10), sl10⟩) (c10 : PySem.W.codeIn K cd10 "_least_place" = true) (k10 : PySem.W.keepIn K (.ref f10) = true)
    {f11 : Addr} {od11 an11 : Option Addr} {sl11 : Array (Option Value)} {oc11 kV11 dc11 pm11 cd11 ct11 : Value} (a11 : PySem.W.nsIn K mainGlobals "stacked" = some (some (.ref f11))) (l11 : K.lookup f11 = some ⟨oc11, od11, .func (PySem.W.fnOf "stacked" "stacked" (defArgs s_stacked) (defBody s_stacked) (defScope s_stacked) .none kV11 dc11 pm11 an11 cd11 ct11), sl11⟩) (c11 : PySem.W.codeIn K cd11 "stacked" = true) (k11 : PySem.W.keepIn K (.ref f11) = true)
    {f12 : Addr} {od12 an12 : Option Addr} {sl12 : Array (Option Value)} {oc12 kV12 dc12 pm12 cd12 ct12 : Value} (a12 : PySem.W.nsIn K mainGlobals "_check_table" = some (some (.ref f12))) (l12 : K.lookup f12 = some ⟨oc12, od12, .func (PySem.W.fnOf "_check_table" "_check_table" (defArgs s__check_table) (defBody s__check_table) (defScope s__check_table) .none kV12 dc12 pm12 an12 cd12 ct12), sl12⟩) (c12 : PySem.W.codeIn K cd12 "_check_table" = true) (k12 : PySem.W.keepIn K (.ref f12) = true)
    {f13 : Addr} {od13 an13 : Option Addr} {sl13 : Array (Option Value)} {oc13 kV13 dc13 pm13 cd13 ct13 : Value} (a13 : PySem.W.nsIn K mainGlobals "smith" = some (some (.ref f13))) (l13 : K.lookup f13 = some ⟨oc13, od13, .func (PySem.W.fnOf "smith" "smith" (defArgs s_smith) (defBody s_smith) (defScope s_smith) .none kV13 dc13 pm13 an13 cd13 ct13), sl13⟩) (c13 : PySem.W.codeIn K cd13 "smith" = true) (k13 : PySem.W.keepIn K (.ref f13) = true)
    {f14 : Addr} {od14 an14 : Option Addr} {sl14 : Array (Option Value)} {oc14 kV14 dc14 pm14 cd14 ct14 : Value} (a14 : PySem.W.nsIn K mainGlobals "_law_source" = some (some (.ref f14))) (l14 : K.lookup f14 = some ⟨oc14, od14, .func (PySem.W.fnOf "_law_source" "_law_source" (defArgs s__law_source) (defBody s__law_source) (defScope s__law_source) .none kV14 dc14 pm14 an14 cd14 ct14), sl14⟩) (c14 : PySem.W.codeIn K cd14 "_law_source" = true) (k14 : PySem.W.keepIn K (.ref f14) = true)
    {f15 : Addr} {od15 an15 : Option Addr} {sl15 : Array (Option Value)} {oc15 kV15 dc15 pm15 cd15 ct15 : Value} (a15 : PySem.W.nsIn K mainGlobals "_law_draw" = some (some (.ref f15))) (l15 : K.lookup f15 = some ⟨oc15, od15, .func (PySem.W.fnOf "_law_draw" "_law_draw" (defArgs s__law_draw) (defBody s__law_draw) (defScope s__law_draw) .none kV15 dc15 pm15 an15 cd15 ct15), sl15⟩) (c15 : PySem.W.codeIn K cd15 "_law_draw" = true) (k15 : PySem.W.keepIn K (.ref f15) = true)
    {f16 : Addr} {od16 an16 : Option Addr} {sl16 : Array (Option Value)} {oc16 kV16 dc16 pm16 cd16 ct16 : Value} (a16 : PySem.W.nsIn K mainGlobals "_law_pick" = some (some (.ref f16))) (l16 : K.lookup f16 = some ⟨oc16, od16, .func (PySem.W.fnOf "_law_pick" "_law_pick" (defArgs s__law_pick) (defBody s__law_pick) (defScope s__law_pick) .none kV16 dc16 pm16 an16 cd16 ct16), sl16⟩) (c16 : PySem.W.codeIn K cd16 "_law_pick" = true) (k16 : PySem.W.keepIn K (.ref f16) = true)
    {f17 : Addr} {od17 an17 : Option Addr} {sl17 : Array (Option Value)} {oc17 kV17 dc17 pm17 cd17 ct17 : Value} (a17 : PySem.W.nsIn K mainGlobals "_law_number" = some (some (.ref f17))) (l17 : K.lookup f17 = some ⟨oc17, od17, .func (PySem.W.fnOf "_law_number" "_law_number" (defArgs s__law_number) (defBody s__law_number) (defScope s__law_number) .none kV17 dc17 pm17 an17 cd17 ct17), sl17⟩) (c17 : PySem.W.codeIn K cd17 "_law_number" = true) (k17 : PySem.W.keepIn K (.ref f17) = true)
    {f18 : Addr} {od18 an18 : Option Addr} {sl18 : Array (Option Value)} {oc18 kV18 dc18 pm18 cd18 ct18 : Value} (a18 : PySem.W.nsIn K mainGlobals "_law_small" = some (some (.ref f18))) (l18 : K.lookup f18 = some ⟨oc18, od18, .func (PySem.W.fnOf "_law_small" "_law_small" (defArgs s__law_small) (defBody s__law_small) (defScope s__law_small) .none kV18 dc18 pm18 an18 cd18 ct18), sl18⟩) (c18 : PySem.W.codeIn K cd18 "_law_small" = true) (k18 : PySem.W.keepIn K (.ref f18) = true)
    {f19 : Addr} {od19 an19 : Option Addr} {sl19 : Array (Option Value)} {oc19 kV19 dc19 pm19 cd19 ct19 : Value} (a19 : PySem.W.nsIn K mainGlobals "_law_elements" = some (some (.ref f19))) (l19 : K.lookup f19 = some ⟨oc19, od19, .func (PySem.W.fnOf "_law_elements" "_law_elements" (defArgs s__law_elements) (defBody s__law_elements) (defScope s__law_elements) .none kV19 dc19 pm19 an19 cd19 ct19), sl19⟩) (c19 : PySem.W.codeIn K cd19 "_law_elements" = true) (k19 : PySem.W.keepIn K (.ref f19) = true)
    {f20 : Addr} {od20 an20 : Option Addr} {sl20 : Array (Option Value)} {oc20 kV20 dc20 pm20 cd20 ct20 : Value} (a20 : PySem.W.nsIn K mainGlobals "_law_halves" = some (some (.ref f20))) (l20 : K.lookup f20 = some ⟨oc20, od20, .func (PySem.W.fnOf "_law_halves" "_law_halves" (defArgs s__law_halves) (defBody s__law_halves) (defScope s__law_halves) .none kV20 dc20 pm20 an20 cd20 ct20), sl20⟩) (c20 : PySem.W.codeIn K cd20 "_law_halves" = true) (k20 : PySem.W.keepIn K (.ref f20) = true)
    {f21 : Addr} {od21 an21 : Option Addr} {sl21 : Array (Option Value)} {oc21 kV21 dc21 pm21 cd21 ct21 : Value} (a21 : PySem.W.nsIn K mainGlobals "_law_due" = some (some (.ref f21))) (l21 : K.lookup f21 = some ⟨oc21, od21, .func (PySem.W.fnOf "_law_due" "_law_due" (defArgs s__law_due) (defBody s__law_due) (defScope s__law_due) .none kV21 dc21 pm21 an21 cd21 ct21), sl21⟩) (c21 : PySem.W.codeIn K cd21 "_law_due" = true) (k21 : PySem.W.keepIn K (.ref f21) = true)
    {f22 : Addr} {od22 an22 : Option Addr} {sl22 : Array (Option Value)} {oc22 kV22 dc22 pm22 cd22 ct22 : Value} (a22 : PySem.W.nsIn K mainGlobals "_law_changed" = some (some (.ref f22))) (l22 : K.lookup f22 = some ⟨oc22, od22, .func (PySem.W.fnOf "_law_changed" "_law_changed" (defArgs s__law_changed) (defBody s__law_changed) (defScope s__law_changed) .none kV22 dc22 pm22 an22 cd22 ct22), sl22⟩) (c22 : PySem.W.codeIn K cd22 "_law_changed" = true) (k22 : PySem.W.keepIn K (.ref f22) = true)
    {f23 : Addr} {od23 an23 : Option Addr} {sl23 : Array (Option Value)} {oc23 kV23 dc23 pm23 cd23 ct23 : Value} (a23 : PySem.W.nsIn K mainGlobals "_law_right" = some (some (.ref f23))) (l23 : K.lookup f23 = some ⟨oc23, od23, .func (PySem.W.fnOf "_law_right" "_law_right" (defArgs s__law_right) (defBody s__law_right) (defScope s__law_right) .none kV23 dc23 pm23 an23 cd23 ct23), sl23⟩) (c23 : PySem.W.codeIn K cd23 "_law_right" = true) (k23 : PySem.W.keepIn K (.ref f23) = true)
    {f24 : Addr} {od24 an24 : Option Addr} {sl24 : Array (Option Value)} {oc24 kV24 dc24 pm24 cd24 ct24 : Value} (a24 : PySem.W.nsIn K mainGlobals "law" = some (some (.ref f24))) (l24 : K.lookup f24 = some ⟨oc24, od24, .func (PySem.W.fnOf "law" "law" (defArgs s_law) (defBody s_law) (defScope s_law) .none kV24 dc24 pm24 an24 cd24 ct24), sl24⟩) (c24 : PySem.W.codeIn K cd24 "law" = true) (k24 : PySem.W.keepIn K (.ref f24) = true)
    : ∃ fd : FuncData, (∀ (s : Shared) (v : Value), BindsTo s fd ⟨[v], []⟩ [("_law_script", v)]) ∧ ∀ base : Heap, K.In base → base.Ns mainGlobals mg → FnOk P w K mg base CX0 7 fa fd ["_law_script"] (spLaw K) := by
  have e := hfa.symm.trans (PySem.W.mg_of X G0 a24)
  cases e
  refine ⟨PySem.W.fnOf "law" "law" (defArgs s_law) (defBody s_law) (defScope s_law) .none kV24 dc24 pm24 an24 cd24 ct24, fun s v => .of_eq rfl, fun base _ _ => ?_⟩
  have T := TT base
  have F0 := fun_mk (st := s_is_integer) l0 c0 k0
  have b0 := F0.binds (ps := ["value"]) fun _ _ _ _ _ _ us hl => match us, hl with | [_], _ => rfl
  have c_is_integer : Cal P w K mg base 1 "is_integer" ["value"] (spIsInt K) := ⟨_, _, PySem.W.mg_of X G0 a0, k0, b0, ok_is_integer F0 T⟩
  have F1 := fun_mk (st := s_is_within) l1 c1 k1
  have b1 := F1.binds (ps := ["value", "least", "most"]) fun _ _ _ _ _ _ us hl => match us, hl with | [_, _, _], _ => rfl
  have c_is_within : Cal P w K mg base 2 "is_within" ["value", "least", "most"] (spWithin K) := ⟨_, _, PySem.W.mg_of X G0 a1, k1, b1, ok_is_within F1 T c_is_integer⟩
  have F2 := fun_mk (st := s_is_width) l2 c2 k2
  have b2 := F2.binds (ps := ["value"]) fun _ _ _ _ _ _ us hl => match us, hl with | [_], _ => rfl
  have c_is_width : Cal P w K mg base 3 "is_width" ["value"] (spWidth K) := ⟨_, _, PySem.W.mg_of X G0 a2, k2, b2, ok_is_width F2 T c_is_within⟩
  have F3 := fun_mk (st := s_is_sequence) l3 c3 k3
  have b3 := F3.binds (ps := ["value", "least", "most"]) fun _ _ _ _ _ _ us hl => match us, hl with | [_, _, _], _ => rfl
  have c_is_sequence : Cal P w K mg base 1 "is_sequence" ["value", "least", "most"] (spSeq K) := ⟨_, _, PySem.W.mg_of X G0 a3, k3, b3, ok_is_sequence F3 T⟩
  have F4 := fun_mk (st := s_wrong_integer) l4 c4 k4
  have b4 := F4.binds (ps := ["value", "size"]) fun _ _ _ _ _ _ us hl => match us, hl with | [_, _], _ => rfl
  have c_wrong_integer : Cal P w K mg base 2 "wrong_integer" ["value", "size"] (spWrInt K) := ⟨_, _, PySem.W.mg_of X G0 a4, k4, b4, ok_wrong_integer F4 T c_is_sequence c_is_integer⟩
  have F5 := fun_mk (st := s__check_list) l5 c5 k5
  have b5 := F5.binds (ps := ["size", "part", "rows"]) fun _ _ _ _ _ _ us hl => match us, hl with | [_, _, _], _ => rfl
  have c__check_list : Cal P w K mg base 3 "_check_list" ["size", "part", "rows"] (spChkList K) := ⟨_, _, PySem.W.mg_of X G0 a5, k5, b5, ok_check_list F5 T c_wrong_integer⟩
  have F6 := fun_mk (st := s_valuation) l6 c6 k6
  have b6 := F6.binds (ps := ["number"]) fun _ _ _ _ _ _ us hl => match us, hl with | [_], _ => rfl
  have c_valuation : Cal P w K mg base 1 "valuation" ["number"] spVal := ⟨_, _, PySem.W.mg_of X G0 a6, k6, b6, ok_valuation F6 T⟩
  have F7 := fun_mk (st := s_odd_inverse) l7 c7 k7
  have b7 := F7.binds (ps := ["odd", "mask"]) fun _ _ _ _ _ _ us hl => match us, hl with | [_, _], _ => rfl
  have c_odd_inverse : Cal P w K mg base 1 "odd_inverse" ["odd", "mask"] spInvO := ⟨_, _, PySem.W.mg_of X G0 a7, k7, b7, ok_odd_inverse F7 T⟩
  have F8 := fun_mk (st := s_lowered) l8 c8 k8
  have b8 := F8.binds (ps := ["numbers", "width"]) fun _ _ _ _ _ _ us hl => match us, hl with | [_, _], _ => rfl
  have c_lowered : Cal P w K mg base 1 "lowered" ["numbers", "width"] (spLow K) := ⟨_, _, PySem.W.mg_of X G0 a8, k8, b8, ok_lowered F8 T⟩
  have F9 := fun_mk (st := s__cleared) l9 c9 k9
  have b9 := F9.binds (ps := ["row", "column", "part", "width"]) fun _ _ _ _ _ _ us hl => match us, hl with | [_, _, _, _], _ => rfl
  have c__cleared : Cal P w K mg base 2 "_cleared" ["row", "column", "part", "width"] (spClr K) := ⟨_, _, PySem.W.mg_of X G0 a9, k9, b9, ok_cleared F9 T c_lowered⟩
  have F10 := fun_mk (st := s__least_place) l10 c10 k10
  have b10 := F10.binds (ps := ["rows"]) fun _ _ _ _ _ _ us hl => match us, hl with | [_], _ => rfl
  have c__least_place : Cal P w K mg base 2 "_least_place" ["rows"] (spLeast K) := ⟨_, _, PySem.W.mg_of X G0 a10, k10, b10, ok_least_place F10 T c_valuation⟩
  have F11 := fun_mk (st := s_stacked) l11 c11 k11
  have b11 := F11.binds (ps := ["width", "rows"]) fun _ _ _ _ _ _ us hl => match us, hl with | [_, _], _ => rfl
  have c_stacked : Cal P w K mg base 3 "stacked" ["width", "rows"] (spStk K) := ⟨_, _, PySem.W.mg_of X G0 a11, k11, b11, ok_stacked F11 T c_lowered c_valuation c_odd_inverse c__cleared c__least_place⟩
  have F12 := fun_mk (st := s__check_table) l12 c12 k12
  have b12 := F12.binds (ps := ["width", "table"]) fun _ _ _ _ _ _ us hl => match us, hl with | [_, _], _ => rfl
  have c__check_table : Cal P w K mg base 4 "_check_table" ["width", "table"] (spTab K) := ⟨_, _, PySem.W.mg_of X G0 a12, k12, b12, ok_check_table F12 T c_is_width c__check_list⟩
  have F13 := fun_mk (st := s_smith) l13 c13 k13
  have b13 := F13.binds (ps := ["width", "table"]) fun _ _ _ _ _ _ us hl => match us, hl with | [_, _], _ => rfl
  have c_smith : Cal P w K mg base 5 "smith" ["width", "table"] (spSmith K) := ⟨_, _, PySem.W.mg_of X G0 a13, k13, b13, ok_smith F13 T c__check_table c_stacked⟩
  have F14 := fun_mk (st := s__law_source) l14 c14 k14
  have b14 := F14.binds (ps := ["_law_cell"]) fun _ _ _ _ _ _ us hl => match us, hl with | [_], _ => rfl
  have c__law_source : Cal P w K mg base 1 "_law_source" ["_law_cell"] spSource := ⟨_, _, PySem.W.mg_of X G0 a14, k14, b14, ok_source F14 T⟩
  have F15 := fun_mk (st := s__law_draw) l15 c15 k15
  have b15 := F15.binds (ps := ["_law_source_here", "_law_many"]) fun _ _ _ _ _ _ us hl => match us, hl with | [_, _], _ => rfl
  have c__law_draw : Cal P w K mg base 1 "_law_draw" ["_law_source_here", "_law_many"] spDraw := ⟨_, _, PySem.W.mg_of X G0 a15, k15, b15, ok_draw F15 T⟩
  have F16 := fun_mk (st := s__law_pick) l16 c16 k16
  have b16 := F16.binds (ps := ["_law_source_here", "_law_items"]) fun _ _ _ _ _ _ us hl => match us, hl with | [_, _], _ => rfl
  have c__law_pick : Cal P w K mg base 2 "_law_pick" ["_law_source_here", "_law_items"] spPick := ⟨_, _, PySem.W.mg_of X G0 a16, k16, b16, ok_pick F16 T c__law_draw⟩
  have F17 := fun_mk (st := s__law_number) l17 c17 k17
  have b17 := F17.binds (ps := ["_law_source_here", "_law_width"]) fun _ _ _ _ _ _ us hl => match us, hl with | [_, _], _ => rfl
  have c__law_number : Cal P w K mg base 3 "_law_number" ["_law_source_here", "_law_width"] spNumber := ⟨_, _, PySem.W.mg_of X G0 a17, k17, b17, ok_number F17 T c__law_draw c__law_pick⟩
  have F18 := fun_mk (st := s__law_small) l18 c18 k18
  have b18 := F18.binds (ps := ["_law_source_here"]) fun _ _ _ _ _ _ us hl => match us, hl with | [_], _ => rfl
  have c__law_small : Cal P w K mg base 4 "_law_small" ["_law_source_here"] spSmall := ⟨_, _, PySem.W.mg_of X G0 a18, k18, b18, ok_small F18 T c__law_draw c__law_pick c__law_number⟩
  have F19 := fun_mk (st := s__law_elements) l19 c19 k19
  have b19 := F19.binds (ps := ["_law_width", "_law_size", "_law_rows"]) fun _ _ _ _ _ _ us hl => match us, hl with | [_, _, _], _ => rfl
  have c__law_elements : Cal P w K mg base 2 "_law_elements" ["_law_width", "_law_size", "_law_rows"] (spElems K) := ⟨_, _, PySem.W.mg_of X G0 a19, k19, b19, ok_elements F19 T⟩
  have F20 := fun_mk (st := s__law_halves) l20 c20 k20
  have b20 := F20.binds (ps := ["_law_number_here"]) fun _ _ _ _ _ _ us hl => match us, hl with | [_], _ => rfl
  have c__law_halves : Cal P w K mg base 1 "_law_halves" ["_law_number_here"] spHalf := ⟨_, _, PySem.W.mg_of X G0 a20, k20, b20, ok_halves F20 T⟩
  have F21 := fun_mk (st := s__law_due) l21 c21 k21
  have b21 := F21.binds (ps := ["_law_width", "_law_size", "_law_rows"]) fun _ _ _ _ _ _ us hl => match us, hl with | [_, _, _], _ => rfl
  have c__law_due : Cal P w K mg base 4 "_law_due" ["_law_width", "_law_size", "_law_rows"] (spDue K) := ⟨_, _, PySem.W.mg_of X G0 a21, k21, b21, ok_due F21 T c__law_elements c__law_halves⟩
  have F22 := fun_mk (st := s__law_changed) l22 c22 k22
  have b22 := F22.binds (ps := ["_law_source_here", "_law_width", "_law_rows"]) fun _ _ _ _ _ _ us hl => match us, hl with | [_, _, _], _ => rfl
  have c__law_changed : Cal P w K mg base 3 "_law_changed" ["_law_source_here", "_law_width", "_law_rows"] spChg := ⟨_, _, PySem.W.mg_of X G0 a22, k22, b22, ok_changed F22 T c__law_draw⟩
  have F23 := fun_mk (st := s__law_right) l23 c23 k23
  have b23 := F23.binds (ps := ["_law_source_here"]) fun _ _ _ _ _ _ us hl => match us, hl with | [_], _ => rfl
  have c__law_right : Cal P w K mg base 6 "_law_right" ["_law_source_here"] spRight := ⟨_, _, PySem.W.mg_of X G0 a23, k23, b23, ok_right F23 T c__law_small c__law_due c_smith c__law_changed⟩
  exact ok_law (fun_mk (st := s_law) l24 c24 k24) T c__law_right c__law_source
theorem walk {l : PySem.W.OpenLaw} {q : PySem.Program} {loose : List Str} {XP : (Str → Option Value) → Heap → Prop} {YP : World → Heap → Prop} {d : DefRec} {K : Params → PySem.W.Frag} (hn : l.most = some 63) (hdf : d.params.defaults = [])
    (hY : ∀ (w : World) (h : Heap), YP w h → (K w.params).In h)
    (F : ∀ (w : World) (mg : Str → Option Value) (fa : Addr) (h : Heap), (K w.params).In h → h.Ns mainGlobals mg → mg d.name = some (.ref fa) →
      ∃ fd : FuncData, (∀ (s : Shared) (u : Value), BindsTo s fd ⟨[u], []⟩ [("_law_script", u)]) ∧ ∀ base : Heap, (K w.params).In base → base.Ns mainGlobals mg → FnOk l.prog w (K w.params) mg base CX0 7 fa fd ["_law_script"] (spLaw (K w.params))) :
    PySem.W.WalkO q loose XP YP l.row.toRowW d [] (fun f vs => PySem.call f vs) :=
  L2.walk_of (n := 63) (k := 7) (x := "_law_script") (CX := fun _ => CX0) (sp := fun w => spLaw (K w.params)) hn (by decide) hdf ⟨rfl, by decide, by decide⟩ hY F (fun _ _ a ns hl _ hS => ⟨a, ns, rfl, hS, hl, fun _ => rfl⟩) fun _ _ _ _ _ z => z
theorem txt_mk {P : PySem.Program} {w : World} {K : PySem.W.Frag} {mg : Str → Option Value} {h : Heap} {cNoRows : Addr} (X : K.In h) (G : h.Ns mainGlobals mg)
    (z_int : PySem.W.nsIn K mainGlobals "int" = some none) (z_bool : PySem.W.nsIn K mainGlobals "bool" = some none) (z_str : PySem.W.nsIn K mainGlobals "str" = some none) (z_list : PySem.W.nsIn K mainGlobals "list" = some none) (z_tuple : PySem.W.nsIn K mainGlobals "tuple" = some none) (z_dict : PySem.W.nsIn K mainGlobals "dict" = some none) (z_len : PySem.W.nsIn K mainGlobals "len" = some none) (z_isinstance : PySem.W.nsIn K mainGlobals "isinstance" = some none) (z_range : PySem.W.nsIn K mainGlobals "range" = some none) (z_enumerate : PySem.W.nsIn K mainGlobals "enumerate" = some none) (z_zip : PySem.W.nsIn K mainGlobals "zip" = some none) (z_all : PySem.W.nsIn K mainGlobals "all" = some none) (z_any : PySem.W.nsIn K mainGlobals "any" = some none) (z_sum : PySem.W.nsIn K mainGlobals "sum" = some none) (z_sorted : PySem.W.nsIn K mainGlobals "sorted" = some none) (z_reversed : PySem.W.nsIn K mainGlobals "reversed" = some none) (z_abs : PySem.W.nsIn K mainGlobals "abs" = some none) (z_set : PySem.W.nsIn K mainGlobals "set" = some none)
    (g_NoRows : PySem.W.nsIn K mainGlobals "NoRows" = some (some (.ref cNoRows)))
    {tWIDEST : Nat} (g_WIDEST : PySem.W.nsIn K mainGlobals "WIDEST" = some (some (.int 64 tWIDEST)))
    (base : Heap) : Txt P w K mg base ⟨cNoRows, cNoRows⟩ :=
  ⟨PySem.W.mg_none_of X G z_int, PySem.W.mg_none_of X G z_bool, PySem.W.mg_none_of X G z_str, PySem.W.mg_none_of X G z_list, PySem.W.mg_none_of X G z_tuple, PySem.W.mg_none_of X G z_dict, PySem.W.mg_none_of X G z_len, PySem.W.mg_none_of X G z_isinstance, PySem.W.mg_none_of X G z_range, PySem.W.mg_none_of X G z_enumerate, PySem.W.mg_none_of X G z_zip, PySem.W.mg_none_of X G z_all, PySem.W.mg_none_of X G z_any, PySem.W.mg_none_of X G z_sum, PySem.W.mg_none_of X G z_sorted, PySem.W.mg_none_of X G z_reversed, PySem.W.mg_none_of X G z_abs, PySem.W.mg_none_of X G z_set, PySem.W.mg_of X G g_NoRows, ⟨_, PySem.W.mg_of X G g_WIDEST⟩⟩
end K14
open PySem PySem.W PyProof.Rows in
set_option maxRecDepth 100000 in
set_option maxHeartbeats 0 in
theorem PySem.Challenge.cw_leastkeep_k14_invariant_factors_holds : PySem.Challenge.rw_leastkeep_k14_invariant_factors.Holds := by
  w_on; o_law; k_head; (case hw => w_witness2)
  k_fill
  refine K14.walk (l := PySem.Challenge.rw_leastkeep_k14_invariant_factors) rfl rfl (fun w h Y => PySem.W.kIn_of Y) ?F
  case F =>
    intro w mg fa h KX G hmg
    refine' K14.all_mk KX G hmg (K14.txt_mk KX G ?z_int ?z_bool ?z_str ?z_list ?z_tuple ?z_dict ?z_len ?z_isinstance ?z_range ?z_enumerate ?z_zip ?z_all ?z_any ?z_sum ?z_sorted ?z_reversed ?z_abs ?z_set ?g_NoRows ?g_WIDEST) ?a0 ?l0 ?c0 ?k0 ?a1 ?l1 ?c1 ?k1 ?a2 ?l2 ?c2 ?k2 ?a3 ?l3 ?c3 ?k3 ?a4 ?l4 ?c4 ?k4 ?a5 ?l5 ?c5 ?k5 ?a6 ?l6 ?c6 ?k6 ?a7 ?l7 ?c7 ?k7 ?a8 ?l8 ?c8 ?k8 ?a9 ?l9 ?c9 ?k9 ?a10 ?l10 ?c10 ?k10 ?a11 ?l11 ?c11 ?k11 ?a12 ?l12 ?c12 ?k12 ?a13 ?l13 ?c13 ?k13 ?a14 ?l14 ?c14 ?k14 ?a15 ?l15 ?c15 ?k15 ?a16 ?l16 ?c16 ?k16 ?a17 ?l17 ?c17 ?k17 ?a18 ?l18 ?c18 ?k18 ?a19 ?l19 ?c19 ?k19 ?a20 ?l20 ?c20 ?k20 ?a21 ?l21 ?c21 ?k21 ?a22 ?l22 ?c22 ?k22 ?a23 ?l23 ?c23 ?k23 ?a24 ?l24 ?c24 ?k24
    (case g_NoRows => k_is); (case g_WIDEST => k_is)
    (case z_int => k_is); (case z_bool => k_is); (case z_str => k_is); (case z_list => k_is); (case z_tuple => k_is); (case z_dict => k_is); (case z_len => k_is); (case z_isinstance => k_is); (case z_range => k_is); (case z_enumerate => k_is); (case z_zip => k_is); (case z_all => k_is); (case z_any => k_is); (case z_sum => k_is); (case z_sorted => k_is); (case z_reversed => k_is); (case z_abs => k_is); (case z_set => k_is)
    (case a0 => k_is); (case a1 => k_is); (case a2 => k_is); (case a3 => k_is); (case a4 => k_is); (case a5 => k_is); (case a6 => k_is); (case a7 => k_is); (case a8 => k_is); (case a9 => k_is); (case a10 => k_is); (case a11 => k_is); (case a12 => k_is); (case a13 => k_is); (case a14 => k_is); (case a15 => k_is); (case a16 => k_is); (case a17 => k_is); (case a18 => k_is); (case a19 => k_is); (case a20 => k_is); (case a21 => k_is); (case a22 => k_is); (case a23 => k_is); (case a24 => k_is)
    (case l0 => k_is); (case l1 => k_is); (case l2 => k_is); (case l3 => k_is); (case l4 => k_is); (case l5 => k_is); (case l6 => k_is); (case l7 => k_is); (case l8 => k_is); (case l9 => k_is); (case l10 => k_is); (case l11 => k_is); (case l12 => k_is); (case l13 => k_is); (case l14 => k_is); (case l15 => k_is); (case l16 => k_is); (case l17 => k_is); (case l18 => k_is); (case l19 => k_is); (case l20 => k_is); (case l21 => k_is); (case l22 => k_is); (case l23 => k_is); (case l24 => k_is)
    (case c0 => k_is); (case k0 => k_is); (case c1 => k_is); (case k1 => k_is); (case c2 => k_is); (case k2 => k_is); (case c3 => k_is); (case k3 => k_is); (case c4 => k_is); (case k4 => k_is); (case c5 => k_is); (case k5 => k_is); (case c6 => k_is); (case k6 => k_is); (case c7 => k_is); (case k7 => k_is); (case c8 => k_is); (case k8 => k_is); (case c9 => k_is); (case k9 => k_is); (case c10 => k_is); (case k10 => k_is); (case c11 => k_is); (case k11 => k_is); (case c12 => k_is); (case k12 => k_is); (case c13 => k_is); (case k13 => k_is); (case c14 => k_is); (case k14 => k_is); (case c15 => k_is); (case k15 => k_is); (case c16 => k_is); (case k16 => k_is); (case c17 => k_is); (case k17 => k_is); (case c18 => k_is); (case k18 => k_is); (case c19 => k_is); (case k19 => k_is); (case c20 => k_is); (case k20 => k_is); (case c21 => k_is); (case k21 => k_is); (case c22 => k_is); (case k22 => k_is); (case c23 => k_is); (case k23 => k_is); (case c24 => k_is); (case k24 => k_is)
