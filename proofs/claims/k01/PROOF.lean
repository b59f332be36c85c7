import PyProof.Rows.All
import Wide.All
import OpenK.AllK
import Wide.FinOn
import KE.KExcIs
import HandS.ForMost
import HandS.ExcInit
import HandS.ExcValue
import HandS.Defaults
import HandS.IsInst
import HandS.Walk
import PySem.Challenge.RW_neverapart_k01_errors_made
set_option Elab.async false
set_option linter.all false
set_option maxRecDepth 100000
set_option maxHeartbeats 4000000
namespace PySem
namespace Xv
open PySem.W PySem.Calls PyProof.Rows PySem.HandSPX
section
variable {prog : Program} {w : World} {A : Around} {E : Value → Shared → Prop} {R : Result → Shared → Prop}
variable {h : Heap} {g : Array GenState} {d : Drawn} {t : Nat} {os : OsState}
variable {nm q : Str} {C N : Addr} {bs bm bmB : List Value} {hdct : Bool} {sn : List Str} {sub : List Value} {ab : Bool}
variable {col : Option Bool} {dd : Option Addr} {k0 k1 k2 k3 k5 : Option Value} {B newId initId : String}
variable {kw : List (Str × Value)} {rest : List Value}
abbrev Holds (h : Heap) (nm q : Str) (C N : Addr) (bs bm : List Value) (hdct : Bool) (sn : List Str) (sub : List Value) (ab : Bool)
    (col : Option Bool) (dd : Option Addr) (k0 k1 k2 k3 k5 : Option Value) (newId : String) : Prop :=
  h.get? C = some (excClassObj nm q C N bs bm hdct sn sub ab col dd k0 k1 k2 k3 k5 newId)
abbrev AlikeTypes (bm bmB : List Value) : Prop := ∀ X : String, bm.contains (.type X) = bmB.contains (.type X)

theorem check_new (F : ExcBaseFacts B newId initId bmB) (hT : AlikeTypes bm bmB) {M : Model} {Q : Unit → Shared → Prop}
    (hC : Holds h nm q C N bs bm hdct sn sub ab col dd k0 k1 k2 k3 k5 newId) (hq : Q () ⟨h, g, d, t, os⟩) :
    wpAny M A (checkBuiltinCall newId ⟨.ref C :: rest, kw⟩) Q E ⟨h, g, d, t, os⟩ := by
  have has : (Value.ref C :: bm).contains (.type B) = true := by rw [List.contains_cons, hT, F.hasB, Bool.or_true]
  have star := F.noStar
  simp only [checkBuiltinCall, F.newKind, F.newSplit, F.newRow]
  repeat (first
    | refine wpAny_loadPart_at hC ?_
    | (refine wpAny_isSubtype_exc hC ?_; rw [has])
    | refine wpAny_staticBase_exc hC ?_
    | refine wpAny_madeBy_exc hC ?_
    | simp only [bne_self_eq_false, Bool.false_eq_true, if_false]
    | wp_step)
  exact hq

theorem new_kw (F : ExcBaseFacts B newId initId bmB) (hT : AlikeTypes bm bmB)
    (hC : Holds h nm q C N bs bm hdct sn sub ab col dd k0 k1 k2 k3 k5 newId)
    (hq : R (.ok (.ret (.ref (h.objs.size + 1)))) ⟨(h.push (kdv_tup rest)).push (excO C h.objs.size), g, d, t, os⟩) (hz : rest.length ≤ sizeLine) :
    codeAny (model prog w) A (.builtin newId ⟨.ref C :: rest, kw⟩) R ⟨h, g, d, t, os⟩ := by
  have ends := F.ends
  have hasB : (Value.ref C :: bm).contains (.type B) = true := by rw [List.contains_cons, hT, F.hasB, Bool.or_true]
  have hasA : (Value.ref C :: bm).contains (.type "AttributeError") = false := by rw [List.contains_cons, hT, F.noAttr]; rfl
  have hasN : (Value.ref C :: bm).contains (.type "NameError") = false := by rw [List.contains_cons, hT, F.noName]; rfl
  refine codeAny_builtinAt F.entry ?_
  unfold Builtin.«BaseException.__new__»
  refine wpAt_bind ?_
  show wpAt _ _ _ (stack >>= _) _ _ _
  refine wpAt_bind (wpAt_stack fun p below => wpAt_of_wpAny ?_)
  wp_walk
  refine wpAt_of_wpAny ?_
  rw [F.owner]
  repeat (first
    | with_reducible refine wpAny_madeHere_exc F.canon hC ?_
    | with_reducible refine wpAny_loadPart_at hC ?_
    | (with_reducible refine wpAny_isSubtype_exc hC ?_; first | rw [hasB] | rw [hasA] | rw [hasN])
    | wp_step)
  show R _ _
  rw [Heap.size_push]
  exact hq

theorem tcall_kw (F : ExcBaseFacts B newId initId bmB) (hT : AlikeTypes bm bmB) {fI : Addr} {Q : Fin → Shared → Prop}
    (hC : Holds h nm q C N bs bm hdct sn sub ab col dd k0 k1 k2 k3 k5 newId)
    (hi : W.Looks (model prog w) h (typeLookup (.ref C) "__init__") (some (.ref fI)))
    (hb : ∀ self, W.Looks (model prog w) h (bindSpecial (.ref fI) self) (.ref fI, [self])) (hz : rest.length ≤ sizeLine)
    (hq : codeAny (model prog w) A (.call (.ref fI) ⟨.ref (h.objs.size + 1) :: rest, kw⟩)
      (fun r s' => match r with | .ok (.ret v) => v = .none ∧ Q (.done (.ret (.ref (h.objs.size + 1)))) s' | .ok _ => False | .error e => E e s')
      ⟨(h.push (kdv_tup rest)).push (excO C h.objs.size), g, d, t, os⟩) :
    wpAny (model prog w) A (Builtin.«type.__call__» ⟨.ref C :: rest, kw⟩) Q E ⟨h, g, d, t, os⟩ := by
  repeat (first
    | with_reducible refine wpAny_loadPart_at hC ?_
    | with_reducible refine wpAny_madeBy_exc hC ?_
    | wp_step)
  refine codeAny_call_builtin_code (Code.quiet_builtin _ F.quiet) (check_new F hT hC ?_)
  refine new_kw F hT hC ?_ hz
  show wpAny _ _ _ _ _ _
  have k : ∀ b o, h.get? b = some o → ((h.push (kdv_tup rest)).push (excO C h.objs.size)).get? b = some o :=
    fun b o e => Heap.get?_push_of_some _ (Heap.get?_push_of_some _ e)
  have hC1 := k _ _ hC
  have hget : ((h.push (kdv_tup rest)).push (excO C h.objs.size)).get? (h.objs.size + 1) = some (excO C h.objs.size) := by heap_get
  have self : (Value.ref C :: bm).contains (.ref C) = true := by simp
  have i1 := hi.keeps k
  have b1 := (hb (.ref (h.objs.size + 1))).keeps k
  unfold isInstance
  repeat (first
    | with_reducible refine wpAny_loadPart_at hget ?_
    | (with_reducible refine wpAny_isSubtype_exc hC1 ?_; rw [self])
    | wp_step)
  show wpAny _ _ (typeLookup (.ref C) _) _ _ _
  refine i1.at ?_
  refine wpAny_holding (wpAny_bind (b1.at ?_))
  refine wpAny_bind (wpAny_call (codeAny_mono hq fun r s' z => ?_))
  rcases r with e | (v | _ | _ | _) <;> first | exact z | exact z.elim | skip
  obtain ⟨rfl, z⟩ := z
  first
    | exact wpAny_pure (wpAny_pure z)
    | (wp_walk; exact z)

theorem call_kw (F : ExcBaseFacts B newId initId bmB) (hT : AlikeTypes bm bmB) {fI : Addr}
    (hC : Holds h nm q C N bs bm hdct sn sub ab col dd k0 k1 k2 k3 k5 newId)
    (hi : W.Looks (model prog w) h (typeLookup (.ref C) "__init__") (some (.ref fI)))
    (hb : ∀ self, W.Looks (model prog w) h (bindSpecial (.ref fI) self) (.ref fI, [self])) (hz : rest.length ≤ sizeLine)
    (typ : W.Looks (model prog w) h (isInstance (.ref C) (.type "type")) true)
    (hq : codeAny (model prog w) (A.under (.builtin "type.__call__" ⟨.ref C :: rest, kw⟩)) (.call (.ref fI) ⟨.ref (h.objs.size + 1) :: rest, kw⟩)
      (W.InitBack (h.objs.size + 1) R) ⟨(h.push (kdv_tup rest)).push (excO C h.objs.size), g, d, t, os⟩) :
    codeAny (model prog w) A (.call (.ref C) ⟨rest, kw⟩) R ⟨h, g, d, t, os⟩ := by
  have f1 := tc_lookup
  have f2 := tc_bind (.ref C)
  have hTy : (⟨h, g, d, t, os⟩ : Shared).TypeIs (.ref C) "type" := ⟨_, hC, rfl⟩
  refine codeAny_of_tree ?_
  show wpAny _ _ (callAny (.ref C) _) _ _ _
  repeat (any_goals (first | assumption | with_reducible refine wpAny_loadPart_at hC ?_ | wp_step))
  refine ⟨rfl, ?_⟩
  refine codeAny_call_builtin_at (Code.quiet_builtin _ (by decide +kernel)) entry_typeCall (W.check_slot tc_kind tc_split typ (tc_args _ _ _) ?_)
  refine tcall_kw F hT hC hi hb hz ?_
  refine codeAny_mono hq fun r s' z => ?_
  rcases r with e | (v | _ | _ | _) <;> exact z
end
end Xv
end PySem

namespace L2
open PySem PySem.Spec PyProof.Rows
/-- at a stands an exception of the class at C whose one field f holds v -/
def EA (H : Hp) (a C : Addr) (f : Str) (v : V) : Prop := ∃ d, H a = some (exo a C (some d)) ∧ H d = some (exd d [(f, v)])
theorem EA.mono {H H' : Hp} {a C : Addr} {f : Str} {v : V} (x : EA H a C f v) (e : Same H H') : EA H' a C f v :=
  let ⟨d, h1, h2⟩ := x
  ⟨d, e _ _ h1, e _ _ h2⟩
/-- the promise of such a class's __init__ -/
def spXI (C : Addr) (f : Str) : Sp := fun vs H Q _ => ∃ (a : Addr) (v : V), vs = [.ref a, v] ∧ H a = some (exo a C none) ∧
  ∀ dx, H dx = none → dx ≠ a → Q .non (upd (upd H dx (exd dx [(f, v)])) a (exo a C (some dx)))
/-- what is known of an exception class x (at C, its field f) behind the top -/
structure XC (P : Program) (w : World) (K : PySem.W.Frag) (mg : Str → Option Value) (base : Heap) (x f : Str) (C : Addr) : Prop where
  oex : OexC K C
  gC : mg x = some (.ref C)
  noF : PySem.W.findIn K (.ref C) f = some none
  ga : PySem.W.findIn K (.ref C) "__getattribute__" = some (some (.builtin "BaseException.__getattribute__"))
  gg : PySem.W.findIn K (.ref C) "__getattr__" = some none
  hdC : PySem.W.hasDictIn K C = true
  run : ∃ (fI : Addr) (fd : FuncData), PySem.W.findIn K (.ref C) "__init__" = some (some (.ref fI)) ∧ PySem.W.typeIn K (.ref fI) = some (.type "function") ∧
    FnOk P w K mg base CX0 1 fI fd ["self", f] (spXI C f) ∧
    (∀ (s : Shared) (a b : Value), K.In s.heap → BindsTo s fd ⟨[a, b], []⟩ ((["self", f] : List Str).zip [a, b])) ∧
    (∀ (s : Shared) (a : Value), K.In s.heap → BindsTo s fd ⟨[a], []⟩ ((["self", f] : List Str).zip [a, .none])) ∧
    (∀ (s : Shared) (a b : Value), K.In s.heap → BindsTo s fd ⟨[a], ([f] : List Str).zip [b]⟩ ((["self", f] : List Str).zip [a, b]))
section
variable {X : Cx} {x f : Str} {C : Addr}
theorem run_x {pins : List (Addr × Obj)} {σ : St} {H : Hp} {s : Shared} {Q : VK} {us : List Value} {kw : List (Str × Value)} {v : V} {u : Value} {fI : Addr} {fd : FuncData} (T : OexC X.K C)
    (iC : PySem.W.findIn X.K (.ref C) "__init__" = some (some (.ref fI))) (tI : PySem.W.typeIn X.K (.ref fI) = some (.type "function"))
    (F1 : FnOk X.prog X.w X.K X.mg X.base CX0 1 fI fd ["self", f] (spXI C f)) (hr : Room 2 X.A) (I : Inv X pins σ H s) (hz : us.length ≤ 1000) (rv : RelV v u)
    (hb : ∀ (s : Shared) (a : Value), X.K.In s.heap → BindsTo s fd ⟨a :: us, kw⟩ ((["self", f] : List Str).zip [a, u]))
    (h : ∀ (a : Addr) (H' : Hp), H a = none → Same H H' → EA H' a C f v → Q (.ref a) H') :
    wpAny (model X.prog X.w) X.A (call (.ref C) us kw) (EP X pins σ Q) X.xe s := by
  obtain ⟨nm, q, N, bs, bm, sn, sub, ab, col, dd, k0, k1, k2, k3, k5, hC, hbm⟩ := T.cls
  have kin := I.kIn
  have typ : PySem.W.Looks (model X.prog X.w) s.heap (isInstance (.ref C) (.type "type")) true :=
    (PySem.W.looks_typeIn kin T.tyC).andThen (PySem.W.looks_subIn kin (show PySem.W.subIn X.K (.type "type") (.type "type") = some true by rfl))
  obtain ⟨hp, g, dr, tk, os⟩ := s
  have hsz : hp.objs.size ≤ hp.objs.size + 1 := Nat.le_succ _
  have hn : H (hp.objs.size + 1) = none := I.hok.fresh hsz
  have old : ∀ b o, hp.get? b = some o → ((hp.push (PySem.W.kdv_tup us)).push (PySem.HandSPX.excO C hp.objs.size)).get? b = some o :=
    fun b o e => Heap.get?_push_of_some _ (Heap.get?_push_of_some _ e)
  have there : ((hp.push (PySem.W.kdv_tup us)).push (PySem.HandSPX.excO C hp.objs.size)).get? (hp.objs.size + 1) = some (PySem.HandSPX.excO C hp.objs.size) := by heap_get
  have I2 := I.laid (t' := tk) (a := hp.objs.size + 1) (o := exo (hp.objs.size + 1) C none) old hsz (exo_ok there)
  have r2 : Vals [V.ref (hp.objs.size + 1), v] [Value.ref (hp.objs.size + 1), u] := .cons rfl (.cons rv .nil)
  have hus : us.length ≤ sizeLine := by
    rw [sizeLine_eq]
    omega
  refine wpAny_call (PySem.Xv.call_kw (kw := kw) F.excBase_ValueError (fun Y => PySem.HandSPX.refsVE_contains Y bm hbm) (kin _ _ hC) (PySem.W.looks_findIn kin iC)
    (fun self => PySem.W.bind_fn kin self tI) hus typ (codeAny_mono (F1.run _ X.stack _ (upd H (hp.objs.size + 1) (exo (hp.objs.size + 1) C none)) ⟨Value.ref (hp.objs.size + 1) :: us, kw⟩ [Value.ref (hp.objs.size + 1), u] _
      (fun r H2 => r = .non ∧ ∃ dx, dx ≠ hp.objs.size + 1 ∧ H dx = none ∧ H2 = upd (upd (upd H (hp.objs.size + 1) (exo (hp.objs.size + 1) C none)) dx (exd dx [(f, v)])) (hp.objs.size + 1) (exo (hp.objs.size + 1) C (some dx)))
      (fun _ _ _ => False) (hr.make C us kw) (I2.env0.make C us kw) (hb _ _ I2.kIn) r2 ?_) fun r s' hq' => ?_))
  · refine ⟨_, v, rfl, upd_same, fun dx nd ne => ⟨rfl, dx, ne, ?_, rfl⟩⟩
    rw [upd_ne ne] at nd
    exact nd
  cases r with
  | error er => exact False.elim hq'
  | ok fl =>
    cases fl with
    | ret z =>
      obtain ⟨r, H2, I3, rr, er, dx, ne, nd, eH⟩ := I2.after hq'
      subst er
      have same : Same H H2 := fun b o e => by
        have n1 : b ≠ hp.objs.size + 1 := ne_of_none e hn
        have n2 : b ≠ dx := ne_of_none e nd
        rw [eH, upd_ne n1, upd_ne n2, upd_ne n1]
        exact e
      refine ⟨rr, V.ref (hp.objs.size + 1), H2, I3, rfl, h _ H2 hn same ⟨dx, ?_, ?_⟩⟩
      · rw [eH]
        exact upd_same
      · rw [eH, upd_ne ne]
        exact upd_same
    | next => exact False.elim hq'
    | brk => exact False.elim hq'
    | cont => exact False.elim hq'
/-- C(e) -/
def tX1 (C : Addr) (f : Str) (te : TE) : TE := fun σ H Q => te σ H fun y H1 => ∃ v, [y] = [v] ∧
  ∀ (a : Addr) (H' : Hp), H1 a = none → Same H1 H' → EA H' a C f v → Q (.ref a) H'
/-- C() -/
def tX0 (C : Addr) (f : Str) : TE := fun _ H Q => ∀ (a : Addr) (H' : Hp), H a = none → Same H H' → EA H' a C f .non → Q (.ref a) H'
variable {e : Expr} {te : TE} {p pos kpos : Pos}
theorem pe_x1 (c : XC X.prog X.w X.K X.mg X.base x f C) (hr : Room 2 X.A) (hg : Gl X x) (he : PE X e te)
    (hs : starEach [e] X.env = (false, eval e X.env) :: starEach [] X.env := by rfl) (hdb : (x == ("__debug__" : Str)) = false := by decide)
    (hpl : (backTo pos (starEach [] X.env)).any (·.1) = false := by rfl) :
    PE X (.Call (.Name x p) [e] [] pos) (tX1 C f te) := by
  obtain ⟨fI, fd, iC, tI, F1, b2, _, _⟩ := c.run
  refine ⟨fun pins s σ H Q I h => ?_⟩
  refine wpAny_Call_Name_kw (ld_glob I hg c.gC ?_ hdb)
  have ha : PA X [e] (tCons te tNil) := pa_cons he pa_nil hs
  refine PySem.W.callWith_K (h₀ := X.base) I.ok.mod.kin c.oex.kC (thn (ha.run pos pins s σ H (fun vs H1 => ∃ v, vs = [v] ∧ ∀ (a : Addr) (H' : Hp), H1 a = none → Same H1 H' → EA H' a C f v → Q (.ref a) H') I h)
    fun us s1 ⟨vs, H1, I1, r1, v, ev, q1⟩ => ⟨I1.kIn, ?_⟩) hs hpl
  subst ev
  cases r1 with
  | cons rv rn =>
    cases rn
    exact run_x c.oex iC tI F1 hr I1 (by show 1 ≤ 1000; decide) rv (fun s a k => b2 s a _ k) q1
theorem pe_x0 (c : XC X.prog X.w X.K X.mg X.base x f C) (hr : Room 2 X.A) (hg : Gl X x) (hdb : (x == ("__debug__" : Str)) = false := by decide) :
    PE X (.Call (.Name x p) [] [] pos) (tX0 C f) := by
  obtain ⟨fI, fd, iC, tI, F1, _, b1, _⟩ := c.run
  refine ⟨fun pins s σ H Q I h => ?_⟩
  refine wpAny_Call_Name_kw (ld_glob I hg c.gC ?_ hdb)
  exact PySem.W.callWith_K0 I.kIn c.oex.kC (run_x (us := []) (u := .none) (v := .non) c.oex iC tI F1 hr I (Nat.zero_le _) rfl (fun s a k => b1 s a k) h)
/-- C(f=e) -/
theorem pe_xk (c : XC X.prog X.w X.K X.mg X.base x f C) (hr : Room 2 X.A) (hg : Gl X x) (he : PE X e te) (hdb : (x == ("__debug__" : Str)) = false := by decide) :
    PE X (.Call (.Name x p) [] [⟨some f, e, kpos⟩] pos) (tX1 C f te) := by
  obtain ⟨fI, fd, iC, tI, F1, _, _, bk⟩ := c.run
  refine ⟨fun pins s σ H Q I h => ?_⟩
  refine wpAny_Call_Name_kw (ld_glob I hg c.gC ?_ hdb)
  have hk : PK X [⟨some f, e, kpos⟩] (tCons te tNil) := pk_cons he pk_nil
  refine PySem.W.callWith_KW0 (h₀ := X.base) I.ok.mod.kin c.oex.kC (by rfl) ?_ (by rfl)
  refine thn (hk.run pos pins s σ H (fun vs H1 => ∃ v, vs = [v] ∧ ∀ (a : Addr) (H' : Hp), H1 a = none → Same H1 H' → EA H' a C f v → Q (.ref a) H') I h) fun us s1 ⟨vs, H1, I1, r1, v, ev, q1⟩ => ⟨I1.kIn, ?_⟩
  subst ev
  cases r1 with
  | cons rv rn =>
    cases rn
    exact run_x (us := []) c.oex iC tI F1 hr I1 (Nat.zero_le _) rv (fun s a k => bk s a _ k) q1
/-- x.f of such an exception -/
def tXF (K : PySem.W.Frag) (P : Program) (w : World) (mg : Str → Option Value) (base : Heap) (f : Str) (te : TE) : TE := fun σ H Q => te σ H fun y H1 =>
  ∃ (a C : Addr) (x : Str) (v : V), y = .ref a ∧ XC P w K mg base x f C ∧ EA H1 a C f v ∧ Q v H1
theorem pe_xf1 (he : PE X e te) (hb : attributeBase e f X.env (eval e X.env) = eval e X.env := by rfl) : PE X (.Attribute e f pos) (tXF X.K X.prog X.w X.mg X.base f te) := by
  refine ⟨fun pins s σ H Q I h => ?_⟩
  refine attr_of hb (thn (he.run pins s σ H _ I h) fun u s1 hh => ?_)
  obtain ⟨y, H1, I1, ry, a, C, x, v, rfl, c, ⟨d, e1, e2⟩, q⟩ := hh
  obtain rfl : u = Value.ref a := ry
  obtain ⟨t1, ho⟩ := exo_at I1.hok e1
  obtain ⟨mA, hns, rel⟩ := exd_at I1.hok e2
  obtain ⟨od, hod, hl⟩ := lookIn_ns hns
  have l : List.lookup f [(f, v)] = some v := by simp [List.lookup]
  obtain ⟨u, hu, ru⟩ := RelO.some_of (v := v) (o := mA f) (by rw [← l]; exact rel f)
  have J : PySem.W.InstAt s1.heap a _ C (some od) := ⟨ho, rfl, rfl, hod⟩
  exact HandSPX.exc_get I1.kIn J c.ga c.gg c.oex.exC (PySem.W.findObj_own c.hdC c.noF rfl (by rw [hl, hu])) (handed_of ru) ⟨v, H1, I1.tok _, ru, q⟩
end
end L2

namespace L2
open PySem PySem.Spec PyProof.Rows
/-- what isinstance asks of an exception class -/
structure XKit (K : PySem.W.Frag) (D : Addr) : Prop where
  cl : (PySem.W.clsIn K D).isSome = true
  ga : PySem.W.findIn K (.ref D) "__getattribute__" = some (some (.builtin "BaseException.__getattribute__"))
  gg : PySem.W.findIn K (.ref D) "__getattr__" = some none
  sb : PySem.W.subIn K (.ref D) (.type "BaseException") = some true
  cc : PySem.W.findIn K (.ref D) "__class__" = some (some (.builtin "object.__class__"))
  ob : PySem.W.mroIn K D (.type "object") = some true
/-- .. and of the written part -/
structure XObj (K : PySem.W.Frag) : Prop where
  gt : PySem.W.specialIn K (.builtin "object.__class__") "__get__" = some (some (.builtin "getset_descriptor.__get__"))
  tk : PySem.W.takesIn K (.builtin "object.__class__") = some true
/-- an exception of D stands at a -/
def IsX (H : Hp) (a D : Addr) : Prop := (∃ f v, EA H a D f v) ∨ H a = some (ExO (.ref D) a)
theorem IsX.mono {H H' : Hp} {a D : Addr} (x : IsX H a D) (e : Same H H') : IsX H' a D := by
  rcases x with ⟨f, v, x⟩ | x
  · exact .inl ⟨f, v, x.mono e⟩
  · exact .inr (e _ _ x)
def rIsX (K : PySem.W.Frag) : List V → Hp → VK → Prop := fun xs H Q => ∃ (a D : Addr) (c : V) (u : Value) (b : Bool),
  xs = [.ref a, c] ∧ IsX H a D ∧ XKit K D ∧ ClsV c u ∧ PySem.W.kitOne K (.ref D) u = some b ∧ Q (.bl b) H
section
variable {X : Cx} {x f : Str} {C : Addr}
theorem call_isX (O : XObj X.K) : CallR X (.builtin "isinstance") (rIsX X.K) := by
  intro pins s σ H xs us Q I r h
  obtain ⟨a, D, c, u, b, rfl, hx, T, k, e, q⟩ := h
  obtain ⟨u1, u2, rfl, r1, r2⟩ := vals2 r
  have e2 := k.eq r2
  subst e2
  cases (show u1 = Value.ref a from r1)
  have J : ∃ ox od, PySem.W.InstAt s.heap a ox D od := by
    rcases hx with ⟨f, v, d, e1, e2⟩ | hx
    · obtain ⟨t1, ho⟩ := exo_at I.hok e1
      obtain ⟨mA, hns, rel⟩ := exd_at I.hok e2
      obtain ⟨od, hod, hl⟩ := lookIn_ns hns
      exact ⟨_, some od, ho, rfl, rfl, hod⟩
    · obtain ⟨⟨oe, vs, ho, hz, hd, _⟩, _, _⟩ := I.hok a _ hx
      obtain ⟨oc, odd, oda, osl⟩ := oe
      obtain ⟨h1, h2⟩ := hz
      dsimp only at h1 h2 hd
      subst h1 h2 hd
      exact ⟨_, none, ho, rfl, rfl, trivial⟩
  obtain ⟨ox, od, J⟩ := J
  exact PySem.W.kia_one (PySem.W.kitx_exc T.cl T.ga T.gg T.sb T.cc O.gt O.tk T.ob) I.kIn J e (fun z => nomatch z) fun tk => ⟨.bl b, H, I.tok tk, rfl, q⟩
/-- X(), an own exception class without own __init__, as a value -/
theorem pe_exc0 {bmB : List Value} {B newId initId : String} {p pos : Pos} (F : ExcBaseFacts B newId initId bmB) (q : PySem.W.excIn X.K C bmB newId = true) (gC : X.mg x = some (.ref C)) (kC : PySem.W.keepIn X.K (.ref C) = true) (hg : Gl X x)
    (hdb : (x == ("__debug__" : Str)) = false := by decide) :
    PE X (.Call (.Name x p) [] [] pos) (fun _ H Q => ∀ a, H a = none → Q (.ref a) (upd H a (ExO (.ref C) a))) := by
  refine ⟨fun pins s σ H Q I h => ?_⟩
  refine wpAny_Call_Name_kw (ld_glob I hg gC ?_ hdb)
  refine PySem.W.callWith_K0 I.kIn kC ?_
  show wpAny _ _ (call (.ref C) []) _ _ _
  obtain ⟨bm, N, nm, qn, bs, hdct, sn, sub, ab, col, dd, k0, k1, k2, k3, k5, mN, hC, hN, hni, T⟩ := exc_obj I.kIn q
  refine wpAny_call_exc_subT F T hC hN hni (fun h' a hm => ?_) (Nat.zero_le _)
  have hn : H a = none := I.hok.gone hm.new
  obtain ⟨t, ht, _, _⟩ := hm.there
  exact ⟨.ref a, upd H a (ExO (.ref C) a), I.laidN hm.keeps hm.new hn (exO_ok ht ⟨rfl, rfl⟩ rfl rfl rfl (show 4 < 6 by decide)), rfl, h a hn⟩
end
/-! ### repr of what is known as data -/
/-- v is the data d, wherever the abstract heap is held -/
def Rdd (P : Program) (w : World) (K : PySem.W.Frag) (H : Hp) (v : V) (d : PyData) : Prop :=
  ∀ (h : Heap) (u : Value), HOk P w H h → K.In h → RelV v u → ∃ as, Reads h u d as ∧ ∀ b ∈ as, H b ≠ none
def RddAll (P : Program) (w : World) (K : PySem.W.Frag) (H : Hp) (vs : List V) (ds : List PyData) : Prop :=
  ∀ (h : Heap) (us : List Value), HOk P w H h → K.In h → Vals vs us → ∃ as, ReadsAll h us ds as ∧ ∀ b ∈ as, H b ≠ none
section
variable {P : Program} {w : World} {K : PySem.W.Frag} {H : Hp} {v : V} {vs : List V} {d : PyData} {ds : List PyData} {a : Addr}
theorem rdd_non : Rdd P w K H .non .none := fun h u _ _ r => by
  obtain rfl : u = Value.none := r
  exact ⟨[], .none, fun b z => nomatch z⟩
theorem rdd_bl (b : Bool) : Rdd P w K H (.bl b) (.bool b) := fun h u _ _ r => by
  obtain rfl : u = Value.bool b := r
  exact ⟨[], .bool b, fun b z => nomatch z⟩
theorem rdd_int (i : Int) : Rdd P w K H (.int i) (.int i) := fun h u _ _ r => by
  obtain ⟨t, rfl⟩ := (show ∃ t, u = Value.int i t from r)
  exact ⟨[], .int i t, fun b z => nomatch z⟩
theorem rdd_str (x : Str) : Rdd P w K H (.str x) (.str x) := fun h u _ _ r => by
  obtain ⟨t, rfl⟩ := (show ∃ t, u = Value.str x t from r)
  exact ⟨[], .str x t, fun b z => nomatch z⟩
theorem rddAll_nil : RddAll P w K H [] [] := fun h us _ _ r => by
  cases r
  exact ⟨[], .nil, fun b z => nomatch z⟩
theorem rddAll_cons (h1 : Rdd P w K H v d) (h2 : RddAll P w K H vs ds) : RddAll P w K H (v :: vs) (d :: ds) := fun h us ok kin r => by
  cases r with
  | cons r1 r2 =>
    obtain ⟨as, x1, y1⟩ := h1 h _ ok kin r1
    obtain ⟨bs, x2, y2⟩ := h2 h _ ok kin r2
    exact ⟨as ++ bs, .cons x1 x2, fun b hb => (List.mem_append.mp hb).elim (y1 b) (y2 b)⟩
theorem rdd_lst (e : H a = some (.lst vs)) (h1 : RddAll P w K H vs ds) : Rdd P w K H (.ref a) (.list ds) := fun h u ok kin r => by
  obtain rfl : u = Value.ref a := r
  obtain ⟨_, its, n, rv, ho⟩ := (show ObjOk P w H h a (.lst vs) from ok a _ e)
  obtain ⟨as, x1, y1⟩ := h1 h _ ok kin rv
  refine ⟨a :: as, .list ho rfl rfl x1, fun b hb => ?_⟩
  rcases List.mem_cons.mp hb with z | z
  · rw [z, e]
    exact fun q => nomatch q
  · exact y1 b z
theorem rdd_tup (e : H a = some (.tup vs)) (h1 : RddAll P w K H vs ds) : Rdd P w K H (.ref a) (.tuple ds) := fun h u ok kin r => by
  obtain rfl : u = Value.ref a := r
  obtain ⟨_, its, rv, o, ho, hc, n, hd⟩ := (show ObjOk P w H h a (.tup vs) from ok a _ e)
  obtain ⟨as, x1, y1⟩ := h1 h _ ok kin rv
  exact ⟨as, .tuple ho hc hd x1, y1⟩
end
section
variable {X : Cx}
/-- repr(x), x known as data -/
def rRepr (P : Program) (w : World) (K : PySem.W.Frag) : List V → Hp → VK → Prop := fun xs H Q => ∃ (a : Addr) (d : PyData),
  xs = [.ref a] ∧ Rdd P w K H (.ref a) d ∧ d.showable = true ∧ d.shown.length ≤ sizeLine ∧ d.depth ≤ 60 ∧ Q (.str d.shown) H
theorem call_repr (hg : X.A.guards = some []) (hs : ∃ o, X.base.get? sysModules = some o) (hu : X.A.units + 64 < cLine) : CallR X (.builtin "repr") (rRepr X.prog X.w X.K) := by
  intro pins s σ H xs us Q I r h
  obtain ⟨a, d, rfl, rd, sh, sz, dp, q⟩ := h
  obtain ⟨u, rfl, ru⟩ := vals1 r
  obtain rfl : u = Value.ref a := ru
  obtain ⟨as, x1, y1⟩ := rd s.heap _ I.hok I.kIn rfl
  obtain ⟨o, ho⟩ := hs
  have nosys : sysModules ∉ as := fun hm => y1 _ hm (I.bs _ _ ho).2
  exact PySem.repr_of_reads' x1 sh (fun _ => nosys) hg (by omega) (fun _ _ z => z) (fun h' u tk k => ⟨.str _, H, I.kept k, ⟨_, rfl⟩, q⟩) sz
end
end L2

namespace L2
open PySem PySem.Spec PyProof.Rows
/-- the text of such an __init__: its parameters, its one statement, its names -/
def xiA (f : Str) (p1 p2 p3 : Pos) : Arguments where
  posonlyargs := []
  args := [{ arg := "self", annotation := none, pos := p1 }, { arg := f, annotation := none, pos := p2 }]
  vararg := none
  kwonlyargs := []
  kw_defaults := []
  kwarg := none
  defaults := [.Constant .none 0 p3]
def xiB (f : Str) (q1 q2 q3 q4 : Pos) : List Stmt := [.Assign [.Attribute (.Name "self" q1) f q2] (.Name f q3) q4]
def xiS (f : Str) : Scope := { kind := .function, names := [(PySem.Str.ofString "self", .local), (f, .local)], isGenerator := false, isCoroutine := false, more := [] }

section
variable {P : Program} {w : World} {K : PySem.W.Frag} {mg : Str → Option Value} {base : Heap} {qual : Str} {p1 p2 p3 q1 q2 q3 q4 : Pos} {C fI : Addr} {fd : FuncData}
theorem scX_value : FnScope ["self", "value"] ["self", "value"] (xiS "value") := ⟨rfl, rfl, rfl, by decide +kernel, rfl, by decide +kernel, by decide +kernel⟩
theorem ok_init_value (F : FunD K "__init__" qual (xiA "value" p1 p2 p3) (xiB "value" q1 q2 q3 q4) (xiS "value") [.non] [] fI fd) (T : OexC K C) (no : PySem.W.findIn K (.ref C) "value" = some none) :
    FnOk P w K mg base CX0 1 fI fd ["self", "value"] (spXI C "value") := by
  refine F.ok scX_value (fun vs H Q E h => ?_) (fun cdv A outer s H vs Q E hr h => ?_)
  · obtain ⟨a, v, rfl, _⟩ := h
    rfl
  · obtain ⟨a, v, rfl, ha, k⟩ := h
    refine ⟨_, pss_one (ps_ost (pv 0) (pv 1)), ?_⟩
    exact ⟨_, rfl, _, rfl, a, C, rfl, T, no, .inl ⟨ha, fun dx n ne => k dx n ne⟩⟩
theorem binds_value (F : FunD K "__init__" qual (xiA "value" p1 p2 p3) (xiB "value" q1 q2 q3 q4) (xiS "value") [.non] [] fI fd) :
    (∀ (s : Shared) (a b : Value), K.In s.heap → BindsTo s fd ⟨[a, b], []⟩ ((["self", "value"] : List Str).zip [a, b])) ∧
    (∀ (s : Shared) (a : Value), K.In s.heap → BindsTo s fd ⟨[a], []⟩ ((["self", "value"] : List Str).zip [a, .none])) ∧
    (∀ (s : Shared) (a b : Value), K.In s.heap → BindsTo s fd ⟨[a], (["value"] : List Str).zip [b]⟩ ((["self", "value"] : List Str).zip [a, b])) := by
  obtain ⟨oc, od, dV, kV, doc, pm, an, cdv, ct, osl, rfl, lk, hcd, hD, hK⟩ := F.ex
  rcases hD with ⟨e, _⟩ | ⟨_, T, o, its, m, rfl, lT, oT, rT⟩
  · cases e
  · cases rT with
    | cons r0 rn =>
      cases rn
      cases r0
      refine ⟨fun s a b X => BindsTo.of_looks fun M => ?_, fun s a X => BindsTo.of_looks fun M => ?_, fun s a b X => BindsTo.of_looks fun M => ?_⟩
      · exact looks_items X lT oT (.of_pure rfl)
      · exact looks_items X lT oT (.of_pure rfl)
      · exact looks_items X lT oT (.of_pure rfl)
theorem xc_value {x : Str} (F : FunD K "__init__" qual (xiA "value" p1 p2 p3) (xiB "value" q1 q2 q3 q4) (xiS "value") [.non] [] fI fd) (T : OexC K C) (gC : mg x = some (.ref C)) (no : PySem.W.findIn K (.ref C) "value" = some none)
    (ga : PySem.W.findIn K (.ref C) "__getattribute__" = some (some (.builtin "BaseException.__getattribute__"))) (gg : PySem.W.findIn K (.ref C) "__getattr__" = some none) (hdC : PySem.W.hasDictIn K C = true)
    (iC : PySem.W.findIn K (.ref C) "__init__" = some (some (.ref fI))) (tI : PySem.W.typeIn K (.ref fI) = some (.type "function")) : XC P w K mg base x "value" C :=
  ⟨T, gC, no, ga, gg, hdC, fI, fd, iC, tI, ok_init_value F T no, binds_value F⟩
end

section
variable {P : Program} {w : World} {K : PySem.W.Frag} {mg : Str → Option Value} {base : Heap} {qual : Str} {p1 p2 p3 q1 q2 q3 q4 : Pos} {C fI : Addr} {fd : FuncData}
theorem scX_ring : FnScope ["self", "ring"] ["self", "ring"] (xiS "ring") := ⟨rfl, rfl, rfl, by decide +kernel, rfl, by decide +kernel, by decide +kernel⟩
theorem ok_init_ring (F : FunD K "__init__" qual (xiA "ring" p1 p2 p3) (xiB "ring" q1 q2 q3 q4) (xiS "ring") [.non] [] fI fd) (T : OexC K C) (no : PySem.W.findIn K (.ref C) "ring" = some none) :
    FnOk P w K mg base CX0 1 fI fd ["self", "ring"] (spXI C "ring") := by
  refine F.ok scX_ring (fun vs H Q E h => ?_) (fun cdv A outer s H vs Q E hr h => ?_)
  · obtain ⟨a, v, rfl, _⟩ := h
    rfl
  · obtain ⟨a, v, rfl, ha, k⟩ := h
    refine ⟨_, pss_one (ps_ost (pv 0) (pv 1)), ?_⟩
    exact ⟨_, rfl, _, rfl, a, C, rfl, T, no, .inl ⟨ha, fun dx n ne => k dx n ne⟩⟩
theorem binds_ring (F : FunD K "__init__" qual (xiA "ring" p1 p2 p3) (xiB "ring" q1 q2 q3 q4) (xiS "ring") [.non] [] fI fd) :
    (∀ (s : Shared) (a b : Value), K.In s.heap → BindsTo s fd ⟨[a, b], []⟩ ((["self", "ring"] : List Str).zip [a, b])) ∧
    (∀ (s : Shared) (a : Value), K.In s.heap → BindsTo s fd ⟨[a], []⟩ ((["self", "ring"] : List Str).zip [a, .none])) ∧
    (∀ (s : Shared) (a b : Value), K.In s.heap → BindsTo s fd ⟨[a], (["ring"] : List Str).zip [b]⟩ ((["self", "ring"] : List Str).zip [a, b])) := by
  obtain ⟨oc, od, dV, kV, doc, pm, an, cdv, ct, osl, rfl, lk, hcd, hD, hK⟩ := F.ex
  rcases hD with ⟨e, _⟩ | ⟨_, T, o, its, m, rfl, lT, oT, rT⟩
  · cases e
  · cases rT with
    | cons r0 rn =>
      cases rn
      cases r0
      refine ⟨fun s a b X => BindsTo.of_looks fun M => ?_, fun s a X => BindsTo.of_looks fun M => ?_, fun s a b X => BindsTo.of_looks fun M => ?_⟩
      · exact looks_items X lT oT (.of_pure rfl)
      · exact looks_items X lT oT (.of_pure rfl)
      · exact looks_items X lT oT (.of_pure rfl)
theorem xc_ring {x : Str} (F : FunD K "__init__" qual (xiA "ring" p1 p2 p3) (xiB "ring" q1 q2 q3 q4) (xiS "ring") [.non] [] fI fd) (T : OexC K C) (gC : mg x = some (.ref C)) (no : PySem.W.findIn K (.ref C) "ring" = some none)
    (ga : PySem.W.findIn K (.ref C) "__getattribute__" = some (some (.builtin "BaseException.__getattribute__"))) (gg : PySem.W.findIn K (.ref C) "__getattr__" = some none) (hdC : PySem.W.hasDictIn K C = true)
    (iC : PySem.W.findIn K (.ref C) "__init__" = some (some (.ref fI))) (tI : PySem.W.typeIn K (.ref fI) = some (.type "function")) : XC P w K mg base x "ring" C :=
  ⟨T, gC, no, ga, gg, hdC, fI, fd, iC, tI, ok_init_ring F T no, binds_ring F⟩
end

section
variable {P : Program} {w : World} {K : PySem.W.Frag} {mg : Str → Option Value} {base : Heap} {qual : Str} {p1 p2 p3 q1 q2 q3 q4 : Pos} {C fI : Addr} {fd : FuncData}
theorem scX_most : FnScope ["self", "most"] ["self", "most"] (xiS "most") := ⟨rfl, rfl, rfl, by decide +kernel, rfl, by decide +kernel, by decide +kernel⟩
theorem ok_init_most (F : FunD K "__init__" qual (xiA "most" p1 p2 p3) (xiB "most" q1 q2 q3 q4) (xiS "most") [.non] [] fI fd) (T : OexC K C) (no : PySem.W.findIn K (.ref C) "most" = some none) :
    FnOk P w K mg base CX0 1 fI fd ["self", "most"] (spXI C "most") := by
  refine F.ok scX_most (fun vs H Q E h => ?_) (fun cdv A outer s H vs Q E hr h => ?_)
  · obtain ⟨a, v, rfl, _⟩ := h
    rfl
  · obtain ⟨a, v, rfl, ha, k⟩ := h
    refine ⟨_, pss_one (ps_ost (pv 0) (pv 1)), ?_⟩
    exact ⟨_, rfl, _, rfl, a, C, rfl, T, no, .inl ⟨ha, fun dx n ne => k dx n ne⟩⟩
theorem binds_most (F : FunD K "__init__" qual (xiA "most" p1 p2 p3) (xiB "most" q1 q2 q3 q4) (xiS "most") [.non] [] fI fd) :
    (∀ (s : Shared) (a b : Value), K.In s.heap → BindsTo s fd ⟨[a, b], []⟩ ((["self", "most"] : List Str).zip [a, b])) ∧
    (∀ (s : Shared) (a : Value), K.In s.heap → BindsTo s fd ⟨[a], []⟩ ((["self", "most"] : List Str).zip [a, .none])) ∧
    (∀ (s : Shared) (a b : Value), K.In s.heap → BindsTo s fd ⟨[a], (["most"] : List Str).zip [b]⟩ ((["self", "most"] : List Str).zip [a, b])) := by
  obtain ⟨oc, od, dV, kV, doc, pm, an, cdv, ct, osl, rfl, lk, hcd, hD, hK⟩ := F.ex
  rcases hD with ⟨e, _⟩ | ⟨_, T, o, its, m, rfl, lT, oT, rT⟩
  · cases e
  · cases rT with
    | cons r0 rn =>
      cases rn
      cases r0
      refine ⟨fun s a b X => BindsTo.of_looks fun M => ?_, fun s a X => BindsTo.of_looks fun M => ?_, fun s a b X => BindsTo.of_looks fun M => ?_⟩
      · exact looks_items X lT oT (.of_pure rfl)
      · exact looks_items X lT oT (.of_pure rfl)
      · exact looks_items X lT oT (.of_pure rfl)
theorem xc_most {x : Str} (F : FunD K "__init__" qual (xiA "most" p1 p2 p3) (xiB "most" q1 q2 q3 q4) (xiS "most") [.non] [] fI fd) (T : OexC K C) (gC : mg x = some (.ref C)) (no : PySem.W.findIn K (.ref C) "most" = some none)
    (ga : PySem.W.findIn K (.ref C) "__getattribute__" = some (some (.builtin "BaseException.__getattribute__"))) (gg : PySem.W.findIn K (.ref C) "__getattr__" = some none) (hdC : PySem.W.hasDictIn K C = true)
    (iC : PySem.W.findIn K (.ref C) "__init__" = some (some (.ref fI))) (tI : PySem.W.typeIn K (.ref fI) = some (.type "function")) : XC P w K mg base x "most" C :=
  ⟨T, gC, no, ga, gg, hdC, fI, fd, iC, tI, ok_init_most F T no, binds_most F⟩
end

section
variable {P : Program} {w : World} {K : PySem.W.Frag} {mg : Str → Option Value} {base : Heap} {qual : Str} {p1 p2 p3 q1 q2 q3 q4 : Pos} {C fI : Addr} {fd : FuncData}
theorem scX_conflicts : FnScope ["self", "conflicts"] ["self", "conflicts"] (xiS "conflicts") := ⟨rfl, rfl, rfl, by decide +kernel, rfl, by decide +kernel, by decide +kernel⟩
theorem ok_init_conflicts (F : FunD K "__init__" qual (xiA "conflicts" p1 p2 p3) (xiB "conflicts" q1 q2 q3 q4) (xiS "conflicts") [.non] [] fI fd) (T : OexC K C) (no : PySem.W.findIn K (.ref C) "conflicts" = some none) :
    FnOk P w K mg base CX0 1 fI fd ["self", "conflicts"] (spXI C "conflicts") := by
  refine F.ok scX_conflicts (fun vs H Q E h => ?_) (fun cdv A outer s H vs Q E hr h => ?_)
  · obtain ⟨a, v, rfl, _⟩ := h
    rfl
  · obtain ⟨a, v, rfl, ha, k⟩ := h
    refine ⟨_, pss_one (ps_ost (pv 0) (pv 1)), ?_⟩
    exact ⟨_, rfl, _, rfl, a, C, rfl, T, no, .inl ⟨ha, fun dx n ne => k dx n ne⟩⟩
theorem binds_conflicts (F : FunD K "__init__" qual (xiA "conflicts" p1 p2 p3) (xiB "conflicts" q1 q2 q3 q4) (xiS "conflicts") [.non] [] fI fd) :
    (∀ (s : Shared) (a b : Value), K.In s.heap → BindsTo s fd ⟨[a, b], []⟩ ((["self", "conflicts"] : List Str).zip [a, b])) ∧
    (∀ (s : Shared) (a : Value), K.In s.heap → BindsTo s fd ⟨[a], []⟩ ((["self", "conflicts"] : List Str).zip [a, .none])) ∧
    (∀ (s : Shared) (a b : Value), K.In s.heap → BindsTo s fd ⟨[a], (["conflicts"] : List Str).zip [b]⟩ ((["self", "conflicts"] : List Str).zip [a, b])) := by
  obtain ⟨oc, od, dV, kV, doc, pm, an, cdv, ct, osl, rfl, lk, hcd, hD, hK⟩ := F.ex
  rcases hD with ⟨e, _⟩ | ⟨_, T, o, its, m, rfl, lT, oT, rT⟩
  · cases e
  · cases rT with
    | cons r0 rn =>
      cases rn
      cases r0
      refine ⟨fun s a b X => BindsTo.of_looks fun M => ?_, fun s a X => BindsTo.of_looks fun M => ?_, fun s a b X => BindsTo.of_looks fun M => ?_⟩
      · exact looks_items X lT oT (.of_pure rfl)
      · exact looks_items X lT oT (.of_pure rfl)
      · exact looks_items X lT oT (.of_pure rfl)
theorem xc_conflicts {x : Str} (F : FunD K "__init__" qual (xiA "conflicts" p1 p2 p3) (xiB "conflicts" q1 q2 q3 q4) (xiS "conflicts") [.non] [] fI fd) (T : OexC K C) (gC : mg x = some (.ref C)) (no : PySem.W.findIn K (.ref C) "conflicts" = some none)
    (ga : PySem.W.findIn K (.ref C) "__getattribute__" = some (some (.builtin "BaseException.__getattribute__"))) (gg : PySem.W.findIn K (.ref C) "__getattr__" = some none) (hdC : PySem.W.hasDictIn K C = true)
    (iC : PySem.W.findIn K (.ref C) "__init__" = some (some (.ref fI))) (tI : PySem.W.typeIn K (.ref fI) = some (.type "function")) : XC P w K mg base x "conflicts" C :=
  ⟨T, gC, no, ga, gg, hdC, fI, fd, iC, tI, ok_init_conflicts F T no, binds_conflicts F⟩
end
end L2

namespace K1
open PySem PySem.Spec PyProof.Rows L2
def top (i : Nat) : Stmt := PySem.Challenge.pw_neverapart_k01_errors_made.main.body.getD i (.Pass ⟨0, 0, 0, 0⟩)
abbrev sMade : Stmt := top 32
abbrev sClasses : Stmt := top 33
abbrev sPlaced : Stmt := top 34
abbrev sThing : Stmt := top 35
abbrev sByName : Stmt := top 36
abbrev sBare : Stmt := top 37
abbrev sFields : Stmt := top 38
abbrev sLaw : Stmt := top 39
/-- the field of the class at a place of the law's row -/
def fl (i : Nat) : Str := if i = 24 then "ring" else if i = 25 then "most" else if i = 26 then "conflicts" else "value"
/-- what the top has written: the classes (c: their addresses in the law's row; cN: NeverError's) -/
structure Txt (P : Program) (w : World) (K : PySem.W.Frag) (mg : Str → Option Value) (base : Heap) (c : Nat → Addr) (cN : Addr) : Prop where
  obj : XObj K
  x0 : XC P w K mg base "InvalidFact" "value" (c 0)
  x1 : XC P w K mg base "InvalidStore" "value" (c 1)
  x2 : XC P w K mg base "InvalidRule" "value" (c 2)
  x3 : XC P w K mg base "InvalidBook" "value" (c 3)
  x4 : XC P w K mg base "InvalidQuestion" "value" (c 4)
  x5 : XC P w K mg base "InvalidDeed" "value" (c 5)
  x6 : XC P w K mg base "InvalidGoal" "value" (c 6)
  x7 : XC P w K mg base "InvalidScript" "value" (c 7)
  x8 : XC P w K mg base "InvalidEdition" "value" (c 8)
  x9 : XC P w K mg base "InvalidGuard" "value" (c 9)
  x10 : XC P w K mg base "InvalidDates" "value" (c 10)
  x11 : XC P w K mg base "InvalidChances" "value" (c 11)
  x12 : XC P w K mg base "InvalidLot" "value" (c 12)
  x13 : XC P w K mg base "InvalidNames" "value" (c 13)
  x14 : XC P w K mg base "InvalidLayers" "value" (c 14)
  x15 : XC P w K mg base "InvalidName" "value" (c 15)
  x16 : XC P w K mg base "InvalidLog" "value" (c 16)
  x17 : XC P w K mg base "InvalidText" "value" (c 17)
  x18 : XC P w K mg base "InvalidNumber" "value" (c 18)
  x19 : XC P w K mg base "UnknownName" "value" (c 19)
  x20 : XC P w K mg base "TakenName" "value" (c 20)
  x21 : XC P w K mg base "NotPlain" "value" (c 21)
  x22 : XC P w K mg base "NotFiring" "value" (c 22)
  x23 : XC P w K mg base "Unsound" "value" (c 23)
  x24 : XC P w K mg base "NotLayered" "ring" (c 24)
  x25 : XC P w K mg base "TooMany" "most" (c 25)
  x26 : XC P w K mg base "NotMeeting" "conflicts" (c 26)
  kit : ∀ i, i < 29 → XKit K (c i)
  kitN : XKit K cN
  one : ∀ i j, i < 29 → j < 29 → PySem.W.kitOne K (.ref (c i)) (.ref (c j)) = some (decide (j = i))
  noN : ∀ j, j < 29 → PySem.W.kitOne K (.ref cN) (.ref (c j)) = some false
  toN : ∀ i, i < 29 → PySem.W.kitOne K (.ref (c i)) (.ref cN) = some true
  toV : ∀ i, i < 29 → PySem.W.kitOne K (.ref (c i)) (.type "ValueError") = some true
  nToV : PySem.W.kitOne K (.ref cN) (.type "ValueError") = some true
  gN : mg "NeverError" = some (.ref cN)
  gU : mg "NothingToUndo" = some (.ref (c 27))
  gR : mg "NothingToRedo" = some (.ref (c 28))
  eN : PySem.W.excIn K cN PySem.HandSPX.veTail "ValueError.__new__" = true
  eU : PySem.W.excIn K (c 27) PySem.HandSPX.veTail "ValueError.__new__" = true
  eR : PySem.W.excIn K (c 28) PySem.HandSPX.veTail "ValueError.__new__" = true
  kN : PySem.W.keepIn K (.ref cN) = true
  kU : PySem.W.keepIn K (.ref (c 27)) = true
  kR : PySem.W.keepIn K (.ref (c 28)) = true
  bIsi : mg "isinstance" = none
/-- a list that was just laid, and what stood -/
theorem laid2 {H H1 : Hp} {q p : Addr} {o1 o2 : HO} (s : Same H H1) (hq : H1 q = none) (hp : upd H1 q o1 p = none) :
    Same H (upd (upd H1 q o1) p o2) ∧ H p = none ∧ upd (upd H1 q o1) p o2 p = some o2 := by
  have np : p ≠ q := fun z => by
    rw [z, upd_same] at hp
    cases hp
  have hp1 : H1 p = none := by
    rw [upd_ne np] at hp
    exact hp
  refine ⟨fun b o e => ?_, s.free hp1, upd_same⟩
  have e1 := s b o e
  rw [upd_ne (ne_of_none e1 hp1), upd_ne (ne_of_none e1 hq)]
  exact e1
theorem laid1 {H H1 : Hp} {p : Addr} {o2 : HO} (s : Same H H1) (hp : H1 p = none) : Same H (upd H1 p o2) ∧ H p = none ∧ upd H1 p o2 p = some o2 := by
  refine ⟨fun b o e => ?_, s.free hp, upd_same⟩
  have e1 := s b o e
  rw [upd_ne (ne_of_none e1 hp)]
  exact e1
theorem same_upd {H : Hp} {p : Addr} {o : HO} (hp : H p = none) : Same H (upd H p o) := fun b o e => by
  rw [upd_ne (ne_of_none e hp)]
  exact e

theorem bootIsi : bootBuiltins "isinstance" = some (.builtin "isinstance") := by decide +kernel
section
variable {X : Cx}
theorem pe_isi {e x : Str} {p pe px pos : Pos} {C : Addr} (O : XObj X.K) (hg : Gl X "isinstance") (hm : X.mg "isinstance" = none) (h0 : PE X (.Name e pe) (tVar 0)) (hx : Gl X x) (gx : X.mg x = some (.ref C)) (hdb : (x == ("__debug__" : Str)) = false := by decide) :
    PE X (.Call (.Name "isinstance" p) [.Name e pe, .Name x px] [] pos) (tCB (rIsX X.K) (tCons (tVar 0) (tCons (tC (.ref C)) tNil))) :=
  pe_callB (call_isX O) hg hm bootIsi (pa_cons h0 (pa_cons (pe_glob (v := V.ref C) hx gx rfl hdb) pa_nil))
end
section
variable {P : Program} {w : World} {K : PySem.W.Frag} {mg : Str → Option Value} {base : Heap} {c : Nat → Addr} {cN : Addr}
/-- _law_classes(error) -/
def spClasses (K : PySem.W.Frag) (c : Nat → Addr) : Sp := fun vs H Q _ => ∃ (a D : Addr) (bs : Nat → Bool), vs = [.ref a] ∧ IsX H a D ∧ XKit K D ∧ (∀ j, j < 29 → PySem.W.kitOne K (.ref D) (.ref (c j)) = some (bs j)) ∧
  ∀ (p : Addr) (H' : Hp), H p = none → Same H H' → H' p = some (.lst ((List.range 29).map fun j => V.bl (bs j))) → Q (.ref p) H'
theorem scClasses : FnScope ["_law_error", "_law_found"] ["_law_error"] (defScope sClasses) := ⟨rfl, rfl, rfl, by decide +kernel, rfl, by decide +kernel, by decide +kernel⟩
theorem ok_classes {f : Addr} {fd : FuncData} (F : Fun K "_law_classes" "_law_classes" sClasses f fd) (T : Txt P w K mg base c cN) : FnOk P w K mg base CX0 1 f fd ["_law_error"] (spClasses K c) := by
  refine F.ok scClasses (fun vs H Q E h => ?_) (fun cdv A outer s H vs Q E hr h => ?_)
  · obtain ⟨a, D, bs, rfl, _⟩ := h
    rfl
  · obtain ⟨a, D, bs, rfl, hx, kt, hj, k⟩ := h
    refine ⟨_, (pss_cons (ps_set (i := 1) scClasses.nd rfl (Or.inl rfl) (pe_lst (pa_cons (pe_isi T.obj rfl T.bIsi (pv 0) rfl T.x0.gC) (pa_cons (pe_isi T.obj rfl T.bIsi (pv 0) rfl T.x1.gC) pa_nil))))
      (pss_cons (ps_set (i := 1) scClasses.nd rfl (Or.inl rfl) (pe_op op_cat (pv 1) (pe_lst (pa_cons (pe_isi T.obj rfl T.bIsi (pv 0) rfl T.x2.gC) (pa_cons (pe_isi T.obj rfl T.bIsi (pv 0) rfl T.x3.gC) pa_nil)))))
      (pss_cons (ps_set (i := 1) scClasses.nd rfl (Or.inl rfl) (pe_op op_cat (pv 1) (pe_lst (pa_cons (pe_isi T.obj rfl T.bIsi (pv 0) rfl T.x4.gC) (pa_cons (pe_isi T.obj rfl T.bIsi (pv 0) rfl T.x5.gC) pa_nil)))))
      (pss_cons (ps_set (i := 1) scClasses.nd rfl (Or.inl rfl) (pe_op op_cat (pv 1) (pe_lst (pa_cons (pe_isi T.obj rfl T.bIsi (pv 0) rfl T.x6.gC) (pa_cons (pe_isi T.obj rfl T.bIsi (pv 0) rfl T.x7.gC) pa_nil)))))
      (pss_cons (ps_set (i := 1) scClasses.nd rfl (Or.inl rfl) (pe_op op_cat (pv 1) (pe_lst (pa_cons (pe_isi T.obj rfl T.bIsi (pv 0) rfl T.x8.gC) (pa_cons (pe_isi T.obj rfl T.bIsi (pv 0) rfl T.x9.gC) pa_nil)))))
      (pss_cons (ps_set (i := 1) scClasses.nd rfl (Or.inl rfl) (pe_op op_cat (pv 1) (pe_lst (pa_cons (pe_isi T.obj rfl T.bIsi (pv 0) rfl T.x10.gC) (pa_cons (pe_isi T.obj rfl T.bIsi (pv 0) rfl T.x11.gC) pa_nil)))))
      (pss_cons (ps_set (i := 1) scClasses.nd rfl (Or.inl rfl) (pe_op op_cat (pv 1) (pe_lst (pa_cons (pe_isi T.obj rfl T.bIsi (pv 0) rfl T.x12.gC) (pa_cons (pe_isi T.obj rfl T.bIsi (pv 0) rfl T.x13.gC) pa_nil)))))
      (pss_cons (ps_set (i := 1) scClasses.nd rfl (Or.inl rfl) (pe_op op_cat (pv 1) (pe_lst (pa_cons (pe_isi T.obj rfl T.bIsi (pv 0) rfl T.x14.gC) (pa_cons (pe_isi T.obj rfl T.bIsi (pv 0) rfl T.x15.gC) pa_nil)))))
      (pss_cons (ps_set (i := 1) scClasses.nd rfl (Or.inl rfl) (pe_op op_cat (pv 1) (pe_lst (pa_cons (pe_isi T.obj rfl T.bIsi (pv 0) rfl T.x16.gC) (pa_cons (pe_isi T.obj rfl T.bIsi (pv 0) rfl T.x17.gC) pa_nil)))))
      (pss_cons (ps_set (i := 1) scClasses.nd rfl (Or.inl rfl) (pe_op op_cat (pv 1) (pe_lst (pa_cons (pe_isi T.obj rfl T.bIsi (pv 0) rfl T.x18.gC) (pa_cons (pe_isi T.obj rfl T.bIsi (pv 0) rfl T.x19.gC) pa_nil)))))
      (pss_cons (ps_set (i := 1) scClasses.nd rfl (Or.inl rfl) (pe_op op_cat (pv 1) (pe_lst (pa_cons (pe_isi T.obj rfl T.bIsi (pv 0) rfl T.x20.gC) (pa_cons (pe_isi T.obj rfl T.bIsi (pv 0) rfl T.x21.gC) pa_nil)))))
      (pss_cons (ps_set (i := 1) scClasses.nd rfl (Or.inl rfl) (pe_op op_cat (pv 1) (pe_lst (pa_cons (pe_isi T.obj rfl T.bIsi (pv 0) rfl T.x22.gC) (pa_cons (pe_isi T.obj rfl T.bIsi (pv 0) rfl T.x23.gC) pa_nil)))))
      (pss_cons (ps_set (i := 1) scClasses.nd rfl (Or.inl rfl) (pe_op op_cat (pv 1) (pe_lst (pa_cons (pe_isi T.obj rfl T.bIsi (pv 0) rfl T.x24.gC) (pa_cons (pe_isi T.obj rfl T.bIsi (pv 0) rfl T.x25.gC) pa_nil)))))
      (pss_cons (ps_set (i := 1) scClasses.nd rfl (Or.inl rfl) (pe_op op_cat (pv 1) (pe_lst (pa_cons (pe_isi T.obj rfl T.bIsi (pv 0) rfl T.x26.gC) (pa_cons (pe_isi T.obj rfl T.bIsi (pv 0) rfl T.gU) pa_nil)))))
      (pss_cons (ps_set (i := 1) scClasses.nd rfl (Or.inl rfl) (pe_op op_cat (pv 1) (pe_lst (pa_cons (pe_isi T.obj rfl T.bIsi (pv 0) rfl T.gR) pa_nil))))
      (pss_one (ps_ret (pv 1)))))))))))))))))), ?_⟩
    have s0 : Same H H := Same.refl H
    refine ⟨_, rfl, a, D, _, _, _, rfl, hx.mono s0, kt, .own _, hj 0 (by decide), _, rfl, a, D, _, _, _, rfl, hx.mono s0, kt, .own _, hj 1 (by decide), (by show 2 ≤ sizeLine; decide), fun p1 hp => ?_⟩
    obtain ⟨s1, n1, e1⟩ := laid1 (o2 := .lst [V.bl (bs 0), V.bl (bs 1)]) s0 hp
    generalize upd H p1 (.lst [V.bl (bs 0), V.bl (bs 1)]) = H1 at s1 e1 ⊢
    clear hp
    show tSeq _ _ { nx := fun _ H2 => Q .non H2, rt := Q } [some (.ref a), some (.ref p1)] H1
    refine ⟨_, rfl, _, rfl, a, D, _, _, _, rfl, hx.mono s1, kt, .own _, hj 2 (by decide), _, rfl, a, D, _, _, _, rfl, hx.mono s1, kt, .own _, hj 3 (by decide), (by show 2 ≤ sizeLine; decide), fun q hq => ⟨_, _, _, _, rfl, rfl, (by rw [upd_ne (ne_of_none e1 hq)]; exact e1), upd_same, (by show 4 ≤ sizeLine; decide), fun p2 hp => ?_⟩⟩
    obtain ⟨s2, n2, e2⟩ := laid2 (o2 := .lst (_ ++ _)) s1 hq hp
    generalize upd (upd H1 q _) p2 _ = H2 at s2 e2 ⊢
    clear hq hp n1 e1 q
    show tSeq _ _ { nx := fun _ H2 => Q .non H2, rt := Q } [some (.ref a), some (.ref p2)] H2
    refine ⟨_, rfl, _, rfl, a, D, _, _, _, rfl, hx.mono s2, kt, .own _, hj 4 (by decide), _, rfl, a, D, _, _, _, rfl, hx.mono s2, kt, .own _, hj 5 (by decide), (by show 2 ≤ sizeLine; decide), fun q hq => ⟨_, _, _, _, rfl, rfl, (by rw [upd_ne (ne_of_none e2 hq)]; exact e2), upd_same, (by show 6 ≤ sizeLine; decide), fun p3 hp => ?_⟩⟩
    obtain ⟨s3, n3, e3⟩ := laid2 (o2 := .lst (_ ++ _)) s2 hq hp
    generalize upd (upd H2 q _) p3 _ = H3 at s3 e3 ⊢
    clear hq hp n2 e2 q
    show tSeq _ _ { nx := fun _ H2 => Q .non H2, rt := Q } [some (.ref a), some (.ref p3)] H3
    refine ⟨_, rfl, _, rfl, a, D, _, _, _, rfl, hx.mono s3, kt, .own _, hj 6 (by decide), _, rfl, a, D, _, _, _, rfl, hx.mono s3, kt, .own _, hj 7 (by decide), (by show 2 ≤ sizeLine; decide), fun q hq => ⟨_, _, _, _, rfl, rfl, (by rw [upd_ne (ne_of_none e3 hq)]; exact e3), upd_same, (by show 8 ≤ sizeLine; decide), fun p4 hp => ?_⟩⟩
    obtain ⟨s4, n4, e4⟩ := laid2 (o2 := .lst (_ ++ _)) s3 hq hp
    generalize upd (upd H3 q _) p4 _ = H4 at s4 e4 ⊢
    clear hq hp n3 e3 q
    show tSeq _ _ { nx := fun _ H2 => Q .non H2, rt := Q } [some (.ref a), some (.ref p4)] H4
    refine ⟨_, rfl, _, rfl, a, D, _, _, _, rfl, hx.mono s4, kt, .own _, hj 8 (by decide), _, rfl, a, D, _, _, _, rfl, hx.mono s4, kt, .own _, hj 9 (by decide), (by show 2 ≤ sizeLine; decide), fun q hq => ⟨_, _, _, _, rfl, rfl, (by rw [upd_ne (ne_of_none e4 hq)]; exact e4), upd_same, (by show 10 ≤ sizeLine; decide), fun p5 hp => ?_⟩⟩
    obtain ⟨s5, n5, e5⟩ := laid2 (o2 := .lst (_ ++ _)) s4 hq hp
    generalize upd (upd H4 q _) p5 _ = H5 at s5 e5 ⊢
    clear hq hp n4 e4 q
    show tSeq _ _ { nx := fun _ H2 => Q .non H2, rt := Q } [some (.ref a), some (.ref p5)] H5
    refine ⟨_, rfl, _, rfl, a, D, _, _, _, rfl, hx.mono s5, kt, .own _, hj 10 (by decide), _, rfl, a, D, _, _, _, rfl, hx.mono s5, kt, .own _, hj 11 (by decide), (by show 2 ≤ sizeLine; decide), fun q hq => ⟨_, _, _, _, rfl, rfl, (by rw [upd_ne (ne_of_none e5 hq)]; exact e5), upd_same, (by show 12 ≤ sizeLine; decide), fun p6 hp => ?_⟩⟩
    obtain ⟨s6, n6, e6⟩ := laid2 (o2 := .lst (_ ++ _)) s5 hq hp
    generalize upd (upd H5 q _) p6 _ = H6 at s6 e6 ⊢
    clear hq hp n5 e5 q
    show tSeq _ _ { nx := fun _ H2 => Q .non H2, rt := Q } [some (.ref a), some (.ref p6)] H6
    refine ⟨_, rfl, _, rfl, a, D, _, _, _, rfl, hx.mono s6, kt, .own _, hj 12 (by decide), _, rfl, a, D, _, _, _, rfl, hx.mono s6, kt, .own _, hj 13 (by decide), (by show 2 ≤ sizeLine; decide), fun q hq => ⟨_, _, _, _, rfl, rfl, (by rw [upd_ne (ne_of_none e6 hq)]; exact e6), upd_same, (by show 14 ≤ sizeLine; decide), fun p7 hp => ?_⟩⟩
    obtain ⟨s7, n7, e7⟩ := laid2 (o2 := .lst (_ ++ _)) s6 hq hp
    generalize upd (upd H6 q _) p7 _ = H7 at s7 e7 ⊢
    clear hq hp n6 e6 q
    show tSeq _ _ { nx := fun _ H2 => Q .non H2, rt := Q } [some (.ref a), some (.ref p7)] H7
    refine ⟨_, rfl, _, rfl, a, D, _, _, _, rfl, hx.mono s7, kt, .own _, hj 14 (by decide), _, rfl, a, D, _, _, _, rfl, hx.mono s7, kt, .own _, hj 15 (by decide), (by show 2 ≤ sizeLine; decide), fun q hq => ⟨_, _, _, _, rfl, rfl, (by rw [upd_ne (ne_of_none e7 hq)]; exact e7), upd_same, (by show 16 ≤ sizeLine; decide), fun p8 hp => ?_⟩⟩
    obtain ⟨s8, n8, e8⟩ := laid2 (o2 := .lst (_ ++ _)) s7 hq hp
    generalize upd (upd H7 q _) p8 _ = H8 at s8 e8 ⊢
    clear hq hp n7 e7 q
    show tSeq _ _ { nx := fun _ H2 => Q .non H2, rt := Q } [some (.ref a), some (.ref p8)] H8
    refine ⟨_, rfl, _, rfl, a, D, _, _, _, rfl, hx.mono s8, kt, .own _, hj 16 (by decide), _, rfl, a, D, _, _, _, rfl, hx.mono s8, kt, .own _, hj 17 (by decide), (by show 2 ≤ sizeLine; decide), fun q hq => ⟨_, _, _, _, rfl, rfl, (by rw [upd_ne (ne_of_none e8 hq)]; exact e8), upd_same, (by show 18 ≤ sizeLine; decide), fun p9 hp => ?_⟩⟩
    obtain ⟨s9, n9, e9⟩ := laid2 (o2 := .lst (_ ++ _)) s8 hq hp
    generalize upd (upd H8 q _) p9 _ = H9 at s9 e9 ⊢
    clear hq hp n8 e8 q
    show tSeq _ _ { nx := fun _ H2 => Q .non H2, rt := Q } [some (.ref a), some (.ref p9)] H9
    refine ⟨_, rfl, _, rfl, a, D, _, _, _, rfl, hx.mono s9, kt, .own _, hj 18 (by decide), _, rfl, a, D, _, _, _, rfl, hx.mono s9, kt, .own _, hj 19 (by decide), (by show 2 ≤ sizeLine; decide), fun q hq => ⟨_, _, _, _, rfl, rfl, (by rw [upd_ne (ne_of_none e9 hq)]; exact e9), upd_same, (by show 20 ≤ sizeLine; decide), fun p10 hp => ?_⟩⟩
    obtain ⟨s10, n10, e10⟩ := laid2 (o2 := .lst (_ ++ _)) s9 hq hp
    generalize upd (upd H9 q _) p10 _ = H10 at s10 e10 ⊢
    clear hq hp n9 e9 q
    show tSeq _ _ { nx := fun _ H2 => Q .non H2, rt := Q } [some (.ref a), some (.ref p10)] H10
    refine ⟨_, rfl, _, rfl, a, D, _, _, _, rfl, hx.mono s10, kt, .own _, hj 20 (by decide), _, rfl, a, D, _, _, _, rfl, hx.mono s10, kt, .own _, hj 21 (by decide), (by show 2 ≤ sizeLine; decide), fun q hq => ⟨_, _, _, _, rfl, rfl, (by rw [upd_ne (ne_of_none e10 hq)]; exact e10), upd_same, (by show 22 ≤ sizeLine; decide), fun p11 hp => ?_⟩⟩
    obtain ⟨s11, n11, e11⟩ := laid2 (o2 := .lst (_ ++ _)) s10 hq hp
    generalize upd (upd H10 q _) p11 _ = H11 at s11 e11 ⊢
    clear hq hp n10 e10 q
    show tSeq _ _ { nx := fun _ H2 => Q .non H2, rt := Q } [some (.ref a), some (.ref p11)] H11
    refine ⟨_, rfl, _, rfl, a, D, _, _, _, rfl, hx.mono s11, kt, .own _, hj 22 (by decide), _, rfl, a, D, _, _, _, rfl, hx.mono s11, kt, .own _, hj 23 (by decide), (by show 2 ≤ sizeLine; decide), fun q hq => ⟨_, _, _, _, rfl, rfl, (by rw [upd_ne (ne_of_none e11 hq)]; exact e11), upd_same, (by show 24 ≤ sizeLine; decide), fun p12 hp => ?_⟩⟩
    obtain ⟨s12, n12, e12⟩ := laid2 (o2 := .lst (_ ++ _)) s11 hq hp
    generalize upd (upd H11 q _) p12 _ = H12 at s12 e12 ⊢
    clear hq hp n11 e11 q
    show tSeq _ _ { nx := fun _ H2 => Q .non H2, rt := Q } [some (.ref a), some (.ref p12)] H12
    refine ⟨_, rfl, _, rfl, a, D, _, _, _, rfl, hx.mono s12, kt, .own _, hj 24 (by decide), _, rfl, a, D, _, _, _, rfl, hx.mono s12, kt, .own _, hj 25 (by decide), (by show 2 ≤ sizeLine; decide), fun q hq => ⟨_, _, _, _, rfl, rfl, (by rw [upd_ne (ne_of_none e12 hq)]; exact e12), upd_same, (by show 26 ≤ sizeLine; decide), fun p13 hp => ?_⟩⟩
    obtain ⟨s13, n13, e13⟩ := laid2 (o2 := .lst (_ ++ _)) s12 hq hp
    generalize upd (upd H12 q _) p13 _ = H13 at s13 e13 ⊢
    clear hq hp n12 e12 q
    show tSeq _ _ { nx := fun _ H2 => Q .non H2, rt := Q } [some (.ref a), some (.ref p13)] H13
    refine ⟨_, rfl, _, rfl, a, D, _, _, _, rfl, hx.mono s13, kt, .own _, hj 26 (by decide), _, rfl, a, D, _, _, _, rfl, hx.mono s13, kt, .own _, hj 27 (by decide), (by show 2 ≤ sizeLine; decide), fun q hq => ⟨_, _, _, _, rfl, rfl, (by rw [upd_ne (ne_of_none e13 hq)]; exact e13), upd_same, (by show 28 ≤ sizeLine; decide), fun p14 hp => ?_⟩⟩
    obtain ⟨s14, n14, e14⟩ := laid2 (o2 := .lst (_ ++ _)) s13 hq hp
    generalize upd (upd H13 q _) p14 _ = H14 at s14 e14 ⊢
    clear hq hp n13 e13 q
    show tSeq _ _ { nx := fun _ H2 => Q .non H2, rt := Q } [some (.ref a), some (.ref p14)] H14
    refine ⟨_, rfl, _, rfl, a, D, _, _, _, rfl, hx.mono s14, kt, .own _, hj 28 (by decide), (by show 1 ≤ sizeLine; decide), fun q hq => ⟨_, _, _, _, rfl, rfl, (by rw [upd_ne (ne_of_none e14 hq)]; exact e14), upd_same, (by show 29 ≤ sizeLine; decide), fun p15 hp => ?_⟩⟩
    obtain ⟨s15, n15, e15⟩ := laid2 (o2 := .lst (_ ++ _)) s14 hq hp
    generalize upd (upd H14 q _) p15 _ = H15 at s15 e15 ⊢
    clear hq hp n14 e14 q
    show tRet (tVar 1) { nx := fun _ H2 => Q .non H2, rt := Q } [some (.ref a), some (.ref p15)] H15
    exact ⟨_, rfl, k _ _ n15 s15 e15⟩
end
end K1

namespace K1
open PySem PySem.Spec PyProof.Rows L2
section
variable (c : Nat → Addr) (v : V)
/-- the exceptions as, from the n-th class of the row on, each with v in its field -/
def Row (H : Hp) : Nat → List Addr → Prop
  | _, [] => True
  | n, a :: r => EA H a (c n) (fl n) v ∧ Row H (n + 1) r
end
section
variable {c : Nat → Addr} {v : V} {H H' : Hp}
theorem Row.mono (s : Same H H') : ∀ {as : List Addr} {n : Nat}, Row c v H n as → Row c v H' n as
  | [], _, _ => True.intro
  | _ :: _, _, ⟨h, r⟩ => ⟨h.mono s, Row.mono s r⟩
theorem Row.app : ∀ {as bs : List Addr} {n m : Nat}, Row c v H n as → n + as.length = m → Row c v H m bs → Row c v H n (as ++ bs)
  | [], bs, n, m, _, e, r => by
    rw [List.length_nil, Nat.add_zero] at e
    subst e
    exact r
  | a :: as, bs, n, m, ⟨h, t⟩, e, r => by
    refine ⟨h, Row.app t ?_ r⟩
    rw [List.length_cons] at e
    omega
theorem Row.get : ∀ {as : List Addr} {n i : Nat} {a : Addr}, Row c v H n as → as[i]? = some a → EA H a (c (n + i)) (fl (n + i)) v
  | [], _, _, _, _, e => by simp at e
  | b :: as, n, 0, a, ⟨h, _⟩, e => by
    simp at e
    subst e
    exact h
  | b :: as, n, i + 1, a, ⟨_, t⟩, e => by
    have q := Row.get (n := n + 1) (i := i) t (by simpa using e)
    have z : n + 1 + i = n + (i + 1) := by omega
    rw [z] at q
    exact q
end
/-- a new list of the row's exceptions, v in each -/
def spRow (c : Nat → Addr) (v : V) (H : Hp) (Q : VK) : Prop := ∀ (p : Addr) (H' : Hp) (as : List Addr), H p = none → Same H H' → H' p = some (.lst (as.map V.ref)) → as.length = 27 → Row c v H' 0 as → Q (.ref p) H'
section
variable {P : Program} {w : World} {K : PySem.W.Frag} {mg : Str → Option Value} {base : Heap} {c : Nat → Addr} {cN : Addr}

theorem scMade : FnScope ["_law_thing_here", "_law_found"] ["_law_thing_here"] (defScope sMade) := ⟨rfl, rfl, rfl, by decide +kernel, rfl, by decide +kernel, by decide +kernel⟩
def spMade (c : Nat → Addr) : Sp := fun vs H Q _ => ∃ v : V, vs = [v] ∧ spRow c v H Q
theorem ok_Made {f : Addr} {fd : FuncData} (F : Fun K "_law_made" "_law_made" sMade f fd) (T : Txt P w K mg base c cN) : FnOk P w K mg base CX0 3 f fd ["_law_thing_here"] (spMade c) := by
  refine F.ok scMade (fun vs H Q E h => ?_) (fun cdv A outer s H vs Q E hr h => ?_)
  · obtain ⟨v, rfl, _⟩ := h
    rfl
  · obtain ⟨v, rfl, k⟩ := h
    refine ⟨_, (pss_cons (ps_set (i := 1) scMade.nd rfl (Or.inl rfl) (pe_lst (pa_cons (pe_x1 T.x0 hr rfl (pv 0)) (pa_cons (pe_x1 T.x1 hr rfl (pv 0)) (pa_cons (pe_x1 T.x2 hr rfl (pv 0)) (pa_cons (pe_x1 T.x3 hr rfl (pv 0)) pa_nil))))))
      (pss_cons (ps_set (i := 1) scMade.nd rfl (Or.inl rfl) (pe_op op_cat (pv 1) (pe_lst (pa_cons (pe_x1 T.x4 hr rfl (pv 0)) (pa_cons (pe_x1 T.x5 hr rfl (pv 0)) (pa_cons (pe_x1 T.x6 hr rfl (pv 0)) (pa_cons (pe_x1 T.x7 hr rfl (pv 0)) pa_nil)))))))
      (pss_cons (ps_set (i := 1) scMade.nd rfl (Or.inl rfl) (pe_op op_cat (pv 1) (pe_lst (pa_cons (pe_x1 T.x8 hr rfl (pv 0)) (pa_cons (pe_x1 T.x9 hr rfl (pv 0)) (pa_cons (pe_x1 T.x10 hr rfl (pv 0)) (pa_cons (pe_x1 T.x11 hr rfl (pv 0)) pa_nil)))))))
      (pss_cons (ps_set (i := 1) scMade.nd rfl (Or.inl rfl) (pe_op op_cat (pv 1) (pe_lst (pa_cons (pe_x1 T.x12 hr rfl (pv 0)) (pa_cons (pe_x1 T.x13 hr rfl (pv 0)) (pa_cons (pe_x1 T.x14 hr rfl (pv 0)) (pa_cons (pe_x1 T.x15 hr rfl (pv 0)) pa_nil)))))))
      (pss_cons (ps_set (i := 1) scMade.nd rfl (Or.inl rfl) (pe_op op_cat (pv 1) (pe_lst (pa_cons (pe_x1 T.x16 hr rfl (pv 0)) (pa_cons (pe_x1 T.x17 hr rfl (pv 0)) (pa_cons (pe_x1 T.x18 hr rfl (pv 0)) (pa_cons (pe_x1 T.x19 hr rfl (pv 0)) pa_nil)))))))
      (pss_cons (ps_set (i := 1) scMade.nd rfl (Or.inl rfl) (pe_op op_cat (pv 1) (pe_lst (pa_cons (pe_x1 T.x20 hr rfl (pv 0)) (pa_cons (pe_x1 T.x21 hr rfl (pv 0)) (pa_cons (pe_x1 T.x22 hr rfl (pv 0)) (pa_cons (pe_x1 T.x23 hr rfl (pv 0)) pa_nil)))))))
      (pss_cons (ps_set (i := 1) scMade.nd rfl (Or.inl rfl) (pe_op op_cat (pv 1) (pe_lst (pa_cons (pe_x1 T.x24 hr rfl (pv 0)) (pa_cons (pe_x1 T.x25 hr rfl (pv 0)) (pa_cons (pe_x1 T.x26 hr rfl (pv 0)) pa_nil))))))
      (pss_one (ps_ret (pv 1)))))))))), ?_⟩
    have s0 : Same H H := Same.refl H
    refine ⟨_, rfl, _, rfl, fun a0 G0 m0 t0 x0 => ?_⟩
    refine ⟨_, rfl, _, rfl, fun a1 G1 m1 t1 x1 => ?_⟩
    refine ⟨_, rfl, _, rfl, fun a2 G2 m2 t2 x2 => ?_⟩
    refine ⟨_, rfl, _, rfl, fun a3 G3 m3 t3 x3 => ?_⟩
    have tt : Same H G3 := t0.trans (t1.trans (t2.trans (t3)))
    have rr : Row c v G3 0 [a0, a1, a2, a3] := ⟨x0.mono (t1.trans (t2.trans (t3))), x1.mono (t2.trans (t3)), x2.mono (t3), x3, True.intro⟩
    refine ⟨(by show 4 ≤ sizeLine; decide), fun p1 hp => ?_⟩
    obtain ⟨s1, n1, e0⟩ := laid1 (o2 := .lst [V.ref a0, V.ref a1, V.ref a2, V.ref a3]) (s0.trans tt) hp
    have r1 := rr.mono (same_upd (o := .lst [V.ref a0, V.ref a1, V.ref a2, V.ref a3]) hp)
    have l1 : ([a0, a1, a2, a3] : List Addr).length = 4 := rfl
    have e1 : upd G3 p1 (.lst [V.ref a0, V.ref a1, V.ref a2, V.ref a3]) p1 = some (.lst ([a0, a1, a2, a3].map V.ref)) := e0
    clear e0
    generalize upd G3 p1 (.lst [V.ref a0, V.ref a1, V.ref a2, V.ref a3]) = H1 at s1 e1 r1 ⊢
    generalize [a0, a1, a2, a3] = as1 at e1 r1 l1
    clear hp rr tt
    show tSeq _ _ { nx := fun _ H2 => Q .non H2, rt := Q } [some v, some (.ref p1)] H1
    refine ⟨_, rfl, ?_⟩
    refine ⟨_, rfl, _, rfl, fun a0 G0 m0 t0 x0 => ?_⟩
    refine ⟨_, rfl, _, rfl, fun a1 G1 m1 t1 x1 => ?_⟩
    refine ⟨_, rfl, _, rfl, fun a2 G2 m2 t2 x2 => ?_⟩
    refine ⟨_, rfl, _, rfl, fun a3 G3 m3 t3 x3 => ?_⟩
    have tt : Same H1 G3 := t0.trans (t1.trans (t2.trans (t3)))
    have rr : Row c v G3 4 [a0, a1, a2, a3] := ⟨x0.mono (t1.trans (t2.trans (t3))), x1.mono (t2.trans (t3)), x2.mono (t3), x3, True.intro⟩
    have eo := tt _ _ e1
    refine ⟨(by show 4 ≤ sizeLine; decide), fun q hq => ⟨_, _, _, _, rfl, rfl, (by rw [upd_ne (ne_of_none eo hq)]; exact eo), upd_same, (by rw [List.length_map, l1]; show 8 ≤ sizeLine; decide), fun p2 hp => ?_⟩⟩
    obtain ⟨s2, n2, e2⟩ := laid2 (o1 := .lst [V.ref a0, V.ref a1, V.ref a2, V.ref a3]) (o2 := .lst (as1.map V.ref ++ [V.ref a0, V.ref a1, V.ref a2, V.ref a3])) (s1.trans tt) hq hp
    have r2 := ((r1.mono tt).app (m := 4) (by rw [l1]) rr).mono (laid2 (o1 := .lst [V.ref a0, V.ref a1, V.ref a2, V.ref a3]) (o2 := .lst (as1.map V.ref ++ [V.ref a0, V.ref a1, V.ref a2, V.ref a3])) (Same.refl _) hq hp).1
    have l2 : (as1 ++ [a0, a1, a2, a3]).length = 8 := by rw [List.length_append, l1] <;> rfl
    have m9 : as1.map V.ref ++ [V.ref a0, V.ref a1, V.ref a2, V.ref a3] = (as1 ++ [a0, a1, a2, a3]).map V.ref := by rw [List.map_append] <;> rfl
    generalize upd (upd G3 q _) p2 _ = H2 at s2 e2 r2 ⊢
    rw [m9] at e2
    generalize as1 ++ [a0, a1, a2, a3] = as2 at e2 r2 l2
    clear hq hp rr tt eo m9 n1 e1 r1 l1 q
    show tSeq _ _ { nx := fun _ H2 => Q .non H2, rt := Q } [some v, some (.ref p2)] H2
    refine ⟨_, rfl, ?_⟩
    refine ⟨_, rfl, _, rfl, fun a0 G0 m0 t0 x0 => ?_⟩
    refine ⟨_, rfl, _, rfl, fun a1 G1 m1 t1 x1 => ?_⟩
    refine ⟨_, rfl, _, rfl, fun a2 G2 m2 t2 x2 => ?_⟩
    refine ⟨_, rfl, _, rfl, fun a3 G3 m3 t3 x3 => ?_⟩
    have tt : Same H2 G3 := t0.trans (t1.trans (t2.trans (t3)))
    have rr : Row c v G3 8 [a0, a1, a2, a3] := ⟨x0.mono (t1.trans (t2.trans (t3))), x1.mono (t2.trans (t3)), x2.mono (t3), x3, True.intro⟩
    have eo := tt _ _ e2
    refine ⟨(by show 4 ≤ sizeLine; decide), fun q hq => ⟨_, _, _, _, rfl, rfl, (by rw [upd_ne (ne_of_none eo hq)]; exact eo), upd_same, (by rw [List.length_map, l2]; show 12 ≤ sizeLine; decide), fun p3 hp => ?_⟩⟩
    obtain ⟨s3, n3, e3⟩ := laid2 (o1 := .lst [V.ref a0, V.ref a1, V.ref a2, V.ref a3]) (o2 := .lst (as2.map V.ref ++ [V.ref a0, V.ref a1, V.ref a2, V.ref a3])) (s2.trans tt) hq hp
    have r3 := ((r2.mono tt).app (m := 8) (by rw [l2]) rr).mono (laid2 (o1 := .lst [V.ref a0, V.ref a1, V.ref a2, V.ref a3]) (o2 := .lst (as2.map V.ref ++ [V.ref a0, V.ref a1, V.ref a2, V.ref a3])) (Same.refl _) hq hp).1
    have l3 : (as2 ++ [a0, a1, a2, a3]).length = 12 := by rw [List.length_append, l2] <;> rfl
    have m9 : as2.map V.ref ++ [V.ref a0, V.ref a1, V.ref a2, V.ref a3] = (as2 ++ [a0, a1, a2, a3]).map V.ref := by rw [List.map_append] <;> rfl
    generalize upd (upd G3 q _) p3 _ = H3 at s3 e3 r3 ⊢
    rw [m9] at e3
    generalize as2 ++ [a0, a1, a2, a3] = as3 at e3 r3 l3
    clear hq hp rr tt eo m9 n2 e2 r2 l2 q
    show tSeq _ _ { nx := fun _ H2 => Q .non H2, rt := Q } [some v, some (.ref p3)] H3
    refine ⟨_, rfl, ?_⟩
    refine ⟨_, rfl, _, rfl, fun a0 G0 m0 t0 x0 => ?_⟩
    refine ⟨_, rfl, _, rfl, fun a1 G1 m1 t1 x1 => ?_⟩
    refine ⟨_, rfl, _, rfl, fun a2 G2 m2 t2 x2 => ?_⟩
    refine ⟨_, rfl, _, rfl, fun a3 G3 m3 t3 x3 => ?_⟩
    have tt : Same H3 G3 := t0.trans (t1.trans (t2.trans (t3)))
    have rr : Row c v G3 12 [a0, a1, a2, a3] := ⟨x0.mono (t1.trans (t2.trans (t3))), x1.mono (t2.trans (t3)), x2.mono (t3), x3, True.intro⟩
    have eo := tt _ _ e3
    refine ⟨(by show 4 ≤ sizeLine; decide), fun q hq => ⟨_, _, _, _, rfl, rfl, (by rw [upd_ne (ne_of_none eo hq)]; exact eo), upd_same, (by rw [List.length_map, l3]; show 16 ≤ sizeLine; decide), fun p4 hp => ?_⟩⟩
    obtain ⟨s4, n4, e4⟩ := laid2 (o1 := .lst [V.ref a0, V.ref a1, V.ref a2, V.ref a3]) (o2 := .lst (as3.map V.ref ++ [V.ref a0, V.ref a1, V.ref a2, V.ref a3])) (s3.trans tt) hq hp
    have r4 := ((r3.mono tt).app (m := 12) (by rw [l3]) rr).mono (laid2 (o1 := .lst [V.ref a0, V.ref a1, V.ref a2, V.ref a3]) (o2 := .lst (as3.map V.ref ++ [V.ref a0, V.ref a1, V.ref a2, V.ref a3])) (Same.refl _) hq hp).1
    have l4 : (as3 ++ [a0, a1, a2, a3]).length = 16 := by rw [List.length_append, l3] <;> rfl
    have m9 : as3.map V.ref ++ [V.ref a0, V.ref a1, V.ref a2, V.ref a3] = (as3 ++ [a0, a1, a2, a3]).map V.ref := by rw [List.map_append] <;> rfl
    generalize upd (upd G3 q _) p4 _ = H4 at s4 e4 r4 ⊢
    rw [m9] at e4
    generalize as3 ++ [a0, a1, a2, a3] = as4 at e4 r4 l4
    clear hq hp rr tt eo m9 n3 e3 r3 l3 q
    show tSeq _ _ { nx := fun _ H2 => Q .non H2, rt := Q } [some v, some (.ref p4)] H4
    refine ⟨_, rfl, ?_⟩
    refine ⟨_, rfl, _, rfl, fun a0 G0 m0 t0 x0 => ?_⟩
    refine ⟨_, rfl, _, rfl, fun a1 G1 m1 t1 x1 => ?_⟩
    refine ⟨_, rfl, _, rfl, fun a2 G2 m2 t2 x2 => ?_⟩
    refine ⟨_, rfl, _, rfl, fun a3 G3 m3 t3 x3 => ?_⟩
    have tt : Same H4 G3 := t0.trans (t1.trans (t2.trans (t3)))
    have rr : Row c v G3 16 [a0, a1, a2, a3] := ⟨x0.mono (t1.trans (t2.trans (t3))), x1.mono (t2.trans (t3)), x2.mono (t3), x3, True.intro⟩
    have eo := tt _ _ e4
    refine ⟨(by show 4 ≤ sizeLine; decide), fun q hq => ⟨_, _, _, _, rfl, rfl, (by rw [upd_ne (ne_of_none eo hq)]; exact eo), upd_same, (by rw [List.length_map, l4]; show 20 ≤ sizeLine; decide), fun p5 hp => ?_⟩⟩
    obtain ⟨s5, n5, e5⟩ := laid2 (o1 := .lst [V.ref a0, V.ref a1, V.ref a2, V.ref a3]) (o2 := .lst (as4.map V.ref ++ [V.ref a0, V.ref a1, V.ref a2, V.ref a3])) (s4.trans tt) hq hp
    have r5 := ((r4.mono tt).app (m := 16) (by rw [l4]) rr).mono (laid2 (o1 := .lst [V.ref a0, V.ref a1, V.ref a2, V.ref a3]) (o2 := .lst (as4.map V.ref ++ [V.ref a0, V.ref a1, V.ref a2, V.ref a3])) (Same.refl _) hq hp).1
    have l5 : (as4 ++ [a0, a1, a2, a3]).length = 20 := by rw [List.length_append, l4] <;> rfl
    have m9 : as4.map V.ref ++ [V.ref a0, V.ref a1, V.ref a2, V.ref a3] = (as4 ++ [a0, a1, a2, a3]).map V.ref := by rw [List.map_append] <;> rfl
    generalize upd (upd G3 q _) p5 _ = H5 at s5 e5 r5 ⊢
    rw [m9] at e5
    generalize as4 ++ [a0, a1, a2, a3] = as5 at e5 r5 l5
    clear hq hp rr tt eo m9 n4 e4 r4 l4 q
    show tSeq _ _ { nx := fun _ H2 => Q .non H2, rt := Q } [some v, some (.ref p5)] H5
    refine ⟨_, rfl, ?_⟩
    refine ⟨_, rfl, _, rfl, fun a0 G0 m0 t0 x0 => ?_⟩
    refine ⟨_, rfl, _, rfl, fun a1 G1 m1 t1 x1 => ?_⟩
    refine ⟨_, rfl, _, rfl, fun a2 G2 m2 t2 x2 => ?_⟩
    refine ⟨_, rfl, _, rfl, fun a3 G3 m3 t3 x3 => ?_⟩
    have tt : Same H5 G3 := t0.trans (t1.trans (t2.trans (t3)))
    have rr : Row c v G3 20 [a0, a1, a2, a3] := ⟨x0.mono (t1.trans (t2.trans (t3))), x1.mono (t2.trans (t3)), x2.mono (t3), x3, True.intro⟩
    have eo := tt _ _ e5
    refine ⟨(by show 4 ≤ sizeLine; decide), fun q hq => ⟨_, _, _, _, rfl, rfl, (by rw [upd_ne (ne_of_none eo hq)]; exact eo), upd_same, (by rw [List.length_map, l5]; show 24 ≤ sizeLine; decide), fun p6 hp => ?_⟩⟩
    obtain ⟨s6, n6, e6⟩ := laid2 (o1 := .lst [V.ref a0, V.ref a1, V.ref a2, V.ref a3]) (o2 := .lst (as5.map V.ref ++ [V.ref a0, V.ref a1, V.ref a2, V.ref a3])) (s5.trans tt) hq hp
    have r6 := ((r5.mono tt).app (m := 20) (by rw [l5]) rr).mono (laid2 (o1 := .lst [V.ref a0, V.ref a1, V.ref a2, V.ref a3]) (o2 := .lst (as5.map V.ref ++ [V.ref a0, V.ref a1, V.ref a2, V.ref a3])) (Same.refl _) hq hp).1
    have l6 : (as5 ++ [a0, a1, a2, a3]).length = 24 := by rw [List.length_append, l5] <;> rfl
    have m9 : as5.map V.ref ++ [V.ref a0, V.ref a1, V.ref a2, V.ref a3] = (as5 ++ [a0, a1, a2, a3]).map V.ref := by rw [List.map_append] <;> rfl
    generalize upd (upd G3 q _) p6 _ = H6 at s6 e6 r6 ⊢
    rw [m9] at e6
    generalize as5 ++ [a0, a1, a2, a3] = as6 at e6 r6 l6
    clear hq hp rr tt eo m9 n5 e5 r5 l5 q
    show tSeq _ _ { nx := fun _ H2 => Q .non H2, rt := Q } [some v, some (.ref p6)] H6
    refine ⟨_, rfl, ?_⟩
    refine ⟨_, rfl, _, rfl, fun a0 G0 m0 t0 x0 => ?_⟩
    refine ⟨_, rfl, _, rfl, fun a1 G1 m1 t1 x1 => ?_⟩
    refine ⟨_, rfl, _, rfl, fun a2 G2 m2 t2 x2 => ?_⟩
    have tt : Same H6 G2 := t0.trans (t1.trans (t2))
    have rr : Row c v G2 24 [a0, a1, a2] := ⟨x0.mono (t1.trans (t2)), x1.mono (t2), x2, True.intro⟩
    have eo := tt _ _ e6
    refine ⟨(by show 3 ≤ sizeLine; decide), fun q hq => ⟨_, _, _, _, rfl, rfl, (by rw [upd_ne (ne_of_none eo hq)]; exact eo), upd_same, (by rw [List.length_map, l6]; show 27 ≤ sizeLine; decide), fun p7 hp => ?_⟩⟩
    obtain ⟨s7, n7, e7⟩ := laid2 (o1 := .lst [V.ref a0, V.ref a1, V.ref a2]) (o2 := .lst (as6.map V.ref ++ [V.ref a0, V.ref a1, V.ref a2])) (s6.trans tt) hq hp
    have r7 := ((r6.mono tt).app (m := 24) (by rw [l6]) rr).mono (laid2 (o1 := .lst [V.ref a0, V.ref a1, V.ref a2]) (o2 := .lst (as6.map V.ref ++ [V.ref a0, V.ref a1, V.ref a2])) (Same.refl _) hq hp).1
    have l7 : (as6 ++ [a0, a1, a2]).length = 27 := by rw [List.length_append, l6] <;> rfl
    have m9 : as6.map V.ref ++ [V.ref a0, V.ref a1, V.ref a2] = (as6 ++ [a0, a1, a2]).map V.ref := by rw [List.map_append] <;> rfl
    generalize upd (upd G2 q _) p7 _ = H7 at s7 e7 r7 ⊢
    rw [m9] at e7
    generalize as6 ++ [a0, a1, a2] = as7 at e7 r7 l7
    clear hq hp rr tt eo m9 n6 e6 r6 l6 q
    show tRet (tVar 1) { nx := fun _ H2 => Q .non H2, rt := Q } [some v, some (.ref p7)] H7
    exact ⟨_, rfl, k _ _ _ n7 s7 e7 l7 r7⟩
theorem scByName : FnScope ["_law_thing_here", "_law_found"] ["_law_thing_here"] (defScope sByName) := ⟨rfl, rfl, rfl, by decide +kernel, rfl, by decide +kernel, by decide +kernel⟩
def spByName (c : Nat → Addr) : Sp := fun vs H Q _ => ∃ v : V, vs = [v] ∧ spRow c v H Q
theorem ok_ByName {f : Addr} {fd : FuncData} (F : Fun K "_law_by_name" "_law_by_name" sByName f fd) (T : Txt P w K mg base c cN) : FnOk P w K mg base CX0 3 f fd ["_law_thing_here"] (spByName c) := by
  refine F.ok scByName (fun vs H Q E h => ?_) (fun cdv A outer s H vs Q E hr h => ?_)
  · obtain ⟨v, rfl, _⟩ := h
    rfl
  · obtain ⟨v, rfl, k⟩ := h
    refine ⟨_, (pss_cons (ps_set (i := 1) scByName.nd rfl (Or.inl rfl) (pe_lst (pa_cons (pe_xk T.x0 hr rfl (pv 0)) (pa_cons (pe_xk T.x1 hr rfl (pv 0)) (pa_cons (pe_xk T.x2 hr rfl (pv 0)) pa_nil)))))
      (pss_cons (ps_set (i := 1) scByName.nd rfl (Or.inl rfl) (pe_op op_cat (pv 1) (pe_lst (pa_cons (pe_xk T.x3 hr rfl (pv 0)) (pa_cons (pe_xk T.x4 hr rfl (pv 0)) (pa_cons (pe_xk T.x5 hr rfl (pv 0)) pa_nil))))))
      (pss_cons (ps_set (i := 1) scByName.nd rfl (Or.inl rfl) (pe_op op_cat (pv 1) (pe_lst (pa_cons (pe_xk T.x6 hr rfl (pv 0)) (pa_cons (pe_xk T.x7 hr rfl (pv 0)) (pa_cons (pe_xk T.x8 hr rfl (pv 0)) pa_nil))))))
      (pss_cons (ps_set (i := 1) scByName.nd rfl (Or.inl rfl) (pe_op op_cat (pv 1) (pe_lst (pa_cons (pe_xk T.x9 hr rfl (pv 0)) (pa_cons (pe_xk T.x10 hr rfl (pv 0)) (pa_cons (pe_xk T.x11 hr rfl (pv 0)) pa_nil))))))
      (pss_cons (ps_set (i := 1) scByName.nd rfl (Or.inl rfl) (pe_op op_cat (pv 1) (pe_lst (pa_cons (pe_xk T.x12 hr rfl (pv 0)) (pa_cons (pe_xk T.x13 hr rfl (pv 0)) (pa_cons (pe_xk T.x14 hr rfl (pv 0)) pa_nil))))))
      (pss_cons (ps_set (i := 1) scByName.nd rfl (Or.inl rfl) (pe_op op_cat (pv 1) (pe_lst (pa_cons (pe_xk T.x15 hr rfl (pv 0)) (pa_cons (pe_xk T.x16 hr rfl (pv 0)) (pa_cons (pe_xk T.x17 hr rfl (pv 0)) pa_nil))))))
      (pss_cons (ps_set (i := 1) scByName.nd rfl (Or.inl rfl) (pe_op op_cat (pv 1) (pe_lst (pa_cons (pe_xk T.x18 hr rfl (pv 0)) (pa_cons (pe_xk T.x19 hr rfl (pv 0)) (pa_cons (pe_xk T.x20 hr rfl (pv 0)) pa_nil))))))
      (pss_cons (ps_set (i := 1) scByName.nd rfl (Or.inl rfl) (pe_op op_cat (pv 1) (pe_lst (pa_cons (pe_xk T.x21 hr rfl (pv 0)) (pa_cons (pe_xk T.x22 hr rfl (pv 0)) (pa_cons (pe_xk T.x23 hr rfl (pv 0)) pa_nil))))))
      (pss_cons (ps_set (i := 1) scByName.nd rfl (Or.inl rfl) (pe_op op_cat (pv 1) (pe_lst (pa_cons (pe_xk T.x24 hr rfl (pv 0)) (pa_cons (pe_xk T.x25 hr rfl (pv 0)) (pa_cons (pe_xk T.x26 hr rfl (pv 0)) pa_nil))))))
      (pss_one (ps_ret (pv 1)))))))))))), ?_⟩
    have s0 : Same H H := Same.refl H
    refine ⟨_, rfl, _, rfl, fun a0 G0 m0 t0 x0 => ?_⟩
    refine ⟨_, rfl, _, rfl, fun a1 G1 m1 t1 x1 => ?_⟩
    refine ⟨_, rfl, _, rfl, fun a2 G2 m2 t2 x2 => ?_⟩
    have tt : Same H G2 := t0.trans (t1.trans (t2))
    have rr : Row c v G2 0 [a0, a1, a2] := ⟨x0.mono (t1.trans (t2)), x1.mono (t2), x2, True.intro⟩
    refine ⟨(by show 3 ≤ sizeLine; decide), fun p1 hp => ?_⟩
    obtain ⟨s1, n1, e0⟩ := laid1 (o2 := .lst [V.ref a0, V.ref a1, V.ref a2]) (s0.trans tt) hp
    have r1 := rr.mono (same_upd (o := .lst [V.ref a0, V.ref a1, V.ref a2]) hp)
    have l1 : ([a0, a1, a2] : List Addr).length = 3 := rfl
    have e1 : upd G2 p1 (.lst [V.ref a0, V.ref a1, V.ref a2]) p1 = some (.lst ([a0, a1, a2].map V.ref)) := e0
    clear e0
    generalize upd G2 p1 (.lst [V.ref a0, V.ref a1, V.ref a2]) = H1 at s1 e1 r1 ⊢
    generalize [a0, a1, a2] = as1 at e1 r1 l1
    clear hp rr tt
    show tSeq _ _ { nx := fun _ H2 => Q .non H2, rt := Q } [some v, some (.ref p1)] H1
    refine ⟨_, rfl, ?_⟩
    refine ⟨_, rfl, _, rfl, fun a0 G0 m0 t0 x0 => ?_⟩
    refine ⟨_, rfl, _, rfl, fun a1 G1 m1 t1 x1 => ?_⟩
    refine ⟨_, rfl, _, rfl, fun a2 G2 m2 t2 x2 => ?_⟩
    have tt : Same H1 G2 := t0.trans (t1.trans (t2))
    have rr : Row c v G2 3 [a0, a1, a2] := ⟨x0.mono (t1.trans (t2)), x1.mono (t2), x2, True.intro⟩
    have eo := tt _ _ e1
    refine ⟨(by show 3 ≤ sizeLine; decide), fun q hq => ⟨_, _, _, _, rfl, rfl, (by rw [upd_ne (ne_of_none eo hq)]; exact eo), upd_same, (by rw [List.length_map, l1]; show 6 ≤ sizeLine; decide), fun p2 hp => ?_⟩⟩
    obtain ⟨s2, n2, e2⟩ := laid2 (o1 := .lst [V.ref a0, V.ref a1, V.ref a2]) (o2 := .lst (as1.map V.ref ++ [V.ref a0, V.ref a1, V.ref a2])) (s1.trans tt) hq hp
    have r2 := ((r1.mono tt).app (m := 3) (by rw [l1]) rr).mono (laid2 (o1 := .lst [V.ref a0, V.ref a1, V.ref a2]) (o2 := .lst (as1.map V.ref ++ [V.ref a0, V.ref a1, V.ref a2])) (Same.refl _) hq hp).1
    have l2 : (as1 ++ [a0, a1, a2]).length = 6 := by rw [List.length_append, l1] <;> rfl
    have m9 : as1.map V.ref ++ [V.ref a0, V.ref a1, V.ref a2] = (as1 ++ [a0, a1, a2]).map V.ref := by rw [List.map_append] <;> rfl
    generalize upd (upd G2 q _) p2 _ = H2 at s2 e2 r2 ⊢
    rw [m9] at e2
    generalize as1 ++ [a0, a1, a2] = as2 at e2 r2 l2
    clear hq hp rr tt eo m9 n1 e1 r1 l1 q
    show tSeq _ _ { nx := fun _ H2 => Q .non H2, rt := Q } [some v, some (.ref p2)] H2
    refine ⟨_, rfl, ?_⟩
    refine ⟨_, rfl, _, rfl, fun a0 G0 m0 t0 x0 => ?_⟩
    refine ⟨_, rfl, _, rfl, fun a1 G1 m1 t1 x1 => ?_⟩
    refine ⟨_, rfl, _, rfl, fun a2 G2 m2 t2 x2 => ?_⟩
    have tt : Same H2 G2 := t0.trans (t1.trans (t2))
    have rr : Row c v G2 6 [a0, a1, a2] := ⟨x0.mono (t1.trans (t2)), x1.mono (t2), x2, True.intro⟩
    have eo := tt _ _ e2
    refine ⟨(by show 3 ≤ sizeLine; decide), fun q hq => ⟨_, _, _, _, rfl, rfl, (by rw [upd_ne (ne_of_none eo hq)]; exact eo), upd_same, (by rw [List.length_map, l2]; show 9 ≤ sizeLine; decide), fun p3 hp => ?_⟩⟩
    obtain ⟨s3, n3, e3⟩ := laid2 (o1 := .lst [V.ref a0, V.ref a1, V.ref a2]) (o2 := .lst (as2.map V.ref ++ [V.ref a0, V.ref a1, V.ref a2])) (s2.trans tt) hq hp
    have r3 := ((r2.mono tt).app (m := 6) (by rw [l2]) rr).mono (laid2 (o1 := .lst [V.ref a0, V.ref a1, V.ref a2]) (o2 := .lst (as2.map V.ref ++ [V.ref a0, V.ref a1, V.ref a2])) (Same.refl _) hq hp).1
    have l3 : (as2 ++ [a0, a1, a2]).length = 9 := by rw [List.length_append, l2] <;> rfl
    have m9 : as2.map V.ref ++ [V.ref a0, V.ref a1, V.ref a2] = (as2 ++ [a0, a1, a2]).map V.ref := by rw [List.map_append] <;> rfl
    generalize upd (upd G2 q _) p3 _ = H3 at s3 e3 r3 ⊢
    rw [m9] at e3
    generalize as2 ++ [a0, a1, a2] = as3 at e3 r3 l3
    clear hq hp rr tt eo m9 n2 e2 r2 l2 q
    show tSeq _ _ { nx := fun _ H2 => Q .non H2, rt := Q } [some v, some (.ref p3)] H3
    refine ⟨_, rfl, ?_⟩
    refine ⟨_, rfl, _, rfl, fun a0 G0 m0 t0 x0 => ?_⟩
    refine ⟨_, rfl, _, rfl, fun a1 G1 m1 t1 x1 => ?_⟩
    refine ⟨_, rfl, _, rfl, fun a2 G2 m2 t2 x2 => ?_⟩
    have tt : Same H3 G2 := t0.trans (t1.trans (t2))
    have rr : Row c v G2 9 [a0, a1, a2] := ⟨x0.mono (t1.trans (t2)), x1.mono (t2), x2, True.intro⟩
    have eo := tt _ _ e3
    refine ⟨(by show 3 ≤ sizeLine; decide), fun q hq => ⟨_, _, _, _, rfl, rfl, (by rw [upd_ne (ne_of_none eo hq)]; exact eo), upd_same, (by rw [List.length_map, l3]; show 12 ≤ sizeLine; decide), fun p4 hp => ?_⟩⟩
    obtain ⟨s4, n4, e4⟩ := laid2 (o1 := .lst [V.ref a0, V.ref a1, V.ref a2]) (o2 := .lst (as3.map V.ref ++ [V.ref a0, V.ref a1, V.ref a2])) (s3.trans tt) hq hp
    have r4 := ((r3.mono tt).app (m := 9) (by rw [l3]) rr).mono (laid2 (o1 := .lst [V.ref a0, V.ref a1, V.ref a2]) (o2 := .lst (as3.map V.ref ++ [V.ref a0, V.ref a1, V.ref a2])) (Same.refl _) hq hp).1
    have l4 : (as3 ++ [a0, a1, a2]).length = 12 := by rw [List.length_append, l3] <;> rfl
    have m9 : as3.map V.ref ++ [V.ref a0, V.ref a1, V.ref a2] = (as3 ++ [a0, a1, a2]).map V.ref := by rw [List.map_append] <;> rfl
    generalize upd (upd G2 q _) p4 _ = H4 at s4 e4 r4 ⊢
    rw [m9] at e4
    generalize as3 ++ [a0, a1, a2] = as4 at e4 r4 l4
    clear hq hp rr tt eo m9 n3 e3 r3 l3 q
    show tSeq _ _ { nx := fun _ H2 => Q .non H2, rt := Q } [some v, some (.ref p4)] H4
    refine ⟨_, rfl, ?_⟩
    refine ⟨_, rfl, _, rfl, fun a0 G0 m0 t0 x0 => ?_⟩
    refine ⟨_, rfl, _, rfl, fun a1 G1 m1 t1 x1 => ?_⟩
    refine ⟨_, rfl, _, rfl, fun a2 G2 m2 t2 x2 => ?_⟩
    have tt : Same H4 G2 := t0.trans (t1.trans (t2))
    have rr : Row c v G2 12 [a0, a1, a2] := ⟨x0.mono (t1.trans (t2)), x1.mono (t2), x2, True.intro⟩
    have eo := tt _ _ e4
    refine ⟨(by show 3 ≤ sizeLine; decide), fun q hq => ⟨_, _, _, _, rfl, rfl, (by rw [upd_ne (ne_of_none eo hq)]; exact eo), upd_same, (by rw [List.length_map, l4]; show 15 ≤ sizeLine; decide), fun p5 hp => ?_⟩⟩
    obtain ⟨s5, n5, e5⟩ := laid2 (o1 := .lst [V.ref a0, V.ref a1, V.ref a2]) (o2 := .lst (as4.map V.ref ++ [V.ref a0, V.ref a1, V.ref a2])) (s4.trans tt) hq hp
    have r5 := ((r4.mono tt).app (m := 12) (by rw [l4]) rr).mono (laid2 (o1 := .lst [V.ref a0, V.ref a1, V.ref a2]) (o2 := .lst (as4.map V.ref ++ [V.ref a0, V.ref a1, V.ref a2])) (Same.refl _) hq hp).1
    have l5 : (as4 ++ [a0, a1, a2]).length = 15 := by rw [List.length_append, l4] <;> rfl
    have m9 : as4.map V.ref ++ [V.ref a0, V.ref a1, V.ref a2] = (as4 ++ [a0, a1, a2]).map V.ref := by rw [List.map_append] <;> rfl
    generalize upd (upd G2 q _) p5 _ = H5 at s5 e5 r5 ⊢
    rw [m9] at e5
    generalize as4 ++ [a0, a1, a2] = as5 at e5 r5 l5
    clear hq hp rr tt eo m9 n4 e4 r4 l4 q
    show tSeq _ _ { nx := fun _ H2 => Q .non H2, rt := Q } [some v, some (.ref p5)] H5
    refine ⟨_, rfl, ?_⟩
    refine ⟨_, rfl, _, rfl, fun a0 G0 m0 t0 x0 => ?_⟩
    refine ⟨_, rfl, _, rfl, fun a1 G1 m1 t1 x1 => ?_⟩
    refine ⟨_, rfl, _, rfl, fun a2 G2 m2 t2 x2 => ?_⟩
    have tt : Same H5 G2 := t0.trans (t1.trans (t2))
    have rr : Row c v G2 15 [a0, a1, a2] := ⟨x0.mono (t1.trans (t2)), x1.mono (t2), x2, True.intro⟩
    have eo := tt _ _ e5
    refine ⟨(by show 3 ≤ sizeLine; decide), fun q hq => ⟨_, _, _, _, rfl, rfl, (by rw [upd_ne (ne_of_none eo hq)]; exact eo), upd_same, (by rw [List.length_map, l5]; show 18 ≤ sizeLine; decide), fun p6 hp => ?_⟩⟩
    obtain ⟨s6, n6, e6⟩ := laid2 (o1 := .lst [V.ref a0, V.ref a1, V.ref a2]) (o2 := .lst (as5.map V.ref ++ [V.ref a0, V.ref a1, V.ref a2])) (s5.trans tt) hq hp
    have r6 := ((r5.mono tt).app (m := 15) (by rw [l5]) rr).mono (laid2 (o1 := .lst [V.ref a0, V.ref a1, V.ref a2]) (o2 := .lst (as5.map V.ref ++ [V.ref a0, V.ref a1, V.ref a2])) (Same.refl _) hq hp).1
    have l6 : (as5 ++ [a0, a1, a2]).length = 18 := by rw [List.length_append, l5] <;> rfl
    have m9 : as5.map V.ref ++ [V.ref a0, V.ref a1, V.ref a2] = (as5 ++ [a0, a1, a2]).map V.ref := by rw [List.map_append] <;> rfl
    generalize upd (upd G2 q _) p6 _ = H6 at s6 e6 r6 ⊢
    rw [m9] at e6
    generalize as5 ++ [a0, a1, a2] = as6 at e6 r6 l6
    clear hq hp rr tt eo m9 n5 e5 r5 l5 q
    show tSeq _ _ { nx := fun _ H2 => Q .non H2, rt := Q } [some v, some (.ref p6)] H6
    refine ⟨_, rfl, ?_⟩
    refine ⟨_, rfl, _, rfl, fun a0 G0 m0 t0 x0 => ?_⟩
    refine ⟨_, rfl, _, rfl, fun a1 G1 m1 t1 x1 => ?_⟩
    refine ⟨_, rfl, _, rfl, fun a2 G2 m2 t2 x2 => ?_⟩
    have tt : Same H6 G2 := t0.trans (t1.trans (t2))
    have rr : Row c v G2 18 [a0, a1, a2] := ⟨x0.mono (t1.trans (t2)), x1.mono (t2), x2, True.intro⟩
    have eo := tt _ _ e6
    refine ⟨(by show 3 ≤ sizeLine; decide), fun q hq => ⟨_, _, _, _, rfl, rfl, (by rw [upd_ne (ne_of_none eo hq)]; exact eo), upd_same, (by rw [List.length_map, l6]; show 21 ≤ sizeLine; decide), fun p7 hp => ?_⟩⟩
    obtain ⟨s7, n7, e7⟩ := laid2 (o1 := .lst [V.ref a0, V.ref a1, V.ref a2]) (o2 := .lst (as6.map V.ref ++ [V.ref a0, V.ref a1, V.ref a2])) (s6.trans tt) hq hp
    have r7 := ((r6.mono tt).app (m := 18) (by rw [l6]) rr).mono (laid2 (o1 := .lst [V.ref a0, V.ref a1, V.ref a2]) (o2 := .lst (as6.map V.ref ++ [V.ref a0, V.ref a1, V.ref a2])) (Same.refl _) hq hp).1
    have l7 : (as6 ++ [a0, a1, a2]).length = 21 := by rw [List.length_append, l6] <;> rfl
    have m9 : as6.map V.ref ++ [V.ref a0, V.ref a1, V.ref a2] = (as6 ++ [a0, a1, a2]).map V.ref := by rw [List.map_append] <;> rfl
    generalize upd (upd G2 q _) p7 _ = H7 at s7 e7 r7 ⊢
    rw [m9] at e7
    generalize as6 ++ [a0, a1, a2] = as7 at e7 r7 l7
    clear hq hp rr tt eo m9 n6 e6 r6 l6 q
    show tSeq _ _ { nx := fun _ H2 => Q .non H2, rt := Q } [some v, some (.ref p7)] H7
    refine ⟨_, rfl, ?_⟩
    refine ⟨_, rfl, _, rfl, fun a0 G0 m0 t0 x0 => ?_⟩
    refine ⟨_, rfl, _, rfl, fun a1 G1 m1 t1 x1 => ?_⟩
    refine ⟨_, rfl, _, rfl, fun a2 G2 m2 t2 x2 => ?_⟩
    have tt : Same H7 G2 := t0.trans (t1.trans (t2))
    have rr : Row c v G2 21 [a0, a1, a2] := ⟨x0.mono (t1.trans (t2)), x1.mono (t2), x2, True.intro⟩
    have eo := tt _ _ e7
    refine ⟨(by show 3 ≤ sizeLine; decide), fun q hq => ⟨_, _, _, _, rfl, rfl, (by rw [upd_ne (ne_of_none eo hq)]; exact eo), upd_same, (by rw [List.length_map, l7]; show 24 ≤ sizeLine; decide), fun p8 hp => ?_⟩⟩
    obtain ⟨s8, n8, e8⟩ := laid2 (o1 := .lst [V.ref a0, V.ref a1, V.ref a2]) (o2 := .lst (as7.map V.ref ++ [V.ref a0, V.ref a1, V.ref a2])) (s7.trans tt) hq hp
    have r8 := ((r7.mono tt).app (m := 21) (by rw [l7]) rr).mono (laid2 (o1 := .lst [V.ref a0, V.ref a1, V.ref a2]) (o2 := .lst (as7.map V.ref ++ [V.ref a0, V.ref a1, V.ref a2])) (Same.refl _) hq hp).1
    have l8 : (as7 ++ [a0, a1, a2]).length = 24 := by rw [List.length_append, l7] <;> rfl
    have m9 : as7.map V.ref ++ [V.ref a0, V.ref a1, V.ref a2] = (as7 ++ [a0, a1, a2]).map V.ref := by rw [List.map_append] <;> rfl
    generalize upd (upd G2 q _) p8 _ = H8 at s8 e8 r8 ⊢
    rw [m9] at e8
    generalize as7 ++ [a0, a1, a2] = as8 at e8 r8 l8
    clear hq hp rr tt eo m9 n7 e7 r7 l7 q
    show tSeq _ _ { nx := fun _ H2 => Q .non H2, rt := Q } [some v, some (.ref p8)] H8
    refine ⟨_, rfl, ?_⟩
    refine ⟨_, rfl, _, rfl, fun a0 G0 m0 t0 x0 => ?_⟩
    refine ⟨_, rfl, _, rfl, fun a1 G1 m1 t1 x1 => ?_⟩
    refine ⟨_, rfl, _, rfl, fun a2 G2 m2 t2 x2 => ?_⟩
    have tt : Same H8 G2 := t0.trans (t1.trans (t2))
    have rr : Row c v G2 24 [a0, a1, a2] := ⟨x0.mono (t1.trans (t2)), x1.mono (t2), x2, True.intro⟩
    have eo := tt _ _ e8
    refine ⟨(by show 3 ≤ sizeLine; decide), fun q hq => ⟨_, _, _, _, rfl, rfl, (by rw [upd_ne (ne_of_none eo hq)]; exact eo), upd_same, (by rw [List.length_map, l8]; show 27 ≤ sizeLine; decide), fun p9 hp => ?_⟩⟩
    obtain ⟨s9, n9, e9⟩ := laid2 (o1 := .lst [V.ref a0, V.ref a1, V.ref a2]) (o2 := .lst (as8.map V.ref ++ [V.ref a0, V.ref a1, V.ref a2])) (s8.trans tt) hq hp
    have r9 := ((r8.mono tt).app (m := 24) (by rw [l8]) rr).mono (laid2 (o1 := .lst [V.ref a0, V.ref a1, V.ref a2]) (o2 := .lst (as8.map V.ref ++ [V.ref a0, V.ref a1, V.ref a2])) (Same.refl _) hq hp).1
    have l9 : (as8 ++ [a0, a1, a2]).length = 27 := by rw [List.length_append, l8] <;> rfl
    have m9 : as8.map V.ref ++ [V.ref a0, V.ref a1, V.ref a2] = (as8 ++ [a0, a1, a2]).map V.ref := by rw [List.map_append] <;> rfl
    generalize upd (upd G2 q _) p9 _ = H9 at s9 e9 r9 ⊢
    rw [m9] at e9
    generalize as8 ++ [a0, a1, a2] = as9 at e9 r9 l9
    clear hq hp rr tt eo m9 n8 e8 r8 l8 q
    show tRet (tVar 1) { nx := fun _ H2 => Q .non H2, rt := Q } [some v, some (.ref p9)] H9
    exact ⟨_, rfl, k _ _ _ n9 s9 e9 l9 r9⟩
theorem scBare : FnScope ["_law_found"] [] (defScope sBare) := ⟨rfl, rfl, rfl, by decide +kernel, rfl, by decide +kernel, by decide +kernel⟩
def spBare (c : Nat → Addr) : Sp := fun vs H Q _ => vs = [] ∧ spRow c .non H Q
theorem ok_Bare {f : Addr} {fd : FuncData} (F : Fun K "_law_bare" "_law_bare" sBare f fd) (T : Txt P w K mg base c cN) : FnOk P w K mg base CX0 3 f fd [] (spBare c) := by
  refine F.ok scBare (fun vs H Q E h => ?_) (fun cdv A outer s H vs Q E hr h => ?_)
  · obtain ⟨rfl, _⟩ := h
    rfl
  · obtain ⟨rfl, k⟩ := h
    refine ⟨_, (pss_cons (ps_set (i := 0) scBare.nd rfl (Or.inl rfl) (pe_lst (pa_cons (pe_x0 T.x0 hr rfl) (pa_cons (pe_x0 T.x1 hr rfl) (pa_cons (pe_x0 T.x2 hr rfl) (pa_cons (pe_x0 T.x3 hr rfl) (pa_cons (pe_x0 T.x4 hr rfl) pa_nil)))))))
      (pss_cons (ps_set (i := 0) scBare.nd rfl (Or.inl rfl) (pe_op op_cat (pv 0) (pe_lst (pa_cons (pe_x0 T.x5 hr rfl) (pa_cons (pe_x0 T.x6 hr rfl) (pa_cons (pe_x0 T.x7 hr rfl) (pa_cons (pe_x0 T.x8 hr rfl) (pa_cons (pe_x0 T.x9 hr rfl) pa_nil))))))))
      (pss_cons (ps_set (i := 0) scBare.nd rfl (Or.inl rfl) (pe_op op_cat (pv 0) (pe_lst (pa_cons (pe_x0 T.x10 hr rfl) (pa_cons (pe_x0 T.x11 hr rfl) (pa_cons (pe_x0 T.x12 hr rfl) (pa_cons (pe_x0 T.x13 hr rfl) (pa_cons (pe_x0 T.x14 hr rfl) pa_nil))))))))
      (pss_cons (ps_set (i := 0) scBare.nd rfl (Or.inl rfl) (pe_op op_cat (pv 0) (pe_lst (pa_cons (pe_x0 T.x15 hr rfl) (pa_cons (pe_x0 T.x16 hr rfl) (pa_cons (pe_x0 T.x17 hr rfl) (pa_cons (pe_x0 T.x18 hr rfl) (pa_cons (pe_x0 T.x19 hr rfl) pa_nil))))))))
      (pss_cons (ps_set (i := 0) scBare.nd rfl (Or.inl rfl) (pe_op op_cat (pv 0) (pe_lst (pa_cons (pe_x0 T.x20 hr rfl) (pa_cons (pe_x0 T.x21 hr rfl) (pa_cons (pe_x0 T.x22 hr rfl) (pa_cons (pe_x0 T.x23 hr rfl) (pa_cons (pe_x0 T.x24 hr rfl) pa_nil))))))))
      (pss_cons (ps_set (i := 0) scBare.nd rfl (Or.inl rfl) (pe_op op_cat (pv 0) (pe_lst (pa_cons (pe_x0 T.x25 hr rfl) (pa_cons (pe_x0 T.x26 hr rfl) pa_nil)))))
      (pss_one (ps_ret (pv 0))))))))), ?_⟩
    have s0 : Same H H := Same.refl H
    refine fun a0 G0 m0 t0 x0 => ?_
    refine fun a1 G1 m1 t1 x1 => ?_
    refine fun a2 G2 m2 t2 x2 => ?_
    refine fun a3 G3 m3 t3 x3 => ?_
    refine fun a4 G4 m4 t4 x4 => ?_
    have tt : Same H G4 := t0.trans (t1.trans (t2.trans (t3.trans (t4))))
    have rr : Row c V.non G4 0 [a0, a1, a2, a3, a4] := ⟨x0.mono (t1.trans (t2.trans (t3.trans (t4)))), x1.mono (t2.trans (t3.trans (t4))), x2.mono (t3.trans (t4)), x3.mono (t4), x4, True.intro⟩
    refine ⟨(by show 5 ≤ sizeLine; decide), fun p1 hp => ?_⟩
    obtain ⟨s1, n1, e0⟩ := laid1 (o2 := .lst [V.ref a0, V.ref a1, V.ref a2, V.ref a3, V.ref a4]) (s0.trans tt) hp
    have r1 := rr.mono (same_upd (o := .lst [V.ref a0, V.ref a1, V.ref a2, V.ref a3, V.ref a4]) hp)
    have l1 : ([a0, a1, a2, a3, a4] : List Addr).length = 5 := rfl
    have e1 : upd G4 p1 (.lst [V.ref a0, V.ref a1, V.ref a2, V.ref a3, V.ref a4]) p1 = some (.lst ([a0, a1, a2, a3, a4].map V.ref)) := e0
    clear e0
    generalize upd G4 p1 (.lst [V.ref a0, V.ref a1, V.ref a2, V.ref a3, V.ref a4]) = H1 at s1 e1 r1 ⊢
    generalize [a0, a1, a2, a3, a4] = as1 at e1 r1 l1
    clear hp rr tt
    show tSeq _ _ { nx := fun _ H2 => Q .non H2, rt := Q } [some (.ref p1)] H1
    refine ⟨_, rfl, ?_⟩
    refine fun a0 G0 m0 t0 x0 => ?_
    refine fun a1 G1 m1 t1 x1 => ?_
    refine fun a2 G2 m2 t2 x2 => ?_
    refine fun a3 G3 m3 t3 x3 => ?_
    refine fun a4 G4 m4 t4 x4 => ?_
    have tt : Same H1 G4 := t0.trans (t1.trans (t2.trans (t3.trans (t4))))
    have rr : Row c V.non G4 5 [a0, a1, a2, a3, a4] := ⟨x0.mono (t1.trans (t2.trans (t3.trans (t4)))), x1.mono (t2.trans (t3.trans (t4))), x2.mono (t3.trans (t4)), x3.mono (t4), x4, True.intro⟩
    have eo := tt _ _ e1
    refine ⟨(by show 5 ≤ sizeLine; decide), fun q hq => ⟨_, _, _, _, rfl, rfl, (by rw [upd_ne (ne_of_none eo hq)]; exact eo), upd_same, (by rw [List.length_map, l1]; show 10 ≤ sizeLine; decide), fun p2 hp => ?_⟩⟩
    obtain ⟨s2, n2, e2⟩ := laid2 (o1 := .lst [V.ref a0, V.ref a1, V.ref a2, V.ref a3, V.ref a4]) (o2 := .lst (as1.map V.ref ++ [V.ref a0, V.ref a1, V.ref a2, V.ref a3, V.ref a4])) (s1.trans tt) hq hp
    have r2 := ((r1.mono tt).app (m := 5) (by rw [l1]) rr).mono (laid2 (o1 := .lst [V.ref a0, V.ref a1, V.ref a2, V.ref a3, V.ref a4]) (o2 := .lst (as1.map V.ref ++ [V.ref a0, V.ref a1, V.ref a2, V.ref a3, V.ref a4])) (Same.refl _) hq hp).1
    have l2 : (as1 ++ [a0, a1, a2, a3, a4]).length = 10 := by rw [List.length_append, l1] <;> rfl
    have m9 : as1.map V.ref ++ [V.ref a0, V.ref a1, V.ref a2, V.ref a3, V.ref a4] = (as1 ++ [a0, a1, a2, a3, a4]).map V.ref := by rw [List.map_append] <;> rfl
    generalize upd (upd G4 q _) p2 _ = H2 at s2 e2 r2 ⊢
    rw [m9] at e2
    generalize as1 ++ [a0, a1, a2, a3, a4] = as2 at e2 r2 l2
    clear hq hp rr tt eo m9 n1 e1 r1 l1 q
    show tSeq _ _ { nx := fun _ H2 => Q .non H2, rt := Q } [some (.ref p2)] H2
    refine ⟨_, rfl, ?_⟩
    refine fun a0 G0 m0 t0 x0 => ?_
    refine fun a1 G1 m1 t1 x1 => ?_
    refine fun a2 G2 m2 t2 x2 => ?_
    refine fun a3 G3 m3 t3 x3 => ?_
    refine fun a4 G4 m4 t4 x4 => ?_
    have tt : Same H2 G4 := t0.trans (t1.trans (t2.trans (t3.trans (t4))))
    have rr : Row c V.non G4 10 [a0, a1, a2, a3, a4] := ⟨x0.mono (t1.trans (t2.trans (t3.trans (t4)))), x1.mono (t2.trans (t3.trans (t4))), x2.mono (t3.trans (t4)), x3.mono (t4), x4, True.intro⟩
    have eo := tt _ _ e2
    refine ⟨(by show 5 ≤ sizeLine; decide), fun q hq => ⟨_, _, _, _, rfl, rfl, (by rw [upd_ne (ne_of_none eo hq)]; exact eo), upd_same, (by rw [List.length_map, l2]; show 15 ≤ sizeLine; decide), fun p3 hp => ?_⟩⟩
    obtain ⟨s3, n3, e3⟩ := laid2 (o1 := .lst [V.ref a0, V.ref a1, V.ref a2, V.ref a3, V.ref a4]) (o2 := .lst (as2.map V.ref ++ [V.ref a0, V.ref a1, V.ref a2, V.ref a3, V.ref a4])) (s2.trans tt) hq hp
    have r3 := ((r2.mono tt).app (m := 10) (by rw [l2]) rr).mono (laid2 (o1 := .lst [V.ref a0, V.ref a1, V.ref a2, V.ref a3, V.ref a4]) (o2 := .lst (as2.map V.ref ++ [V.ref a0, V.ref a1, V.ref a2, V.ref a3, V.ref a4])) (Same.refl _) hq hp).1
    have l3 : (as2 ++ [a0, a1, a2, a3, a4]).length = 15 := by rw [List.length_append, l2] <;> rfl
    have m9 : as2.map V.ref ++ [V.ref a0, V.ref a1, V.ref a2, V.ref a3, V.ref a4] = (as2 ++ [a0, a1, a2, a3, a4]).map V.ref := by rw [List.map_append] <;> rfl
    generalize upd (upd G4 q _) p3 _ = H3 at s3 e3 r3 ⊢
    rw [m9] at e3
    generalize as2 ++ [a0, a1, a2, a3, a4] = as3 at e3 r3 l3
    clear hq hp rr tt eo m9 n2 e2 r2 l2 q
    show tSeq _ _ { nx := fun _ H2 => Q .non H2, rt := Q } [some (.ref p3)] H3
    refine ⟨_, rfl, ?_⟩
    refine fun a0 G0 m0 t0 x0 => ?_
    refine fun a1 G1 m1 t1 x1 => ?_
    refine fun a2 G2 m2 t2 x2 => ?_
    refine fun a3 G3 m3 t3 x3 => ?_
    refine fun a4 G4 m4 t4 x4 => ?_
    have tt : Same H3 G4 := t0.trans (t1.trans (t2.trans (t3.trans (t4))))
    have rr : Row c V.non G4 15 [a0, a1, a2, a3, a4] := ⟨x0.mono (t1.trans (t2.trans (t3.trans (t4)))), x1.mono (t2.trans (t3.trans (t4))), x2.mono (t3.trans (t4)), x3.mono (t4), x4, True.intro⟩
    have eo := tt _ _ e3
    refine ⟨(by show 5 ≤ sizeLine; decide), fun q hq => ⟨_, _, _, _, rfl, rfl, (by rw [upd_ne (ne_of_none eo hq)]; exact eo), upd_same, (by rw [List.length_map, l3]; show 20 ≤ sizeLine; decide), fun p4 hp => ?_⟩⟩
    obtain ⟨s4, n4, e4⟩ := laid2 (o1 := .lst [V.ref a0, V.ref a1, V.ref a2, V.ref a3, V.ref a4]) (o2 := .lst (as3.map V.ref ++ [V.ref a0, V.ref a1, V.ref a2, V.ref a3, V.ref a4])) (s3.trans tt) hq hp
    have r4 := ((r3.mono tt).app (m := 15) (by rw [l3]) rr).mono (laid2 (o1 := .lst [V.ref a0, V.ref a1, V.ref a2, V.ref a3, V.ref a4]) (o2 := .lst (as3.map V.ref ++ [V.ref a0, V.ref a1, V.ref a2, V.ref a3, V.ref a4])) (Same.refl _) hq hp).1
    have l4 : (as3 ++ [a0, a1, a2, a3, a4]).length = 20 := by rw [List.length_append, l3] <;> rfl
    have m9 : as3.map V.ref ++ [V.ref a0, V.ref a1, V.ref a2, V.ref a3, V.ref a4] = (as3 ++ [a0, a1, a2, a3, a4]).map V.ref := by rw [List.map_append] <;> rfl
    generalize upd (upd G4 q _) p4 _ = H4 at s4 e4 r4 ⊢
    rw [m9] at e4
    generalize as3 ++ [a0, a1, a2, a3, a4] = as4 at e4 r4 l4
    clear hq hp rr tt eo m9 n3 e3 r3 l3 q
    show tSeq _ _ { nx := fun _ H2 => Q .non H2, rt := Q } [some (.ref p4)] H4
    refine ⟨_, rfl, ?_⟩
    refine fun a0 G0 m0 t0 x0 => ?_
    refine fun a1 G1 m1 t1 x1 => ?_
    refine fun a2 G2 m2 t2 x2 => ?_
    refine fun a3 G3 m3 t3 x3 => ?_
    refine fun a4 G4 m4 t4 x4 => ?_
    have tt : Same H4 G4 := t0.trans (t1.trans (t2.trans (t3.trans (t4))))
    have rr : Row c V.non G4 20 [a0, a1, a2, a3, a4] := ⟨x0.mono (t1.trans (t2.trans (t3.trans (t4)))), x1.mono (t2.trans (t3.trans (t4))), x2.mono (t3.trans (t4)), x3.mono (t4), x4, True.intro⟩
    have eo := tt _ _ e4
    refine ⟨(by show 5 ≤ sizeLine; decide), fun q hq => ⟨_, _, _, _, rfl, rfl, (by rw [upd_ne (ne_of_none eo hq)]; exact eo), upd_same, (by rw [List.length_map, l4]; show 25 ≤ sizeLine; decide), fun p5 hp => ?_⟩⟩
    obtain ⟨s5, n5, e5⟩ := laid2 (o1 := .lst [V.ref a0, V.ref a1, V.ref a2, V.ref a3, V.ref a4]) (o2 := .lst (as4.map V.ref ++ [V.ref a0, V.ref a1, V.ref a2, V.ref a3, V.ref a4])) (s4.trans tt) hq hp
    have r5 := ((r4.mono tt).app (m := 20) (by rw [l4]) rr).mono (laid2 (o1 := .lst [V.ref a0, V.ref a1, V.ref a2, V.ref a3, V.ref a4]) (o2 := .lst (as4.map V.ref ++ [V.ref a0, V.ref a1, V.ref a2, V.ref a3, V.ref a4])) (Same.refl _) hq hp).1
    have l5 : (as4 ++ [a0, a1, a2, a3, a4]).length = 25 := by rw [List.length_append, l4] <;> rfl
    have m9 : as4.map V.ref ++ [V.ref a0, V.ref a1, V.ref a2, V.ref a3, V.ref a4] = (as4 ++ [a0, a1, a2, a3, a4]).map V.ref := by rw [List.map_append] <;> rfl
    generalize upd (upd G4 q _) p5 _ = H5 at s5 e5 r5 ⊢
    rw [m9] at e5
    generalize as4 ++ [a0, a1, a2, a3, a4] = as5 at e5 r5 l5
    clear hq hp rr tt eo m9 n4 e4 r4 l4 q
    show tSeq _ _ { nx := fun _ H2 => Q .non H2, rt := Q } [some (.ref p5)] H5
    refine ⟨_, rfl, ?_⟩
    refine fun a0 G0 m0 t0 x0 => ?_
    refine fun a1 G1 m1 t1 x1 => ?_
    have tt : Same H5 G1 := t0.trans (t1)
    have rr : Row c V.non G1 25 [a0, a1] := ⟨x0.mono (t1), x1, True.intro⟩
    have eo := tt _ _ e5
    refine ⟨(by show 2 ≤ sizeLine; decide), fun q hq => ⟨_, _, _, _, rfl, rfl, (by rw [upd_ne (ne_of_none eo hq)]; exact eo), upd_same, (by rw [List.length_map, l5]; show 27 ≤ sizeLine; decide), fun p6 hp => ?_⟩⟩
    obtain ⟨s6, n6, e6⟩ := laid2 (o1 := .lst [V.ref a0, V.ref a1]) (o2 := .lst (as5.map V.ref ++ [V.ref a0, V.ref a1])) (s5.trans tt) hq hp
    have r6 := ((r5.mono tt).app (m := 25) (by rw [l5]) rr).mono (laid2 (o1 := .lst [V.ref a0, V.ref a1]) (o2 := .lst (as5.map V.ref ++ [V.ref a0, V.ref a1])) (Same.refl _) hq hp).1
    have l6 : (as5 ++ [a0, a1]).length = 27 := by rw [List.length_append, l5] <;> rfl
    have m9 : as5.map V.ref ++ [V.ref a0, V.ref a1] = (as5 ++ [a0, a1]).map V.ref := by rw [List.map_append] <;> rfl
    generalize upd (upd G1 q _) p6 _ = H6 at s6 e6 r6 ⊢
    rw [m9] at e6
    generalize as5 ++ [a0, a1] = as6 at e6 r6 l6
    clear hq hp rr tt eo m9 n5 e5 r5 l5 q
    show tRet (tVar 0) { nx := fun _ H2 => Q .non H2, rt := Q } [some (.ref p6)] H6
    exact ⟨_, rfl, k _ _ _ n6 s6 e6 l6 r6⟩
end
end K1

namespace K1
open PySem PySem.Spec PyProof.Rows L2
section
variable {P : Program} {w : World} {K : PySem.W.Frag} {mg : Str → Option Value} {base : Heap} {c : Nat → Addr} {cN : Addr}
theorem Txt.val (T : Txt P w K mg base c cN) : ∀ i, i < 24 → ∃ x, XC P w K mg base x "value" (c i)
  | 0, _ => ⟨_, T.x0⟩
  | 1, _ => ⟨_, T.x1⟩
  | 2, _ => ⟨_, T.x2⟩
  | 3, _ => ⟨_, T.x3⟩
  | 4, _ => ⟨_, T.x4⟩
  | 5, _ => ⟨_, T.x5⟩
  | 6, _ => ⟨_, T.x6⟩
  | 7, _ => ⟨_, T.x7⟩
  | 8, _ => ⟨_, T.x8⟩
  | 9, _ => ⟨_, T.x9⟩
  | 10, _ => ⟨_, T.x10⟩
  | 11, _ => ⟨_, T.x11⟩
  | 12, _ => ⟨_, T.x12⟩
  | 13, _ => ⟨_, T.x13⟩
  | 14, _ => ⟨_, T.x14⟩
  | 15, _ => ⟨_, T.x15⟩
  | 16, _ => ⟨_, T.x16⟩
  | 17, _ => ⟨_, T.x17⟩
  | 18, _ => ⟨_, T.x18⟩
  | 19, _ => ⟨_, T.x19⟩
  | 20, _ => ⟨_, T.x20⟩
  | 21, _ => ⟨_, T.x21⟩
  | 22, _ => ⟨_, T.x22⟩
  | 23, _ => ⟨_, T.x23⟩
  | n + 24, h => absurd h (by omega)
theorem fl_val {i : Nat} (h : i < 24) : fl i = "value" := by
  unfold fl
  rw [if_neg (by omega), if_neg (by omega), if_neg (by omega)]
theorem take_more {α : Type} {v : α} {n : Nat} : List.replicate n v ++ [v] = List.replicate (n + 1) v := by
  rw [List.replicate_succ'] <;> rfl
/-- _law_fields(errors) -/
def spFields (c : Nat → Addr) : Sp := fun vs H Q _ => ∃ (p : Addr) (as : List Addr) (v : V), vs = [.ref p] ∧ H p = some (.lst (as.map V.ref)) ∧ as.length = 27 ∧ Row c v H 0 as ∧
  ∀ (r : Addr) (H' : Hp), H r = none → Same H H' → H' r = some (.lst (List.replicate 27 v)) → Q (.ref r) H'
theorem scFields : FnScope ["_law_errors", "_law_found", "_law_error"] ["_law_errors"] (defScope sFields) := ⟨rfl, rfl, rfl, by decide +kernel, rfl, by decide +kernel, by decide +kernel⟩
theorem ok_fields {f : Addr} {fd : FuncData} (F : Fun K "_law_fields" "_law_fields" sFields f fd) (T : Txt P w K mg base c cN) : FnOk P w K mg base CX0 3 f fd ["_law_errors"] (spFields c) := by
  refine F.ok scFields (fun vs H Q E h => ?_) (fun cdv A outer s H vs Q E hr h => ?_)
  · obtain ⟨p, as, v, rfl, _⟩ := h
    rfl
  · obtain ⟨p, as, v, rfl, hp, hl, hrow, k⟩ := h
    have hcut : cutV (as.map V.ref) none (some 24) = (as.take 24).map V.ref := by
      unfold cutV
      rw [List.length_map, hl]
      show ((as.map V.ref).drop 0).take 24 = _
      rw [List.drop_zero, List.map_take]
    have it : ∀ i, i < 27 → ∃ a, as[i]? = some a ∧ EA H a (c i) (fl i) v := fun i hi => by
      have e : as[i]? = some as[i] := List.getElem?_eq_getElem (by omega)
      have q := hrow.get e
      rw [Nat.zero_add] at q
      exact ⟨_, e, q⟩
    obtain ⟨a24, g24, x24⟩ := it 24 (by decide)
    obtain ⟨a25, g25, x25⟩ := it 25 (by decide)
    obtain ⟨a26, g26, x26⟩ := it 26 (by decide)
    have at_ : ∀ {i : Nat} {a : Addr}, as[i]? = some a → atI (as.map V.ref) (i : Int) = some (.ref a) := fun {i a} e => atI_nat (by rw [List.getElem?_map, e] <;> rfl)
    refine ⟨_, pss_cons (ps_setLc (i := 1) (own := [("_law_error", 2)]) (g := gName 2) (tt := tYes) (te := tXF K P w mg base "value" (tVar 2)) rfl scFields.nd rfl rfl (sw_true rfl rfl rfl (by decide +kernel))
        (pi_list (pe_slice sl_list (pv 0) po_none (po_some pe_int))) (blkOk_by (own := [("_law_error", 2)]) (N := ["_law_errors", "_law_found", "_law_error"]) (sc := defScope sFields) (by decide +kernel))
        (fun _ _ _ _ _ => pg_name (i := 2) scFields.nd rfl (Or.inl rfl)) (fun _ _ _ _ _ => pts_nil) (fun _ _ _ _ _ => by exact (pe_xf1 (pv 2))))
      (pss_one (ps_ret (pe_op op_cat (pv 1) (pe_lst (pa_cons (pe_xf1 (pe_ix ix_list (pv 0) pe_int (fun _ _ => rfl))) (pa_cons (pe_xf1 (pe_ix ix_list (pv 0) pe_int (fun _ _ => rfl)))
        (pa_cons (pe_xf1 (pe_ix ix_list (pv 0) pe_int (fun _ _ => rfl))) pa_nil))))))), ?_⟩
    refine ⟨_, rfl, _, rfl, _, _, rfl, SqL.of hp, fun q hq => ?_⟩
    have s1 : Same H (upd H q (.lst (cutV (as.map V.ref) none (some 24)))) := same_upd hq
    have e1 : upd H q (.lst (cutV (as.map V.ref) none (some 24))) q = some (.lst ((as.take 24).map V.ref)) := by rw [upd_same, hcut]
    generalize upd H q (.lst (cutV (as.map V.ref) none (some 24))) = G at s1 e1 ⊢
    refine ⟨q, rfl, ⟨_, SqL.of e1⟩, fun D nD => ?_⟩
    have hlen : ((as.take 24).map V.ref).length = 24 := by
      rw [List.length_map, List.length_take, hl] <;> rfl
    refine lc_list (K := K) (a := q) (xs := (as.take 24).map V.ref) (fun i H' => Same G H' ∧ H' D = some (.lst (List.replicate i v))) ⟨same_upd nD, upd_same⟩ (fun i H' _ ⟨s, _⟩ => SqL.of (s _ _ e1)) ?_ ?_
    · rintro i y H' hi ⟨s2, e2⟩
      have hi24 : i < 24 := by
        have z := (List.getElem?_eq_some_iff.mp hi).1
        omega
      obtain ⟨a, ga, xa⟩ := it i (by omega)
      have ey : y = V.ref a := by
        rw [List.getElem?_map, List.getElem?_take_of_lt hi24, ga] at hi
        exact (Option.some.inj hi).symm
      subst ey
      obtain ⟨x, cx⟩ := T.val i hi24
      rw [fl_val hi24] at xa
      refine ⟨rfl, _, rfl, a, c i, x, v, rfl, cx, xa.mono (s1.trans s2), List.replicate i v, e2, ?_, ?_⟩
      · rw [List.length_replicate]
        exact Nat.lt_of_lt_of_le hi24 (by decide)
      · refine ⟨fun b o e => ?_, by rw [upd_same, take_more]⟩
        rw [upd_ne (ne_of_none e nD)]
        exact s2 _ _ e
    · rintro H' ⟨s2, e2⟩
      rw [hlen] at e2
      have s3 : Same H H' := s1.trans s2
      refine ⟨_, rfl, _, rfl, _, _, _, _, rfl, rfl, SqL.of (s3 _ _ hp), at_ (i := 24) g24, _, _, _, _, rfl, T.x24, x24.mono s3, _, rfl, _, _, _, _, rfl, rfl, SqL.of (s3 _ _ hp), at_ (i := 25) g25, _, _, _, _, rfl, T.x25, x25.mono s3,
        _, rfl, _, _, _, _, rfl, rfl, SqL.of (s3 _ _ hp), at_ (i := 26) g26, _, _, _, _, rfl, T.x26, x26.mono s3, (by show 3 ≤ sizeLine; decide), fun l nl => ?_⟩
      refine ⟨_, _, _, _, rfl, rfl, (by rw [upd_ne (ne_of_none e2 nl)]; exact e2), upd_same, (by rw [List.length_replicate]; show 27 ≤ sizeLine; decide), fun r nr => ?_⟩
      obtain ⟨s4, n4, e4⟩ := laid2 (o1 := .lst [v, v, v]) (o2 := .lst (List.replicate 24 v ++ [v, v, v])) s3 nl nr
      exact k _ _ n4 s4 e4
end
end K1

namespace K1
open PySem PySem.Spec PyProof.Rows L2
theorem layAll : ∀ {ds : List PyData}, (∀ d ∈ ds, d.canLay0 = true ∧ d.depth ≤ 60) → PyData.canLayAll0 ds = true ∧ PyData.depthAll ds ≤ 60
  | [], _ => ⟨by simp [PyData.canLayAll0], by simp [PyData.depthAll]⟩
  | d :: ds, h => by
    obtain ⟨h1, h2⟩ := h d List.mem_cons_self
    obtain ⟨h3, h4⟩ := layAll (ds := ds) fun x hx => h x (List.mem_cons_of_mem _ hx)
    refine ⟨by simp [PyData.canLayAll0, h1, h3], ?_⟩
    simp only [PyData.depthAll]
    omega
theorem shaped_list {ds : List PyData} (h : ∀ d ∈ ds, d.canLay0 = true ∧ d.depth ≤ 60) : SeqAt.shaped (.list ds) = true := by
  obtain ⟨h1, h2⟩ := layAll h
  refine Bool.and_eq_true_iff.mpr ⟨by simpa [PyData.canLay0] using h1, decide_eq_true ?_⟩
  simp only [PyData.depth]
  omega
theorem shaped_bools (bs : List Bool) : SeqAt.shaped (.list (bs.map PyData.bool)) = true := shaped_list fun d hd => by
  obtain ⟨b, _, rfl⟩ := List.mem_map.mp hd
  exact ⟨by simp [PyData.canLay0], by simp [PyData.depth]⟩
theorem eqv_same {d : PyData} (h : SeqAt.shaped d = true) : PyData.eqv d d = true := by
  first
    | exact P3.eqv_refl d (SeqAt.canLay_of_shaped h)
    | exact SeqAt.eqv_refl d (SeqAt.canLay_of_shaped h)
    | exact PySem.eqv_refl d (SeqAt.canLay_of_shaped h)
theorem dp_bools {K : PySem.W.Frag} {H : Hp} : ∀ bs : List Bool, DpAll K H (bs.map V.bl) (bs.map PyData.bool)
  | [] => .nil
  | b :: bs => .cons (.bl b) (dp_bools bs)
section
variable {P : Program} {w : World} {K : PySem.W.Frag} {mg : Str → Option Value} {base : Heap} {c : Nat → Addr} {cN : Addr}
/-- _law_placed(errors) -/
def spPlaced (c : Nat → Addr) : Sp := fun vs H Q _ => ∃ (p : Addr) (as : List Addr), vs = [.ref p] ∧ H p = some (.lst (as.map V.ref)) ∧ as.length = 29 ∧ (∀ i a, as[i]? = some a → IsX H a (c i)) ∧
  ∀ H' : Hp, Same H H' → Q (.bl true) H'
/-- built-ins that the law's defs call -/
structure Blt (mg : Str → Option Value) : Prop where
  isi : mg "isinstance" = none
  ve : mg "ValueError" = none
  en : mg "enumerate" = none
  rg : mg "range" = none
theorem bootVE : bootBuiltins "ValueError" = some (.type "ValueError") := by decide +kernel
theorem pe_isiV {X : Cx} {e : Str} {p pe px pos : Pos} {i : Nat} (O : XObj X.K) (hg : Gl X "isinstance") (hm : X.mg "isinstance" = none) (h0 : PE X (.Name e pe) (tVar i)) (hx : Gl X "ValueError") (gx : X.mg "ValueError" = none) :
    PE X (.Call (.Name "isinstance" p) [.Name e pe, .Name "ValueError" px] [] pos) (tCB (rIsX X.K) (tCons (tVar i) (tCons (tC (.ty "ValueError")) tNil))) :=
  pe_callB (call_isX O) hg hm bootIsi (pa_cons h0 (pa_cons (pe_bltn (v := V.ty "ValueError") hx gx bootVE rfl) pa_nil))
theorem pe_isiC {X : Cx} {e x : Str} {p pe px pos : Pos} {i : Nat} {C : Addr} (O : XObj X.K) (hg : Gl X "isinstance") (hm : X.mg "isinstance" = none) (h0 : PE X (.Name e pe) (tVar i)) (hx : Gl X x) (gx : X.mg x = some (.ref C)) (hdb : (x == ("__debug__" : Str)) = false := by decide) :
    PE X (.Call (.Name "isinstance" p) [.Name e pe, .Name x px] [] pos) (tCB (rIsX X.K) (tCons (tVar i) (tCons (tC (.ref C)) tNil))) :=
  pe_callB (call_isX O) hg hm bootIsi (pa_cons h0 (pa_cons (pe_glob (v := V.ref C) hx gx rfl hdb) pa_nil))
theorem scPlaced : FnScope ["_law_errors", "_law_at", "_law_error", "_law_spot"] ["_law_errors"] (defScope sPlaced) := ⟨rfl, rfl, rfl, by decide +kernel, rfl, by decide +kernel, by decide +kernel⟩
theorem ok_placed {f fC : Addr} {fd fdC : FuncData} (F : Fun K "_law_placed" "_law_placed" sPlaced f fd) (T : Txt P w K mg base c cN) (B : Blt mg)
    (gC : mg "_law_classes" = some (.ref fC)) (FC : Fun K "_law_classes" "_law_classes" sClasses fC fdC) (bC : Binds K fdC ["_law_error"] []) :
    FnOk P w K mg base CX0 3 f fd ["_law_errors"] (spPlaced c) := by
  have GC : FnOk P w K mg base CX0 1 fC fdC ["_law_error"] (spClasses K c) := ok_classes FC T
  refine F.ok scPlaced (fun vs H Q E h => ?_) (fun cdv A outer s H vs Q E hr h => ?_)
  · obtain ⟨p, as, rfl, _⟩ := h
    rfl
  · obtain ⟨p, as, rfl, hp, hl, hx, k⟩ := h
    have hr1 : Room 1 _ := hr.mono (by decide)
    refine ⟨_, pss_cons (ps_for PassesOwn.never rfl (pi_enum (by rfl) B.en (pa_cons (pv 0) pa_nil))
        (pg_tup rfl (pgs_cons (pg_name (i := 1) scPlaced.nd rfl (Or.inr rfl)) (pgs_cons (pg_name (i := 2) scPlaced.nd rfl (Or.inl rfl)) pgs_nil)))
        (pss_cons (ps_if (PW.pt (pw_or (pt_not (pt_val (by exact (pe_isiC T.obj rfl B.isi (pv 2) rfl T.gN)))) (pw_or1 (pt_not (pt_val (by exact (pe_isiV T.obj rfl B.isi (pv 2) rfl B.ve))))))) (pss_one (ps_ret pe_bl)) pss_nil)
          (pss_one (ps_if (pt_cmpR (op_neD hr.units) (by exact (pe_call GC hr1 rfl gC FC.kp bC .nil pass0 (pa_cons (pv 2) pa_nil)))
            (by exact (pe_lc (own := [("_law_spot", 3)]) (g := gName 3) (tt := tYes) (te := tCmp (fun i j => decide (i = j)) (tVar 3) (tVar 1)) rfl scPlaced.nd (pi_range1 (by rfl) B.rg (pa_cons pe_int pa_nil))
              (blkOk_by (own := [("_law_spot", 3)]) (N := ["_law_errors", "_law_at", "_law_error", "_law_spot"]) (sc := defScope sPlaced) (by decide +kernel))
              (fun _ _ _ _ _ => pg_name (i := 3) scPlaced.nd rfl (Or.inl rfl)) (fun _ _ _ _ _ => pts_nil) (fun _ _ _ _ _ => by exact (pe_cmp (pc_eqI (pv 3) (pv 1)) rfl)))) (nomark _))
            (pss_one (ps_ret pe_bl)) pss_nil))))
      (pss_one (ps_ret pe_bl)), ?_⟩
    have sq : ∀ {H' : Hp}, Same H H' → SqL K H' p (as.map V.ref) := fun {H'} s => SqL.of (s _ _ hp)
    refine ⟨_, rfl, p, as.map V.ref, rfl, SqL.of hp, for_it walk_enum (fun i σ H' => Same H H' ∧ ∃ o1 o2 : Option V, σ = [some (.ref p), o1, o2, none]) ⟨Same.refl H, none, none, rfl⟩ (fun i σ H' _ z => sq z.1) ?_ ?_⟩
    · rintro i y σ G G' hi ⟨s1, o1, o2, rfl⟩ ⟨T0, y1, y2, rfl, nT, rfl, e1, e2⟩
      obtain rfl : V.int (i : Nat) = y1 := Option.some.inj e1
      have hi29 : i < 29 := by
        rw [List.length_map, hl] at hi
        exact hi
      obtain ⟨a, ga, rfl⟩ : ∃ a, as[i]? = some a ∧ y2 = V.ref a := by
        have e2 : (as.map V.ref)[i]? = some y2 := e2
        rw [List.getElem?_map] at e2
        cases g : as[i]? with
        | none =>
          rw [g] at e2
          cases e2
        | some a =>
          rw [g] at e2
          exact ⟨a, rfl, (Option.some.inj e2).symm⟩
      have s2 : Same H (upd G T0 (.tup [.int (i : Nat), .ref a])) := s1.trans (same_upd nT)
      have e3 : SqT K (upd G T0 (.tup [.int (i : Nat), .ref a])) T0 [.int (i : Nat), .ref a] := SqT.of upd_same
      generalize upd G T0 (.tup [.int (i : Nat), .ref a]) = G1 at s2 e3 ⊢
      have hxa := (hx i a ga).mono s2
      refine ⟨T0, _, rfl, e3, rfl, _, _, rfl, _, _, rfl, rfl, ?_⟩
      refine ⟨_, rfl, a, c i, _, _, true, rfl, hxa, T.kit i hi29, .own _, T.toN i hi29, true, rfl, iteF ⟨_, rfl, a, c i, _, _, true, rfl, hxa, T.kit i hi29, .ty _, T.toV i hi29, true, rfl, iteF ?_⟩⟩
      refine ⟨_, rfl, a, c i, fun j => decide (j = i), rfl, hxa, T.kit i hi29, fun j hj => T.one i j hi29 hj, fun q G2 nq s3 eq => ?_⟩
      refine ⟨29, rfl, by decide, by decide, fun D nD => ?_⟩
      refine lc_range (lo := 0) (n := 29) (fun j H' => Same G2 H' ∧ H' D = some (.lst ((List.range j).map fun m => V.bl (decide ((0 : Int) + (m : Nat) = (i : Nat)))))) ⟨same_upd nD, upd_same⟩ ?_ ?_
      · rintro j G3 hj ⟨s4, e4⟩
        refine ⟨rfl, _, rfl, _, rfl, _, _, rfl, rfl, _, e4, ?_, ?_⟩
        · rw [List.length_map, List.length_range]
          exact Nat.lt_of_lt_of_le hj (by decide)
        · refine ⟨fun b o e => ?_, ?_⟩
          · rw [upd_ne (ne_of_none e nD)]
            exact s4 _ _ e
          · rw [upd_same, List.range_succ, List.map_append] <;> rfl
      · rintro G3 ⟨s4, e4⟩
        have same29 : ((List.range 29).map fun m => V.bl (decide ((0 : Int) + (m : Nat) = (i : Nat)))) = ((List.range 29).map fun j => decide (j = i)).map V.bl := by
          rw [List.map_map]
          refine List.map_congr_left fun m _ => ?_
          show V.bl _ = V.bl _
          refine congrArg V.bl (decide_eq_decide.mpr ?_)
          omega
        have map29 : ((List.range 29).map fun j => V.bl (decide (j = i))) = ((List.range 29).map fun j => decide (j = i)).map V.bl := by
          rw [List.map_map] <;> rfl
        rw [same29] at e4
        rw [map29] at eq
        refine ⟨_, _, .lst (SqL.of (s4 _ _ eq)) (dp_bools _), .lst (SqL.of e4) (dp_bools _), shaped_bools _, shaped_bools _, _, rfl, ?_⟩
        rw [eqv_same (shaped_bools _)]
        exact iteF ⟨s2.trans (s3.trans s4), _, _, rfl⟩
    · rintro σ G ⟨s1, o1, o2, rfl⟩
      exact k _ s1
end
end K1

namespace K1
open PySem PySem.Spec PyProof.Rows L2
/-! ### data with dicts of one written kind -/
mutual
inductive Dz (H : Hp) : V → PyData → Prop
  | non : Dz H .non .none
  | bl (b : Bool) : Dz H (.bl b) (.bool b)
  | int (i : Int) : Dz H (.int i) (.int i)
  | str (x : Str) : Dz H (.str x) (.str x)
  | lst {a : Addr} {xs : List V} {ds : List PyData} : H a = some (.lst xs) → DzAll H xs ds → Dz H (.ref a) (.list ds)
  | tup {a : Addr} {xs : List V} {ds : List PyData} : H a = some (.tup xs) → DzAll H xs ds → Dz H (.ref a) (.tuple ds)
  | dct0 {a : Addr} : H a = some (.dK []) → Dz H (.ref a) (.dict [])
  | dct1 {a : Addr} {k : Str} {i : Int} : H a = some (.dK [(.inr k, .int i)]) → Dz H (.ref a) (.dict [(.str k, .int i)])
inductive DzAll (H : Hp) : List V → List PyData → Prop
  | nil : DzAll H [] []
  | cons {v : V} {vs : List V} {d : PyData} {ds : List PyData} : Dz H v d → DzAll H vs ds → DzAll H (v :: vs) (d :: ds)
end
mutual
theorem Dz.mono {H H' : Hp} (s : Same H H') : ∀ (d : PyData) (v : V), Dz H v d → Dz H' v d
  | .none, _, h => by
    cases h
    exact .non
  | .bool b, _, h => by
    cases h
    exact .bl b
  | .int i, _, h => by
    cases h
    exact .int i
  | .str x, _, h => by
    cases h
    exact .str x
  | .list ds, _, h => by
    cases h with
    | lst e r => exact .lst (s _ _ e) (DzAll.mono s ds _ r)
  | .tuple ds, _, h => by
    cases h with
    | tup e r => exact .tup (s _ _ e) (DzAll.mono s ds _ r)
  | .dict kvs, _, h => by
    cases h with
    | dct0 e => exact .dct0 (s _ _ e)
    | dct1 e => exact .dct1 (s _ _ e)
theorem DzAll.mono {H H' : Hp} (s : Same H H') : ∀ (ds : List PyData) (vs : List V), DzAll H vs ds → DzAll H' vs ds
  | [], _, h => by
    cases h
    exact .nil
  | d :: ds, _, h => by
    cases h with
    | cons h1 h2 => exact .cons (Dz.mono s d _ h1) (DzAll.mono s ds _ h2)
end
section
variable {P : Program} {w : World} {K : PySem.W.Frag} {H : Hp}
theorem rdd_dct0 {a : Addr} (e : H a = some (.dK [])) : Rdd P w K H (.ref a) (.dict []) := fun h u ok kin r => by
  obtain rfl : u = Value.ref a := r
  obtain ⟨_, _, vs, kv, o, es, ep, ho, hx, hd, hks, hps, _⟩ := (show ObjOk P w H h a (.dK []) from ok a _ e)
  cases kv
  cases hq : es.toList with
  | cons z zs =>
    rw [hq] at hps
    cases hps
  | nil =>
    refine ⟨a :: [] ++ [], .dict ho hx.1 hd (by rw [hq]; exact .nil) (by rw [hq]; exact .nil), fun b hb => ?_⟩
    rw [List.append_nil] at hb
    rw [List.mem_singleton.mp hb, e]
    exact fun q => nomatch q
theorem rdd_dct1 {a : Addr} {k : Str} {i : Int} (e : H a = some (.dK [(.inr k, .int i)])) : Rdd P w K H (.ref a) (.dict [(.str k, .int i)]) := fun h u ok kin r => by
  obtain rfl : u = Value.ref a := r
  obtain ⟨_, _, vs, kv, o, es, ep, ho, hx, hd, hks, hps, _⟩ := (show ObjOk P w H h a (.dK [(.inr k, .int i)]) from ok a _ e)
  cases kv with
  | @cons _ q _ qs h1 h2 =>
    cases h2
    obtain ⟨g1, g2⟩ := h1
    obtain ⟨qk, qv⟩ := q
    dsimp only at g1 g2
    subst g1
    obtain ⟨t, rfl⟩ := (show ∃ t, qv = Value.int i t from g2)
    cases hq : es.toList with
    | nil =>
      rw [hq] at hps
      cases hps
    | cons z zs =>
      rw [hq] at hps
      cases hps with
      | cons p1 p2 p3 =>
        cases p3
        rcases keyIs_shape (k := Sum.inr k) (v := z.key) p1 with ⟨_, _, q, _⟩ | ⟨x, t2, q, ek⟩
        · cases q
        · cases q
          refine ⟨a :: ([] ++ []) ++ ([] ++ []), .dict ho hx.1 hd ?_ ?_, fun b hb => ?_⟩
          · rw [hq]
            show ReadsAll h [z.key] [.str k] ([] ++ [])
            rw [ek]
            exact .cons (.str _ _) .nil
          · rw [hq]
            show ReadsAll h [z.val] [.int i] ([] ++ [])
            rw [p2]
            exact .cons (.int _ _) .nil
          · rw [List.append_nil, List.append_nil] at hb
            rw [List.mem_singleton.mp hb, e]
            exact fun q => nomatch q
mutual
theorem rdd_dz : ∀ (d : PyData) (v : V), Dz H v d → Rdd P w K H v d
  | .none, _, h => by
    cases h
    exact rdd_non
  | .bool b, _, h => by
    cases h
    exact rdd_bl b
  | .int i, _, h => by
    cases h
    exact rdd_int i
  | .str x, _, h => by
    cases h
    exact rdd_str x
  | .list ds, _, h => by
    cases h with
    | lst e r => exact rdd_lst e (rdd_dzs ds _ r)
  | .tuple ds, _, h => by
    cases h with
    | tup e r => exact rdd_tup e (rdd_dzs ds _ r)
  | .dict kvs, _, h => by
    cases h with
    | dct0 e => exact rdd_dct0 e
    | dct1 e => exact rdd_dct1 e
theorem rdd_dzs : ∀ (ds : List PyData) (vs : List V), DzAll H vs ds → RddAll P w K H vs ds
  | [], _, h => by
    cases h
    exact rddAll_nil
  | d :: ds, _, h => by
    cases h with
    | cons h1 h2 => exact rddAll_cons (rdd_dz d _ h1) (rdd_dzs ds _ h2)
end
theorem dzAll_rep {v : V} {d : PyData} (h : Dz H v d) : ∀ n : Nat, DzAll H (List.replicate n v) (List.replicate n d)
  | 0 => .nil
  | n + 1 => .cons h (dzAll_rep h n)
theorem DzAll.app {vs us : List V} {ds es : List PyData} : DzAll H vs ds → DzAll H us es → DzAll H (vs ++ us) (ds ++ es) := by
  induction vs generalizing ds with
  | nil =>
    intro h1 h2
    cases h1
    exact h2
  | cons v vs ih =>
    intro h1 h2
    cases h1 with
    | cons a b => exact .cons a (ih b h2)
end
/-! ### how long what is shown may be -/
def Sm (d : PyData) (n : Nat) : Prop := d.showable = true ∧ d.shown.length ≤ n ∧ d.depth ≤ 3
theorem textFrom_le : ∀ (ts : List Str) (k : Nat) (acc : Str), (textFrom k acc ts).length ≤ acc.length + piled ts
  | [], _, acc => Nat.le_add_right _ _
  | t :: r, k, acc => by
    have ih := textFrom_le r (k + 1) (acc ++ (if k > 0 then ", " else "" : String) ++ t)
    have e : (acc ++ (if k > 0 then ", " else "" : String) ++ t).length = acc.length + (if k > 0 then 2 else 0) + t.length := by
      rw [strLen_append, strLen_append]
      split <;> rfl
    rw [e] at ih
    rw [piled_cons]
    show (textFrom (k + 1) _ r).length ≤ _
    have le2 : (if k > 0 then 2 else 0 : Nat) ≤ 2 := by split <;> omega
    omega
theorem listText_le (ts : List Str) : (listText ts).length ≤ 2 + piled ts := by
  have h := textFrom_le ts 0 "["
  have e1 : (("[" : String) : Str).length = 1 := rfl
  have e2 : (("]" : String) : Str).length = 1 := rfl
  unfold listText
  rw [strLen_append, e2]
  rw [e1] at h
  omega
theorem sm_flat {d : PyData} {n : Nat} (h1 : d.showable = true) (h2 : d.shown.length ≤ n) (h3 : d.depth = 0) : Sm d n := ⟨h1, h2, by omega⟩
theorem sm_int {i : Int} (h : i.natAbs < 10 ^ 30) : Sm (.int i) 31 := by
  refine ⟨?_, ?_, by simp [PyData.depth]⟩
  · simp only [PyData.showable, decide_eq_true_eq]
    by_cases z : i.natAbs = 0
    · rw [z]
      decide
    · exact Nat.lt_of_lt_of_le ((Nat.log2_lt z).mpr (Nat.lt_of_lt_of_le h (by decide : 10 ^ 30 ≤ 2 ^ 100))) (by decide)
  · simp only [PyData.shown]
    show (Str.ofString (toString i)).length ≤ 31
    rw [PySem.ofString_length]
    exact int_text_length_le10 (by decide) h
/-- items that are small: what a list of them shows -/
theorem smAll {m : Nat} : ∀ {ds : List PyData}, (∀ d ∈ ds, Sm d m ∧ d.depth ≤ 2) → PyData.showableAll ds = true ∧ piled (PyData.shownAll ds) ≤ ds.length * (m + 2) ∧ PyData.depthAll ds ≤ 2
  | [], _ => ⟨by simp [PyData.showableAll], by simp [PyData.shownAll, piled_nil], by simp [PyData.depthAll]⟩
  | d :: ds, h => by
    obtain ⟨⟨a, b, _⟩, c⟩ := h d List.mem_cons_self
    obtain ⟨h1, h2, h3⟩ := smAll (ds := ds) fun x hx => h x (List.mem_cons_of_mem _ hx)
    refine ⟨by simp [PyData.showableAll, a, h1], ?_, ?_⟩
    · simp only [PyData.shownAll, piled_cons, List.length_cons, Nat.add_mul, Nat.one_mul]
      omega
    · simp only [PyData.depthAll]
      omega
theorem sm_list {m n : Nat} {ds : List PyData} (h : ∀ d ∈ ds, Sm d m ∧ d.depth ≤ 2) (hn : 2 + ds.length * (m + 2) ≤ n) : Sm (.list ds) n := by
  obtain ⟨h1, h2, h3⟩ := smAll h
  refine ⟨by simpa [PyData.showable] using h1, ?_, ?_⟩
  · simp only [PyData.shown]
    exact Nat.le_trans (listText_le _) (by omega)
  · simp only [PyData.depth]
    omega
theorem tupleText_le (ts : List Str) : (tupleText ts).length ≤ 3 + piled ts := by
  unfold tupleText
  rw [strLen_append, strLen_append]
  have e1 : ((("(" : String) : Str)).length = 1 := rfl
  have e3 : (((if ts.length == 1 then ",)" else ")" : String) : Str)).length ≤ 2 := by split <;> decide
  rw [e1]
  cases ts with
  | nil =>
    have e4 : (Str.join ", " []).length = 0 := by decide
    rw [e4]
    omega
  | cons t r =>
    have e4 := join_length_add (t :: r) (by simp)
    omega
theorem sm_tuple {m n : Nat} {ds : List PyData} (h : ∀ d ∈ ds, Sm d m ∧ d.depth ≤ 2) (hn : 3 + ds.length * (m + 2) ≤ n) : Sm (.tuple ds) n := by
  obtain ⟨h1, h2, h3⟩ := smAll h
  refine ⟨by simpa [PyData.showable] using h1, ?_, ?_⟩
  · simp only [PyData.shown]
    exact Nat.le_trans (tupleText_le _) (by omega)
  · simp only [PyData.depth]
    omega
theorem sm_dict1 {i : Int} (h : i.natAbs < 10 ^ 30) : Sm (.dict [(.str "a", .int i)]) 60 := by
  obtain ⟨h1, h2, _⟩ := sm_int h
  refine ⟨by simp [PyData.showable, PyData.showableKv, h1] <;> simpa [PyData.showable] using h1, ?_, by simp [PyData.depth, PyData.depthKv]⟩
  simp only [PyData.shown, PyData.shownKv] at h2 ⊢
  unfold dictText
  rw [strLen_append, strLen_append]
  show _ + (reprText "a" ++ ": " ++ _ : Str).length + _ ≤ _
  rw [strLen_append, strLen_append]
  have e1 : (("{" : String) : Str).length = 1 := rfl
  have e2 : (("}" : String) : Str).length = 1 := rfl
  have e3 : ((": " : String) : Str).length = 2 := rfl
  have e4 : (reprText "a").length = 3 := by decide +kernel
  rw [e1, e2, e3, e4]
  omega
end K1

namespace K1
open PySem PySem.Spec PyProof.Rows L2
section
variable {X : Cx}
/-- text * number -/
theorem op_mulS : OpR X (binaryOp .Mult) (fun x y H Q => ∃ z n, x = .str z ∧ y = .int n ∧ MulOk z n ∧ Q (.str (Txt.mul z n)) H) := by
  intro pins s σ H x y v u Q I rx ry h
  obtain ⟨z, n, rfl, rfl, ok, q⟩ := h
  obtain ⟨t, rfl⟩ := rx
  obtain ⟨t2, rfl⟩ := ry
  exact SB.mul ok fun t' k => ⟨V.str (Txt.mul z n), H, I.tok k, ⟨t', rfl⟩, q⟩
end
/-- built-ins that _law_thing calls -/
structure Blt2 (mg : Str → Option Value) : Prop where
  int : mg "int" = none
  len : mg "len" = none
/-- what _law_thing hands back, from H on: v, the data d -/
structure ThingOk (K : PySem.W.Frag) (H H' : Hp) (v : V) (d : PyData) : Prop where
  dz : Dz H' v d
  sm : Sm d 110
  ty : ∃ t : String, TyX K H' v (.type t) ∧ ∃ b : Bool, kitB t "list" = some b ∧ (b = true → ∃ (a : Addr) (xs : List V) (ds : List PyData), v = .ref a ∧ H a = none ∧ H' a = some (.lst xs) ∧ d = .list ds ∧ xs.length ≤ 5 ∧ ds.length ≤ 2 ∧
    (∀ d ∈ ds, Sm d 40 ∧ d.depth ≤ 2) ∧ ∀ H'', Same H' H'' → ∀ o, DzAll (upd H'' a o) xs ds)
section
variable {P : Program} {w : World} {K : PySem.W.Frag} {mg : Str → Option Value} {base : Heap} {c : Nat → Addr} {cN : Addr}
def spThing (K : PySem.W.Frag) : Sp := fun vs H Q _ => ∃ n at_ : Int, vs = [.int n, .int at_] ∧ ∀ (v : V) (d : PyData) (H' : Hp), Same H H' → ThingOk K H H' v d → Q v H'
theorem scThing : FnScope ["_law_drawn", "_law_at", "_law_many", "_law_values"] ["_law_drawn", "_law_at"] (defScope sThing) := ⟨rfl, rfl, rfl, by decide +kernel, rfl, by decide +kernel, by decide +kernel⟩
theorem ok_thing {f : Addr} {fd : FuncData} (F : Fun K "_law_thing" "_law_thing" sThing f fd) (B : Blt2 mg) : FnOk P w K mg base CX0 1 f fd ["_law_drawn", "_law_at"] (spThing K) := by
  refine F.ok scThing (fun vs H Q E h => ?_) (fun cdv A outer s H vs Q E hr h => ?_)
  · obtain ⟨n, a, rfl, _⟩ := h
    rfl
  · obtain ⟨n, at_, rfl, k⟩ := h
    refine ⟨_, pss_cons (ps_set (i := 2) scThing.nd rfl (Or.inl rfl) (pe_op op_mod (pe_callTy call_int1 (by rfl) B.int (by decide +kernel) (pa_cons (pv 0) pa_nil)) (pe_op op_pow pe_int pe_int)))
      (pss_cons (ps_set (i := 3) scThing.nd rfl (Or.inl rfl) (pe_lst (pa_cons (pv 2) (pa_cons (pe_op op_sub pe_int (pv 2)) (pa_cons pe_non (pa_cons pe_bl (pa_cons pe_bl (pa_cons pe_str
        (pa_cons (pe_op op_mulS pe_str (pe_op op_mod (pv 2) pe_int)) (pa_cons (pe_lst pa_nil) (pa_cons (pe_lst (pa_cons (pv 2) pa_nil)) (pa_cons (pe_tup pa_nil) (pa_cons (pe_tup (pa_cons (pv 2) (pa_cons pe_str pa_nil))) pa_nil)))))))))))))
      (pss_cons (ps_set (i := 3) scThing.nd rfl (Or.inl rfl) (pe_op op_cat (pv 3) (pe_lst (pa_cons pe_dnewK (pa_cons (pe_disp (pps_cons pe_str (pv 2) pps_nil) (by rfl) (by rfl) (fun z => by cases z) (by decide))
        (pa_cons (pe_lst (pa_cons (pe_lst (pa_cons (pv 2) pa_nil)) (pa_cons pe_non pa_nil))) (pa_cons pe_str pa_nil)))))))
      (pss_one (ps_ret (pe_ix ix_list (pv 3) (pe_op op_mod (pe_op op_add (pv 2) (pv 1)) (pe_callB call_len_seq (by rfl) B.len PySem.boot_len (pa_cons (pv 3) pa_nil))) (fun _ _ => rfl)))))), ?_⟩
    have hp : (0 : Int) < 10 ^ (30 : Int).toNat := by decide +kernel
    refine ⟨_, rfl, .inl ⟨_, rfl, _, _, rfl, rfl, ⟨by decide, by decide, by decide⟩, _, _, rfl, rfl, hp, ?_⟩⟩
    have m0 : 0 ≤ n % (10 ^ (30 : Int).toNat) := Int.emod_nonneg n (Int.ne_of_gt hp)
    have m1 : n % (10 ^ (30 : Int).toNat) < 10 ^ (30 : Int).toNat := Int.emod_lt_of_pos n hp
    show tSeq _ _ { nx := fun _ H2 => Q .non H2, rt := Q } [some (.int n), some (.int at_), some (.int (n % (10 ^ (30 : Int).toNat))), none] H
    generalize n % (10 ^ (30 : Int).toNat) = M at m0 m1 ⊢
    have m2 : M.natAbs < 10 ^ 30 := by
      have e : (10 ^ (30 : Int).toNat : Int) = ((10 ^ 30 : Nat) : Int) := by decide +kernel
      rw [e] at m1
      omega
    -- the first row
    have r0 : 0 ≤ M % 5 := Int.emod_nonneg M (by decide)
    have r1 : M % 5 < 5 := Int.emod_lt_of_pos M (by decide)
    have rz : ∃ z : Nat, z < 5 ∧ M % 5 = (z : Nat) := ⟨(M % 5).toNat, by omega, by omega⟩
    obtain ⟨z, hz, ez⟩ := rz
    refine ⟨_, rfl, _, rfl, _, _, rfl, rfl, _, rfl, _, _, rfl, rfl, (by show (0 : Int) < 5; decide), ?_⟩
    -- 'z' * (M % 5)
    have mok : MulOk "z" (M % 5) := by
      rw [ez]
      rcases (by omega : z = 0 ∨ z = 1 ∨ z = 2 ∨ z = 3 ∨ z = 4) with rfl | rfl | rfl | rfl | rfl <;> exact ⟨by decide, by decide, by decide⟩
    have msm : Sm (.str (Txt.mul "z" (M % 5))) 40 := by
      rw [ez]
      rcases (by omega : z = 0 ∨ z = 1 ∨ z = 2 ∨ z = 3 ∨ z = 4) with rfl | rfl | rfl | rfl | rfl <;> exact sm_flat (by simp [PyData.showable]) (by simp only [PyData.shown]; decide +kernel) (by simp [PyData.depth])
    refine ⟨_, _, rfl, rfl, mok, ?_⟩
    refine ⟨Nat.zero_le _, fun p7 n7 => ?_⟩
    have s7 : Same H (upd H p7 (.lst [])) := same_upd n7
    have e7 : upd H p7 (.lst []) p7 = some (.lst []) := upd_same
    have f7 : H p7 = none := n7
    generalize upd H p7 (.lst []) = H7 at s7 e7 ⊢
    refine ⟨_, rfl, (by show 1 ≤ sizeLine; decide), fun p8 n8 => ?_⟩
    have s8 : Same H7 (upd H7 p8 (.lst [V.int M])) := same_upd n8
    have e8 : upd H7 p8 (.lst [V.int M]) p8 = some (.lst [V.int M]) := upd_same
    have f8 : H p8 = none := s7.free n8
    generalize upd H7 p8 (.lst [V.int M]) = H8 at s8 e8 ⊢
    refine ⟨Nat.zero_le _, fun p9 n9 => ?_⟩
    have s9 : Same H8 (upd H8 p9 (.tup [])) := same_upd n9
    have e9 : upd H8 p9 (.tup []) p9 = some (.tup []) := upd_same
    generalize upd H8 p9 (.tup []) = H9 at s9 e9 ⊢
    refine ⟨_, rfl, (by show 2 ≤ sizeLine; decide), fun p10 n10 => ?_⟩
    have s10 : Same H9 (upd H9 p10 (.tup [V.int M, V.str "a"])) := same_upd n10
    have e10 : upd H9 p10 (.tup [V.int M, V.str "a"]) p10 = some (.tup [V.int M, V.str "a"]) := upd_same
    generalize upd H9 p10 (.tup [V.int M, V.str "a"]) = H10 at s10 e10 ⊢
    refine ⟨(by show 11 ≤ sizeLine; decide), fun p n => ?_⟩
    have sA : Same H10 (upd H10 p (.lst [V.int M, V.int (0 - M), .non, .bl true, .bl false, .str "", .str (Txt.mul "z" (M % 5)), .ref p7, .ref p8, .ref p9, .ref p10])) := same_upd n
    have eA : upd H10 p (.lst [V.int M, V.int (0 - M), .non, .bl true, .bl false, .str "", .str (Txt.mul "z" (M % 5)), .ref p7, .ref p8, .ref p9, .ref p10]) p =
      some (.lst [V.int M, V.int (0 - M), .non, .bl true, .bl false, .str "", .str (Txt.mul "z" (M % 5)), .ref p7, .ref p8, .ref p9, .ref p10]) := upd_same
    show tSeq _ _ { nx := fun _ H2 => Q .non H2, rt := Q } [some (.int _), some (.int at_), some (.int M), some (.ref p)] (upd H10 p (.lst [V.int M, V.int (0 - M), .non, .bl true, .bl false, .str "", .str (Txt.mul "z" (M % 5)), .ref p7, .ref p8, .ref p9, .ref p10]))
    generalize upd H10 p (.lst [V.int M, V.int (0 - M), .non, .bl true, .bl false, .str "", .str (Txt.mul "z" (M % 5)), .ref p7, .ref p8, .ref p9, .ref p10]) = HA at sA eA ⊢
    have tA : Same H HA := s7.trans (s8.trans (s9.trans (s10.trans sA)))
    have e7 := sA _ _ (s10 _ _ (s9 _ _ (s8 _ _ e7)))
    have e8 := sA _ _ (s10 _ _ (s9 _ _ e8))
    have e9 := sA _ _ (s10 _ _ e9)
    have e10 := sA _ _ e10
    clear sA s7 s8 s9 s10 n7 n8 n9 n10
    -- the second row
    refine ⟨_, rfl, fun p11 n11 => ?_⟩
    have s11 : Same HA (upd HA p11 (.dK [])) := same_upd n11
    have e11 : upd HA p11 (.dK []) p11 = some (.dK []) := upd_same
    generalize upd HA p11 (.dK []) = H11 at s11 e11 ⊢
    refine fun p12 n12 => ?_
    refine ⟨_, rfl, upd_same, [(.inr "a", .int M)], rfl, (by show 1 ≤ 15; decide), ?_⟩
    have m12 : mergeK [] [((Sum.inr ("a" : Str) : Key), V.int M)] = [((Sum.inr ("a" : Str) : Key), V.int M)] := by simp [mergeK, putK]
    rw [m12, upd_upd]
    have s12 : Same H11 (upd H11 p12 (.dK [(.inr "a", .int M)])) := same_upd n12
    have e12 : upd H11 p12 (.dK [(.inr "a", .int M)]) p12 = some (.dK [(.inr "a", .int M)]) := upd_same
    generalize upd H11 p12 (.dK [(.inr "a", .int M)]) = H12 at s12 e12 ⊢
    refine ⟨_, rfl, (by show 1 ≤ sizeLine; decide), fun p13 n13 => ?_⟩
    have s13 : Same H12 (upd H12 p13 (.lst [V.int M])) := same_upd n13
    have e13 : upd H12 p13 (.lst [V.int M]) p13 = some (.lst [V.int M]) := upd_same
    generalize upd H12 p13 (.lst [V.int M]) = H13 at s13 e13 ⊢
    refine ⟨(by show 2 ≤ sizeLine; decide), fun p14 n14 => ?_⟩
    have s14 : Same H13 (upd H13 p14 (.lst [V.ref p13, .non])) := same_upd n14
    have e14 : upd H13 p14 (.lst [V.ref p13, .non]) p14 = some (.lst [V.ref p13, .non]) := upd_same
    have f14 : H p14 = none := tA.free (s11.free (s12.free (s13.free n14)))
    have d14 : p13 ≠ p14 := ne_of_none e13 n14
    generalize upd H13 p14 (.lst [V.ref p13, .non]) = H14 at s14 e14 ⊢
    have t14 : Same HA H14 := s11.trans (s12.trans (s13.trans s14))
    have eA2 := t14 _ _ eA
    refine ⟨(by show 4 ≤ sizeLine; decide), fun q nq => ?_⟩
    refine ⟨_, _, _, _, rfl, rfl, (by rw [upd_ne (ne_of_none eA2 nq)]; exact eA2), upd_same, (by show 15 ≤ sizeLine; decide), fun r nr => ?_⟩
    obtain ⟨sB, fB, eB⟩ := laid2 (o1 := .lst [V.ref p11, .ref p12, .ref p14, .str "value"]) (o2 := .lst ([V.int M, V.int (0 - M), .non, .bl true, .bl false, .str "", .str (Txt.mul "z" (M % 5)), .ref p7, .ref p8, .ref p9, .ref p10] ++ [V.ref p11, .ref p12, .ref p14, .str "value"])) (Same.refl H14) nq nr
    generalize upd (upd H14 q (.lst [V.ref p11, .ref p12, .ref p14, .str "value"])) r (.lst ([V.int M, V.int (0 - M), .non, .bl true, .bl false, .str "", .str (Txt.mul "z" (M % 5)), .ref p7, .ref p8, .ref p9, .ref p10] ++ [V.ref p11, .ref p12, .ref p14, .str "value"])) = G at sB eB ⊢
    have tG : Same HA G := t14.trans sB
    have tH : Same H G := tA.trans tG
    have e7 := tG _ _ e7
    have e8 := tG _ _ e8
    have e9 := tG _ _ e9
    have e10 := tG _ _ e10
    have e11 := sB _ _ (s14 _ _ (s13 _ _ (s12 _ _ e11)))
    have e12 := sB _ _ (s14 _ _ (s13 _ _ e12))
    have e13 := sB _ _ (s14 _ _ e13)
    have e14 := sB _ _ e14
    have i0 : 0 ≤ (M + at_) % 15 := Int.emod_nonneg _ (by decide)
    have i1 : (M + at_) % 15 < 15 := Int.emod_lt_of_pos _ (by decide)
    have smM := sm_int m2
    refine ⟨_, rfl, _, rfl, _, rfl, _, _, rfl, rfl, _, rfl, _, _, rfl, .inl (SqL.of eB), _, _, rfl, rfl, (by show (0 : Int) < 15; decide), ?_⟩
    have fin : ∀ (j : Nat) (v : V) (d : PyData), ([V.int M, V.int (0 - M), .non, .bl true, .bl false, .str "", .str (Txt.mul "z" (M % 5)), .ref p7, .ref p8, .ref p9, .ref p10] ++ [V.ref p11, .ref p12, .ref p14, .str "value"])[j]? = some v → (M + at_) % 15 = (j : Nat) →
        ThingOk K H G v d → rIxL K (.ref r) (.int ((M + at_) % 15)) G Q := fun j v d e1 e2 e3 => by
      refine ⟨r, _, (j : Nat), v, rfl, by rw [e2], SqL.of eB, atI_nat e1, k v d G tH e3⟩
    show rIxL K (.ref r) (.int ((M + at_) % 15)) G Q
    have sm5 : ∀ {d : PyData} {n m : Nat}, Sm d n → n ≤ m → Sm d m := fun h l => ⟨h.1, Nat.le_trans h.2.1 l, h.2.2⟩
    obtain ⟨j, hj, ej⟩ : ∃ j : Nat, j < 15 ∧ (M + at_) % 15 = (j : Nat) := ⟨((M + at_) % 15).toNat, by omega, by omega⟩
    have ok1 : ∀ {v : V} {d : PyData} {t : String}, Dz G v d → Sm d 110 → TyX K G v (.type t) → kitB t "list" = some false → ThingOk K H G v d := fun h1 h2 h3 h4 => ⟨h1, h2, _, h3, false, h4, fun z => Bool.noConfusion z⟩
    have okL : ∀ {a : Addr} {xs : List V} {ds : List PyData}, H a = none → G a = some (.lst xs) → xs.length ≤ 5 → ds.length ≤ 2 → (∀ d ∈ ds, Sm d 40 ∧ d.depth ≤ 2) → (∀ H'', Same G H'' → ∀ o, DzAll (upd H'' a o) xs ds) → DzAll G xs ds → ThingOk K H G (.ref a) (.list ds) :=
      fun {a xs ds} h1 h2 h3 h4 h5 h6 h7 => ⟨.lst h2 h7, sm_list h5 (by have := Nat.mul_le_mul_right 42 h4; omega), "list", .base (.lst h2), true, by decide +kernel, fun _ => ⟨a, xs, ds, rfl, h1, h2, rfl, h3, h4, h5, h6⟩⟩
    have smN : ∀ {d : PyData}, Sm d 31 → Sm d 110 := fun h => sm5 h (by decide)
    have one1 : ∀ d ∈ [PyData.int M], Sm d 40 ∧ d.depth ≤ 2 := fun d hd => by
      rw [List.mem_singleton.mp hd]
      exact ⟨sm5 smM (by decide), by simp [PyData.depth]⟩
    rcases (by omega : j = 0 ∨ j = 1 ∨ j = 2 ∨ j = 3 ∨ j = 4 ∨ j = 5 ∨ j = 6 ∨ j = 7 ∨ j = 8 ∨ j = 9 ∨ j = 10 ∨ j = 11 ∨ j = 12 ∨ j = 13 ∨ j = 14) with rfl | rfl | rfl | rfl | rfl | rfl | rfl | rfl | rfl | rfl | rfl | rfl | rfl | rfl | rfl
    · exact fin 0 _ _ rfl ej (ok1 (.int M) (smN smM) (.base (.int M)) (by decide +kernel))
    · exact fin 1 _ _ rfl ej (ok1 (.int _) (smN (sm_int (by omega))) (.base (.int _)) (by decide +kernel))
    · exact fin 2 _ _ rfl ej (ok1 .non (sm_flat (by simp [PyData.showable]) (by simp only [PyData.shown]; decide +kernel) (by simp [PyData.depth])) (.base .non) (by decide +kernel))
    · exact fin 3 _ _ rfl ej (ok1 (.bl true) (sm_flat (by simp [PyData.showable]) (by simp only [PyData.shown]; decide +kernel) (by simp [PyData.depth])) (.base (.bl _)) (by decide +kernel))
    · exact fin 4 _ _ rfl ej (ok1 (.bl false) (sm_flat (by simp [PyData.showable]) (by simp only [PyData.shown]; decide +kernel) (by simp [PyData.depth])) (.base (.bl _)) (by decide +kernel))
    · exact fin 5 _ _ rfl ej (ok1 (.str "") (sm_flat (by simp [PyData.showable]) (by simp only [PyData.shown]; decide +kernel) (by simp [PyData.depth])) (.base (.str _)) (by decide +kernel))
    · exact fin 6 _ _ rfl ej (ok1 (.str _) (sm5 msm (by decide)) (.base (.str _)) (by decide +kernel))
    · exact fin 7 _ _ rfl ej (okL (ds := []) f7 e7 (by decide) (by decide) (fun d hd => nomatch hd) (fun _ _ _ => .nil) .nil)
    · exact fin 8 _ _ rfl ej (okL (ds := [.int M]) f8 e8 (show 1 ≤ 5 by decide) (show 1 ≤ 2 by decide) one1 (fun _ _ _ => .cons (.int M) .nil) (.cons (.int M) .nil))
    · exact fin 9 _ _ rfl ej (ok1 (.tup e9 .nil) (sm_tuple (m := 0) (fun d hd => nomatch hd) (by decide)) (.base (.tup e9)) (by decide +kernel))
    · refine fin 10 _ _ rfl ej (ok1 (.tup e10 (.cons (.int M) (.cons (.str "a") .nil))) (sm_tuple (m := 31) (fun d hd => ?_) (show 3 + 2 * (31 + 2) ≤ 110 by decide)) (.base (.tup e10)) (by decide +kernel))
      rcases List.mem_cons.mp hd with rfl | hd
      · exact ⟨smM, by simp [PyData.depth]⟩
      · rw [List.mem_singleton.mp hd]
        exact ⟨sm_flat (by simp [PyData.showable]) (by simp only [PyData.shown]; decide +kernel) (by simp [PyData.depth]), by simp [PyData.depth]⟩
    · exact fin 11 _ _ rfl ej (ok1 (.dct0 e11) ⟨by simp [PyData.showable, PyData.showableKv], by simp only [PyData.shown, PyData.shownKv]; decide +kernel, by simp [PyData.depth, PyData.depthKv]⟩ (.base (.dK e11)) (by decide +kernel))
    · exact fin 12 _ _ rfl ej (ok1 (.dct1 e12) (sm5 (sm_dict1 m2) (by decide)) (.base (.dK e12)) (by decide +kernel))
    · refine fin 13 _ _ rfl ej (okL (ds := [.list [.int M], .none]) f14 e14 (show 2 ≤ 5 by decide) (show 2 ≤ 2 by decide) (fun d hd => ?_) (fun H2 s o => .cons (.lst (by rw [upd_ne d14]; exact s _ _ e13) (.cons (.int M) .nil)) (.cons .non .nil)) (.cons (.lst e13 (.cons (.int M) .nil)) (.cons .non .nil)))
      rcases List.mem_cons.mp hd with rfl | hd
      · exact ⟨sm_list (m := 31) (fun d hd => by rw [List.mem_singleton.mp hd]; exact ⟨smM, by simp [PyData.depth]⟩) (show 2 + 1 * (31 + 2) ≤ 40 by decide), by simp [PyData.depth, PyData.depthAll]⟩
      · rw [List.mem_singleton.mp hd]
        exact ⟨sm_flat (by simp [PyData.showable]) (by simp only [PyData.shown]; decide +kernel) (by simp [PyData.depth]), by simp [PyData.depth]⟩
    · exact fin 14 _ _ rfl ej (ok1 (.str "value") (sm_flat (by simp [PyData.showable]) (by simp only [PyData.shown]; decide +kernel) (by simp [PyData.depth])) (.base (.str _)) (by decide +kernel))
end
end K1

namespace K1
open PySem PySem.Spec PyProof.Rows L2
/-! ### the law's own def: run where no repr is under way -/
abbrev RunG (P : Program) (w : World) (K : PySem.W.Frag) (mg : Str → Option Value) (base : Heap) (k : Nat) (f : Addr) (fd : FuncData) (ps : List Str) (sp : Sp) : Prop :=
  ∀ (A : Around) (outer : List Env) (s : Shared) (H : Hp) (args : Args) (us : List Value) (vs : List V) (Q : VK), A.guards = some [] → Room k A → Env0 P w K mg base A outer s H →
    BindsTo s fd args (ps.zip us) → Vals vs us → sp vs H Q E0 → codeAny (model P w) A (.call (.ref f) args) (CR CX0 outer P w H s Q E0) s
section
variable {P : Program} {w : World} {K : PySem.W.Frag} {mg : Str → Option Value} {base : Heap}
theorem run_ofG {k : Nat} {f : Addr} {qual : Str} {st : Stmt} {fd : FuncData} {N ps : List Str} {sp : Sp} (F : Fun K qual qual st f fd) (S : FnScope N ps (defScope st)) (len : ∀ vs H Q E, sp vs H Q E → vs.length = ps.length)
    (body : ∀ (cdv : Value) (A : Around) (outer : List Env) (s : Shared) (H : Hp) (vs : List V) (Q : VK), A.guards = some [] → Room k (A.deeper (envOfC qual (defScope st) s.heap.objs.size f cdv)) → sp vs H Q E0 →
      ∃ t, PSs (cxOf CX0 P w K mg base N qual (defScope st) f cdv A outer s H E0).nox (defBody st) t ∧ t { nx := fun _ H' => Q .non H', rt := Q } (start N vs) H) : RunG P w K mg base (k + 1) f fd ps sp := by
  obtain ⟨oc, od, kV, doc, pm, an, cdv, ct, osl, rfl, lk, hcd⟩ := F.ex
  intro A outer s H args us vs Q hg hr e0 hb r hsp
  have hl := len _ _ _ _ hsp
  have KX : K.In s.heap := e0.mod.kin.keeps fun b o e => (e0.bs b o e).1
  have lim : s.heap.NoLimit := e0.mod.nolimit.keeps fun b o e => (e0.bs b o e).1
  refine codeAny_call_function hr.depth (KX _ _ lk) rfl S.co S.gen rfl (PySem.W.codeRec_of KX hcd) (hb _ _ _ _ ?_)
  refine wpAny_newFunctionEnv_cells S.kind (fun ⟨n, v⟩ hy => ?_) fun env he s1 x => ?_
  · rcases S.par n (List.of_mem_zip hy).1 with z | z
    · exact .inl z
    · exact .inr ⟨z, PySem.W.cellsFrom_some _ _ _ (.inl z)⟩
  · subst he
    refine ⟨lim.keeps x.toInCall.keep, codeAny_func ?_⟩
    obtain ⟨t, ht, hq⟩ := body cdv A outer s H vs Q hg (hr.deeper _) hsp
    have I := inv_start (CX := CX0) (E := E0) S hr.hd e0 hl r x
    refine wpAny_mono (ht.nox.run [] s1 (start N vs) H _ I hq) (fun fl s' hs => ?_) fun e s' hs => hs
    cases fl with
    | ret u =>
      obtain ⟨v, σ', H', J, rv, q⟩ := hs
      exact ⟨v, H', J.os, J.bare, J.base, J.hok, rv, q⟩
    | next =>
      obtain ⟨σ', H', J, q⟩ := hs
      exact ⟨V.non, H', J.os, J.bare, J.base, J.hok, rfl, q⟩
    | brk =>
      obtain ⟨_, _, _, q⟩ := hs
      exact False.elim q
    | cont =>
      obtain ⟨_, _, _, q⟩ := hs
      exact False.elim q
/-- the script is handed in, tracked as what is known to the object, or an object of the written part -/
theorem law_run {fa a : Addr} {mb : Str → Option Value} {fd : FuncData} {x : Str} {sp : Sp} {k : Nat} {s1 : Shared} {vs : List Value} {ns : List Int}
    (KX : K.In s1.heap) (hns : s1.heap.Ns mainGlobals mg) (hb : s1.heap.Ns builtinsNs mb) (hbb : ∀ x : Str, x ≠ "__name__" → mb x = bootBuiltins x) (hlim : s1.heap.NoLimit) (hsys : ∃ ms, s1.heap.Ns sysModules ms) (hg : s1.gens = #[])
    (ha : s1.heap.get? a = some { cls := .type "list", data := .seq vs.toArray }) (hi : IntsAre vs ns) (hz : ns.length ≤ sizeLine) (hr : Room k callerA)
    (F : ∀ base : Heap, K.In base → base.Ns mainGlobals mg → (∃ o, base.get? sysModules = some o) → RunG P w K mg base k fa fd [x] sp) (bind : ∀ (s : Shared) (u : Value), BindsTo s fd ⟨[u], []⟩ [(x, u)])
    (hsp : ∀ H : Hp, SqL K H a (ns.map V.int) → sp [.ref a] H (fun v _ => v = .bl true) E0) :
    codeAny (model P w) callerA (.call (.ref fa) ⟨[.ref a], []⟩) (fun r s' => r = .ok (.ret (.bool true)) ∧ OldK s1.heap s'.heap ∧ s'.os = s1.os ∧ AllBare s'.gens) s1 := by
  have rv := vals_ints hi
  -- some abstract heap that tracks at most the script, locked
  obtain ⟨H, only, hS, hok, notK⟩ : ∃ H : Hp, (∀ b u, H b = some u → b = a ∧ ∃ o xs, u = .frz o (.lst xs)) ∧ SqL K H a (ns.map V.int) ∧ HOk P w H s1.heap ∧ (∀ b o, K.lookup b = some o → H b = none) := by
    cases hk : K.lookup a with
    | some o =>
      have e := KX a o hk
      rw [ha] at e
      cases e
      exact ⟨fun _ => none, (fun b u z => by cases z), .inr ⟨_, vs.toArray, _, hk, rfl, rfl, rfl, by rw [List.size_toArray, hi.length]; exact hz, by simpa using rv⟩, (fun b u z => by cases z), fun _ _ _ => rfl⟩
    | none =>
      refine ⟨upd (fun _ => none) a (.frz { cls := .type "list", data := .seq vs.toArray } (.lst (ns.map V.int))), fun b u z => ?_, .inl (.inr ⟨_, upd_same⟩), fun b u z => ?_, fun b o z => ?_⟩
      · by_cases e : b = a
        · rw [e, upd_same] at z
          exact ⟨e, _, _, (Option.some.inj z).symm⟩
        · rw [upd_ne e] at z
          cases z
      · by_cases e : b = a
        · rw [e, upd_same] at z
          cases z
          rw [e]
          exact ⟨ha, by rw [List.length_map]; exact hz, vs, _, rv, ha⟩
        · rw [upd_ne e] at z
          cases z
      · by_cases e : b = a
        · rw [e, hk] at z
          cases z
        · rw [upd_ne e]
  have in_base : ∀ {b : Addr} {o : Obj}, s1.heap.get? b = some o → H b = none → (hidT s1.heap H).get? b = some o := fun e n => hidT_get e n
  have free_of : ∀ {b : Addr} {o : Obj} {es : Array DictEntry} {ep : Nat}, s1.heap.get? b = some o → o.data = .dict es ep → H b = none := fun {b o es ep} e d => by
    cases q : H b with
    | none => rfl
    | some u =>
      rw [(only b u q).1, ha] at e
      cases e
      cases d
  have ns_base : ∀ {b : Addr} {m : Str → Option Value}, s1.heap.Ns b m → (hidT s1.heap H).Ns b m := fun ⟨o, es, ep, e, d, r⟩ => ⟨o, es, ep, in_base e (free_of e d), d, r⟩
  have kb : K.In (hidT s1.heap H) := fun b o e => in_base (KX b o e) (notK b o e)
  have md : Mod K mg (hidT s1.heap H) := ⟨kb, ns_base hns, ⟨mb, ns_base hb, hbb⟩, let ⟨mc, h1, h2⟩ := hlim; ⟨mc, ns_base h1, h2⟩⟩
  have sy : ∃ o, (hidT s1.heap H).get? sysModules = some o := let ⟨ms, o, es, ep, e, d, _⟩ := hsys; ⟨o, in_base e (free_of e d)⟩
  have e0 : Env0 P w K mg (hidT s1.heap H) callerA [] s1 H := ⟨rfl, md, fun b o e => of_hidT e, Nat.le_of_eq (hidT_size _ _), trivial, (fun b z => by cases z), hok, .of_eq hg⟩
  refine codeAny_mono (F _ kb (ns_base hns) sy callerA [] s1 H ⟨[.ref a], []⟩ [.ref a] [.ref a] _ rfl hr e0 (bind s1 (.ref a)) (.cons rfl .nil) (hsp H hS)) fun r s' h => ?_
  cases r with
  | error e => exact False.elim h
  | ok fl =>
    cases fl with
    | next => exact False.elim h
    | brk => exact False.elim h
    | cont => exact False.elim h
    | ret u =>
      obtain ⟨v, H', os, bare, un, hok', rr, q⟩ := h
      obtain rfl : v = V.bl true := q
      obtain rfl : u = Value.bool true := rr
      refine ⟨rfl, OldK.of_keep fun b o e => ?_, os, bare⟩
      cases z : H b with
      | none => exact un.keep b o e z (fun m => nomatch m) (fun m => nomatch m)
      | some u =>
        obtain ⟨_, ob, xs, rfl⟩ := only b u z
        obtain ⟨e1, _⟩ := hok b _ z
        obtain ⟨e2, _⟩ := hok' b _ (un.frzs b ob _ z)
        rw [e] at e1
        cases e1
        exact e2
end
theorem walkG {l : PySem.W.OpenLaw} {k : Nat} {q : Program} {loose : List Str} {XP : (Str → Option Value) → Heap → Prop} {YP : World → Heap → Prop} {d : DefRec} {K : Params → PySem.W.Frag} {sp : PySem.W.Frag → Sp} {x : Str}
    (hn : l.most = some 63) (hdf : d.params.defaults = []) (hr : Room k callerA) (hq : importsNone q = true) (hY : ∀ (w : World) (h : Heap), YP w h → (K w.params).In h)
    (F : ∀ (w : World) (mg : Str → Option Value) (fa : Addr) (h : Heap), (K w.params).In h → h.Ns mainGlobals mg → mg d.name = some (.ref fa) → ∃ fd : FuncData, (∀ (s : Shared) (u : Value), BindsTo s fd ⟨[u], []⟩ [(x, u)]) ∧
      ∀ base : Heap, (K w.params).In base → base.Ns mainGlobals mg → (∃ o, base.get? sysModules = some o) → RunG l.prog w (K w.params) mg base k fa fd [x] (sp (K w.params)))
    (hsp : ∀ (K : PySem.W.Frag) (H : Hp) (a : Addr) (ns : List Int), ns.length ≤ 63 → SqL K H a (ns.map V.int) → sp K [.ref a] H (fun v _ => v = .bl true) E0) :
    PySem.W.WalkO q loose XP YP l.row.toRowW d [] (fun f vs => PySem.call f vs) := by
  refine Att.attach_call hn hdf fun w s0 s1 mg mb fa o pm cd doc a vs ns G Y ho hd hcd hmg hobj hints hlen hg => ?_
  have KX := hY w _ Y
  obtain ⟨fd, hb, hF⟩ := F w mg fa _ KX G.T.g hmg
  have sy : ∃ ms, s1.heap.Ns sysModules ms := let ⟨ms, z, _⟩ := (G.T.seer hq).mods; ⟨ms, z⟩
  exact law_run KX G.T.g G.T.b G.T.builtins G.T.nolimit sy hg hobj hints (Nat.le_trans hlen (by decide)) hr hF hb fun H hS => hsp _ H a ns hlen hS
end K1

namespace K1
open PySem PySem.Spec PyProof.Rows L2
structure Blt3 (mg : Str → Option Value) : Prop where
  mx : mg "max" = none
  sm : mg "sum" = none
  rp : mg "repr" = none
  ls : mg "list" = none
theorem TyX.mono {K : PySem.W.Frag} {H H' : Hp} {v : V} {t : String} (s : Same H H') (h : TyX K H v (.type t)) : TyX K H' v (.type t) := by
  cases h with
  | base b =>
    cases b with
    | non => exact .base .non
    | bl x => exact .base (.bl x)
    | int i => exact .base (.int i)
    | str x => exact .base (.str x)
    | flt x => exact .base (.flt x)
    | lst e => exact .base (.lst (s _ _ e))
    | frz e => exact .base (.frz (s _ _ e))
    | tup e => exact .base (.tup (s _ _ e))
    | dK e => exact .base (.dK (s _ _ e))
    | dT e => exact .base (.dT (s _ _ e))
  | byt b => exact .byt b
  | set e => exact .set (s _ _ e)
  | kList e c => exact .kList e c
  | kTuple e c => exact .kTuple e c
  | kDict e c => exact .kDict e c
  | fTuple e => exact .fTuple (s _ _ e)
  | fDict e => exact .fDict (s _ _ e)
/-- a row of the exceptions, when another list alone has changed -/
theorem Row.but {c : Nat → Addr} {v : V} {G G' : Hp} {a : Addr} {xs : List V} (ha : G a = some (.lst xs)) (k : ∀ b o, b ≠ a → G b = some o → G' b = some o) : ∀ {as : List Addr} {n : Nat}, Row c v G n as → Row c v G' n as
  | [], _, _ => True.intro
  | _ :: _, _, ⟨⟨d, e1, e2⟩, r⟩ => ⟨⟨d, k _ _ (ne_of e1 ha (fun z => by cases (show HO.ext _ = HO.lst _ from z))) e1, k _ _ (ne_of e2 ha (fun z => by cases (show HO.ext _ = HO.lst _ from z))) e2⟩, Row.but ha k r⟩
theorem smRep {d : PyData} {m : Nat} (h : Sm d m) : ∀ n : Nat, PyData.showableAll (List.replicate n d) = true ∧ piled (PyData.shownAll (List.replicate n d)) ≤ n * (m + 2) ∧ PyData.depthAll (List.replicate n d) ≤ 3
  | 0 => ⟨by simp [PyData.showableAll], by simp [PyData.shownAll, piled_nil], by simp [PyData.depthAll]⟩
  | n + 1 => by
    obtain ⟨h1, h2, h3⟩ := smRep h n
    obtain ⟨a, b, c⟩ := h
    rw [List.replicate_succ]
    refine ⟨by simp [PyData.showableAll, a, h1], ?_, ?_⟩
    · simp only [PyData.shownAll, piled_cons, Nat.add_mul, Nat.one_mul]
      omega
    · simp only [PyData.depthAll]
      omega
theorem rep54 {d : PyData} (h : Sm d 150) : (PyData.list (List.replicate 54 d)).showable = true ∧ (PyData.list (List.replicate 54 d)).shown.length ≤ sizeLine ∧ (PyData.list (List.replicate 54 d)).depth ≤ 60 := by
  obtain ⟨h1, h2, h3⟩ := smRep h 54
  refine ⟨by simpa only [PyData.showable] using h1, ?_, ?_⟩
  · simp only [PyData.shown]
    refine Nat.le_trans (listText_le _) ?_
    rw [sizeLine_eq]
    omega
  · simp only [PyData.depth]
    omega
theorem rep_app {α : Type} (v : α) : List.replicate 27 v ++ List.replicate 27 v = List.replicate 54 v := by
  rw [List.replicate_append_replicate]
theorem rep_flat {α : Type} (v : α) : (List.replicate 54 [v]).flatten = List.replicate 54 v := by
  rfl
theorem cut_ints (ns : List Int) (lo hi : Option Int) : ∃ ms : List Int, cutV (ns.map V.int) lo hi = ms.map V.int ∧ ms.length ≤ ns.length := by
  unfold cutV
  rw [List.length_map, ← List.map_drop, ← List.map_take]
  refine ⟨_, rfl, ?_⟩
  rw [List.length_take, List.length_drop]
  omega
section
variable {P : Program} {w : World} {K : PySem.W.Frag} {mg : Str → Option Value} {base : Heap} {c : Nat → Addr} {cN : Addr}
def spLaw (K : PySem.W.Frag) : Sp := fun vs H Q _ => ∃ (a : Addr) (ns : List Int), vs = [.ref a] ∧ SqL K H a (ns.map V.int) ∧ ns.length ≤ 63 ∧ ∀ H', Q (.bl true) H'
theorem scLaw : FnScope ["_law_script", "_law_at", "_law_thing_here", "_law_errors", "_law_by_name_here", "_law_bare_here", "_law_some"] ["_law_script"] (defScope sLaw) := ⟨rfl, rfl, rfl, by decide +kernel, rfl, by decide +kernel, by decide +kernel⟩
theorem ok_law {f fC fM fB fA fF fP fT : Addr} {fd fdC fdM fdB fdA fdF fdP fdT : FuncData} (F : Fun K "law" "law" sLaw f fd) (T : Txt P w K mg base c cN) (B1 : Blt mg) (B2 : Blt2 mg) (B : Blt3 mg) (sy : ∃ o, base.get? sysModules = some o)
    (gC : mg "_law_classes" = some (.ref fC)) (FC : Fun K "_law_classes" "_law_classes" sClasses fC fdC) (bC : Binds K fdC ["_law_error"] [])
    (gM : mg "_law_made" = some (.ref fM)) (FM : Fun K "_law_made" "_law_made" sMade fM fdM) (bM : Binds K fdM ["_law_thing_here"] [])
    (gB : mg "_law_by_name" = some (.ref fB)) (FB : Fun K "_law_by_name" "_law_by_name" sByName fB fdB) (bB : Binds K fdB ["_law_thing_here"] [])
    (gA : mg "_law_bare" = some (.ref fA)) (FA : Fun K "_law_bare" "_law_bare" sBare fA fdA) (bA : Binds K fdA [] [])
    (gF : mg "_law_fields" = some (.ref fF)) (FF : Fun K "_law_fields" "_law_fields" sFields fF fdF) (bF : Binds K fdF ["_law_errors"] [])
    (gP : mg "_law_placed" = some (.ref fP)) (FP : Fun K "_law_placed" "_law_placed" sPlaced fP fdP) (bP : Binds K fdP ["_law_errors"] [])
    (gT : mg "_law_thing" = some (.ref fT)) (FT : Fun K "_law_thing" "_law_thing" sThing fT fdT) (bT : Binds K fdT ["_law_drawn", "_law_at"] []) :
    RunG P w K mg base 4 f fd ["_law_script"] (spLaw K) := by
  have GC : FnOk P w K mg base CX0 1 fC fdC ["_law_error"] (spClasses K c) := ok_classes FC T
  have GM : FnOk P w K mg base CX0 3 fM fdM ["_law_thing_here"] (spMade c) := ok_Made FM T
  have GB : FnOk P w K mg base CX0 3 fB fdB ["_law_thing_here"] (spByName c) := ok_ByName FB T
  have GA : FnOk P w K mg base CX0 3 fA fdA [] (spBare c) := ok_Bare FA T
  have GF : FnOk P w K mg base CX0 3 fF fdF ["_law_errors"] (spFields c) := ok_fields FF T
  have GP : FnOk P w K mg base CX0 3 fP fdP ["_law_errors"] (spPlaced c) := ok_placed FP T B1 gC FC bC
  have GT : FnOk P w K mg base CX0 1 fT fdT ["_law_drawn", "_law_at"] (spThing K) := ok_thing FT B2
  refine run_ofG F scLaw (fun vs H Q E h => ?_) (fun cdv A outer s H vs Q hg hr3 h => ?_)
  · obtain ⟨a, ns, rfl, _⟩ := h
    rfl
  · obtain ⟨a, ns, rfl, hS, hlen, k⟩ := h
    have hr1 : Room 1 _ := hr3.mono (by decide)
    refine ⟨_, pss_cons (ps_if (PW.pt (pw_or (pt_cmpR op_in_seq pe_bl (by exact (pe_call GC hr1 rfl gC FC.kp bC .nil pass0 (pa_cons (pe_exc0 PySem.F.excBase_ValueError T.eN T.gN T.kN rfl) pa_nil))) (by rfl)) (pw_or1 (pt_not (pt_val (by exact (pe_callB (call_isX T.obj) (by rfl) B1.isi bootIsi (pa_cons (pe_exc0 PySem.F.excBase_ValueError T.eN T.gN T.kN rfl) (pa_cons (pe_bltn (v := V.ty "ValueError") rfl B1.ve bootVE rfl) pa_nil))))))))) (pss_one (ps_ret pe_bl)) pss_nil)
      (pss_cons (ps_for PassesOwn.never rfl (pi_range1 (by rfl) B1.rg (pa_cons (pe_callB (call_max2 rfl) (by rfl) B.mx (by decide +kernel) (pa_cons pe_int (pa_cons (pe_callB call_len_seq (by rfl) B2.len PySem.boot_len (pa_cons (pe_slice sl_list (pv 0) po_none (po_some pe_int)) pa_nil)) pa_nil))) pa_nil)) (pg_name (i := 1) scLaw.nd rfl (Or.inl rfl))
          (pss_cons (ps_set (i := 2) scLaw.nd rfl (Or.inl rfl) (pe_call GT hr1 rfl gT FT.kp bT .nil pass0 (pa_cons (pe_callB (cr_sum rfl) (by rfl) B.sm (by decide +kernel) (pa_cons (pe_slice sl_list (pv 0) (po_some (pv 1)) (po_some (pe_op op_add (pv 1) pe_int))) pa_nil)) (pa_cons (pv 1) pa_nil))))
          (pss_cons (ps_par (i := 3) (j := 4) (by rfl) scLaw.nd rfl rfl (by decide) rfl rfl (pa_cons (pe_call GM hr3 rfl gM FM.kp bM .nil pass0 (pa_cons (pv 2) pa_nil)) (pa_cons (pe_call GB hr3 rfl gB FB.kp bB .nil pass0 (pa_cons (pv 2) pa_nil)) pa_nil)) (by rfl))
          (pss_cons (ps_set (i := 5) scLaw.nd rfl (Or.inl rfl) (pe_call0 GA hr3 rfl gA FA.kp bA .nil pass0))
          (pss_cons (ps_for PassesOwn.never rfl (pi_tup (pe_tup (pa_cons (pv 3) (pa_cons (pv 4) (pa_cons (pv 5) pa_nil))))) (pg_name (i := 6) scLaw.nd rfl (Or.inl rfl))
            (pss_one (ps_if (pt_not (pt_val (by exact (pe_call GP hr3 rfl gP FP.kp bP .nil pass0 (pa_cons (pe_op op_cat (pv 6) (pe_lst (pa_cons (pe_exc0 PySem.F.excBase_ValueError T.eU T.gU T.kU rfl) (pa_cons (pe_exc0 PySem.F.excBase_ValueError T.eR T.gR T.kR rfl) pa_nil)))) pa_nil))))) (pss_one (ps_ret pe_bl)) pss_nil)))
          (pss_cons (ps_if (pt_cmpR op_ne (by exact (pe_callB (call_repr hg sy hr3.units) (by rfl) B.rp (by decide +kernel) (pa_cons (pe_op op_cat (pe_call GF hr3 rfl gF FF.kp bF .nil pass0 (pa_cons (pv 3) pa_nil)) (pe_call GF hr3 rfl gF FF.kp bF .nil pass0 (pa_cons (pv 4) pa_nil))) pa_nil))) (by exact (pe_callB (call_repr hg sy hr3.units) (by rfl) B.rp (by decide +kernel) (pa_cons (pe_op op_rep (pe_lst (pa_cons (pv 2) pa_nil)) pe_int) pa_nil))) (nomark _)) (pss_one (ps_ret pe_bl)) pss_nil)
          (pss_cons (ps_if (pt_cmpR (op_neD hr3.units) (by exact (pe_call GF hr3 rfl gF FF.kp bF .nil pass0 (pa_cons (pv 5) pa_nil))) (by exact (pe_op op_rep (pe_lst (pa_cons pe_non pa_nil)) pe_int)) (nomark _)) (pss_one (ps_ret pe_bl)) pss_nil)
          (pss_one (ps_if (pt_val (by exact (pe_callB call_isi (by rfl) B1.isi bootIsi (pa_cons (pv 2) (pa_cons (pe_bltn (v := V.ty "list") rfl B.ls (by decide +kernel) rfl) pa_nil)))))
            (pss_cons (ps_expr (pe_bm PySem.F.plainAttrs_list PySem.F.slot_list_append PySem.F.type_list_append mt_append (pv 2) (pa_cons pe_str pa_nil))) (pss_one (ps_if (pt_cmpR op_ne (by exact (pe_callB (call_repr hg sy hr3.units) (by rfl) B.rp (by decide +kernel) (pa_cons (pe_op op_cat (pe_call GF hr3 rfl gF FF.kp bF .nil pass0 (pa_cons (pv 3) pa_nil)) (pe_call GF hr3 rfl gF FF.kp bF .nil pass0 (pa_cons (pv 4) pa_nil))) pa_nil))) (by exact (pe_callB (call_repr hg sy hr3.units) (by rfl) B.rp (by decide +kernel) (pa_cons (pe_op op_rep (pe_lst (pa_cons (pv 2) pa_nil)) pe_int) pa_nil))) (nomark _)) (pss_one (ps_ret pe_bl)) pss_nil))) pss_nil)))))))))
      (pss_one (ps_ret pe_bl))), ?_⟩
    -- if True in _law_classes(NeverError()) or not isinstance(NeverError(), ValueError)
    refine fun n0 h0 => ⟨n0, cN, fun _ => false, rfl, .inr upd_same, T.kitN, fun j hj => T.noN j hj, fun p1 H1 np s1 e1 => ?_⟩
    have flat : ((List.range 29).map fun _ => V.bl false).all flatV = true := by decide
    have notIn : inV (.bl true) ((List.range 29).map fun _ => V.bl false) = false := by decide
    have s1 : Same H H1 := (same_upd h0).trans s1
    refine ⟨p1, _, rfl, .inl (SqL.of e1), rfl, flat, _, rfl, ?_⟩
    show if (inV (.bl true) ((List.range 29).map fun _ => V.bl false)) = true then _ else _
    rw [notIn]
    refine iteF (fun n1 h1 => ⟨n1, cN, _, _, true, rfl, .inr upd_same, T.kitN, .ty _, T.nToV, true, rfl, iteF ?_⟩)
    have s2 : Same H (upd H1 n1 (ExO (.ref cN) n1)) := s1.trans (same_upd h1)
    show tSeq _ _ { nx := fun _ H2 => Q .non H2, rt := Q } [some (.ref a), none, none, none, none, none, none] (upd H1 n1 (ExO (.ref cN) n1))
    generalize upd H1 n1 (ExO (.ref cN) n1) = H2 at s2 ⊢
    clear e1 np
    -- the loop
    obtain ⟨ms, em, lm⟩ := cut_ints ns none (some 20)
    refine ⟨_, rfl, _, rfl, _, _, rfl, s2.seq hS, fun q nq => ?_⟩
    have s3 : Same H (upd H2 q (.lst (cutV (ns.map V.int) none (some 20)))) := s2.trans (same_upd nq)
    have e3 : upd H2 q (.lst (cutV (ns.map V.int) none (some 20))) q = some (.lst (ms.map V.int)) := by rw [upd_same, em]
    generalize upd H2 q (.lst (cutV (ns.map V.int) none (some 20))) = H3 at s3 e3 ⊢
    refine ⟨q, _, rfl, .inl (SqL.of e3), _, _, rfl, _, rfl, ?_, ?_, ?_⟩
    · rw [List.length_map]
      split <;> omega
    · rw [List.length_map]
      split <;> omega
    refine for_it walk_range (fun i σ H' => Same H H' ∧ ∃ o1 o2 o3 o4 o5 o6 : Option V, σ = [some (.ref a), o1, o2, o3, o4, o5, o6]) ⟨s3, _, _, _, _, _, _, rfl⟩ (fun _ _ _ _ _ => True.intro) ?_ ?_
    · rintro i x σ G0 G hi ⟨t1, o1, o2, o3, o4, o5, o6, rfl⟩ ⟨rfl, rfl⟩
      refine (show ∀ D' : Ends, (D'.nx = fun σ H' => Same H H' ∧ ∃ o1 o2 o3 o4 o5 o6 : Option V, σ = [some (.ref a), o1, o2, o3, o4, o5, o6]) → tSeq _ _ D' _ _ from fun D' hD => ?_) _ rfl
      -- _law_thing_here = _law_thing(sum(_law_script[at:at + 1]), at)
      obtain ⟨ws, ew, _⟩ := cut_ints ns (some (0 + (i : Int))) (some (0 + (i : Int) + 1))
      refine ⟨_, rfl, _, rfl, _, rfl, _, rfl, _, _, rfl, rfl, _, rfl, _, _, rfl, t1.seq hS, fun q2 nq2 => ?_⟩
      have t2 : Same H (upd G q2 (.lst (cutV (ns.map V.int) (some (0 + (i : Int))) (some (0 + (i : Int) + 1))))) := t1.trans (same_upd nq2)
      have e2 : upd G q2 (.lst (cutV (ns.map V.int) (some (0 + (i : Int))) (some (0 + (i : Int) + 1)))) q2 = some (.lst (ws.map V.int)) := by rw [upd_same, ew]
      generalize upd G q2 (.lst (cutV (ns.map V.int) (some (0 + (i : Int))) (some (0 + (i : Int) + 1)))) = G2 at t2 e2 ⊢
      refine ⟨q2, ws, rfl, SqL.of e2, _, rfl, _, _, rfl, fun v d G3 u3 ok => ?_⟩
      have t3 : Same H G3 := t2.trans u3
      show tSeq _ _ D' [some (.ref a), some (.int (0 + (i : Int))), some v, o3, o4, o5, o6] G3
      -- _law_errors, _law_by_name_here = (_law_made(..), _law_by_name(..))
      refine ⟨_, rfl, v, rfl, fun pE G4 asE nE u4 eE lE rE => ?_⟩
      refine ⟨_, rfl, v, rfl, fun pN G5 asN nN u5 eN lN rN => ?_⟩
      refine ⟨_, _, rfl, ?_⟩
      show tSeq _ _ D' [some (.ref a), some (.int (0 + (i : Int))), some v, some (.ref pE), some (.ref pN), o5, o6] G5
      refine ⟨rfl, fun pB G6 asB nB u6 eB lB rB => ?_⟩
      show tSeq _ _ D' [some (.ref a), some (.int (0 + (i : Int))), some v, some (.ref pE), some (.ref pN), some (.ref pB), o6] G6
      have eE := u6 _ _ (u5 _ _ eE)
      have rE := (rE.mono u5).mono u6
      have eN := u6 _ _ eN
      have rN := rN.mono u6
      have t6 : Same H G6 := t3.trans (u4.trans (u5.trans u6))
      have w6 : Same G3 G6 := u4.trans (u5.trans u6)
      -- for _law_some in (..)
      refine ⟨_, rfl, _, rfl, _, rfl, (by show 3 ≤ sizeLine; decide), fun tp ntp => ?_⟩
      have w7 : Same G6 (upd G6 tp (.tup [.ref pE, .ref pN, .ref pB])) := same_upd ntp
      have e7 : SqT K (upd G6 tp (.tup [.ref pE, .ref pN, .ref pB])) tp [.ref pE, .ref pN, .ref pB] := SqT.of upd_same
      have e7' : upd G6 tp (.tup [.ref pE, .ref pN, .ref pB]) tp = some (.tup [.ref pE, .ref pN, .ref pB]) := upd_same
      generalize upd G6 tp (.tup [.ref pE, .ref pN, .ref pB]) = G7 at w7 e7 e7' ⊢
      refine ⟨tp, rfl, ⟨_, e7⟩, for_it (walk_tup (xs := [.ref pE, .ref pN, .ref pB])) (fun j σ H' => Same G7 H' ∧ ∃ o : Option V, σ = [some (.ref a), some (.int (0 + (i : Int))), some v, some (.ref pE), some (.ref pN), some (.ref pB), o]) ⟨Same.refl _, _, rfl⟩
        (fun j σ H' _ z => SqT.of (z.1 _ _ e7')) ?_ ?_⟩
      · rintro j y σ J0 J hj ⟨z1, o, rfl⟩ ⟨rfl, ey⟩
        obtain ⟨pX, u, asX, rfl, eX, lX, rX⟩ : ∃ (pX : Addr) (u : V) (asX : List Addr), y = V.ref pX ∧ G7 pX = some (.lst (asX.map V.ref)) ∧ asX.length = 27 ∧ Row c u G7 0 asX := by
          match j, ey with
          | 0, ey => exact ⟨pE, _, asE, (Option.some.inj ey).symm, w7 _ _ eE, lE, rE.mono w7⟩
          | 1, ey => exact ⟨pN, _, asN, (Option.some.inj ey).symm, w7 _ _ eN, lN, rN.mono w7⟩
          | 2, ey => exact ⟨pB, _, asB, (Option.some.inj ey).symm, w7 _ _ eB, lB, rB.mono w7⟩
          | n + 3, ey => exact absurd hj (by show ¬ n + 3 < 3; omega)
        refine ⟨_, rfl, fun m1 k1 => fun m2 k2 => ?_⟩
        have y1 : Same J (upd J m1 (ExO (.ref (c 27)) m1)) := same_upd k1
        have y2 : Same (upd J m1 (ExO (.ref (c 27)) m1)) (upd (upd J m1 (ExO (.ref (c 27)) m1)) m2 (ExO (.ref (c 28)) m2)) := same_upd k2
        have x1 := y2 _ _ (upd_same (H := J) (a := m1) (o := ExO (.ref (c 27)) m1))
        have x2 : upd (upd J m1 (ExO (.ref (c 27)) m1)) m2 (ExO (.ref (c 28)) m2) m2 = some (ExO (.ref (c 28)) m2) := upd_same
        have z2 : Same G7 (upd (upd J m1 (ExO (.ref (c 27)) m1)) m2 (ExO (.ref (c 28)) m2)) := z1.trans (y1.trans y2)
        generalize upd (upd J m1 (ExO (.ref (c 27)) m1)) m2 (ExO (.ref (c 28)) m2) = J2 at x1 x2 z2 ⊢
        refine ⟨(by show 2 ≤ sizeLine; decide), fun lq nlq => ⟨_, _, _, _, rfl, rfl, (by rw [upd_ne (ne_of_none (z2 _ _ eX) nlq)]; exact z2 _ _ eX), upd_same, (by rw [List.length_map, lX]; show 29 ≤ sizeLine; decide), fun r nr => ?_⟩⟩
        obtain ⟨z3, _, e3⟩ := laid2 (o1 := .lst [V.ref m1, V.ref m2]) (o2 := .lst (asX.map V.ref ++ [V.ref m1, V.ref m2])) (Same.refl J2) nlq nr
        have em2 : asX.map V.ref ++ [V.ref m1, V.ref m2] = (asX ++ [m1, m2]).map V.ref := by rw [List.map_append] <;> rfl
        generalize upd (upd J2 lq (.lst [V.ref m1, V.ref m2])) r (.lst (asX.map V.ref ++ [V.ref m1, V.ref m2])) = J3 at z3 e3 ⊢
        rw [em2] at e3
        refine ⟨r, asX ++ [m1, m2], rfl, e3, by rw [List.length_append, lX] <;> rfl, fun n b hb => ?_, fun J4 z4 => ⟨true, rfl, iteF ⟨(z2.trans (z3.trans z4)), _, rfl⟩⟩⟩
        by_cases hn : n < 27
        · rw [List.getElem?_append_left (by omega)] at hb
          have q := (rX.mono (z2.trans z3)).get hb
          rw [Nat.zero_add] at q
          exact .inl ⟨_, _, q⟩
        · rw [List.getElem?_append_right (by omega), lX] at hb
          have hn2 : n = 27 ∨ n = 28 := by
            have z := (List.getElem?_eq_some_iff.mp hb).1
            have z : n - 27 < 2 := z
            omega
          rcases hn2 with rfl | rfl
          · obtain rfl : m1 = b := Option.some.inj hb
            exact .inr (z3 _ _ x1)
          · obtain rfl : m2 = b := Option.some.inj hb
            exact .inr (z3 _ _ x2)
      · rintro σ J ⟨z1, o, rfl⟩
        show tSeq _ _ D' [some (.ref a), some (.int (0 + (i : Int))), some v, some (.ref pE), some (.ref pN), some (.ref pB), o] J
        have w8 : Same G3 J := w6.trans (w7.trans z1)
        have t8 : Same H J := t3.trans w8
        have j6 : Same G6 J := w7.trans z1
        have eE := j6 _ _ eE
        have rE := rE.mono j6
        have eN := j6 _ _ eN
        have rN := rN.mono j6
        have eB := j6 _ _ eB
        have rB := rB.mono j6
        have dJ := ok.dz.mono w8
        obtain ⟨sm1, sm2, sm3⟩ := ok.sm
        have h54 := rep54 (d := d) ⟨sm1, Nat.le_trans sm2 (by decide), sm3⟩
        clear e7 e7' w7 z1 j6 e2 nq2 ntp
        -- if repr(..) != repr(..)
        refine ⟨_, rfl, pE, asE, v, rfl, eE, lE, rE, fun f1 J1 nf1 v1 ef1 => ?_⟩
        refine ⟨_, rfl, pN, asN, v, rfl, v1 _ _ eN, lN, rN.mono v1, fun f2 J2 nf2 v2 ef2 => ?_⟩
        refine ⟨_, _, _, _, rfl, rfl, v2 _ _ ef1, ef2, (by rw [List.length_replicate]; show 54 ≤ sizeLine; decide), fun f3 nf3 => ?_⟩
        have v3 : Same J2 (upd J2 f3 (.lst (List.replicate 27 v ++ List.replicate 27 v))) := same_upd nf3
        have ef3 : upd J2 f3 (.lst (List.replicate 27 v ++ List.replicate 27 v)) f3 = some (.lst (List.replicate 54 v)) := by rw [upd_same, rep_app]
        generalize upd J2 f3 (.lst (List.replicate 27 v ++ List.replicate 27 v)) = J3 at v3 ef3 ⊢
        have v13 : Same J J3 := v1.trans (v2.trans v3)
        refine ⟨f3, .list (List.replicate 54 d), rfl, rdd_dz _ _ (.lst ef3 (dzAll_rep (Dz.mono v13 _ _ dJ) 54)), h54.1, h54.2.1, h54.2.2, ?_⟩
        refine ⟨_, rfl, (by show 1 ≤ sizeLine; decide), fun f4 nf4 => ⟨_, _, _, rfl, rfl, upd_same, by decide, by decide, (by show 1 * 54 ≤ sizeLine; decide), fun f5 nf5 => ?_⟩⟩
        obtain ⟨v5, _, ef5⟩ := laid2 (o1 := .lst [v]) (o2 := .lst (List.replicate (54 : Int).toNat [v]).flatten) (Same.refl J3) nf4 nf5
        have ef5 : upd (upd J3 f4 (.lst [v])) f5 (.lst (List.replicate (54 : Int).toNat [v]).flatten) f5 = some (.lst (List.replicate 54 v)) := ef5.trans (congrArg (fun z => some (HO.lst z)) (rep_flat v))
        generalize upd (upd J3 f4 (.lst [v])) f5 (.lst (List.replicate (54 : Int).toNat [v]).flatten) = J5 at v5 ef5 ⊢
        have v15 : Same J J5 := v13.trans v5
        refine ⟨f5, .list (List.replicate 54 d), rfl, rdd_dz _ _ (.lst ef5 (dzAll_rep (Dz.mono v15 _ _ dJ) 54)), h54.1, h54.2.1, h54.2.2, rfl, _, rfl, iteNS rfl ?_⟩
        show tSeq _ _ D' [some (.ref a), some (.int (0 + (i : Int))), some v, some (.ref pE), some (.ref pN), some (.ref pB), o] J5
        have eE := v15 _ _ eE
        have rE := rE.mono v15
        have eN := v15 _ _ eN
        have rN := rN.mono v15
        have eB := v15 _ _ eB
        have rB := rB.mono v15
        have w9 : Same G3 J5 := w8.trans v15
        have t9 : Same H J5 := t8.trans v15
        clear dJ v15 v13 v5 v3 v2 v1 ef5 ef3 ef2 ef1 t8 w8
        -- if _law_fields(_law_bare_here) != [None] * 27
        refine ⟨_, rfl, pB, asB, .non, rfl, eB, lB, rB, fun f6 J6 nf6 v6 ef6 => ?_⟩
        refine ⟨(by show 1 ≤ sizeLine; decide), fun f7 nf7 => ⟨_, _, _, rfl, rfl, upd_same, by decide, by decide, (by show 1 * 27 ≤ sizeLine; decide), fun f8 nf8 => ?_⟩⟩
        obtain ⟨v8, _, ef8⟩ := laid2 (o1 := .lst [V.non]) (o2 := .lst (List.replicate (27 : Int).toNat [V.non]).flatten) (Same.refl J6) nf7 nf8
        have ef8 : upd (upd J6 f7 (.lst [V.non])) f8 (.lst (List.replicate (27 : Int).toNat [V.non]).flatten) f8 = some (.lst (List.replicate 27 V.non)) := ef8
        generalize upd (upd J6 f7 (.lst [V.non])) f8 (.lst (List.replicate (27 : Int).toNat [V.non]).flatten) = J8 at v8 ef8 ⊢
        have dn : ∀ {J : Hp} (n : Nat), DpAll K J (List.replicate n V.non) (List.replicate n PyData.none) := fun {J} n => by
          induction n with
          | zero => exact .nil
          | succ n ih => exact .cons .non ih
        have sh27 : SeqAt.shaped (.list (List.replicate 27 PyData.none)) = true := shaped_list fun d hd => by
          rw [List.eq_of_mem_replicate hd]
          exact ⟨by simp [PyData.canLay0], by simp [PyData.depth]⟩
        refine ⟨_, _, .lst (SqL.of (v8 _ _ ef6)) (dn 27), .lst (SqL.of ef8) (dn 27), sh27, sh27, _, rfl, ?_⟩
        rw [eqv_same sh27]
        refine iteF ?_
        have v9 : Same J5 J8 := v6.trans v8
        have eE := v9 _ _ eE
        have rE := rE.mono v9
        have eN := v9 _ _ eN
        have rN := rN.mono v9
        have w10 : Same G3 J8 := w9.trans v9
        have t10 : Same H J8 := t9.trans v9
        clear eB rB ef6 ef8 v6 v8 v9 w9 t9
        -- if isinstance(_law_thing_here, list)
        obtain ⟨t, ty, b, kb, hb⟩ := ok.ty
        refine ⟨_, rfl, v, .ty "list", .type t, .type "list", b, rfl, .ty _, TyX.mono w10 ty, kit_ty kb, b, rfl, ?_⟩
        cases b with
        | false =>
          refine iteF ?_
          show D'.nx _ _
          rw [hD]
          exact ⟨t10, _, _, _, _, _, _, rfl⟩
        | true =>
          refine iteT ?_
          obtain ⟨b, xs, ds, rfl, nb, eb, rfl, lx, ld, hds, hz⟩ := hb rfl
          have eb := w10 _ _ eb
          refine ⟨_, rfl, .inl ⟨rfl, _, SqL.of eb⟩, b, xs, _, rfl, rfl, eb, Nat.lt_of_le_of_lt lx (by decide), ?_⟩
          have nbH : H b = none := t2.free nb
          have but : ∀ x o, x ≠ b → J8 x = some o → upd J8 b (.lst (xs ++ [.str "later"])) x = some o := fun x o n e => by
            rw [upd_ne n]
            exact e
          have far : ∀ {p : Addr} {as : List Addr}, J8 p = some (.lst (as.map V.ref)) → as.length = 27 → p ≠ b := fun {p as} e l z => by
            rw [z, eb] at e
            have e := HO.lst.inj (Option.some.inj e)
            rw [e, List.length_map, l] at lx
            exact absurd lx (by decide)
          have eE := but _ _ (far eE lE) eE
          have eN := but _ _ (far eN lN) eN
          have rE := Row.but eb but rE
          have rN := Row.but eb but rN
          have tb : Same H (upd J8 b (.lst (xs ++ [.str "later"]))) := fun x o e => but x o (ne_of_none e nbH) (t10 x o e)
          have dJ : Dz (upd J8 b (.lst (xs ++ [.str "later"]))) (.ref b) (.list (ds ++ [.str "later"])) := .lst upd_same ((hz J8 w10 _).app (.cons (.str _) .nil))
          have h54 := rep54 (d := .list (ds ++ [.str "later"])) (sm_list (m := 40) (fun d hd => by
            rcases List.mem_append.mp hd with hd | hd
            · exact hds d hd
            · rw [List.mem_singleton.mp hd]
              exact ⟨sm_flat (by simp [PyData.showable]) (by simp only [PyData.shown]; decide +kernel) (by simp [PyData.depth]), by simp [PyData.depth]⟩) (by
            rw [List.length_append]
            have := Nat.mul_le_mul_right 42 ld
            show 2 + (ds.length + 1) * 42 ≤ 150
            omega))
          generalize upd J8 b (.lst (xs ++ [.str "later"])) = J at eE eN rE rN tb dJ ⊢
          generalize PyData.list (ds ++ [.str "later"]) = d2 at dJ h54
          clear but far eb
          refine ⟨_, rfl, pE, asE, _, rfl, eE, lE, rE, fun f1 J1 nf1 v1 ef1 => ?_⟩
          refine ⟨_, rfl, pN, asN, _, rfl, v1 _ _ eN, lN, rN.mono v1, fun f2 J2 nf2 v2 ef2 => ?_⟩
          refine ⟨_, _, _, _, rfl, rfl, v2 _ _ ef1, ef2, (by rw [List.length_replicate]; show 54 ≤ sizeLine; decide), fun f3 nf3 => ?_⟩
          have v3 : Same J2 (upd J2 f3 (.lst (List.replicate 27 (V.ref b) ++ List.replicate 27 (V.ref b)))) := same_upd nf3
          have ef3 : upd J2 f3 (.lst (List.replicate 27 (V.ref b) ++ List.replicate 27 (V.ref b))) f3 = some (.lst (List.replicate 54 (V.ref b))) := by rw [upd_same, rep_app]
          generalize upd J2 f3 (.lst (List.replicate 27 (V.ref b) ++ List.replicate 27 (V.ref b))) = J3 at v3 ef3 ⊢
          have v13 : Same J J3 := v1.trans (v2.trans v3)
          refine ⟨f3, .list (List.replicate 54 d2), rfl, rdd_dz _ _ (.lst ef3 (dzAll_rep (Dz.mono v13 _ _ dJ) 54)), h54.1, h54.2.1, h54.2.2, ?_⟩
          refine ⟨_, rfl, (by show 1 ≤ sizeLine; decide), fun f4 nf4 => ⟨_, _, _, rfl, rfl, upd_same, by decide, by decide, (by show 1 * 54 ≤ sizeLine; decide), fun f5 nf5 => ?_⟩⟩
          obtain ⟨v5, _, ef5⟩ := laid2 (o1 := .lst [V.ref b]) (o2 := .lst (List.replicate (54 : Int).toNat [V.ref b]).flatten) (Same.refl J3) nf4 nf5
          have ef5 : upd (upd J3 f4 (.lst [V.ref b])) f5 (.lst (List.replicate (54 : Int).toNat [V.ref b]).flatten) f5 = some (.lst (List.replicate 54 (V.ref b))) := ef5.trans (congrArg (fun z => some (HO.lst z)) (rep_flat (V.ref b)))
          generalize upd (upd J3 f4 (.lst [V.ref b])) f5 (.lst (List.replicate (54 : Int).toNat [V.ref b]).flatten) = J5 at v5 ef5 ⊢
          have v15 : Same J J5 := v13.trans v5
          refine ⟨f5, .list (List.replicate 54 d2), rfl, rdd_dz _ _ (.lst ef5 (dzAll_rep (Dz.mono v15 _ _ dJ) 54)), h54.1, h54.2.1, h54.2.2, rfl, _, rfl, iteNS rfl ?_⟩
          show D'.nx _ _
          rw [hD]
          exact ⟨tb.trans v15, _, _, _, _, _, _, rfl⟩
    · rintro σ G ⟨t1, _⟩
      exact k _
end
end K1

namespace K1
open PySem PySem.Spec PyProof.Rows L2
open PySem.HandSPX (refsVE veTail)
/-- an exception class of the text, as it stands behind the top: bm its bases' line -/
structure ClsOk (K : PySem.W.Frag) (nm : Str) (C : Addr) (bm : List Value) : Prop where
  g : PySem.W.nsIn K mainGlobals nm = some (some (.ref C))
  lk : ∃ (q : Str) (N : Addr) (bs : List Value) (sn : List Str) (sub : List Value) (ab : Bool) (col : Option Bool) (dd : Option Addr) (k0 k1 k2 k3 k5 : Option Value),
    K.lookup C = some (excClassObj nm q C N bs bm true sn sub ab col dd k0 k1 k2 k3 k5 "ValueError.__new__")
  ve : refsVE bm = true
  sa : PySem.W.findIn K (.ref C) "__setattr__" = some (some (.builtin "object.__setattr__"))
  ga : PySem.W.findIn K (.ref C) "__getattribute__" = some (some (.builtin "BaseException.__getattribute__"))
  gg : PySem.W.findIn K (.ref C) "__getattr__" = some none
  cc : PySem.W.findIn K (.ref C) "__class__" = some (some (.builtin "object.__class__"))
  kC : PySem.W.keepIn K (.ref C) = true
section
variable {K : PySem.W.Frag} {nm : Str} {C cN : Addr} {bm : List Value}
theorem ClsOk.cls (c : ClsOk K nm C bm) : ∃ cd, PySem.W.clsIn K C = some cd ∧ cd.mro = .ref C :: bm ∧ cd.hasDict = true ∧ cd.name = nm := by
  obtain ⟨q, N, bs, sn, sub, ab, col, dd, k0, k1, k2, k3, k5, e⟩ := c.lk
  refine ⟨_, (by unfold PySem.W.clsIn; rw [e] <;> rfl), rfl, rfl, rfl⟩
theorem ClsOk.sub (c : ClsOk K nm C bm) (x : Value) : PySem.W.subIn K (.ref C) x = some ((Value.ref C :: bm).contains x) := by
  obtain ⟨cd, e, m, _, _⟩ := c.cls
  show PySem.W.mroIn K C x = _
  unfold PySem.W.mroIn
  rw [e, Option.bind_some, m] <;> rfl
theorem ClsOk.typ (c : ClsOk K nm C bm) : PySem.W.typeIn K (.ref C) = some (.type "type") := by
  obtain ⟨q, N, bs, sn, sub, ab, col, dd, k0, k1, k2, k3, k5, e⟩ := c.lk
  show (K.lookup C).map (·.cls) = _
  rw [e] <;> rfl
theorem ClsOk.has (c : ClsOk K nm C bm) (x : String) (h : veTail.contains (.type x) = true) : PySem.W.subIn K (.ref C) (.type x) = some true := by
  rw [c.sub, List.contains_cons, PySem.HandSPX.refsVE_contains x bm c.ve, h, Bool.or_true]
theorem ClsOk.oex (c : ClsOk K nm C bm) : OexC K C := by
  obtain ⟨q, N, bs, sn, sub, ab, col, dd, k0, k1, k2, k3, k5, e⟩ := c.lk
  exact ⟨⟨_, _, _, _, _, _, _, _, _, _, _, _, _, _, _, e, c.ve⟩, c.sa, c.has "BaseException" (by decide), c.typ, c.kC⟩
theorem ClsOk.dict (c : ClsOk K nm C bm) : PySem.W.hasDictIn K C = true := by
  obtain ⟨cd, e, _, h, _⟩ := c.cls
  unfold PySem.W.hasDictIn
  rw [e]
  exact h
theorem ClsOk.kit (c : ClsOk K nm C bm) : XKit K C := by
  obtain ⟨cd, e, _⟩ := c.cls
  exact ⟨by rw [e] <;> rfl, c.ga, c.gg, c.has "BaseException" (by decide), c.cc, c.has "object" (by decide)⟩
theorem ClsOk.ne {nm2 : Str} {C2 : Addr} {bm2 : List Value} (c : ClsOk K nm C bm) (c2 : ClsOk K nm2 C2 bm2) (h : nm ≠ nm2) : C ≠ C2 := fun z => by
  subst z
  obtain ⟨cd, e, _, _, n⟩ := c.cls
  obtain ⟨cd2, e2, _, _, n2⟩ := c2.cls
  rw [e] at e2
  cases e2
  exact h (n.symm.trans n2)
theorem ClsOk.one {nm2 : Str} {C2 : Addr} {bm2 : List Value} (c : ClsOk K nm C bm) (c2 : ClsOk K nm2 C2 bm2) : PySem.W.kitOne K (.ref C) (.ref C2) = some ((Value.ref C :: bm).contains (.ref C2)) := by
  unfold PySem.W.kitOne
  by_cases z : C = C2
  · subst z
    rw [if_pos (by simp)]
    simp
  · rw [if_neg (by simpa using z)]
    obtain ⟨cd, e, _⟩ := c2.cls
    unfold PySem.W.kitCls
    dsimp only
    rw [e, c2.typ, if_pos (by rfl), c.sub]
theorem contains_tail (C C2 cN : Addr) (h : C2 ≠ cN) : (Value.ref C :: Value.ref cN :: veTail).contains (.ref C2) = decide (C2 = C) := by
  by_cases z : C2 = C
  · subst z
    simp
  · simp [z, h]
theorem kit_ve (c : ClsOk K nm C bm) : PySem.W.kitOne K (.ref C) (.type "ValueError") = some true := by
  unfold PySem.W.kitOne
  rw [if_neg (by simp)]
  unfold PySem.W.kitCls
  dsimp only
  rw [if_pos (by decide +kernel), c.has "ValueError" (by decide)]
end
/-- such a class with its own __init__ -/
structure ErrOk (K : PySem.W.Frag) (nm f : Str) (C cN : Addr) : Prop where
  base : ClsOk K nm C (.ref cN :: veTail)
  n : PySem.W.nsIn K mainGlobals "NeverError" = some (some (.ref cN))
  made : ∀ (P : Program) (w : World) (mg : Str → Option Value) (h b : Heap), K.In h → h.Ns mainGlobals mg → XC P w K mg b nm f C
section
variable {K : PySem.W.Frag} {nm : Str} {C cN fI T N : Addr} {q qual : Str} {bs : List Value} {sn : List Str} {sub : List Value} {ab : Bool} {col : Option Bool} {dd od an od2 : Option Addr} {k0 k1 k2 k3 k5 : Option Value}
variable {oc kV doc pm cdv ct oc2 : Value} {osl sl2 : Array (Option Value)} {n2 : Nat} (p1 p2 p3 q1 q2 q3 q4 : Pos)
theorem err_value {h : Heap} (X : K.In h) (g : PySem.W.nsIn K mainGlobals nm = some (some (.ref C))) (gN : PySem.W.nsIn K mainGlobals "NeverError" = some (some (.ref cN)))
    (lk : K.lookup C = some (excClassObj nm q C N bs [.ref cN, .type "ValueError", .type "Exception", .type "BaseException", .type "object"] true sn sub ab col dd k0 k1 k2 k3 k5 "ValueError.__new__"))
    (sa : PySem.W.findIn K (.ref C) "__setattr__" = some (some (.builtin "object.__setattr__"))) (ga : PySem.W.findIn K (.ref C) "__getattribute__" = some (some (.builtin "BaseException.__getattribute__")))
    (gg : PySem.W.findIn K (.ref C) "__getattr__" = some none) (cc : PySem.W.findIn K (.ref C) "__class__" = some (some (.builtin "object.__class__"))) (kC : PySem.W.keepIn K (.ref C) = true)
    (no : PySem.W.findIn K (.ref C) "value" = some none) (iC : PySem.W.findIn K (.ref C) "__init__" = some (some (.ref fI))) (tI : PySem.W.typeIn K (.ref fI) = some (.type "function"))
    (l : K.lookup fI = some ⟨oc, od, .func (PySem.W.fnOf "__init__" qual (xiA "value" p1 p2 p3) (xiB "value" q1 q2 q3 q4) (xiS "value") (.ref T) kV doc pm an cdv ct), osl⟩) (cd : PySem.W.codeIn K cdv qual = true) (kI : PySem.W.keepIn K (.ref fI) = true)
    (t : K.lookup T = some ⟨oc2, od2, .seq #[.none] n2, sl2⟩) : ∃ C cN, ErrOk K nm "value" C cN := by
  have c : ClsOk K nm C (.ref cN :: veTail) := ⟨g, ⟨_, _, _, _, _, _, _, _, _, _, _, _, _, lk⟩, rfl, sa, ga, gg, cc, kC⟩
  have F : FunD K "__init__" qual (xiA "value" p1 p2 p3) (xiB "value" q1 q2 q3 q4) (xiS "value") [.non] [] fI _ :=
    ⟨⟨_, _, _, _, _, _, _, _, _, _, rfl, l, cd, .inr ⟨by simp, T, _, [Value.none], n2, rfl, t, rfl, .cons rfl .nil⟩, .inl rfl⟩, kI⟩
  exact ⟨C, cN, c, gN, fun P w mg h b X G => xc_value F c.oex (PySem.W.mg_of X G g) no ga gg c.dict iC tI⟩
end
section
variable {K : PySem.W.Frag} {nm : Str} {C cN fI T N : Addr} {q qual : Str} {bs : List Value} {sn : List Str} {sub : List Value} {ab : Bool} {col : Option Bool} {dd od an od2 : Option Addr} {k0 k1 k2 k3 k5 : Option Value}
variable {oc kV doc pm cdv ct oc2 : Value} {osl sl2 : Array (Option Value)} {n2 : Nat} (p1 p2 p3 q1 q2 q3 q4 : Pos)
theorem err_ring {h : Heap} (X : K.In h) (g : PySem.W.nsIn K mainGlobals nm = some (some (.ref C))) (gN : PySem.W.nsIn K mainGlobals "NeverError" = some (some (.ref cN)))
    (lk : K.lookup C = some (excClassObj nm q C N bs [.ref cN, .type "ValueError", .type "Exception", .type "BaseException", .type "object"] true sn sub ab col dd k0 k1 k2 k3 k5 "ValueError.__new__"))
    (sa : PySem.W.findIn K (.ref C) "__setattr__" = some (some (.builtin "object.__setattr__"))) (ga : PySem.W.findIn K (.ref C) "__getattribute__" = some (some (.builtin "BaseException.__getattribute__")))
    (gg : PySem.W.findIn K (.ref C) "__getattr__" = some none) (cc : PySem.W.findIn K (.ref C) "__class__" = some (some (.builtin "object.__class__"))) (kC : PySem.W.keepIn K (.ref C) = true)
    (no : PySem.W.findIn K (.ref C) "ring" = some none) (iC : PySem.W.findIn K (.ref C) "__init__" = some (some (.ref fI))) (tI : PySem.W.typeIn K (.ref fI) = some (.type "function"))
    (l : K.lookup fI = some ⟨oc, od, .func (PySem.W.fnOf "__init__" qual (xiA "ring" p1 p2 p3) (xiB "ring" q1 q2 q3 q4) (xiS "ring") (.ref T) kV doc pm an cdv ct), osl⟩) (cd : PySem.W.codeIn K cdv qual = true) (kI : PySem.W.keepIn K (.ref fI) = true)
    (t : K.lookup T = some ⟨oc2, od2, .seq #[.none] n2, sl2⟩) : ∃ C cN, ErrOk K nm "ring" C cN := by
  have c : ClsOk K nm C (.ref cN :: veTail) := ⟨g, ⟨_, _, _, _, _, _, _, _, _, _, _, _, _, lk⟩, rfl, sa, ga, gg, cc, kC⟩
  have F : FunD K "__init__" qual (xiA "ring" p1 p2 p3) (xiB "ring" q1 q2 q3 q4) (xiS "ring") [.non] [] fI _ :=
    ⟨⟨_, _, _, _, _, _, _, _, _, _, rfl, l, cd, .inr ⟨by simp, T, _, [Value.none], n2, rfl, t, rfl, .cons rfl .nil⟩, .inl rfl⟩, kI⟩
  exact ⟨C, cN, c, gN, fun P w mg h b X G => xc_ring F c.oex (PySem.W.mg_of X G g) no ga gg c.dict iC tI⟩
end
section
variable {K : PySem.W.Frag} {nm : Str} {C cN fI T N : Addr} {q qual : Str} {bs : List Value} {sn : List Str} {sub : List Value} {ab : Bool} {col : Option Bool} {dd od an od2 : Option Addr} {k0 k1 k2 k3 k5 : Option Value}
variable {oc kV doc pm cdv ct oc2 : Value} {osl sl2 : Array (Option Value)} {n2 : Nat} (p1 p2 p3 q1 q2 q3 q4 : Pos)
theorem err_most {h : Heap} (X : K.In h) (g : PySem.W.nsIn K mainGlobals nm = some (some (.ref C))) (gN : PySem.W.nsIn K mainGlobals "NeverError" = some (some (.ref cN)))
    (lk : K.lookup C = some (excClassObj nm q C N bs [.ref cN, .type "ValueError", .type "Exception", .type "BaseException", .type "object"] true sn sub ab col dd k0 k1 k2 k3 k5 "ValueError.__new__"))
    (sa : PySem.W.findIn K (.ref C) "__setattr__" = some (some (.builtin "object.__setattr__"))) (ga : PySem.W.findIn K (.ref C) "__getattribute__" = some (some (.builtin "BaseException.__getattribute__")))
    (gg : PySem.W.findIn K (.ref C) "__getattr__" = some none) (cc : PySem.W.findIn K (.ref C) "__class__" = some (some (.builtin "object.__class__"))) (kC : PySem.W.keepIn K (.ref C) = true)
    (no : PySem.W.findIn K (.ref C) "most" = some none) (iC : PySem.W.findIn K (.ref C) "__init__" = some (some (.ref fI))) (tI : PySem.W.typeIn K (.ref fI) = some (.type "function"))
    (l : K.lookup fI = some ⟨oc, od, .func (PySem.W.fnOf "__init__" qual (xiA "most" p1 p2 p3) (xiB "most" q1 q2 q3 q4) (xiS "most") (.ref T) kV doc pm an cdv ct), osl⟩) (cd : PySem.W.codeIn K cdv qual = true) (kI : PySem.W.keepIn K (.ref fI) = true)
    (t : K.lookup T = some ⟨oc2, od2, .seq #[.none] n2, sl2⟩) : ∃ C cN, ErrOk K nm "most" C cN := by
  have c : ClsOk K nm C (.ref cN :: veTail) := ⟨g, ⟨_, _, _, _, _, _, _, _, _, _, _, _, _, lk⟩, rfl, sa, ga, gg, cc, kC⟩
  have F : FunD K "__init__" qual (xiA "most" p1 p2 p3) (xiB "most" q1 q2 q3 q4) (xiS "most") [.non] [] fI _ :=
    ⟨⟨_, _, _, _, _, _, _, _, _, _, rfl, l, cd, .inr ⟨by simp, T, _, [Value.none], n2, rfl, t, rfl, .cons rfl .nil⟩, .inl rfl⟩, kI⟩
  exact ⟨C, cN, c, gN, fun P w mg h b X G => xc_most F c.oex (PySem.W.mg_of X G g) no ga gg c.dict iC tI⟩
end
section
variable {K : PySem.W.Frag} {nm : Str} {C cN fI T N : Addr} {q qual : Str} {bs : List Value} {sn : List Str} {sub : List Value} {ab : Bool} {col : Option Bool} {dd od an od2 : Option Addr} {k0 k1 k2 k3 k5 : Option Value}
variable {oc kV doc pm cdv ct oc2 : Value} {osl sl2 : Array (Option Value)} {n2 : Nat} (p1 p2 p3 q1 q2 q3 q4 : Pos)
theorem err_conflicts {h : Heap} (X : K.In h) (g : PySem.W.nsIn K mainGlobals nm = some (some (.ref C))) (gN : PySem.W.nsIn K mainGlobals "NeverError" = some (some (.ref cN)))
    (lk : K.lookup C = some (excClassObj nm q C N bs [.ref cN, .type "ValueError", .type "Exception", .type "BaseException", .type "object"] true sn sub ab col dd k0 k1 k2 k3 k5 "ValueError.__new__"))
    (sa : PySem.W.findIn K (.ref C) "__setattr__" = some (some (.builtin "object.__setattr__"))) (ga : PySem.W.findIn K (.ref C) "__getattribute__" = some (some (.builtin "BaseException.__getattribute__")))
    (gg : PySem.W.findIn K (.ref C) "__getattr__" = some none) (cc : PySem.W.findIn K (.ref C) "__class__" = some (some (.builtin "object.__class__"))) (kC : PySem.W.keepIn K (.ref C) = true)
    (no : PySem.W.findIn K (.ref C) "conflicts" = some none) (iC : PySem.W.findIn K (.ref C) "__init__" = some (some (.ref fI))) (tI : PySem.W.typeIn K (.ref fI) = some (.type "function"))
    (l : K.lookup fI = some ⟨oc, od, .func (PySem.W.fnOf "__init__" qual (xiA "conflicts" p1 p2 p3) (xiB "conflicts" q1 q2 q3 q4) (xiS "conflicts") (.ref T) kV doc pm an cdv ct), osl⟩) (cd : PySem.W.codeIn K cdv qual = true) (kI : PySem.W.keepIn K (.ref fI) = true)
    (t : K.lookup T = some ⟨oc2, od2, .seq #[.none] n2, sl2⟩) : ∃ C cN, ErrOk K nm "conflicts" C cN := by
  have c : ClsOk K nm C (.ref cN :: veTail) := ⟨g, ⟨_, _, _, _, _, _, _, _, _, _, _, _, _, lk⟩, rfl, sa, ga, gg, cc, kC⟩
  have F : FunD K "__init__" qual (xiA "conflicts" p1 p2 p3) (xiB "conflicts" q1 q2 q3 q4) (xiS "conflicts") [.non] [] fI _ :=
    ⟨⟨_, _, _, _, _, _, _, _, _, _, rfl, l, cd, .inr ⟨by simp, T, _, [Value.none], n2, rfl, t, rfl, .cons rfl .nil⟩, .inl rfl⟩, kI⟩
  exact ⟨C, cN, c, gN, fun P w mg h b X G => xc_conflicts F c.oex (PySem.W.mg_of X G g) no ga gg c.dict iC tI⟩
end
section
variable {K : PySem.W.Frag} {nm : Str} {C cN N : Addr} {q : Str} {bs : List Value} {sn : List Str} {sub : List Value} {ab : Bool} {col : Option Bool} {dd : Option Addr} {k0 k1 k2 k3 k5 : Option Value}
/-- a class without own __init__ -/
theorem bare_ok {h : Heap} (X : K.In h) (g : PySem.W.nsIn K mainGlobals nm = some (some (.ref C))) (gN : PySem.W.nsIn K mainGlobals "NeverError" = some (some (.ref cN)))
    (lk : K.lookup C = some (excClassObj nm q C N bs [.ref cN, .type "ValueError", .type "Exception", .type "BaseException", .type "object"] true sn sub ab col dd k0 k1 k2 k3 k5 "ValueError.__new__"))
    (sa : PySem.W.findIn K (.ref C) "__setattr__" = some (some (.builtin "object.__setattr__"))) (ga : PySem.W.findIn K (.ref C) "__getattribute__" = some (some (.builtin "BaseException.__getattribute__")))
    (gg : PySem.W.findIn K (.ref C) "__getattr__" = some none) (cc : PySem.W.findIn K (.ref C) "__class__" = some (some (.builtin "object.__class__"))) (kC : PySem.W.keepIn K (.ref C) = true)
    (ex : PySem.W.excIn K C [.type "ValueError", .type "Exception", .type "BaseException", .type "object"] "ValueError.__new__" = true) :
    ∃ C cN, ClsOk K nm C (.ref cN :: veTail) ∧ PySem.W.nsIn K mainGlobals "NeverError" = some (some (.ref cN)) ∧ PySem.W.excIn K C veTail "ValueError.__new__" = true :=
  ⟨C, cN, ⟨g, ⟨_, _, _, _, _, _, _, _, _, _, _, _, _, lk⟩, rfl, sa, ga, gg, cc, kC⟩, gN, ex⟩
theorem never_ok {h : Heap} (X : K.In h) (g : PySem.W.nsIn K mainGlobals nm = some (some (.ref C)))
    (lk : K.lookup C = some (excClassObj nm q C N bs [.type "ValueError", .type "Exception", .type "BaseException", .type "object"] true sn sub ab col dd k0 k1 k2 k3 k5 "ValueError.__new__"))
    (sa : PySem.W.findIn K (.ref C) "__setattr__" = some (some (.builtin "object.__setattr__"))) (ga : PySem.W.findIn K (.ref C) "__getattribute__" = some (some (.builtin "BaseException.__getattribute__")))
    (gg : PySem.W.findIn K (.ref C) "__getattr__" = some none) (cc : PySem.W.findIn K (.ref C) "__class__" = some (some (.builtin "object.__class__"))) (kC : PySem.W.keepIn K (.ref C) = true)
    (ex : PySem.W.excIn K C [.type "ValueError", .type "Exception", .type "BaseException", .type "object"] "ValueError.__new__" = true) :
    ∃ C, ClsOk K nm C veTail ∧ PySem.W.excIn K C veTail "ValueError.__new__" = true :=
  ⟨C, ⟨g, ⟨_, _, _, _, _, _, _, _, _, _, _, _, _, lk⟩, rfl, sa, ga, gg, cc, kC⟩, ex⟩
end
end K1

namespace K1
open PySem PySem.Spec PyProof.Rows L2
open PySem.HandSPX (refsVE veTail)
def nmOf (i : Nat) : Str := (["InvalidFact", "InvalidStore", "InvalidRule", "InvalidBook", "InvalidQuestion", "InvalidDeed", "InvalidGoal", "InvalidScript", "InvalidEdition", "InvalidGuard", "InvalidDates", "InvalidChances", "InvalidLot", "InvalidNames", "InvalidLayers", "InvalidName", "InvalidLog", "InvalidText", "InvalidNumber", "UnknownName", "TakenName", "NotPlain", "NotFiring", "Unsound", "NotLayered", "TooMany", "NotMeeting", "NothingToUndo", "NothingToRedo"] : List Str).getD i ""
theorem nm_inj : ∀ i, i < 29 → ∀ j, j < 29 → nmOf i = nmOf j → i = j := by decide +kernel
theorem nm_not : ∀ i, i < 29 → nmOf i ≠ "NeverError" := by decide +kernel
section
variable {P : Program} {w : World} {K : PySem.W.Frag} {mg : Str → Option Value} {base h : Heap} {c : Nat → Addr} {cN : Addr}
theorem one_all (N : ClsOk K "NeverError" cN veTail) (all : ∀ i, i < 29 → ClsOk K (nmOf i) (c i) (.ref cN :: veTail)) (i j : Nat) (hi : i < 29) (hj : j < 29) : PySem.W.kitOne K (.ref (c i)) (.ref (c j)) = some (decide (j = i)) := by
  rw [(all i hi).one (all j hj), contains_tail _ _ _ ((all j hj).ne N (nm_not j hj))]
  by_cases z : j = i
  · subst z
    simp
  · have ne : c j ≠ c i := (all j hj).ne (all i hi) fun q => z (nm_inj j hj i hi q)
    rw [decide_eq_false ne, decide_eq_false z]
theorem txt_mk (X : K.In h) (G : h.Ns mainGlobals mg) (O : XObj K) (N : ClsOk K "NeverError" cN veTail) (eN : PySem.W.excIn K cN veTail "ValueError.__new__" = true)
    (x0 : ErrOk K "InvalidFact" "value" (c 0) cN)
    (x1 : ErrOk K "InvalidStore" "value" (c 1) cN)
    (x2 : ErrOk K "InvalidRule" "value" (c 2) cN)
    (x3 : ErrOk K "InvalidBook" "value" (c 3) cN)
    (x4 : ErrOk K "InvalidQuestion" "value" (c 4) cN)
    (x5 : ErrOk K "InvalidDeed" "value" (c 5) cN)
    (x6 : ErrOk K "InvalidGoal" "value" (c 6) cN)
    (x7 : ErrOk K "InvalidScript" "value" (c 7) cN)
    (x8 : ErrOk K "InvalidEdition" "value" (c 8) cN)
    (x9 : ErrOk K "InvalidGuard" "value" (c 9) cN)
    (x10 : ErrOk K "InvalidDates" "value" (c 10) cN)
    (x11 : ErrOk K "InvalidChances" "value" (c 11) cN)
    (x12 : ErrOk K "InvalidLot" "value" (c 12) cN)
    (x13 : ErrOk K "InvalidNames" "value" (c 13) cN)
    (x14 : ErrOk K "InvalidLayers" "value" (c 14) cN)
    (x15 : ErrOk K "InvalidName" "value" (c 15) cN)
    (x16 : ErrOk K "InvalidLog" "value" (c 16) cN)
    (x17 : ErrOk K "InvalidText" "value" (c 17) cN)
    (x18 : ErrOk K "InvalidNumber" "value" (c 18) cN)
    (x19 : ErrOk K "UnknownName" "value" (c 19) cN)
    (x20 : ErrOk K "TakenName" "value" (c 20) cN)
    (x21 : ErrOk K "NotPlain" "value" (c 21) cN)
    (x22 : ErrOk K "NotFiring" "value" (c 22) cN)
    (x23 : ErrOk K "Unsound" "value" (c 23) cN)
    (x24 : ErrOk K "NotLayered" "ring" (c 24) cN)
    (x25 : ErrOk K "TooMany" "most" (c 25) cN)
    (x26 : ErrOk K "NotMeeting" "conflicts" (c 26) cN)
    (x27 : ClsOk K "NothingToUndo" (c 27) (.ref cN :: veTail)) (e27 : PySem.W.excIn K (c 27) veTail "ValueError.__new__" = true)
    (x28 : ClsOk K "NothingToRedo" (c 28) (.ref cN :: veTail)) (e28 : PySem.W.excIn K (c 28) veTail "ValueError.__new__" = true)
    (bI : PySem.W.nsIn K mainGlobals "isinstance" = some none) : Txt P w K mg base c cN := by
  have all : ∀ i, i < 29 → ClsOk K (nmOf i) (c i) (.ref cN :: veTail) := fun i hi => match i, hi with
    | 0, _ => x0.base
    | 1, _ => x1.base
    | 2, _ => x2.base
    | 3, _ => x3.base
    | 4, _ => x4.base
    | 5, _ => x5.base
    | 6, _ => x6.base
    | 7, _ => x7.base
    | 8, _ => x8.base
    | 9, _ => x9.base
    | 10, _ => x10.base
    | 11, _ => x11.base
    | 12, _ => x12.base
    | 13, _ => x13.base
    | 14, _ => x14.base
    | 15, _ => x15.base
    | 16, _ => x16.base
    | 17, _ => x17.base
    | 18, _ => x18.base
    | 19, _ => x19.base
    | 20, _ => x20.base
    | 21, _ => x21.base
    | 22, _ => x22.base
    | 23, _ => x23.base
    | 24, _ => x24.base
    | 25, _ => x25.base
    | 26, _ => x26.base
    | 27, _ => x27
    | 28, _ => x28
    | n + 29, hn => absurd hn (by omega)
  have one := one_all N all
  exact {
    obj := O
    x0 := x0.made P w mg h base X G
    x1 := x1.made P w mg h base X G
    x2 := x2.made P w mg h base X G
    x3 := x3.made P w mg h base X G
    x4 := x4.made P w mg h base X G
    x5 := x5.made P w mg h base X G
    x6 := x6.made P w mg h base X G
    x7 := x7.made P w mg h base X G
    x8 := x8.made P w mg h base X G
    x9 := x9.made P w mg h base X G
    x10 := x10.made P w mg h base X G
    x11 := x11.made P w mg h base X G
    x12 := x12.made P w mg h base X G
    x13 := x13.made P w mg h base X G
    x14 := x14.made P w mg h base X G
    x15 := x15.made P w mg h base X G
    x16 := x16.made P w mg h base X G
    x17 := x17.made P w mg h base X G
    x18 := x18.made P w mg h base X G
    x19 := x19.made P w mg h base X G
    x20 := x20.made P w mg h base X G
    x21 := x21.made P w mg h base X G
    x22 := x22.made P w mg h base X G
    x23 := x23.made P w mg h base X G
    x24 := x24.made P w mg h base X G
    x25 := x25.made P w mg h base X G
    x26 := x26.made P w mg h base X G
    kit := fun i hi => (all i hi).kit
    kitN := N.kit
    one := one
    noN := fun j hj => by
      rw [N.one (all j hj)]
      have ne : c j ≠ cN := (all j hj).ne N (nm_not j hj)
      have z : (Value.ref cN :: veTail).contains (.ref (c j)) = false := by simp [ne]
      rw [z]
    toN := fun i hi => by
      rw [(all i hi).one N]
      simp
    toV := fun i hi => kit_ve (all i hi)
    nToV := kit_ve N
    gN := PySem.W.mg_of X G N.g
    gU := PySem.W.mg_of X G x27.g
    gR := PySem.W.mg_of X G x28.g
    eN := eN
    eU := e27
    eR := e28
    kN := N.kC
    kU := x27.kC
    kR := x28.kC
    bIsi := PySem.W.mg_none_of X G bI }
end
/-- two looks at NeverError's name -/
theorem same_n {K : PySem.W.Frag} {a b : Addr} (h1 : PySem.W.nsIn K mainGlobals "NeverError" = some (some (.ref a))) (h2 : PySem.W.nsIn K mainGlobals "NeverError" = some (some (.ref b))) : a = b := by
  rw [h1] at h2
  cases h2
  rfl
/-- a def of the law's text -/
theorem def_at {K : PySem.W.Frag} {h : Heap} (X : K.In h) {x : Str} {st : Stmt} {f : Addr} {oc : Value} {od an : Option Addr} {osl : Array (Option Value)} {kV doc pm cdv ct : Value} (g : PySem.W.nsIn K mainGlobals x = some (some (.ref f)))
    (l : K.lookup f = some ⟨oc, od, .func (PySem.W.fnOf x x (defArgs st) (defBody st) (defScope st) .none kV doc pm an cdv ct), osl⟩) (c : PySem.W.codeIn K cdv x = true) (k : PySem.W.keepIn K (.ref f) = true) :
    ∃ (f : Addr) (fd : FuncData), PySem.W.nsIn K mainGlobals x = some (some (.ref f)) ∧ Fun K x x st f fd := ⟨f, _, g, fun_mk l c k⟩
theorem nones {K : PySem.W.Frag} {h : Heap} (X : K.In h) {mg : Str → Option Value} (G : h.Ns mainGlobals mg) (a1 : PySem.W.nsIn K mainGlobals "isinstance" = some none) (a2 : PySem.W.nsIn K mainGlobals "ValueError" = some none) (a3 : PySem.W.nsIn K mainGlobals "enumerate" = some none) (a4 : PySem.W.nsIn K mainGlobals "range" = some none)
    (a5 : PySem.W.nsIn K mainGlobals "int" = some none) (a6 : PySem.W.nsIn K mainGlobals "len" = some none) (a7 : PySem.W.nsIn K mainGlobals "max" = some none) (a8 : PySem.W.nsIn K mainGlobals "sum" = some none) (a9 : PySem.W.nsIn K mainGlobals "repr" = some none) (a10 : PySem.W.nsIn K mainGlobals "list" = some none) :
    Blt mg ∧ Blt2 mg ∧ Blt3 mg :=
  ⟨⟨PySem.W.mg_none_of X G a1, PySem.W.mg_none_of X G a2, PySem.W.mg_none_of X G a3, PySem.W.mg_none_of X G a4⟩, ⟨PySem.W.mg_none_of X G a5, PySem.W.mg_none_of X G a6⟩, ⟨PySem.W.mg_none_of X G a7, PySem.W.mg_none_of X G a8, PySem.W.mg_none_of X G a9, PySem.W.mg_none_of X G a10⟩⟩
theorem obj_at {K : PySem.W.Frag} {h : Heap} (X : K.In h) (gt : PySem.W.specialIn K (.builtin "object.__class__") "__get__" = some (some (.builtin "getset_descriptor.__get__"))) (tk : PySem.W.takesIn K (.builtin "object.__class__") = some true) : XObj K := ⟨gt, tk⟩
theorem none_at {K : PySem.W.Frag} {h : Heap} (X : K.In h) {x : Str} (z : PySem.W.nsIn K mainGlobals x = some none) : PySem.W.nsIn K mainGlobals x = some none := z
/-- all together -/
theorem law_at {P : Program} {w : World} {K : PySem.W.Frag} {mg : Str → Option Value} {h : Heap} {fa : Addr} (X : K.In h) (G : h.Ns mainGlobals mg) (hfa : mg "law" = some (.ref fa)) {c : Nat → Addr} {cN : Addr} (T : ∀ base, Txt P w K mg base c cN) (B : Blt mg ∧ Blt2 mg ∧ Blt3 mg)
    (dClasses : ∃ (f : Addr) (fd : FuncData), PySem.W.nsIn K mainGlobals "_law_classes" = some (some (.ref f)) ∧ Fun K "_law_classes" "_law_classes" sClasses f fd)
    (dMade : ∃ (f : Addr) (fd : FuncData), PySem.W.nsIn K mainGlobals "_law_made" = some (some (.ref f)) ∧ Fun K "_law_made" "_law_made" sMade f fd)
    (dByName : ∃ (f : Addr) (fd : FuncData), PySem.W.nsIn K mainGlobals "_law_by_name" = some (some (.ref f)) ∧ Fun K "_law_by_name" "_law_by_name" sByName f fd)
    (dBare : ∃ (f : Addr) (fd : FuncData), PySem.W.nsIn K mainGlobals "_law_bare" = some (some (.ref f)) ∧ Fun K "_law_bare" "_law_bare" sBare f fd)
    (dFields : ∃ (f : Addr) (fd : FuncData), PySem.W.nsIn K mainGlobals "_law_fields" = some (some (.ref f)) ∧ Fun K "_law_fields" "_law_fields" sFields f fd)
    (dPlaced : ∃ (f : Addr) (fd : FuncData), PySem.W.nsIn K mainGlobals "_law_placed" = some (some (.ref f)) ∧ Fun K "_law_placed" "_law_placed" sPlaced f fd)
    (dThing : ∃ (f : Addr) (fd : FuncData), PySem.W.nsIn K mainGlobals "_law_thing" = some (some (.ref f)) ∧ Fun K "_law_thing" "_law_thing" sThing f fd)
    (dLaw : ∃ (f : Addr) (fd : FuncData), PySem.W.nsIn K mainGlobals "law" = some (some (.ref f)) ∧ Fun K "law" "law" sLaw f fd)
    : ∃ fd : FuncData, (∀ (s : Shared) (u : Value), BindsTo s fd ⟨[u], []⟩ [("_law_script", u)]) ∧
      ∀ base : Heap, K.In base → base.Ns mainGlobals mg → (∃ o, base.get? sysModules = some o) → RunG P w K mg base 4 fa fd ["_law_script"] (spLaw K) := by
  obtain ⟨B1, B2, B3⟩ := B
  obtain ⟨fClasses, fdClasses, gClasses, FClasses⟩ := dClasses
  obtain ⟨fMade, fdMade, gMade, FMade⟩ := dMade
  obtain ⟨fByName, fdByName, gByName, FByName⟩ := dByName
  obtain ⟨fBare, fdBare, gBare, FBare⟩ := dBare
  obtain ⟨fFields, fdFields, gFields, FFields⟩ := dFields
  obtain ⟨fPlaced, fdPlaced, gPlaced, FPlaced⟩ := dPlaced
  obtain ⟨fThing, fdThing, gThing, FThing⟩ := dThing
  obtain ⟨fLaw, fdLaw, gLaw, FLaw⟩ := dLaw
  have bClasses := FClasses.binds (ps := ["_law_error"]) fun _ _ _ _ _ _ us hl => match us, hl with | [_], _ => rfl
  have bMade := FMade.binds (ps := ["_law_thing_here"]) fun _ _ _ _ _ _ us hl => match us, hl with | [_], _ => rfl
  have bByName := FByName.binds (ps := ["_law_thing_here"]) fun _ _ _ _ _ _ us hl => match us, hl with | [_], _ => rfl
  have bBare := FBare.binds (ps := []) fun _ _ _ _ _ _ us hl => match us, hl with | [], _ => rfl
  have bFields := FFields.binds (ps := ["_law_errors"]) fun _ _ _ _ _ _ us hl => match us, hl with | [_], _ => rfl
  have bPlaced := FPlaced.binds (ps := ["_law_errors"]) fun _ _ _ _ _ _ us hl => match us, hl with | [_], _ => rfl
  have bThing := FThing.binds (ps := ["_law_drawn", "_law_at"]) fun _ _ _ _ _ _ us hl => match us, hl with | [_, _], _ => rfl
  have e := hfa.symm.trans (PySem.W.mg_of X G gLaw)
  cases e
  refine ⟨fdLaw, fun s u => ?_, fun base _ _ sy => ok_law FLaw (T base) B1 B2 B3 sy (PySem.W.mg_of X G gClasses) FClasses bClasses (PySem.W.mg_of X G gMade) FMade bMade (PySem.W.mg_of X G gByName) FByName bByName (PySem.W.mg_of X G gBare) FBare bBare
    (PySem.W.mg_of X G gFields) FFields bFields (PySem.W.mg_of X G gPlaced) FPlaced bPlaced (PySem.W.mg_of X G gThing) FThing bThing⟩
  obtain ⟨oc, od, kV, doc, pm, an, cdv, ct, osl, rfl, lk, hcd⟩ := FLaw.ex
  exact .of_eq rfl
end K1

open PySem PySem.W PyProof.Rows in
set_option maxRecDepth 100000 in
set_option maxHeartbeats 0 in
theorem PySem.Challenge.cw_neverapart_k01_errors_made_holds : PySem.Challenge.rw_neverapart_k01_errors_made.Holds := by
  w_on; o_law; k_head; (case hw => w_witness2)
  k_fill
  refine K1.walkG (l := PySem.Challenge.rw_neverapart_k01_errors_made) (k := 4) (sp := K1.spLaw) (x := "_law_script") rfl rfl ⟨rfl, by decide, by decide⟩ (by decide +kernel) (fun w h Y => PySem.W.kIn_of Y) ?F (fun K H a ns hl hS => ⟨a, ns, rfl, hS, hl, fun _ => rfl⟩)
  case F =>
    intro w mg fa h KX G hmg
    have O := K1.obj_at KX (by k_is) (by k_is)
    obtain ⟨cN, N, eN⟩ := (by
      refine' K1.never_ok KX (nm := "NeverError") ?g ?lk ?sa ?ga ?gg ?cc ?kC ?ex
      (case g => k_is)
      (case lk => k_is)
      (case sa => k_is)
      (case ga => k_is)
      (case gg => k_is)
      (case cc => k_is)
      (case kC => k_is)
      (case ex => k_exc)
      )
    obtain ⟨c0, m0, e0⟩ := (by
      refine' K1.err_value ⟨6, 17, 6, 21⟩ ⟨6, 23, 6, 28⟩ ⟨6, 29, 6, 33⟩ ⟨7, 8, 7, 12⟩ ⟨7, 8, 7, 18⟩ ⟨7, 21, 7, 26⟩ ⟨7, 8, 7, 26⟩ KX (nm := "InvalidFact") (qual := "InvalidFact.__init__") ?g ?gN ?lk ?sa ?ga ?gg ?cc ?kC ?no ?iC ?tI ?l ?cd ?kI ?t
      (case g => k_is)
      (case gN => k_is)
      (case lk => k_is)
      (case sa => k_is)
      (case ga => k_is)
      (case gg => k_is)
      (case cc => k_is)
      (case kC => k_is)
      (case no => k_is)
      (case iC => k_is)
      (case tI => k_is)
      (case l => k_is)
      (case cd => k_is)
      (case kI => k_is)
      (case t => k_is)
      )
    obtain rfl := K1.same_n e0.n N.g
    obtain ⟨c1, m1, e1⟩ := (by
      refine' K1.err_value ⟨10, 17, 10, 21⟩ ⟨10, 23, 10, 28⟩ ⟨10, 29, 10, 33⟩ ⟨11, 8, 11, 12⟩ ⟨11, 8, 11, 18⟩ ⟨11, 21, 11, 26⟩ ⟨11, 8, 11, 26⟩ KX (nm := "InvalidStore") (qual := "InvalidStore.__init__") ?g ?gN ?lk ?sa ?ga ?gg ?cc ?kC ?no ?iC ?tI ?l ?cd ?kI ?t
      (case g => k_is)
      (case gN => k_is)
      (case lk => k_is)
      (case sa => k_is)
      (case ga => k_is)
      (case gg => k_is)
      (case cc => k_is)
      (case kC => k_is)
      (case no => k_is)
      (case iC => k_is)
      (case tI => k_is)
      (case l => k_is)
      (case cd => k_is)
      (case kI => k_is)
      (case t => k_is)
      )
    obtain rfl := K1.same_n e1.n N.g
    obtain ⟨c2, m2, e2⟩ := (by
      refine' K1.err_value ⟨14, 17, 14, 21⟩ ⟨14, 23, 14, 28⟩ ⟨14, 29, 14, 33⟩ ⟨15, 8, 15, 12⟩ ⟨15, 8, 15, 18⟩ ⟨15, 21, 15, 26⟩ ⟨15, 8, 15, 26⟩ KX (nm := "InvalidRule") (qual := "InvalidRule.__init__") ?g ?gN ?lk ?sa ?ga ?gg ?cc ?kC ?no ?iC ?tI ?l ?cd ?kI ?t
      (case g => k_is)
      (case gN => k_is)
      (case lk => k_is)
      (case sa => k_is)
      (case ga => k_is)
      (case gg => k_is)
      (case cc => k_is)
      (case kC => k_is)
      (case no => k_is)
      (case iC => k_is)
      (case tI => k_is)
      (case l => k_is)
      (case cd => k_is)
      (case kI => k_is)
      (case t => k_is)
      )
    obtain rfl := K1.same_n e2.n N.g
    obtain ⟨c3, m3, e3⟩ := (by
      refine' K1.err_value ⟨18, 17, 18, 21⟩ ⟨18, 23, 18, 28⟩ ⟨18, 29, 18, 33⟩ ⟨19, 8, 19, 12⟩ ⟨19, 8, 19, 18⟩ ⟨19, 21, 19, 26⟩ ⟨19, 8, 19, 26⟩ KX (nm := "InvalidBook") (qual := "InvalidBook.__init__") ?g ?gN ?lk ?sa ?ga ?gg ?cc ?kC ?no ?iC ?tI ?l ?cd ?kI ?t
      (case g => k_is)
      (case gN => k_is)
      (case lk => k_is)
      (case sa => k_is)
      (case ga => k_is)
      (case gg => k_is)
      (case cc => k_is)
      (case kC => k_is)
      (case no => k_is)
      (case iC => k_is)
      (case tI => k_is)
      (case l => k_is)
      (case cd => k_is)
      (case kI => k_is)
      (case t => k_is)
      )
    obtain rfl := K1.same_n e3.n N.g
    obtain ⟨c4, m4, e4⟩ := (by
      refine' K1.err_value ⟨22, 17, 22, 21⟩ ⟨22, 23, 22, 28⟩ ⟨22, 29, 22, 33⟩ ⟨23, 8, 23, 12⟩ ⟨23, 8, 23, 18⟩ ⟨23, 21, 23, 26⟩ ⟨23, 8, 23, 26⟩ KX (nm := "InvalidQuestion") (qual := "InvalidQuestion.__init__") ?g ?gN ?lk ?sa ?ga ?gg ?cc ?kC ?no ?iC ?tI ?l ?cd ?kI ?t
      (case g => k_is)
      (case gN => k_is)
      (case lk => k_is)
      (case sa => k_is)
      (case ga => k_is)
      (case gg => k_is)
      (case cc => k_is)
      (case kC => k_is)
      (case no => k_is)
      (case iC => k_is)
      (case tI => k_is)
      (case l => k_is)
      (case cd => k_is)
      (case kI => k_is)
      (case t => k_is)
      )
    obtain rfl := K1.same_n e4.n N.g
    obtain ⟨c5, m5, e5⟩ := (by
      refine' K1.err_value ⟨26, 17, 26, 21⟩ ⟨26, 23, 26, 28⟩ ⟨26, 29, 26, 33⟩ ⟨27, 8, 27, 12⟩ ⟨27, 8, 27, 18⟩ ⟨27, 21, 27, 26⟩ ⟨27, 8, 27, 26⟩ KX (nm := "InvalidDeed") (qual := "InvalidDeed.__init__") ?g ?gN ?lk ?sa ?ga ?gg ?cc ?kC ?no ?iC ?tI ?l ?cd ?kI ?t
      (case g => k_is)
      (case gN => k_is)
      (case lk => k_is)
      (case sa => k_is)
      (case ga => k_is)
      (case gg => k_is)
      (case cc => k_is)
      (case kC => k_is)
      (case no => k_is)
      (case iC => k_is)
      (case tI => k_is)
      (case l => k_is)
      (case cd => k_is)
      (case kI => k_is)
      (case t => k_is)
      )
    obtain rfl := K1.same_n e5.n N.g
    obtain ⟨c6, m6, e6⟩ := (by
      refine' K1.err_value ⟨30, 17, 30, 21⟩ ⟨30, 23, 30, 28⟩ ⟨30, 29, 30, 33⟩ ⟨31, 8, 31, 12⟩ ⟨31, 8, 31, 18⟩ ⟨31, 21, 31, 26⟩ ⟨31, 8, 31, 26⟩ KX (nm := "InvalidGoal") (qual := "InvalidGoal.__init__") ?g ?gN ?lk ?sa ?ga ?gg ?cc ?kC ?no ?iC ?tI ?l ?cd ?kI ?t
      (case g => k_is)
      (case gN => k_is)
      (case lk => k_is)
      (case sa => k_is)
      (case ga => k_is)
      (case gg => k_is)
      (case cc => k_is)
      (case kC => k_is)
      (case no => k_is)
      (case iC => k_is)
      (case tI => k_is)
      (case l => k_is)
      (case cd => k_is)
      (case kI => k_is)
      (case t => k_is)
      )
    obtain rfl := K1.same_n e6.n N.g
    obtain ⟨c7, m7, e7⟩ := (by
      refine' K1.err_value ⟨34, 17, 34, 21⟩ ⟨34, 23, 34, 28⟩ ⟨34, 29, 34, 33⟩ ⟨35, 8, 35, 12⟩ ⟨35, 8, 35, 18⟩ ⟨35, 21, 35, 26⟩ ⟨35, 8, 35, 26⟩ KX (nm := "InvalidScript") (qual := "InvalidScript.__init__") ?g ?gN ?lk ?sa ?ga ?gg ?cc ?kC ?no ?iC ?tI ?l ?cd ?kI ?t
      (case g => k_is)
      (case gN => k_is)
      (case lk => k_is)
      (case sa => k_is)
      (case ga => k_is)
      (case gg => k_is)
      (case cc => k_is)
      (case kC => k_is)
      (case no => k_is)
      (case iC => k_is)
      (case tI => k_is)
      (case l => k_is)
      (case cd => k_is)
      (case kI => k_is)
      (case t => k_is)
      )
    obtain rfl := K1.same_n e7.n N.g
    obtain ⟨c8, m8, e8⟩ := (by
      refine' K1.err_value ⟨38, 17, 38, 21⟩ ⟨38, 23, 38, 28⟩ ⟨38, 29, 38, 33⟩ ⟨39, 8, 39, 12⟩ ⟨39, 8, 39, 18⟩ ⟨39, 21, 39, 26⟩ ⟨39, 8, 39, 26⟩ KX (nm := "InvalidEdition") (qual := "InvalidEdition.__init__") ?g ?gN ?lk ?sa ?ga ?gg ?cc ?kC ?no ?iC ?tI ?l ?cd ?kI ?t
      (case g => k_is)
      (case gN => k_is)
      (case lk => k_is)
      (case sa => k_is)
      (case ga => k_is)
      (case gg => k_is)
      (case cc => k_is)
      (case kC => k_is)
      (case no => k_is)
      (case iC => k_is)
      (case tI => k_is)
      (case l => k_is)
      (case cd => k_is)
      (case kI => k_is)
      (case t => k_is)
      )
    obtain rfl := K1.same_n e8.n N.g
    obtain ⟨c9, m9, e9⟩ := (by
      refine' K1.err_value ⟨42, 17, 42, 21⟩ ⟨42, 23, 42, 28⟩ ⟨42, 29, 42, 33⟩ ⟨43, 8, 43, 12⟩ ⟨43, 8, 43, 18⟩ ⟨43, 21, 43, 26⟩ ⟨43, 8, 43, 26⟩ KX (nm := "InvalidGuard") (qual := "InvalidGuard.__init__") ?g ?gN ?lk ?sa ?ga ?gg ?cc ?kC ?no ?iC ?tI ?l ?cd ?kI ?t
      (case g => k_is)
      (case gN => k_is)
      (case lk => k_is)
      (case sa => k_is)
      (case ga => k_is)
      (case gg => k_is)
      (case cc => k_is)
      (case kC => k_is)
      (case no => k_is)
      (case iC => k_is)
      (case tI => k_is)
      (case l => k_is)
      (case cd => k_is)
      (case kI => k_is)
      (case t => k_is)
      )
    obtain rfl := K1.same_n e9.n N.g
    obtain ⟨c10, m10, e10⟩ := (by
      refine' K1.err_value ⟨46, 17, 46, 21⟩ ⟨46, 23, 46, 28⟩ ⟨46, 29, 46, 33⟩ ⟨47, 8, 47, 12⟩ ⟨47, 8, 47, 18⟩ ⟨47, 21, 47, 26⟩ ⟨47, 8, 47, 26⟩ KX (nm := "InvalidDates") (qual := "InvalidDates.__init__") ?g ?gN ?lk ?sa ?ga ?gg ?cc ?kC ?no ?iC ?tI ?l ?cd ?kI ?t
      (case g => k_is)
      (case gN => k_is)
      (case lk => k_is)
      (case sa => k_is)
      (case ga => k_is)
      (case gg => k_is)
      (case cc => k_is)
      (case kC => k_is)
      (case no => k_is)
      (case iC => k_is)
      (case tI => k_is)
      (case l => k_is)
      (case cd => k_is)
      (case kI => k_is)
      (case t => k_is)
      )
    obtain rfl := K1.same_n e10.n N.g
    obtain ⟨c11, m11, e11⟩ := (by
      refine' K1.err_value ⟨50, 17, 50, 21⟩ ⟨50, 23, 50, 28⟩ ⟨50, 29, 50, 33⟩ ⟨51, 8, 51, 12⟩ ⟨51, 8, 51, 18⟩ ⟨51, 21, 51, 26⟩ ⟨51, 8, 51, 26⟩ KX (nm := "InvalidChances") (qual := "InvalidChances.__init__") ?g ?gN ?lk ?sa ?ga ?gg ?cc ?kC ?no ?iC ?tI ?l ?cd ?kI ?t
      (case g => k_is)
      (case gN => k_is)
      (case lk => k_is)
      (case sa => k_is)
      (case ga => k_is)
      (case gg => k_is)
      (case cc => k_is)
      (case kC => k_is)
      (case no => k_is)
      (case iC => k_is)
      (case tI => k_is)
      (case l => k_is)
      (case cd => k_is)
      (case kI => k_is)
      (case t => k_is)
      )
    obtain rfl := K1.same_n e11.n N.g
    obtain ⟨c12, m12, e12⟩ := (by
      refine' K1.err_value ⟨54, 17, 54, 21⟩ ⟨54, 23, 54, 28⟩ ⟨54, 29, 54, 33⟩ ⟨55, 8, 55, 12⟩ ⟨55, 8, 55, 18⟩ ⟨55, 21, 55, 26⟩ ⟨55, 8, 55, 26⟩ KX (nm := "InvalidLot") (qual := "InvalidLot.__init__") ?g ?gN ?lk ?sa ?ga ?gg ?cc ?kC ?no ?iC ?tI ?l ?cd ?kI ?t
      (case g => k_is)
      (case gN => k_is)
      (case lk => k_is)
      (case sa => k_is)
      (case ga => k_is)
      (case gg => k_is)
      (case cc => k_is)
      (case kC => k_is)
      (case no => k_is)
      (case iC => k_is)
      (case tI => k_is)
      (case l => k_is)
      (case cd => k_is)
      (case kI => k_is)
      (case t => k_is)
      )
    obtain rfl := K1.same_n e12.n N.g
    obtain ⟨c13, m13, e13⟩ := (by
      refine' K1.err_value ⟨58, 17, 58, 21⟩ ⟨58, 23, 58, 28⟩ ⟨58, 29, 58, 33⟩ ⟨59, 8, 59, 12⟩ ⟨59, 8, 59, 18⟩ ⟨59, 21, 59, 26⟩ ⟨59, 8, 59, 26⟩ KX (nm := "InvalidNames") (qual := "InvalidNames.__init__") ?g ?gN ?lk ?sa ?ga ?gg ?cc ?kC ?no ?iC ?tI ?l ?cd ?kI ?t
      (case g => k_is)
      (case gN => k_is)
      (case lk => k_is)
      (case sa => k_is)
      (case ga => k_is)
      (case gg => k_is)
      (case cc => k_is)
      (case kC => k_is)
      (case no => k_is)
      (case iC => k_is)
      (case tI => k_is)
      (case l => k_is)
      (case cd => k_is)
      (case kI => k_is)
      (case t => k_is)
      )
    obtain rfl := K1.same_n e13.n N.g
    obtain ⟨c14, m14, e14⟩ := (by
      refine' K1.err_value ⟨62, 17, 62, 21⟩ ⟨62, 23, 62, 28⟩ ⟨62, 29, 62, 33⟩ ⟨63, 8, 63, 12⟩ ⟨63, 8, 63, 18⟩ ⟨63, 21, 63, 26⟩ ⟨63, 8, 63, 26⟩ KX (nm := "InvalidLayers") (qual := "InvalidLayers.__init__") ?g ?gN ?lk ?sa ?ga ?gg ?cc ?kC ?no ?iC ?tI ?l ?cd ?kI ?t
      (case g => k_is)
      (case gN => k_is)
      (case lk => k_is)
      (case sa => k_is)
      (case ga => k_is)
      (case gg => k_is)
      (case cc => k_is)
      (case kC => k_is)
      (case no => k_is)
      (case iC => k_is)
      (case tI => k_is)
      (case l => k_is)
      (case cd => k_is)
      (case kI => k_is)
      (case t => k_is)
      )
    obtain rfl := K1.same_n e14.n N.g
    obtain ⟨c15, m15, e15⟩ := (by
      refine' K1.err_value ⟨66, 17, 66, 21⟩ ⟨66, 23, 66, 28⟩ ⟨66, 29, 66, 33⟩ ⟨67, 8, 67, 12⟩ ⟨67, 8, 67, 18⟩ ⟨67, 21, 67, 26⟩ ⟨67, 8, 67, 26⟩ KX (nm := "InvalidName") (qual := "InvalidName.__init__") ?g ?gN ?lk ?sa ?ga ?gg ?cc ?kC ?no ?iC ?tI ?l ?cd ?kI ?t
      (case g => k_is)
      (case gN => k_is)
      (case lk => k_is)
      (case sa => k_is)
      (case ga => k_is)
      (case gg => k_is)
      (case cc => k_is)
      (case kC => k_is)
      (case no => k_is)
      (case iC => k_is)
      (case tI => k_is)
      (case l => k_is)
      (case cd => k_is)
      (case kI => k_is)
      (case t => k_is)
      )
    obtain rfl := K1.same_n e15.n N.g
    obtain ⟨c16, m16, e16⟩ := (by
      refine' K1.err_value ⟨70, 17, 70, 21⟩ ⟨70, 23, 70, 28⟩ ⟨70, 29, 70, 33⟩ ⟨71, 8, 71, 12⟩ ⟨71, 8, 71, 18⟩ ⟨71, 21, 71, 26⟩ ⟨71, 8, 71, 26⟩ KX (nm := "InvalidLog") (qual := "InvalidLog.__init__") ?g ?gN ?lk ?sa ?ga ?gg ?cc ?kC ?no ?iC ?tI ?l ?cd ?kI ?t
      (case g => k_is)
      (case gN => k_is)
      (case lk => k_is)
      (case sa => k_is)
      (case ga => k_is)
      (case gg => k_is)
      (case cc => k_is)
      (case kC => k_is)
      (case no => k_is)
      (case iC => k_is)
      (case tI => k_is)
      (case l => k_is)
      (case cd => k_is)
      (case kI => k_is)
      (case t => k_is)
      )
    obtain rfl := K1.same_n e16.n N.g
    obtain ⟨c17, m17, e17⟩ := (by
      refine' K1.err_value ⟨74, 17, 74, 21⟩ ⟨74, 23, 74, 28⟩ ⟨74, 29, 74, 33⟩ ⟨75, 8, 75, 12⟩ ⟨75, 8, 75, 18⟩ ⟨75, 21, 75, 26⟩ ⟨75, 8, 75, 26⟩ KX (nm := "InvalidText") (qual := "InvalidText.__init__") ?g ?gN ?lk ?sa ?ga ?gg ?cc ?kC ?no ?iC ?tI ?l ?cd ?kI ?t
      (case g => k_is)
      (case gN => k_is)
      (case lk => k_is)
      (case sa => k_is)
      (case ga => k_is)
      (case gg => k_is)
      (case cc => k_is)
      (case kC => k_is)
      (case no => k_is)
      (case iC => k_is)
      (case tI => k_is)
      (case l => k_is)
      (case cd => k_is)
      (case kI => k_is)
      (case t => k_is)
      )
    obtain rfl := K1.same_n e17.n N.g
    obtain ⟨c18, m18, e18⟩ := (by
      refine' K1.err_value ⟨78, 17, 78, 21⟩ ⟨78, 23, 78, 28⟩ ⟨78, 29, 78, 33⟩ ⟨79, 8, 79, 12⟩ ⟨79, 8, 79, 18⟩ ⟨79, 21, 79, 26⟩ ⟨79, 8, 79, 26⟩ KX (nm := "InvalidNumber") (qual := "InvalidNumber.__init__") ?g ?gN ?lk ?sa ?ga ?gg ?cc ?kC ?no ?iC ?tI ?l ?cd ?kI ?t
      (case g => k_is)
      (case gN => k_is)
      (case lk => k_is)
      (case sa => k_is)
      (case ga => k_is)
      (case gg => k_is)
      (case cc => k_is)
      (case kC => k_is)
      (case no => k_is)
      (case iC => k_is)
      (case tI => k_is)
      (case l => k_is)
      (case cd => k_is)
      (case kI => k_is)
      (case t => k_is)
      )
    obtain rfl := K1.same_n e18.n N.g
    obtain ⟨c19, m19, e19⟩ := (by
      refine' K1.err_value ⟨82, 17, 82, 21⟩ ⟨82, 23, 82, 28⟩ ⟨82, 29, 82, 33⟩ ⟨83, 8, 83, 12⟩ ⟨83, 8, 83, 18⟩ ⟨83, 21, 83, 26⟩ ⟨83, 8, 83, 26⟩ KX (nm := "UnknownName") (qual := "UnknownName.__init__") ?g ?gN ?lk ?sa ?ga ?gg ?cc ?kC ?no ?iC ?tI ?l ?cd ?kI ?t
      (case g => k_is)
      (case gN => k_is)
      (case lk => k_is)
      (case sa => k_is)
      (case ga => k_is)
      (case gg => k_is)
      (case cc => k_is)
      (case kC => k_is)
      (case no => k_is)
      (case iC => k_is)
      (case tI => k_is)
      (case l => k_is)
      (case cd => k_is)
      (case kI => k_is)
      (case t => k_is)
      )
    obtain rfl := K1.same_n e19.n N.g
    obtain ⟨c20, m20, e20⟩ := (by
      refine' K1.err_value ⟨86, 17, 86, 21⟩ ⟨86, 23, 86, 28⟩ ⟨86, 29, 86, 33⟩ ⟨87, 8, 87, 12⟩ ⟨87, 8, 87, 18⟩ ⟨87, 21, 87, 26⟩ ⟨87, 8, 87, 26⟩ KX (nm := "TakenName") (qual := "TakenName.__init__") ?g ?gN ?lk ?sa ?ga ?gg ?cc ?kC ?no ?iC ?tI ?l ?cd ?kI ?t
      (case g => k_is)
      (case gN => k_is)
      (case lk => k_is)
      (case sa => k_is)
      (case ga => k_is)
      (case gg => k_is)
      (case cc => k_is)
      (case kC => k_is)
      (case no => k_is)
      (case iC => k_is)
      (case tI => k_is)
      (case l => k_is)
      (case cd => k_is)
      (case kI => k_is)
      (case t => k_is)
      )
    obtain rfl := K1.same_n e20.n N.g
    obtain ⟨c21, m21, e21⟩ := (by
      refine' K1.err_value ⟨90, 17, 90, 21⟩ ⟨90, 23, 90, 28⟩ ⟨90, 29, 90, 33⟩ ⟨91, 8, 91, 12⟩ ⟨91, 8, 91, 18⟩ ⟨91, 21, 91, 26⟩ ⟨91, 8, 91, 26⟩ KX (nm := "NotPlain") (qual := "NotPlain.__init__") ?g ?gN ?lk ?sa ?ga ?gg ?cc ?kC ?no ?iC ?tI ?l ?cd ?kI ?t
      (case g => k_is)
      (case gN => k_is)
      (case lk => k_is)
      (case sa => k_is)
      (case ga => k_is)
      (case gg => k_is)
      (case cc => k_is)
      (case kC => k_is)
      (case no => k_is)
      (case iC => k_is)
      (case tI => k_is)
      (case l => k_is)
      (case cd => k_is)
      (case kI => k_is)
      (case t => k_is)
      )
    obtain rfl := K1.same_n e21.n N.g
    obtain ⟨c22, m22, e22⟩ := (by
      refine' K1.err_value ⟨98, 17, 98, 21⟩ ⟨98, 23, 98, 28⟩ ⟨98, 29, 98, 33⟩ ⟨99, 8, 99, 12⟩ ⟨99, 8, 99, 18⟩ ⟨99, 21, 99, 26⟩ ⟨99, 8, 99, 26⟩ KX (nm := "NotFiring") (qual := "NotFiring.__init__") ?g ?gN ?lk ?sa ?ga ?gg ?cc ?kC ?no ?iC ?tI ?l ?cd ?kI ?t
      (case g => k_is)
      (case gN => k_is)
      (case lk => k_is)
      (case sa => k_is)
      (case ga => k_is)
      (case gg => k_is)
      (case cc => k_is)
      (case kC => k_is)
      (case no => k_is)
      (case iC => k_is)
      (case tI => k_is)
      (case l => k_is)
      (case cd => k_is)
      (case kI => k_is)
      (case t => k_is)
      )
    obtain rfl := K1.same_n e22.n N.g
    obtain ⟨c23, m23, e23⟩ := (by
      refine' K1.err_value ⟨110, 17, 110, 21⟩ ⟨110, 23, 110, 28⟩ ⟨110, 29, 110, 33⟩ ⟨111, 8, 111, 12⟩ ⟨111, 8, 111, 18⟩ ⟨111, 21, 111, 26⟩ ⟨111, 8, 111, 26⟩ KX (nm := "Unsound") (qual := "Unsound.__init__") ?g ?gN ?lk ?sa ?ga ?gg ?cc ?kC ?no ?iC ?tI ?l ?cd ?kI ?t
      (case g => k_is)
      (case gN => k_is)
      (case lk => k_is)
      (case sa => k_is)
      (case ga => k_is)
      (case gg => k_is)
      (case cc => k_is)
      (case kC => k_is)
      (case no => k_is)
      (case iC => k_is)
      (case tI => k_is)
      (case l => k_is)
      (case cd => k_is)
      (case kI => k_is)
      (case t => k_is)
      )
    obtain rfl := K1.same_n e23.n N.g
    obtain ⟨c24, m24, e24⟩ := (by
      refine' K1.err_ring ⟨94, 17, 94, 21⟩ ⟨94, 23, 94, 27⟩ ⟨94, 28, 94, 32⟩ ⟨95, 8, 95, 12⟩ ⟨95, 8, 95, 17⟩ ⟨95, 20, 95, 24⟩ ⟨95, 8, 95, 24⟩ KX (nm := "NotLayered") (qual := "NotLayered.__init__") ?g ?gN ?lk ?sa ?ga ?gg ?cc ?kC ?no ?iC ?tI ?l ?cd ?kI ?t
      (case g => k_is)
      (case gN => k_is)
      (case lk => k_is)
      (case sa => k_is)
      (case ga => k_is)
      (case gg => k_is)
      (case cc => k_is)
      (case kC => k_is)
      (case no => k_is)
      (case iC => k_is)
      (case tI => k_is)
      (case l => k_is)
      (case cd => k_is)
      (case kI => k_is)
      (case t => k_is)
      )
    obtain rfl := K1.same_n e24.n N.g
    obtain ⟨c25, m25, e25⟩ := (by
      refine' K1.err_most ⟨102, 17, 102, 21⟩ ⟨102, 23, 102, 27⟩ ⟨102, 28, 102, 32⟩ ⟨103, 8, 103, 12⟩ ⟨103, 8, 103, 17⟩ ⟨103, 20, 103, 24⟩ ⟨103, 8, 103, 24⟩ KX (nm := "TooMany") (qual := "TooMany.__init__") ?g ?gN ?lk ?sa ?ga ?gg ?cc ?kC ?no ?iC ?tI ?l ?cd ?kI ?t
      (case g => k_is)
      (case gN => k_is)
      (case lk => k_is)
      (case sa => k_is)
      (case ga => k_is)
      (case gg => k_is)
      (case cc => k_is)
      (case kC => k_is)
      (case no => k_is)
      (case iC => k_is)
      (case tI => k_is)
      (case l => k_is)
      (case cd => k_is)
      (case kI => k_is)
      (case t => k_is)
      )
    obtain rfl := K1.same_n e25.n N.g
    obtain ⟨c26, m26, e26⟩ := (by
      refine' K1.err_conflicts ⟨106, 17, 106, 21⟩ ⟨106, 23, 106, 32⟩ ⟨106, 33, 106, 37⟩ ⟨107, 8, 107, 12⟩ ⟨107, 8, 107, 22⟩ ⟨107, 25, 107, 34⟩ ⟨107, 8, 107, 34⟩ KX (nm := "NotMeeting") (qual := "NotMeeting.__init__") ?g ?gN ?lk ?sa ?ga ?gg ?cc ?kC ?no ?iC ?tI ?l ?cd ?kI ?t
      (case g => k_is)
      (case gN => k_is)
      (case lk => k_is)
      (case sa => k_is)
      (case ga => k_is)
      (case gg => k_is)
      (case cc => k_is)
      (case kC => k_is)
      (case no => k_is)
      (case iC => k_is)
      (case tI => k_is)
      (case l => k_is)
      (case cd => k_is)
      (case kI => k_is)
      (case t => k_is)
      )
    obtain rfl := K1.same_n e26.n N.g
    obtain ⟨c27, m27, e27, n27, x27⟩ := (by
      refine' K1.bare_ok KX (nm := "NothingToUndo") ?g ?gN ?lk ?sa ?ga ?gg ?cc ?kC ?ex
      (case g => k_is)
      (case gN => k_is)
      (case lk => k_is)
      (case sa => k_is)
      (case ga => k_is)
      (case gg => k_is)
      (case cc => k_is)
      (case kC => k_is)
      (case ex => k_exc)
      )
    obtain rfl := K1.same_n n27 N.g
    obtain ⟨c28, m28, e28, n28, x28⟩ := (by
      refine' K1.bare_ok KX (nm := "NothingToRedo") ?g ?gN ?lk ?sa ?ga ?gg ?cc ?kC ?ex
      (case g => k_is)
      (case gN => k_is)
      (case lk => k_is)
      (case sa => k_is)
      (case ga => k_is)
      (case gg => k_is)
      (case cc => k_is)
      (case kC => k_is)
      (case ex => k_exc)
      )
    obtain rfl := K1.same_n n28 N.g
    have dClasses := (by
      refine' K1.def_at KX (x := "_law_classes") (st := K1.sClasses) ?g ?l ?c ?k
      (case g => k_is)
      (case l => k_is)
      (case c => k_is)
      (case k => k_is)
      )
    have dMade := (by
      refine' K1.def_at KX (x := "_law_made") (st := K1.sMade) ?g ?l ?c ?k
      (case g => k_is)
      (case l => k_is)
      (case c => k_is)
      (case k => k_is)
      )
    have dByName := (by
      refine' K1.def_at KX (x := "_law_by_name") (st := K1.sByName) ?g ?l ?c ?k
      (case g => k_is)
      (case l => k_is)
      (case c => k_is)
      (case k => k_is)
      )
    have dBare := (by
      refine' K1.def_at KX (x := "_law_bare") (st := K1.sBare) ?g ?l ?c ?k
      (case g => k_is)
      (case l => k_is)
      (case c => k_is)
      (case k => k_is)
      )
    have dFields := (by
      refine' K1.def_at KX (x := "_law_fields") (st := K1.sFields) ?g ?l ?c ?k
      (case g => k_is)
      (case l => k_is)
      (case c => k_is)
      (case k => k_is)
      )
    have dPlaced := (by
      refine' K1.def_at KX (x := "_law_placed") (st := K1.sPlaced) ?g ?l ?c ?k
      (case g => k_is)
      (case l => k_is)
      (case c => k_is)
      (case k => k_is)
      )
    have dThing := (by
      refine' K1.def_at KX (x := "_law_thing") (st := K1.sThing) ?g ?l ?c ?k
      (case g => k_is)
      (case l => k_is)
      (case c => k_is)
      (case k => k_is)
      )
    have dLaw := (by
      refine' K1.def_at KX (x := "law") (st := K1.sLaw) ?g ?l ?c ?k
      (case g => k_is)
      (case l => k_is)
      (case c => k_is)
      (case k => k_is)
      )
    have B := K1.nones KX G (by k_is) (by k_is) (by k_is) (by k_is) (by k_is) (by k_is) (by k_is) (by k_is) (by k_is) (by k_is)
    refine K1.law_at KX G hmg (c := fun i => ([c0, c1, c2, c3, c4, c5, c6, c7, c8, c9, c10, c11, c12, c13, c14, c15, c16, c17, c18, c19, c20, c21, c22, c23, c24, c25, c26, c27, c28] : List Addr).getD i 0) (fun base => K1.txt_mk KX G O N eN e0 e1 e2 e3 e4 e5 e6 e7 e8 e9 e10 e11 e12 e13 e14 e15 e16 e17 e18 e19 e20 e21 e22 e23 e24 e25 e26 e27 x27 e28 x28 (by k_is)) B dClasses dMade dByName dBare dFields dPlaced dThing dLaw
#print axioms PySem.Challenge.cw_neverapart_k01_errors_made_holds
