import PyProof.Rows.All
import Wide.All
import OpenK.AllK
import Wide.FinOn
import KE.KExcIs
import HandS.ForMost
import HandS.ExcInit
import HandS.ExcValue
import HandS.Defaults
import HandS.IsInst
import HandS.Wide
import HandS.More
import HandS.Conv
import HandS.Flow
import HandS.WideBits
import HandS.Property
import HandS.Walk
import KE.KStrOpen
import HandS.Strs
import HandS.OwnEq
import HandS.Style
import HandS.Deep
import PySem.Challenge.RW_neverapart_k03_rules_and_books_kept
set_option Elab.async false
set_option linter.all false
set_option maxRecDepth 100000
set_option maxHeartbeats 8000000
set_option maxHeartbeats 4000000
namespace PySem
namespace Xv
open PySem.W PySem.Calls PyProof.Rows PySem.HandSPX
section
variable {prog : Program} {w : World} {A : Around} {E : Value → Shared → Prop} {R : Result → Shared → Prop}
variable {h : Heap} {g : Array GenState} {d : Drawn} {t : Nat} {os : OsState}
variable {nm q : Str} {C N : Addr} {bs bm bmB : List Value} {hdct : Bool} {sn : List Str} {sub : List Value} {ab : Bool}
variable {col : Option Bool} {dd : Option Addr} {k0 k1 k2 k3 k5 : Option Value} {B newId initId : String}
variable {kw : List (Str × Value)} {rest : List Value}
abbrev Holds (h : Heap) (nm q : Str) (C N : Addr) (bs bm : List Value) (hdct : Bool) (sn : List Str) (sub : List Value) (ab : Bool)
    (col : Option Bool) (dd : Option Addr) (k0 k1 k2 k3 k5 : Option Value) (newId : String) : Prop :=
  h.get? C = some (excClassObj nm q C N bs bm hdct sn sub ab col dd k0 k1 k2 k3 k5 newId)
abbrev AlikeTypes (bm bmB : List Value) : Prop := ∀ X : String, bm.contains (.type X) = bmB.contains (.type X)

theorem check_new (F : ExcBaseFacts B newId initId bmB) (hT : AlikeTypes bm bmB) {M : Model} {Q : Unit → Shared → Prop}
    (hC : Holds h nm q C N bs bm hdct sn sub ab col dd k0 k1 k2 k3 k5 newId) (hq : Q () ⟨h, g, d, t, os⟩) :
    wpAny M A (checkBuiltinCall newId ⟨.ref C :: rest, kw⟩) Q E ⟨h, g, d, t, os⟩ := by
  have has : (Value.ref C :: bm).contains (.type B) = true := by rw [List.contains_cons, hT, F.hasB, Bool.or_true]
  have star := F.noStar
  simp only [checkBuiltinCall, F.newKind, F.newSplit, F.newRow]
  repeat (first
    | refine wpAny_loadPart_at hC ?_
    | (refine wpAny_isSubtype_exc hC ?_; rw [has])
    | refine wpAny_staticBase_exc hC ?_
    | refine wpAny_madeBy_exc hC ?_
    | simp only [bne_self_eq_false, Bool.false_eq_true, if_false]
    | wp_step)
  exact hq

theorem new_kw (F : ExcBaseFacts B newId initId bmB) (hT : AlikeTypes bm bmB)
    (hC : Holds h nm q C N bs bm hdct sn sub ab col dd k0 k1 k2 k3 k5 newId)
    (hq : R (.ok (.ret (.ref (h.objs.size + 1)))) ⟨(h.push (kdv_tup rest)).push (excO C h.objs.size), g, d, t, os⟩) (hz : rest.length ≤ sizeLine) :
    codeAny (model prog w) A (.builtin newId ⟨.ref C :: rest, kw⟩) R ⟨h, g, d, t, os⟩ := by
  have ends := F.ends
  have hasB : (Value.ref C :: bm).contains (.type B) = true := by rw [List.contains_cons, hT, F.hasB, Bool.or_true]
  have hasA : (Value.ref C :: bm).contains (.type "AttributeError") = false := by rw [List.contains_cons, hT, F.noAttr]; rfl
  have hasN : (Value.ref C :: bm).contains (.type "NameError") = false := by rw [List.contains_cons, hT, F.noName]; rfl
  refine codeAny_builtinAt F.entry ?_
  unfold Builtin.«BaseException.__new__»
  refine wpAt_bind ?_
  show wpAt _ _ _ (stack >>= _) _ _ _
  refine wpAt_bind (wpAt_stack fun p below => wpAt_of_wpAny ?_)
  wp_walk
  refine wpAt_of_wpAny ?_
  rw [F.owner]
  repeat (first
    | with_reducible refine wpAny_madeHere_exc F.canon hC ?_
    | with_reducible refine wpAny_loadPart_at hC ?_
    | (with_reducible refine wpAny_isSubtype_exc hC ?_; first | rw [hasB] | rw [hasA] | rw [hasN])
    | wp_step)
  show R _ _
  rw [Heap.size_push]
  exact hq

theorem tcall_kw (F : ExcBaseFacts B newId initId bmB) (hT : AlikeTypes bm bmB) {fI : Addr} {Q : Fin → Shared → Prop}
    (hC : Holds h nm q C N bs bm hdct sn sub ab col dd k0 k1 k2 k3 k5 newId)
    (hi : W.Looks (model prog w) h (typeLookup (.ref C) "__init__") (some (.ref fI)))
    (hb : ∀ self, W.Looks (model prog w) h (bindSpecial (.ref fI) self) (.ref fI, [self])) (hz : rest.length ≤ sizeLine)
    (hq : codeAny (model prog w) A (.call (.ref fI) ⟨.ref (h.objs.size + 1) :: rest, kw⟩)
      (fun r s' => match r with | .ok (.ret v) => v = .none ∧ Q (.done (.ret (.ref (h.objs.size + 1)))) s' | .ok _ => False | .error e => E e s')
      ⟨(h.push (kdv_tup rest)).push (excO C h.objs.size), g, d, t, os⟩) :
    wpAny (model prog w) A (Builtin.«type.__call__» ⟨.ref C :: rest, kw⟩) Q E ⟨h, g, d, t, os⟩ := by
  repeat (first
    | with_reducible refine wpAny_loadPart_at hC ?_
    | with_reducible refine wpAny_madeBy_exc hC ?_
    | wp_step)
  refine codeAny_call_builtin_code (Code.quiet_builtin _ F.quiet) (check_new F hT hC ?_)
  refine new_kw F hT hC ?_ hz
  show wpAny _ _ _ _ _ _
  have k : ∀ b o, h.get? b = some o → ((h.push (kdv_tup rest)).push (excO C h.objs.size)).get? b = some o :=
    fun b o e => Heap.get?_push_of_some _ (Heap.get?_push_of_some _ e)
  have hC1 := k _ _ hC
  have hget : ((h.push (kdv_tup rest)).push (excO C h.objs.size)).get? (h.objs.size + 1) = some (excO C h.objs.size) := by heap_get
  have self : (Value.ref C :: bm).contains (.ref C) = true := by simp
  have i1 := hi.keeps k
  have b1 := (hb (.ref (h.objs.size + 1))).keeps k
  unfold isInstance
  repeat (first
    | with_reducible refine wpAny_loadPart_at hget ?_
    | (with_reducible refine wpAny_isSubtype_exc hC1 ?_; rw [self])
    | wp_step)
  show wpAny _ _ (typeLookup (.ref C) _) _ _ _
  refine i1.at ?_
  refine wpAny_holding (wpAny_bind (b1.at ?_))
  refine wpAny_bind (wpAny_call (codeAny_mono hq fun r s' z => ?_))
  rcases r with e | (v | _ | _ | _) <;> first | exact z | exact z.elim | skip
  obtain ⟨rfl, z⟩ := z
  first
    | exact wpAny_pure (wpAny_pure z)
    | (wp_walk; exact z)

theorem call_kw (F : ExcBaseFacts B newId initId bmB) (hT : AlikeTypes bm bmB) {fI : Addr}
    (hC : Holds h nm q C N bs bm hdct sn sub ab col dd k0 k1 k2 k3 k5 newId)
    (hi : W.Looks (model prog w) h (typeLookup (.ref C) "__init__") (some (.ref fI)))
    (hb : ∀ self, W.Looks (model prog w) h (bindSpecial (.ref fI) self) (.ref fI, [self])) (hz : rest.length ≤ sizeLine)
    (typ : W.Looks (model prog w) h (isInstance (.ref C) (.type "type")) true)
    (hq : codeAny (model prog w) (A.under (.builtin "type.__call__" ⟨.ref C :: rest, kw⟩)) (.call (.ref fI) ⟨.ref (h.objs.size + 1) :: rest, kw⟩)
      (W.InitBack (h.objs.size + 1) R) ⟨(h.push (kdv_tup rest)).push (excO C h.objs.size), g, d, t, os⟩) :
    codeAny (model prog w) A (.call (.ref C) ⟨rest, kw⟩) R ⟨h, g, d, t, os⟩ := by
  have f1 := tc_lookup
  have f2 := tc_bind (.ref C)
  have hTy : (⟨h, g, d, t, os⟩ : Shared).TypeIs (.ref C) "type" := ⟨_, hC, rfl⟩
  refine codeAny_of_tree ?_
  show wpAny _ _ (callAny (.ref C) _) _ _ _
  repeat (any_goals (first | assumption | with_reducible refine wpAny_loadPart_at hC ?_ | wp_step))
  refine ⟨rfl, ?_⟩
  refine codeAny_call_builtin_at (Code.quiet_builtin _ (by decide +kernel)) entry_typeCall (W.check_slot tc_kind tc_split typ (tc_args _ _ _) ?_)
  refine tcall_kw F hT hC hi hb hz ?_
  refine codeAny_mono hq fun r s' z => ?_
  rcases r with e | (v | _ | _ | _) <;> exact z
end
end Xv
end PySem
set_option maxHeartbeats 4000000
namespace L2
open PySem PySem.Spec PyProof.Rows
/-- at a stands an exception of the class at C whose one field f holds v -/
def EA (H : Hp) (a C : Addr) (f : Str) (v : V) : Prop := ∃ d, H a = some (exo a C (some d)) ∧ H d = some (exd d [(f, v)])
theorem EA.mono {H H' : Hp} {a C : Addr} {f : Str} {v : V} (x : EA H a C f v) (e : Same H H') : EA H' a C f v :=
  let ⟨d, h1, h2⟩ := x
  ⟨d, e _ _ h1, e _ _ h2⟩
/-- the promise of such a class's __init__ -/
def spXI (C : Addr) (f : Str) : Sp := fun vs H Q _ => ∃ (a : Addr) (v : V), vs = [.ref a, v] ∧ H a = some (exo a C none) ∧
  ∀ dx, H dx = none → dx ≠ a → Q .non (upd (upd H dx (exd dx [(f, v)])) a (exo a C (some dx)))
/-- what is known of an exception class x (at C, its field f) behind the top -/
structure XC (P : Program) (w : World) (K : PySem.W.Frag) (mg : Str → Option Value) (base : Heap) (x f : Str) (C : Addr) : Prop where
  oex : OexC K C
  gC : mg x = some (.ref C)
  noF : PySem.W.findIn K (.ref C) f = some none
  ga : PySem.W.findIn K (.ref C) "__getattribute__" = some (some (.builtin "BaseException.__getattribute__"))
  gg : PySem.W.findIn K (.ref C) "__getattr__" = some none
  hdC : PySem.W.hasDictIn K C = true
  run : ∃ (fI : Addr) (fd : FuncData), PySem.W.findIn K (.ref C) "__init__" = some (some (.ref fI)) ∧ PySem.W.typeIn K (.ref fI) = some (.type "function") ∧
    FnOk P w K mg base CX0 1 fI fd ["self", f] (spXI C f) ∧
    (∀ (s : Shared) (a b : Value), K.In s.heap → BindsTo s fd ⟨[a, b], []⟩ ((["self", f] : List Str).zip [a, b])) ∧
    (∀ (s : Shared) (a : Value), K.In s.heap → BindsTo s fd ⟨[a], []⟩ ((["self", f] : List Str).zip [a, .none])) ∧
    (∀ (s : Shared) (a b : Value), K.In s.heap → BindsTo s fd ⟨[a], ([f] : List Str).zip [b]⟩ ((["self", f] : List Str).zip [a, b]))
section
variable {X : Cx} {x f : Str} {C : Addr}
theorem run_x {pins : List (Addr × Obj)} {σ : St} {H : Hp} {s : Shared} {Q : VK} {us : List Value} {kw : List (Str × Value)} {v : V} {u : Value} {fI : Addr} {fd : FuncData} (T : OexC X.K C)
    (iC : PySem.W.findIn X.K (.ref C) "__init__" = some (some (.ref fI))) (tI : PySem.W.typeIn X.K (.ref fI) = some (.type "function"))
    (F1 : FnOk X.prog X.w X.K X.mg X.base CX0 1 fI fd ["self", f] (spXI C f)) (hr : Room 2 X.A) (I : Inv X pins σ H s) (hz : us.length ≤ 1000) (rv : RelV v u)
    (hb : ∀ (s : Shared) (a : Value), X.K.In s.heap → BindsTo s fd ⟨a :: us, kw⟩ ((["self", f] : List Str).zip [a, u]))
    (h : ∀ (a : Addr) (H' : Hp), H a = none → Same H H' → EA H' a C f v → Q (.ref a) H') :
    wpAny (model X.prog X.w) X.A (call (.ref C) us kw) (EP X pins σ Q) X.xe s := by
  obtain ⟨nm, q, N, bs, bm, sn, sub, ab, col, dd, k0, k1, k2, k3, k5, hC, hbm⟩ := T.cls
  have kin := I.kIn
  have typ : PySem.W.Looks (model X.prog X.w) s.heap (isInstance (.ref C) (.type "type")) true :=
    (PySem.W.looks_typeIn kin T.tyC).andThen (PySem.W.looks_subIn kin (show PySem.W.subIn X.K (.type "type") (.type "type") = some true by rfl))
  obtain ⟨hp, g, dr, tk, os⟩ := s
  have hsz : hp.objs.size ≤ hp.objs.size + 1 := Nat.le_succ _
  have hn : H (hp.objs.size + 1) = none := I.hok.fresh hsz
  have old : ∀ b o, hp.get? b = some o → ((hp.push (PySem.W.kdv_tup us)).push (PySem.HandSPX.excO C hp.objs.size)).get? b = some o :=
    fun b o e => Heap.get?_push_of_some _ (Heap.get?_push_of_some _ e)
  have there : ((hp.push (PySem.W.kdv_tup us)).push (PySem.HandSPX.excO C hp.objs.size)).get? (hp.objs.size + 1) = some (PySem.HandSPX.excO C hp.objs.size) := by heap_get
  have I2 := I.laid (t' := tk) (a := hp.objs.size + 1) (o := exo (hp.objs.size + 1) C none) old hsz (exo_ok there)
  have r2 : Vals [V.ref (hp.objs.size + 1), v] [Value.ref (hp.objs.size + 1), u] := .cons rfl (.cons rv .nil)
  have hus : us.length ≤ sizeLine := by
    rw [sizeLine_eq]
    omega
  refine wpAny_call (PySem.Xv.call_kw (kw := kw) F.excBase_ValueError (fun Y => PySem.HandSPX.refsVE_contains Y bm hbm) (kin _ _ hC) (PySem.W.looks_findIn kin iC)
    (fun self => PySem.W.bind_fn kin self tI) hus typ (codeAny_mono (F1.run _ X.stack _ (upd H (hp.objs.size + 1) (exo (hp.objs.size + 1) C none)) ⟨Value.ref (hp.objs.size + 1) :: us, kw⟩ [Value.ref (hp.objs.size + 1), u] _
      (fun r H2 => r = .non ∧ ∃ dx, dx ≠ hp.objs.size + 1 ∧ H dx = none ∧ H2 = upd (upd (upd H (hp.objs.size + 1) (exo (hp.objs.size + 1) C none)) dx (exd dx [(f, v)])) (hp.objs.size + 1) (exo (hp.objs.size + 1) C (some dx)))
      (fun _ _ _ => False) (hr.make C us kw) (I2.env0.make C us kw) (hb _ _ I2.kIn) r2 ?_) fun r s' hq' => ?_))
  · refine ⟨_, v, rfl, upd_same, fun dx nd ne => ⟨rfl, dx, ne, ?_, rfl⟩⟩
    rw [upd_ne ne] at nd
    exact nd
  cases r with
  | error er => exact False.elim hq'
  | ok fl =>
    cases fl with
    | ret z =>
      obtain ⟨r, H2, I3, rr, er, dx, ne, nd, eH⟩ := I2.after hq'
      subst er
      have same : Same H H2 := fun b o e => by
        have n1 : b ≠ hp.objs.size + 1 := ne_of_none e hn
        have n2 : b ≠ dx := ne_of_none e nd
        rw [eH, upd_ne n1, upd_ne n2, upd_ne n1]
        exact e
      refine ⟨rr, V.ref (hp.objs.size + 1), H2, I3, rfl, h _ H2 hn same ⟨dx, ?_, ?_⟩⟩
      · rw [eH]
        exact upd_same
      · rw [eH, upd_ne ne]
        exact upd_same
    | next => exact False.elim hq'
    | brk => exact False.elim hq'
    | cont => exact False.elim hq'
/-- C(e) -/
def tX1 (C : Addr) (f : Str) (te : TE) : TE := fun σ H Q => te σ H fun y H1 => ∃ v, [y] = [v] ∧
  ∀ (a : Addr) (H' : Hp), H1 a = none → Same H1 H' → EA H' a C f v → Q (.ref a) H'
/-- C() -/
def tX0 (C : Addr) (f : Str) : TE := fun _ H Q => ∀ (a : Addr) (H' : Hp), H a = none → Same H H' → EA H' a C f .non → Q (.ref a) H'
variable {e : Expr} {te : TE} {p pos kpos : Pos}
theorem pe_x1 (c : XC X.prog X.w X.K X.mg X.base x f C) (hr : Room 2 X.A) (hg : Gl X x) (he : PE X e te)
    (hs : starEach [e] X.env = (false, eval e X.env) :: starEach [] X.env := by rfl) (hdb : (x == ("__debug__" : Str)) = false := by decide)
    (hpl : (backTo pos (starEach [] X.env)).any (·.1) = false := by rfl) :
    PE X (.Call (.Name x p) [e] [] pos) (tX1 C f te) := by
  obtain ⟨fI, fd, iC, tI, F1, b2, _, _⟩ := c.run
  refine ⟨fun pins s σ H Q I h => ?_⟩
  refine wpAny_Call_Name_kw (ld_glob I hg c.gC ?_ hdb)
  have ha : PA X [e] (tCons te tNil) := pa_cons he pa_nil hs
  refine PySem.W.callWith_K (h₀ := X.base) I.ok.mod.kin c.oex.kC (thn (ha.run pos pins s σ H (fun vs H1 => ∃ v, vs = [v] ∧ ∀ (a : Addr) (H' : Hp), H1 a = none → Same H1 H' → EA H' a C f v → Q (.ref a) H') I h)
    fun us s1 ⟨vs, H1, I1, r1, v, ev, q1⟩ => ⟨I1.kIn, ?_⟩) hs hpl
  subst ev
  cases r1 with
  | cons rv rn =>
    cases rn
    exact run_x c.oex iC tI F1 hr I1 (by show 1 ≤ 1000; decide) rv (fun s a k => b2 s a _ k) q1
theorem pe_x0 (c : XC X.prog X.w X.K X.mg X.base x f C) (hr : Room 2 X.A) (hg : Gl X x) (hdb : (x == ("__debug__" : Str)) = false := by decide) :
    PE X (.Call (.Name x p) [] [] pos) (tX0 C f) := by
  obtain ⟨fI, fd, iC, tI, F1, _, b1, _⟩ := c.run
  refine ⟨fun pins s σ H Q I h => ?_⟩
  refine wpAny_Call_Name_kw (ld_glob I hg c.gC ?_ hdb)
  exact PySem.W.callWith_K0 I.kIn c.oex.kC (run_x (us := []) (u := .none) (v := .non) c.oex iC tI F1 hr I (Nat.zero_le _) rfl (fun s a k => b1 s a k) h)
/-- C(f=e) -/
theorem pe_xk (c : XC X.prog X.w X.K X.mg X.base x f C) (hr : Room 2 X.A) (hg : Gl X x) (he : PE X e te) (hdb : (x == ("__debug__" : Str)) = false := by decide) :
    PE X (.Call (.Name x p) [] [⟨some f, e, kpos⟩] pos) (tX1 C f te) := by
  obtain ⟨fI, fd, iC, tI, F1, _, _, bk⟩ := c.run
  refine ⟨fun pins s σ H Q I h => ?_⟩
  refine wpAny_Call_Name_kw (ld_glob I hg c.gC ?_ hdb)
  have hk : PK X [⟨some f, e, kpos⟩] (tCons te tNil) := pk_cons he pk_nil
  refine PySem.W.callWith_KW0 (h₀ := X.base) I.ok.mod.kin c.oex.kC (by rfl) ?_ (by rfl)
  refine thn (hk.run pos pins s σ H (fun vs H1 => ∃ v, vs = [v] ∧ ∀ (a : Addr) (H' : Hp), H1 a = none → Same H1 H' → EA H' a C f v → Q (.ref a) H') I h) fun us s1 ⟨vs, H1, I1, r1, v, ev, q1⟩ => ⟨I1.kIn, ?_⟩
  subst ev
  cases r1 with
  | cons rv rn =>
    cases rn
    exact run_x (us := []) c.oex iC tI F1 hr I1 (Nat.zero_le _) rv (fun s a k => bk s a _ k) q1
/-- x.f of such an exception -/
def tXF (K : PySem.W.Frag) (P : Program) (w : World) (mg : Str → Option Value) (base : Heap) (f : Str) (te : TE) : TE := fun σ H Q => te σ H fun y H1 =>
  ∃ (a C : Addr) (x : Str) (v : V), y = .ref a ∧ XC P w K mg base x f C ∧ EA H1 a C f v ∧ Q v H1
theorem pe_xf1 (he : PE X e te) (hb : attributeBase e f X.env (eval e X.env) = eval e X.env := by rfl) : PE X (.Attribute e f pos) (tXF X.K X.prog X.w X.mg X.base f te) := by
  refine ⟨fun pins s σ H Q I h => ?_⟩
  refine attr_of hb (thn (he.run pins s σ H _ I h) fun u s1 hh => ?_)
  obtain ⟨y, H1, I1, ry, a, C, x, v, rfl, c, ⟨d, e1, e2⟩, q⟩ := hh
  obtain rfl : u = Value.ref a := ry
  obtain ⟨t1, ho⟩ := exo_at I1.hok e1
  obtain ⟨mA, hns, rel⟩ := exd_at I1.hok e2
  obtain ⟨od, hod, hl⟩ := lookIn_ns hns
  have l : List.lookup f [(f, v)] = some v := by simp [List.lookup]
  obtain ⟨u, hu, ru⟩ := RelO.some_of (v := v) (o := mA f) (by rw [← l]; exact rel f)
  have J : PySem.W.InstAt s1.heap a _ C (some od) := ⟨ho, rfl, rfl, hod⟩
  exact HandSPX.exc_get I1.kIn J c.ga c.gg c.oex.exC (PySem.W.findObj_own c.hdC c.noF rfl (by rw [hl, hu])) (handed_of ru) ⟨v, H1, I1.tok _, ru, q⟩
end
end L2
set_option maxHeartbeats 4000000
namespace L2
open PySem PySem.Spec PyProof.Rows
/-- what isinstance asks of an exception class -/
structure XKit (K : PySem.W.Frag) (D : Addr) : Prop where
  cl : (PySem.W.clsIn K D).isSome = true
  ga : PySem.W.findIn K (.ref D) "__getattribute__" = some (some (.builtin "BaseException.__getattribute__"))
  gg : PySem.W.findIn K (.ref D) "__getattr__" = some none
  sb : PySem.W.subIn K (.ref D) (.type "BaseException") = some true
  cc : PySem.W.findIn K (.ref D) "__class__" = some (some (.builtin "object.__class__"))
  ob : PySem.W.mroIn K D (.type "object") = some true
/-- .. and of the written part -/
structure XObj (K : PySem.W.Frag) : Prop where
  gt : PySem.W.specialIn K (.builtin "object.__class__") "__get__" = some (some (.builtin "getset_descriptor.__get__"))
  tk : PySem.W.takesIn K (.builtin "object.__class__") = some true
/-- an exception of D stands at a -/
def IsX (H : Hp) (a D : Addr) : Prop := (∃ f v, EA H a D f v) ∨ H a = some (ExO (.ref D) a)
theorem IsX.mono {H H' : Hp} {a D : Addr} (x : IsX H a D) (e : Same H H') : IsX H' a D := by
  rcases x with ⟨f, v, x⟩ | x
  · exact .inl ⟨f, v, x.mono e⟩
  · exact .inr (e _ _ x)
def rIsX (K : PySem.W.Frag) : List V → Hp → VK → Prop := fun xs H Q => ∃ (a D : Addr) (c : V) (u : Value) (b : Bool),
  xs = [.ref a, c] ∧ IsX H a D ∧ XKit K D ∧ ClsV c u ∧ PySem.W.kitOne K (.ref D) u = some b ∧ Q (.bl b) H
section
variable {X : Cx} {x f : Str} {C : Addr}
theorem call_isX (O : XObj X.K) : CallR X (.builtin "isinstance") (rIsX X.K) := by
  intro pins s σ H xs us Q I r h
  obtain ⟨a, D, c, u, b, rfl, hx, T, k, e, q⟩ := h
  obtain ⟨u1, u2, rfl, r1, r2⟩ := vals2 r
  have e2 := k.eq r2
  subst e2
  cases (show u1 = Value.ref a from r1)
  have J : ∃ ox od, PySem.W.InstAt s.heap a ox D od := by
    rcases hx with ⟨f, v, d, e1, e2⟩ | hx
    · obtain ⟨t1, ho⟩ := exo_at I.hok e1
      obtain ⟨mA, hns, rel⟩ := exd_at I.hok e2
      obtain ⟨od, hod, hl⟩ := lookIn_ns hns
      exact ⟨_, some od, ho, rfl, rfl, hod⟩
    · obtain ⟨⟨oe, vs, ho, hz, hd, _⟩, _, _⟩ := I.hok a _ hx
      obtain ⟨oc, odd, oda, osl⟩ := oe
      obtain ⟨h1, h2⟩ := hz
      dsimp only at h1 h2 hd
      subst h1 h2 hd
      exact ⟨_, none, ho, rfl, rfl, trivial⟩
  obtain ⟨ox, od, J⟩ := J
  exact PySem.W.kia_one (PySem.W.kitx_exc T.cl T.ga T.gg T.sb T.cc O.gt O.tk T.ob) I.kIn J e (fun z => nomatch z) fun tk => ⟨.bl b, H, I.tok tk, rfl, q⟩
/-- X(), an own exception class without own __init__, as a value -/
theorem pe_exc0 {bmB : List Value} {B newId initId : String} {p pos : Pos} (F : ExcBaseFacts B newId initId bmB) (q : PySem.W.excIn X.K C bmB newId = true) (gC : X.mg x = some (.ref C)) (kC : PySem.W.keepIn X.K (.ref C) = true) (hg : Gl X x)
    (hdb : (x == ("__debug__" : Str)) = false := by decide) :
    PE X (.Call (.Name x p) [] [] pos) (fun _ H Q => ∀ a, H a = none → Q (.ref a) (upd H a (ExO (.ref C) a))) := by
  refine ⟨fun pins s σ H Q I h => ?_⟩
  refine wpAny_Call_Name_kw (ld_glob I hg gC ?_ hdb)
  refine PySem.W.callWith_K0 I.kIn kC ?_
  show wpAny _ _ (call (.ref C) []) _ _ _
  obtain ⟨bm, N, nm, qn, bs, hdct, sn, sub, ab, col, dd, k0, k1, k2, k3, k5, mN, hC, hN, hni, T⟩ := exc_obj I.kIn q
  refine wpAny_call_exc_subT F T hC hN hni (fun h' a hm => ?_) (Nat.zero_le _)
  have hn : H a = none := I.hok.gone hm.new
  obtain ⟨t, ht, _, _⟩ := hm.there
  exact ⟨.ref a, upd H a (ExO (.ref C) a), I.laidN hm.keeps hm.new hn (exO_ok ht ⟨rfl, rfl⟩ rfl rfl rfl (show 4 < 6 by decide)), rfl, h a hn⟩
end
/-! ### repr of what is known as data -/
/-- v is the data d, wherever the abstract heap is held -/
def Rdd (P : Program) (w : World) (K : PySem.W.Frag) (H : Hp) (v : V) (d : PyData) : Prop :=
  ∀ (h : Heap) (u : Value), HOk P w H h → K.In h → RelV v u → ∃ as, Reads h u d as ∧ ∀ b ∈ as, H b ≠ none
def RddAll (P : Program) (w : World) (K : PySem.W.Frag) (H : Hp) (vs : List V) (ds : List PyData) : Prop :=
  ∀ (h : Heap) (us : List Value), HOk P w H h → K.In h → Vals vs us → ∃ as, ReadsAll h us ds as ∧ ∀ b ∈ as, H b ≠ none
section
variable {P : Program} {w : World} {K : PySem.W.Frag} {H : Hp} {v : V} {vs : List V} {d : PyData} {ds : List PyData} {a : Addr}
theorem rdd_non : Rdd P w K H .non .none := fun h u _ _ r => by
  obtain rfl : u = Value.none := r
  exact ⟨[], .none, fun b z => nomatch z⟩
theorem rdd_bl (b : Bool) : Rdd P w K H (.bl b) (.bool b) := fun h u _ _ r => by
  obtain rfl : u = Value.bool b := r
  exact ⟨[], .bool b, fun b z => nomatch z⟩
theorem rdd_int (i : Int) : Rdd P w K H (.int i) (.int i) := fun h u _ _ r => by
  obtain ⟨t, rfl⟩ := (show ∃ t, u = Value.int i t from r)
  exact ⟨[], .int i t, fun b z => nomatch z⟩
theorem rdd_str (x : Str) : Rdd P w K H (.str x) (.str x) := fun h u _ _ r => by
  obtain ⟨t, rfl⟩ := (show ∃ t, u = Value.str x t from r)
  exact ⟨[], .str x t, fun b z => nomatch z⟩
theorem rddAll_nil : RddAll P w K H [] [] := fun h us _ _ r => by
  cases r
  exact ⟨[], .nil, fun b z => nomatch z⟩
theorem rddAll_cons (h1 : Rdd P w K H v d) (h2 : RddAll P w K H vs ds) : RddAll P w K H (v :: vs) (d :: ds) := fun h us ok kin r => by
  cases r with
  | cons r1 r2 =>
    obtain ⟨as, x1, y1⟩ := h1 h _ ok kin r1
    obtain ⟨bs, x2, y2⟩ := h2 h _ ok kin r2
    exact ⟨as ++ bs, .cons x1 x2, fun b hb => (List.mem_append.mp hb).elim (y1 b) (y2 b)⟩
theorem rdd_lst (e : H a = some (.lst vs)) (h1 : RddAll P w K H vs ds) : Rdd P w K H (.ref a) (.list ds) := fun h u ok kin r => by
  obtain rfl : u = Value.ref a := r
  obtain ⟨_, its, n, rv, ho⟩ := (show ObjOk P w H h a (.lst vs) from ok a _ e)
  obtain ⟨as, x1, y1⟩ := h1 h _ ok kin rv
  refine ⟨a :: as, .list ho rfl rfl x1, fun b hb => ?_⟩
  rcases List.mem_cons.mp hb with z | z
  · rw [z, e]
    exact fun q => nomatch q
  · exact y1 b z
theorem rdd_tup (e : H a = some (.tup vs)) (h1 : RddAll P w K H vs ds) : Rdd P w K H (.ref a) (.tuple ds) := fun h u ok kin r => by
  obtain rfl : u = Value.ref a := r
  obtain ⟨_, its, rv, o, ho, hc, n, hd⟩ := (show ObjOk P w H h a (.tup vs) from ok a _ e)
  obtain ⟨as, x1, y1⟩ := h1 h _ ok kin rv
  exact ⟨as, .tuple ho hc hd x1, y1⟩
end
section
variable {X : Cx}
/-- repr(x), x known as data -/
def rRepr (P : Program) (w : World) (K : PySem.W.Frag) : List V → Hp → VK → Prop := fun xs H Q => ∃ (a : Addr) (d : PyData),
  xs = [.ref a] ∧ Rdd P w K H (.ref a) d ∧ d.showable = true ∧ d.shown.length ≤ sizeLine ∧ d.depth ≤ 60 ∧ Q (.str d.shown) H
theorem call_repr (hg : X.A.guards = some []) (hs : ∃ o, X.base.get? sysModules = some o) (hu : X.A.units + 64 < cLine) : CallR X (.builtin "repr") (rRepr X.prog X.w X.K) := by
  intro pins s σ H xs us Q I r h
  obtain ⟨a, d, rfl, rd, sh, sz, dp, q⟩ := h
  obtain ⟨u, rfl, ru⟩ := vals1 r
  obtain rfl : u = Value.ref a := ru
  obtain ⟨as, x1, y1⟩ := rd s.heap _ I.hok I.kIn rfl
  obtain ⟨o, ho⟩ := hs
  have nosys : sysModules ∉ as := fun hm => y1 _ hm (I.bs _ _ ho).2
  exact PySem.repr_of_reads' x1 sh (fun _ => nosys) hg (by omega) (fun _ _ z => z) (fun h' u tk k => ⟨.str _, H, I.kept k, ⟨_, rfl⟩, q⟩) sz
end
end L2
set_option maxHeartbeats 4000000
namespace Nv
open PySem PySem.Spec PyProof.Rows L2
def top (i : Nat) : Stmt := PySem.Challenge.pw_neverapart_k03_rules_and_books_kept.main.body.getD i (.Pass ⟨0, 0, 0, 0⟩)
abbrev sIsName : Stmt := top 7
abbrev sIsVar : Stmt := top 8
abbrev sIsTerm : Stmt := top 9
abbrev sIsPattern : Stmt := top 10
abbrev sIsPatterns : Stmt := top 11
abbrev sIsPair : Stmt := top 12
abbrev sIsPairs : Stmt := top 13
abbrev sTermsOf : Stmt := top 14
abbrev sVarsAmong : Stmt := top 16
abbrev sVarsOf : Stmt := top 17
abbrev cRule : Stmt := top 20
abbrev cBook : Stmt := top 21
abbrev cQuestion : Stmt := top 22
abbrev sSides : Stmt := top 15
abbrev sHasMore : Stmt := top 18
abbrev sHasDouble : Stmt := top 23
abbrev sPlace : Stmt := top 24
abbrev sPurse : Stmt := top 26
abbrev sMixed : Stmt := top 27
abbrev sDraw : Stmt := top 28
abbrev sPurses : Stmt := top 29
abbrev sOneOf : Stmt := top 30
abbrev sShuffled : Stmt := top 31
abbrev sNames : Stmt := top 32
abbrev sKinds : Stmt := top 33
abbrev sPattern : Stmt := top 34
abbrev sTold : Stmt := top 35
abbrev sVariables : Stmt := top 36
abbrev sPairs : Stmt := top 37
abbrev sRule : Stmt := top 38
end Nv
set_option maxHeartbeats 4000000
namespace Nv
open PySem PySem.Spec PyProof.Rows L2
/-- all that was tracked is as it was, but the object at a -/
def Sb (a : Addr) (H H' : Hp) : Prop := ∀ b o, b ≠ a → H b = some o → H' b = some o
section
variable {a : Addr} {H H1 H2 : Hp}
theorem Sb.refl (a : Addr) (H : Hp) : Sb a H H := fun _ _ _ e => e
theorem Sb.trans (x : Sb a H H1) (y : Sb a H1 H2) : Sb a H H2 := fun b o n e => y b o n (x b o n e)
theorem Sb.of (x : Same H H1) : Sb a H H1 := fun b o _ e => x b o e
theorem Sb.then (x : Sb a H H1) (y : Same H1 H2) : Sb a H H2 := x.trans (Sb.of y)
theorem Sb.upd {o : HO} : Sb a H (upd H a o) := fun b u n e => by
  rw [upd_ne n]
  exact e
theorem Sb.new {p : Addr} {o : HO} (h : H p = none) : Sb a H (L2.upd H p o) := fun b u n e => by
  rw [upd_ne (ne_of_none e h)]
  exact e
theorem Sb.put {p : Addr} {o : HO} (x : Sb a H H1) (h : H p = none) : Sb a H (L2.upd H1 p o) := fun b u n e => by
  rw [upd_ne (ne_of_none e h)]
  exact x b u n e
theorem same_new {p : Addr} {o : HO} (h : H p = none) : Same H (L2.upd H p o) := fun b u e => by
  rw [upd_ne (ne_of_none e h)]
  exact e
theorem same_put {p : Addr} {o : HO} (x : Same H H1) (h : H p = none) : Same H (L2.upd H1 p o) := fun b u e => by
  rw [upd_ne (ne_of_none e h)]
  exact x b u e
theorem Sb.seq {K : PySem.W.Frag} {b : Addr} {xs : List V} (x : Sb a H H1) (n : b ≠ a) (h : SqL K H b xs) : SqL K H1 b xs := by
  rcases h with (h | ⟨o, h⟩) | h
  · exact .inl (.inl (x _ _ n h))
  · exact .inl (.inr ⟨o, x _ _ n h⟩)
  · exact .inr h
end
/-- a purse at a: n draws at least are still to be had from it -/
structure Pu (H : Hp) (a : Addr) (n : Nat) : Prop where
  ex : ∃ s d t k : Int, H a = some (.lst [.int s, .int d, .int t, .int k]) ∧ 0 ≤ s ∧ 0 ≤ d ∧ d < 2147483629 ∧ 0 ≤ t ∧ t + n ≤ 1099511627776 ∧ 0 ≤ k ∧ k ≤ 100
section
variable {a : Addr} {H H1 H2 : Hp} {n m : Nat}
theorem Pu.le (p : Pu H a n) (h : m ≤ n) : Pu H a m := by
  obtain ⟨s, d, t, k, e, h1, h2, h3, h4, h5, h6, h7⟩ := p.ex
  exact ⟨s, d, t, k, e, h1, h2, h3, h4, by omega, h6, h7⟩
theorem Pu.some (p : Pu H a n) : ∃ o, H a = some o := by
  obtain ⟨s, d, t, k, e, _⟩ := p.ex
  exact ⟨_, e⟩
theorem Pu.ne (p : Pu H a n) {q : Addr} (h : H q = none) : q ≠ a := fun z => by
  obtain ⟨o, e⟩ := p.some
  rw [z, e] at h
  cases h
theorem Pu.same (p : Pu H a n) (x : Same H H1) : Pu H1 a n := by
  obtain ⟨s, d, t, k, e, h1, h2, h3, h4, h5, h6, h7⟩ := p.ex
  exact ⟨s, d, t, k, x _ _ e, h1, h2, h3, h4, h5, h6, h7⟩
theorem Pu.put (p : Pu H a n) {q : Addr} {o : HO} (h : q ≠ a) : Pu (upd H q o) a n := by
  obtain ⟨s, d, t, k, e, h1, h2, h3, h4, h5, h6, h7⟩ := p.ex
  exact ⟨s, d, t, k, by rw [upd_ne (Ne.symm h)]; exact e, h1, h2, h3, h4, h5, h6, h7⟩
theorem Sb.free (x : Sb a H H1) (p : Pu H1 a n) {q : Addr} (h : H1 q = none) : H q = none := by
  have hn := p.ne h
  cases e : H q with
  | none => rfl
  | some o =>
    rw [x _ _ hn e] at h
    cases h
end
section
variable {P : Program} {w : World} {K : PySem.W.Frag} {mg : Str → Option Value} {base : Heap}
/-- _law_mixed(seed, turn, at) -/
def spMixed : Sp := fun vs H Q _ => ∃ d t k : Int, vs = [.int d, .int t, .int k] ∧ (0 ≤ d ∧ d < 2147483629) ∧ (0 ≤ t ∧ t ≤ 1099511627776) ∧ (0 ≤ k ∧ k ≤ 100) ∧ ∀ r : Int, 0 ≤ r → Q (.int r) H
theorem scMixed : FnScope ["_law_seed", "_law_turn", "_law_at", "_law_mixed_here"] ["_law_seed", "_law_turn", "_law_at"] (defScope sMixed) := ⟨rfl, rfl, rfl, by decide +kernel, rfl, by decide +kernel, by decide +kernel⟩
theorem ok_mixed {f : Addr} {fd : FuncData} (F : Fun K "_law_mixed" "_law_mixed" sMixed f fd) : FnOk P w K mg base CX0 1 f fd ["_law_seed", "_law_turn", "_law_at"] spMixed := by
  refine F.ok scMixed (fun vs H Q E h => ?_) (fun cdv A outer s H vs Q E hr h => ?_)
  · obtain ⟨d, t, k, rfl, _⟩ := h
    rfl
  · obtain ⟨d, t, k, rfl, hd, ht, hk, q⟩ := h
    refine ⟨_, pss_cons (ps_set (i := 3) scMixed.nd rfl (Or.inl rfl) (pe_op op_add (pe_op op_mul (pv 0) pe_int) (pe_op op_mul (pe_op op_mul pe_int (pv 1)) (pv 1))))
      (pss_cons (ps_set (i := 3) scMixed.nd rfl (Or.inl rfl) (pe_op op_mod (pe_op op_add (pe_op op_add (pv 3) (pe_op op_mul pe_int (pv 2))) (pv 1)) pe_int))
      (pss_cons (ps_set (i := 3) scMixed.nd rfl (Or.inl rfl) (pe_op op_mod (pe_op op_add (pe_op op_mul (pv 3) (pv 3)) pe_int) pe_int))
      (pss_one (ps_ret (pe_op op_mod (pe_op op_mul (pv 3) pe_int) pe_int))))), ?_⟩
    refine ⟨_, rfl, _, _, rfl, rfl, .inl ⟨by omega, by omega⟩, _, rfl, _, _, rfl, rfl, .inl ⟨by omega, by omega⟩, _, rfl, _, _, rfl, rfl, .inr ⟨by omega, by omega⟩, _, _, rfl, rfl, ?_⟩
    generalize d * 69069 + 104729 * t * t = z
    refine ⟨_, rfl, _, rfl, _, _, rfl, rfl, .inl ⟨by omega, by omega⟩, _, _, rfl, rfl, _, rfl, _, _, rfl, rfl, _, _, rfl, rfl, (by show (0 : Int) < 2147483647; decide), ?_⟩
    have h1 := Int.emod_nonneg (z + 7919 * k + t) (by decide : (2147483647 : Int) ≠ 0)
    have h2 := Int.emod_lt_of_pos (z + 7919 * k + t) (by decide : (0 : Int) < 2147483647)
    generalize (z + 7919 * k + t) % 2147483647 = z2 at h1 h2 ⊢
    refine ⟨_, rfl, _, rfl, _, _, rfl, rfl, .inl ⟨by omega, by omega⟩, _, _, rfl, rfl, _, _, rfl, rfl, (by show (0 : Int) < 2147483629; decide), ?_⟩
    have h3 := Int.emod_nonneg (z2 * z2 + 40503) (by decide : (2147483629 : Int) ≠ 0)
    have h4 := Int.emod_lt_of_pos (z2 * z2 + 40503) (by decide : (0 : Int) < 2147483629)
    generalize (z2 * z2 + 40503) % 2147483629 = z3 at h3 h4 ⊢
    refine ⟨_, rfl, _, _, rfl, rfl, .inl ⟨by omega, by omega⟩, _, _, rfl, rfl, (by show (0 : Int) < 2147483587; decide), ?_⟩
    exact q _ (Int.emod_nonneg _ (by decide))
/-- _law_draw(purse, many) -/
def spDraw : Sp := fun vs H Q _ => ∃ (a : Addr) (n : Nat) (m : Int), vs = [.ref a, .int m] ∧ Pu H a (n + 1) ∧ (1 ≤ m ∧ m < 134217728) ∧ ∀ (r : Int) (H' : Hp), 0 ≤ r → r < m → Pu H' a n → Sb a H H' → Q (.int r) H'
theorem scDraw : FnScope ["_law_purse_here", "_law_many", "_law_drawn", "_law_found", "_law_piece"] ["_law_purse_here", "_law_many"] (defScope sDraw) := ⟨rfl, rfl, rfl, by decide +kernel, rfl, by decide +kernel, by decide +kernel⟩
theorem bits27 {m : Int} (h0 : 1 ≤ m) (h : m < 134217728) : 1 + ((Builtin.Int.intBits m : Nat) : Int) / 28 = 1 := by
  have z : Builtin.Int.intBits m ≤ 27 := PyProof.Rows.intBits_le (by
    have e : (2 : Nat) ^ 27 = 134217728 := by decide
    omega)
  omega
theorem ok_draw {f fM : Addr} {fd fdM : FuncData} (F : Fun K "_law_draw" "_law_draw" sDraw f fd) (FM : Fun K "_law_mixed" "_law_mixed" sMixed fM fdM) (gM : mg "_law_mixed" = some (.ref fM)) (bM : Binds K fdM ["_law_seed", "_law_turn", "_law_at"] []) (rg : mg "range" = none) :
    FnOk P w K mg base CX0 2 f fd ["_law_purse_here", "_law_many"] spDraw := by
  have GM : FnOk P w K mg base CX0 1 fM fdM ["_law_seed", "_law_turn", "_law_at"] spMixed := ok_mixed FM
  refine F.ok scDraw (fun vs H Q E h => ?_) (fun cdv A outer s H vs Q E hr h => ?_)
  · obtain ⟨a, n, m, rfl, _⟩ := h
    rfl
  · obtain ⟨a, n, m, rfl, pu, hm, q⟩ := h
    obtain ⟨s, d, t, k, e, h1, h2, h3, h4, h5, h6, h7⟩ := pu.ex
    refine ⟨_, pss_cons (ps_if (pt_cmpR op_gt (pe_ix ix_list (pv 0) pe_int (fun _ _ => rfl)) pe_int (nomark _))
        (pss_cons (ps_set (i := 2) scDraw.nd rfl (Or.inl rfl) (pe_op op_mod (pe_ix ix_list (pv 0) pe_int (fun _ _ => rfl)) (pv 1)))
        (pss_cons (ps_asg (pe_op op_fdiv (pe_ix ix_list (pv 0) pe_int (fun _ _ => rfl)) (pv 1)) (pg_sub (pv 0) pe_int set_list))
        (pss_one (ps_ret (pv 2))))) pss_nil)
      (pss_cons (ps_set (i := 3) scDraw.nd rfl (Or.inl rfl) pe_int)
      (pss_cons (ps_for PassesOwn.never rfl (pi_range1 (by rfl) rg (pa_cons (pe_op op_add pe_int (pe_op op_fdiv (pe_bits (pv 1)) pe_int)) pa_nil)) (pg_name (i := 4) scDraw.nd rfl (Or.inl rfl))
        (pss_cons (ps_asg (pe_op op_add (pe_ix ix_list (pv 0) pe_int (fun _ _ => rfl)) pe_int) (pg_sub (pv 0) pe_int set_list))
        (pss_one (ps_set (i := 3) scDraw.nd rfl (Or.inl rfl) (pe_op op_add (pe_op op_mul (pv 3) pe_int)
          (by exact (pe_call GM hr (by rfl) gM FM.kp bM .nil pass0 (pa_cons (pe_ix ix_list (pv 0) pe_int (fun _ _ => rfl)) (pa_cons (pe_ix ix_list (pv 0) pe_int (fun _ _ => rfl)) (pa_cons (pe_ix ix_list (pv 0) pe_int (fun _ _ => rfl)) pa_nil)))))))))) 
      (pss_one (ps_ret (pe_op op_mod (pv 3) (pv 1)))))), ?_⟩
    refine ⟨_, rfl, a, _, _, _, rfl, rfl, SqL.of e, atI_nat (j := 0) rfl, _, _, rfl, rfl, _, rfl, ?_⟩
    refine ite2 (fun hc => ?_) (fun hc => ?_)
    · refine ⟨_, rfl, a, _, _, _, rfl, rfl, SqL.of e, atI_nat (j := 0) rfl, _, rfl, _, _, rfl, rfl, (by show (0 : Int) < m; omega), ?_⟩
      refine ⟨_, rfl, a, _, _, _, rfl, rfl, SqL.of e, atI_nat (j := 0) rfl, _, rfl, _, _, rfl, rfl, ⟨by omega, by omega⟩, ?_⟩
      refine ⟨_, rfl, a, _, _, 0, rfl, rfl, e, rfl, _, rfl, ?_⟩
      exact q _ _ (Int.emod_nonneg _ (by omega)) (Int.emod_lt_of_pos _ (by omega)) ⟨_, _, _, _, upd_same, Int.ediv_nonneg h1 (by omega), h2, h3, h4, by omega, h6, h7⟩ Sb.upd
    · refine ⟨_, rfl, _, rfl, _, _, rfl, rfl, ⟨by decide, by decide⟩, _, _, rfl, rfl, 1, congrArg (fun z => [V.int z]) (bits27 hm.1 hm.2), by decide, by decide, ?_⟩
      refine for_range (lo := 0) (n := 1) (fun i σ H' => (i = 0 ∧ H' = H ∧ σ = [some (.ref a), some (.int m), none, some (.int 0), none]) ∨ (i = 1 ∧ ∃ r : Int, ∃ o4, 0 ≤ r ∧ σ = [some (.ref a), some (.int m), none, some (.int r), o4] ∧ Pu H' a n ∧ Sb a H H')) (.inl ⟨rfl, rfl, rfl⟩) ?_ ?_
      · rintro i σ H' hi (⟨rfl, rfl, rfl⟩ | ⟨rfl, _⟩)
        · refine ⟨_, rfl, a, _, _, _, rfl, rfl, SqL.of e, atI_nat (j := 2) rfl, _, _, rfl, rfl, _, rfl, a, _, _, 2, rfl, rfl, e, rfl, ?_⟩
          generalize hH : upd H' a (.lst ([V.int s, .int d, .int t, .int k].set 2 (.int (t + 1)))) = G
          have eG : G a = some (.lst [V.int s, .int d, .int (t + 1), .int k]) := by rw [← hH]; exact upd_same
          have sG : Sb a H' G := by rw [← hH]; exact Sb.upd
          refine ⟨_, rfl, _, _, rfl, rfl, .inr ⟨by decide, by decide⟩, ?_⟩
          refine ⟨_, rfl, a, _, _, _, rfl, rfl, SqL.of eG, atI_nat (j := 1) rfl, _, rfl, a, _, _, _, rfl, rfl, SqL.of eG, atI_nat (j := 2) rfl, _, rfl, a, _, _, _, rfl, rfl, SqL.of eG, atI_nat (j := 3) rfl, ?_⟩
          refine ⟨d, t + 1, k, rfl, ⟨h2, h3⟩, ⟨by omega, by omega⟩, ⟨h6, h7⟩, fun r hr0 => ?_⟩
          refine ⟨_, _, rfl, rfl, .inr ⟨rfl, _, _, ?_, rfl, ⟨_, _, _, _, eG, h1, h2, h3, by omega, by omega, h6, h7⟩, sG⟩⟩
          omega
        · exact absurd hi (by decide)
      · rintro σ H' (⟨h, _⟩ | ⟨_, r, o4, hr0, rfl, pu', sb⟩)
        · cases h
        · refine ⟨_, rfl, _, rfl, _, _, rfl, rfl, (by show (0 : Int) < m; omega), ?_⟩
          exact q _ _ (Int.emod_nonneg _ (by omega)) (Int.emod_lt_of_pos _ (by omega)) pu' sb
end
end Nv
set_option maxHeartbeats 4000000
namespace Nv
open PySem PySem.Spec PyProof.Rows L2
/-- the built-ins that the text calls are the built-ins still -/
structure Bl (mg : Str → Option Value) : Prop where
  rg : mg "range" = none
  len : mg "len" = none
  sum : mg "sum" = none
  max : mg "max" = none
  min : mg "min" = none
  int : mg "int" = none
  tup : mg "tuple" = none
theorem bootSum : bootBuiltins "sum" = some (.builtin "sum") := by decide +kernel
theorem bootMax : bootBuiltins "max" = some (.builtin "max") := by decide +kernel
theorem bootMin : bootBuiltins "min" = some (.builtin "min") := by decide +kernel
/-- ** of ints of any size -/
def CPowW (i j : Int) : Prop := 0 ≤ j ∧ (Builtin.Int.intBits i : Int) * j ≤ 2 ^ 27
theorem op_powW {X : Cx} : OpR X (binaryOp .Pow) (rI CPowW fun i j => .int (i ^ j.toNat)) := opI fun _ _ _ _ _ _ _ hc q => pow_int hc.1 hc.2 q
section
variable {P : Program} {w : World} {K : PySem.W.Frag} {mg : Str → Option Value} {base : Heap}
/-- _law_one_of(purse, some) -/
def spOneOf (K : PySem.W.Frag) : Sp := fun vs H Q _ => ∃ (a b : Addr) (n : Nat) (xs : List V), vs = [.ref a, .ref b] ∧ Pu H a (n + 1) ∧ SqL K H b xs ∧ b ≠ a ∧ (1 ≤ xs.length ∧ xs.length ≤ 1000) ∧
  ∀ (v : V) (H' : Hp), v ∈ xs → Pu H' a n → Sb a H H' → Q v H'
theorem scOneOf : FnScope ["_law_purse_here", "_law_some"] ["_law_purse_here", "_law_some"] (defScope sOneOf) := ⟨rfl, rfl, rfl, by decide +kernel, rfl, by decide +kernel, by decide +kernel⟩
theorem ok_oneOf {f fD : Addr} {fd fdD : FuncData} (F : Fun K "_law_one_of" "_law_one_of" sOneOf f fd) (GD : FnOk P w K mg base CX0 2 fD fdD ["_law_purse_here", "_law_many"] spDraw) (kD : PySem.W.keepIn K (.ref fD) = true) (gD : mg "_law_draw" = some (.ref fD)) (bD : Binds K fdD ["_law_purse_here", "_law_many"] []) (B : Bl mg) :
    FnOk P w K mg base CX0 3 f fd ["_law_purse_here", "_law_some"] (spOneOf K) := by
  refine F.ok scOneOf (fun vs H Q E h => ?_) (fun cdv A outer s H vs Q E hr h => ?_)
  · obtain ⟨a, b, n, xs, rfl, _⟩ := h
    rfl
  · obtain ⟨a, b, n, xs, rfl, pu, hb, hn, hl, q⟩ := h
    refine ⟨_, pss_one (ps_ret (pe_ix ix_list (pv 1) (by exact (pe_call GD hr (by rfl) gD kD bD .nil pass0 (pa_cons (pv 0) (pa_cons (pe_callB call_len_seq (by rfl) B.len PySem.boot_len (pa_cons (pv 1) pa_nil)) pa_nil)))) (fun _ _ => rfl))), ?_⟩
    refine ⟨_, rfl, _, rfl, _, rfl, b, xs, rfl, .inl hb, ?_⟩
    refine ⟨a, n, _, rfl, pu, ⟨by omega, by omega⟩, fun r H' h0 h1 pu' sb => ?_⟩
    obtain ⟨j, rfl⟩ : ∃ j : Nat, r = (j : Int) := ⟨r.toNat, by omega⟩
    have hj : j < xs.length := by omega
    refine ⟨b, xs, _, xs[j], rfl, rfl, sb.seq hn hb, atI_nat (List.getElem?_eq_getElem hj), ?_⟩
    exact q _ _ (List.getElem_mem hj) pu' sb
/-- _law_shuffled(purse, some) -/
def spShuffled (K : PySem.W.Frag) : Sp := fun vs H Q _ => ∃ (a b : Addr) (n : Nat) (xs : List V), vs = [.ref a, .ref b] ∧ Pu H a (n + xs.length) ∧ SqL K H b xs ∧ b ≠ a ∧ xs.length ≤ 1000 ∧
  ∀ (p : Addr) (ys : List V) (H' : Hp), ys.Perm xs → H p = none → Pu H' a n → Sb a H H' → H' p = some (.lst ys) → Q (.ref p) H'
theorem scShuffled : FnScope ["_law_purse_here", "_law_some", "_law_found", "_law_item"] ["_law_purse_here", "_law_some"] (defScope sShuffled) := ⟨rfl, rfl, rfl, by decide +kernel, rfl, by decide +kernel, by decide +kernel⟩
theorem perm_ins {α : Type} {ys zs : List α} {x : α} (j : Nat) (h : ys.Perm zs) : (ys.take j ++ [x] ++ ys.drop j).Perm (zs ++ [x]) := by
  have e : (ys.take j ++ [x] ++ ys.drop j).Perm (x :: ys) := by
    rw [List.append_assoc]
    refine (List.perm_append_comm).trans ?_
    show (x :: (ys.drop j ++ ys.take j)).Perm _
    refine List.Perm.cons _ ((List.perm_append_comm).trans ?_)
    rw [List.take_append_drop]
  refine e.trans ((List.Perm.cons _ h).trans ?_)
  exact (List.perm_append_comm (l₁ := [x]) (l₂ := zs))
theorem ok_shuffled {f fD : Addr} {fd fdD : FuncData} (F : Fun K "_law_shuffled" "_law_shuffled" sShuffled f fd) (GD : FnOk P w K mg base CX0 2 fD fdD ["_law_purse_here", "_law_many"] spDraw) (kD : PySem.W.keepIn K (.ref fD) = true) (gD : mg "_law_draw" = some (.ref fD)) (bD : Binds K fdD ["_law_purse_here", "_law_many"] []) (B : Bl mg) :
    FnOk P w K mg base CX0 3 f fd ["_law_purse_here", "_law_some"] (spShuffled K) := by
  refine F.ok scShuffled (fun vs H Q E h => ?_) (fun cdv A outer s H vs Q E hr h => ?_)
  · obtain ⟨a, b, n, xs, rfl, _⟩ := h
    rfl
  · obtain ⟨a, b, n, xs, rfl, pu, hb, hn, hl, q⟩ := h
    refine ⟨_, pss_cons (ps_set (i := 2) scShuffled.nd rfl (Or.inl rfl) (pe_lst pa_nil))
      (pss_cons (ps_for PassesOwn.never rfl (pi_list (pv 1)) (pg_name (i := 3) scShuffled.nd rfl (Or.inl rfl))
        (pss_one (ps_expr (pe_bm PySem.F.plainAttrs_list PySem.F.slot_list_insert PySem.F.type_list_insert mt_insert (pv 2)
          (pa_cons (by exact (pe_call GD hr (by rfl) gD kD bD .nil pass0 (pa_cons (pv 0) (pa_cons (pe_op op_add (pe_callB call_len_seq (by rfl) B.len PySem.boot_len (pa_cons (pv 2) pa_nil)) pe_int) pa_nil)))) (pa_cons (pv 3) pa_nil))))))
      (pss_one (ps_ret (pv 2)))), ?_⟩
    refine ⟨by decide, fun p np => ?_⟩
    have hpa : p ≠ a := pu.ne np
    refine ⟨_, rfl, b, rfl, ⟨_, (Sb.new (a := a) np).seq hn hb⟩, for_list (K := K) (a := b) (xs := xs) (fun i σ H' => ∃ ys o3, σ = [some (.ref a), some (.ref b), some (.ref p), o3] ∧ ys.Perm (xs.take i) ∧ Pu H' a (n + (xs.length - i)) ∧ Sb a H H' ∧ H' p = some (.lst ys))
      ⟨[], none, rfl, by simp, pu.put hpa, Sb.new np, upd_same⟩ (fun i σ H' _ z => ?_) ?_ ?_⟩
    · obtain ⟨ys, o3, _, _, _, sb, _⟩ := z
      exact sb.seq hn hb
    · rintro i x σ H' hi ⟨ys, o3, rfl, pm, pu', sb, e⟩
      have hil : i < xs.length := by
        rcases Nat.lt_or_ge i xs.length with h | h
        · exact h
        · rw [List.getElem?_eq_none h] at hi
          cases hi
      have hyl : ys.length = i := by
        rw [pm.length_eq, List.length_take]
        omega
      refine ⟨_, rfl, .inl ⟨rfl, _, SqL.of e⟩, _, rfl, _, rfl, p, ys, rfl, .inl (SqL.of e), _, _, rfl, rfl, ?_⟩
      refine ⟨a, n + (xs.length - (i + 1)), _, rfl, pu'.le (by omega), ⟨by omega, by omega⟩, fun r H2 h0 h1 pu2 sb2 => ?_⟩
      have e2 : H2 p = some (.lst ys) := sb2 _ _ hpa e
      refine ⟨_, rfl, p, ys, _, _, rfl, rfl, e2, small1000 (by omega), h0, by omega, ?_⟩
      refine ⟨_, _, rfl, ?_, pu2.put hpa, ?_, upd_same⟩
      · have ex : xs.take (i + 1) = xs.take i ++ [x] := by
          rw [List.take_add_one, hi] <;> rfl
        rw [ex]
        exact perm_ins _ pm
      · exact (sb.trans sb2).put np
    · rintro σ H' ⟨ys, o3, rfl, pm, pu', sb, e⟩
      rw [List.take_length] at pm
      exact ⟨_, rfl, q p ys H' pm np (pu'.le (by omega)) sb e⟩
/-- _law_purse(script, at) -/
def spPurse (K : PySem.W.Frag) : Sp := fun vs H Q _ => ∃ (a : Addr) (xs : List Int) (k : Nat), vs = [.ref a, .int (k : Int)] ∧ SqL K H a (xs.map V.int) ∧ k ≤ 100 ∧
  ∀ (p : Addr) (H' : Hp), H p = none → Pu H' p 1099511627776 → Same H H' → Q (.ref p) H'
theorem scPurse : FnScope ["_law_script", "_law_at", "_law_seed"] ["_law_script", "_law_at"] (defScope sPurse) := ⟨rfl, rfl, rfl, by decide +kernel, rfl, by decide +kernel, by decide +kernel⟩
theorem ok_purse {f : Addr} {fd : FuncData} (F : Fun K "_law_purse" "_law_purse" sPurse f fd) (B : Bl mg) : FnOk P w K mg base CX0 1 f fd ["_law_script", "_law_at"] (spPurse K) := by
  refine F.ok scPurse (fun vs H Q E h => ?_) (fun cdv A outer s H vs Q E hr h => ?_)
  · obtain ⟨a, xs, k, rfl, _⟩ := h
    rfl
  · obtain ⟨a, xs, k, rfl, ha, hk, q⟩ := h
    refine ⟨_, pss_cons (ps_set (i := 2) scPurse.nd rfl (Or.inl rfl) (pe_callB (cr_sum rfl) (by rfl) B.sum bootSum (pa_cons (pe_slice sl_list (pv 0) (po_some (pv 1)) (po_some (pe_op op_add (pv 1) pe_int))) pa_nil)))
      (pss_one (ps_ret (pe_lst (pa_cons (pe_op op_mod (pe_callB (call_max2 rfl) (by rfl) B.max bootMax (pa_cons (pe_op op_sub (pv 2) (pe_op op_pow pe_int pe_int)) (pa_cons pe_int pa_nil))) (pe_op op_powW (pe_op op_pow pe_int pe_int) pe_int))
        (pa_cons (pe_op op_mod (pv 2) pe_int) (pa_cons pe_int (pa_cons (pv 1) pa_nil))))))), ?_⟩
    refine ⟨_, rfl, _, rfl, _, rfl, _, rfl, _, _, rfl, rfl, _, rfl, a, _, rfl, ha, fun p np => ?_⟩
    have hc : cutV (xs.map V.int) (some (k : Int)) (some ((k : Int) + 1)) = ((xs.drop (HT.sIx xs.length 0 (some (k : Int)))).take (HT.sIx xs.length xs.length (some ((k : Int) + 1)) - HT.sIx xs.length 0 (some (k : Int)))).map V.int := by
      unfold cutV
      rw [List.length_map, List.map_take, List.map_drop]
    refine ⟨p, _, rfl, SqL.of (by rw [upd_same, hc]), ?_⟩
    generalize hz : (((xs.drop (HT.sIx xs.length 0 (some (k : Int)))).take (HT.sIx xs.length xs.length (some ((k : Int) + 1)) - HT.sIx xs.length 0 (some (k : Int))))).sum = z
    have s1 : Same H (upd H p (.lst (cutV (xs.map V.int) (some (k : Int)) (some ((k : Int) + 1))))) := same_new np
    generalize upd H p (.lst (cutV (xs.map V.int) (some (k : Int)) (some ((k : Int) + 1)))) = H1 at s1 ⊢
    refine ⟨_, rfl, _, _, rfl, rfl, ⟨by decide, by decide, by decide⟩, _, _, rfl, rfl, _, _, rfl, _, _, rfl, rfl, ⟨by decide, by decide, by decide⟩, _, _, rfl, rfl, ⟨by decide, by decide +kernel⟩, _, _, rfl, rfl, (by show (0 : Int) < _; decide +kernel), ?_⟩
    refine ⟨_, rfl, _, _, rfl, rfl, (by show (0 : Int) < 2147483629; decide), _, rfl, (by show 4 ≤ sizeLine; decide), fun p2 np2 => ?_⟩
    have s2 := s1.free np2
    refine q p2 _ s2 ⟨_, _, _, _, upd_same, Int.emod_nonneg _ (by decide +kernel), Int.emod_nonneg _ (by decide), Int.emod_lt_of_pos _ (by decide), by omega, by omega, by omega, by omega⟩ (same_put s1 s2)
end
end Nv
set_option maxHeartbeats 4000000
namespace Nv
open PySem PySem.Spec PyProof.Rows L2
/-- a name, a variable, a term -/
def IsNm (z : Str) : Prop := 1 ≤ z.length ∧ z.length ≤ 10 ∧ ∀ c ∈ z.cps.toList, 97 ≤ c ∧ c ≤ 122
def IsVr (z : Str) : Prop := 1 ≤ z.length ∧ z.length ≤ 3 ∧ ∀ c ∈ z.cps.toList, 65 ≤ c ∧ c ≤ 90
instance (z : Str) : Decidable (IsNm z) := by unfold IsNm; exact inferInstance
instance (z : Str) : Decidable (IsVr z) := by unfold IsVr; exact inferInstance
theorem flat_strs (xs : List Str) : (xs.map V.str).all flatV = true := by
  rw [List.all_eq_true]
  intro x hx
  obtain ⟨z, _, rfl⟩ := List.mem_map.mp hx
  rfl
theorem inV_strs (z : Str) (xs : List Str) : inV (.str z) (xs.map V.str) = decide (z ∈ xs) := by
  unfold inV
  rw [List.any_map]
  by_cases h : z ∈ xs
  · rw [decide_eq_true h, List.any_eq_true]
    exact ⟨z, h, by show (z == z) = true; exact beq_self_eq_true z⟩
  · rw [decide_eq_false h, List.any_eq_false]
    intro y hy
    show ¬ (y == z) = true
    intro e
    exact h (by rw [← eq_of_beq e]; exact hy)
theorem lett : ∀ j : Nat, j < 26 → atI (("abcdefghijklmnopqrstuvwxyz" : Str).cps.toList) (j : Int) = some (97 + j) := by decide +kernel
theorem perm_map_inv {α β : Type} {f : α → β} (hf : ∀ x y, f x = f y → x = y) {ws : List β} {xs : List α} (h : ws.Perm (xs.map f)) : ∃ us : List α, ws = us.map f ∧ us.Perm xs := by
  generalize hz : xs.map f = zs at h
  induction h generalizing xs with
  | nil =>
    cases xs with
    | nil => exact ⟨[], rfl, .nil⟩
    | cons x xs => cases hz
  | cons y h ih =>
    cases xs with
    | nil => cases hz
    | cons x xs =>
      injection hz with h1 h2
      obtain ⟨us, e, p⟩ := ih h2
      exact ⟨x :: us, by rw [e, ← h1] <;> rfl, .cons _ p⟩
  | swap x y l =>
    match xs, hz with
    | x1 :: x2 :: xs, hz =>
      injection hz with h1 h2
      injection h2 with h2 h3
      exact ⟨x2 :: x1 :: xs, by rw [← h1, ← h2, ← h3] <;> rfl, .swap _ _ _⟩
  | trans h1 h2 ih1 ih2 =>
    obtain ⟨us, e, p⟩ := ih2 hz
    obtain ⟨vs, e2, p2⟩ := ih1 e.symm
    exact ⟨vs, e2, p2.trans p⟩
theorem str_len_add (x y : Str) : (x ++ y).length = x.length + y.length := by
  show (x.cps ++ y.cps).size = _
  rw [Array.size_append] <;> rfl
theorem str_cps_add (x y : Str) : (x ++ y).cps.toList = x.cps.toList ++ y.cps.toList := by
  show (x.cps ++ y.cps).toList = _
  simp
section
variable {P : Program} {w : World} {K : PySem.W.Frag} {mg : Str → Option Value} {base : Heap}
/-- _law_purses(script, few) -/
def spPurses (K : PySem.W.Frag) : Sp := fun vs H Q _ => ∃ (a : Addr) (xs : List Int) (few : Nat), vs = [.ref a, .int (few : Int)] ∧ SqL K H a (xs.map V.int) ∧ xs.length ≤ 1000 ∧ few ≤ 100 ∧
  ∀ (p : Addr) (bs : List Addr) (H' : Hp), bs.Nodup → bs.length ≤ 100 → (∀ b ∈ bs, Pu H' b 1099511627776 ∧ H b = none) → H p = none → H' p = some (.lst (bs.map V.ref)) → Same H H' → Q (.ref p) H'
theorem scPurses : FnScope ["_law_script", "_law_few", "_law_at"] ["_law_script", "_law_few"] (defScope sPurses) := ⟨rfl, rfl, rfl, by decide +kernel, rfl, by decide +kernel, by decide +kernel⟩
theorem ok_purses {f fP : Addr} {fd fdP : FuncData} (F : Fun K "_law_purses" "_law_purses" sPurses f fd) (GP : FnOk P w K mg base CX0 1 fP fdP ["_law_script", "_law_at"] (spPurse K)) (kP : PySem.W.keepIn K (.ref fP) = true) (gP : mg "_law_purse" = some (.ref fP)) (bP : Binds K fdP ["_law_script", "_law_at"] []) (B : Bl mg) :
    FnOk P w K mg base CX0 2 f fd ["_law_script", "_law_few"] (spPurses K) := by
  refine F.ok scPurses (fun vs H Q E h => ?_) (fun cdv A outer s H vs Q E hr h => ?_)
  · obtain ⟨a, xs, few, rfl, _⟩ := h
    rfl
  · obtain ⟨a, xs, few, rfl, ha, hx, hf, q⟩ := h
    refine ⟨_, pss_one (ps_ret (by exact (pe_lc (own := [("_law_at", 2)]) (g := gName 2) (tt := tYes) rfl scPurses.nd
      (pi_range1 (by rfl) B.rg (pa_cons (pe_callB (call_max2 rfl) (by rfl) B.max bootMax (pa_cons pe_int (pa_cons (pe_callB (call_min2 rfl) (by rfl) B.min bootMin (pa_cons (pv 1) (pa_cons (pe_callB call_len_seq (by rfl) B.len PySem.boot_len (pa_cons (pv 0) pa_nil)) pa_nil))) pa_nil))) pa_nil))
      (blkOk_by (own := [("_law_at", 2)]) (N := ["_law_script", "_law_few", "_law_at"]) (sc := defScope sPurses) (by decide +kernel))
      (fun _ _ _ _ _ => pg_name (i := 2) scPurses.nd rfl (Or.inl rfl)) (fun _ _ _ _ _ => pts_nil)
      (fun _ _ _ _ _ => by exact (pe_call GP hr (by rfl) gP kP bP .nil pass0 (pa_cons (pv 0) (pa_cons (pv 2) pa_nil))))))), ?_⟩
    refine ⟨_, rfl, _, rfl, a, _, rfl, .inl ha, _, _, rfl, _, _, rfl, ?_⟩
    rw [List.length_map]
    generalize hM : (if (if (xs.length : Int) < (few : Int) then (xs.length : Int) else (few : Int)) > 1 then (if (xs.length : Int) < (few : Int) then (xs.length : Int) else (few : Int)) else 1) = M
    have hM0 : 0 ≤ M ∧ M ≤ 100 := by
      rw [← hM]
      split <;> split <;> omega
    refine ⟨M, rfl, by omega, by omega, fun D nD => ?_⟩
    refine lc_range (lo := 0) (n := M.toNat) (fun i H' => ∃ bs : List Addr, bs.length = i ∧ bs.Nodup ∧ (∀ b ∈ bs, Pu H' b 1099511627776 ∧ H b = none ∧ b ≠ D) ∧ H' D = some (.lst (bs.map V.ref)) ∧ Same H H') ⟨[], rfl, List.nodup_nil, (fun b hb => nomatch hb), upd_same, same_new nD⟩ ?_ ?_
    · rintro i H1 hi ⟨bs, hl, hnd, hb, e, sm⟩
      refine ⟨rfl, ?_⟩
      refine ⟨_, rfl, _, rfl, a, xs, i, (by rw [Int.zero_add]; rfl), sm.seq ha, by omega, fun p H2 np pu s2 => ?_⟩
      have e2 := s2 _ _ e
      have npH : H p = none := sm.free np
      have hpD : p ≠ D := fun z => by
        rw [z, e] at np
        cases np
      refine ⟨_, e2, by rw [List.length_map]; exact small1000 (by omega), bs ++ [p], by rw [List.length_append, hl] <;> rfl, ?_, ?_, by rw [upd_same, List.map_append] <;> rfl, ?_⟩
      · rw [List.nodup_append]
        refine ⟨hnd, by simp, fun x hx y hy => ?_⟩
        obtain rfl := List.mem_singleton.mp hy
        intro z
        subst z
        obtain ⟨o, eo⟩ := (hb _ hx).1.some
        rw [eo] at np
        cases np
      · intro b hbm
        rcases List.mem_append.mp hbm with hx | hx
        · obtain ⟨h1, h2, h3⟩ := hb b hx
          exact ⟨(h1.same s2).put (Ne.symm h3), h2, h3⟩
        · obtain rfl := List.mem_singleton.mp hx
          exact ⟨pu.put (Ne.symm hpD), npH, hpD⟩
      · exact same_put (sm.trans s2) nD
    · rintro H1 ⟨bs, hl, hnd, hb, e, sm⟩
      exact q D bs H1 hnd (by omega) (fun b hbm => ⟨(hb b hbm).1, (hb b hbm).2.1⟩) nD e sm
/-- _law_names(purse, many) -/
def spNames : Sp := fun vs H Q _ => ∃ (a : Addr) (n k : Nat), vs = [.ref a, .int (k : Int)] ∧ Pu H a (n + 18) ∧ k ≤ 6 ∧
  ∀ (p : Addr) (zs : List Str) (H' : Hp), zs.length = k → (∀ z ∈ zs, IsNm z) → zs.Nodup → H p = none → Pu H' a n → Sb a H H' → H' p = some (.lst (zs.map V.str)) → Q (.ref p) H'
theorem scNames : FnScope ["_law_purse_here", "_law_many", "_law_fresh", "_law_turn", "_law_some", "_law_word"] ["_law_purse_here", "_law_many"] (defScope sNames) := ⟨rfl, rfl, rfl, by decide +kernel, rfl, by decide +kernel, by decide +kernel⟩
def fixed6 : List Str := ["a", "b", "x", "xx", "ann", "abcdefghij"]
theorem fixed6_nm : ∀ z ∈ fixed6, IsNm z := by decide +kernel
theorem fixed6_nd : fixed6.Nodup := by decide +kernel
theorem ok_names {f fD fS : Addr} {fd fdD fdS : FuncData} (F : Fun K "_law_names" "_law_names" sNames f fd)
    (GD : FnOk P w K mg base CX0 2 fD fdD ["_law_purse_here", "_law_many"] spDraw) (kD : PySem.W.keepIn K (.ref fD) = true) (gD : mg "_law_draw" = some (.ref fD)) (bD : Binds K fdD ["_law_purse_here", "_law_many"] [])
    (GS : FnOk P w K mg base CX0 3 fS fdS ["_law_purse_here", "_law_some"] (spShuffled K)) (kS : PySem.W.keepIn K (.ref fS) = true) (gS : mg "_law_shuffled" = some (.ref fS)) (bS : Binds K fdS ["_law_purse_here", "_law_some"] []) (B : Bl mg) :
    FnOk P w K mg base CX0 4 f fd ["_law_purse_here", "_law_many"] spNames := by
  refine F.ok scNames (fun vs H Q E h => ?_) (fun cdv A outer s H vs Q E hr h => ?_)
  · obtain ⟨a, n, k, rfl, _⟩ := h
    rfl
  · obtain ⟨a, n, k, rfl, pu, hk, q⟩ := h
    have hr2 : Room 2 _ := hr.mono (by decide)
    refine ⟨_, pss_cons (ps_set (i := 2) scNames.nd rfl (Or.inl rfl) pe_str)
      (pss_cons (ps_for PassesOwn.never rfl (pi_range1 (by rfl) B.rg (pa_cons (pe_op op_add pe_int (by exact (pe_call GD hr2 (by rfl) gD kD bD .nil pass0 (pa_cons (pv 0) (pa_cons pe_int pa_nil))))) pa_nil)) (pg_name (i := 3) scNames.nd rfl (Or.inl rfl))
        (pss_one (ps_set (i := 2) scNames.nd rfl (Or.inl rfl) (pe_op op_add_str (pv 2) (pe_ix ix_str pe_str (by exact (pe_call GD hr2 (by rfl) gD kD bD .nil pass0 (pa_cons (pv 0) (pa_cons pe_int pa_nil)))) (fun _ _ => rfl))))))
      (pss_cons (ps_set (i := 4) scNames.nd rfl (Or.inr rfl) (pe_lst (pa_cons pe_str (pa_cons pe_str (pa_cons pe_str (pa_cons pe_str (pa_cons pe_str (pa_cons pe_str pa_nil))))))))
      (pss_one (ps_ret (pe_slice sl_list (by exact (pe_call GS hr (by rfl) gS kS bS .nil pass0 (pa_cons (pv 0) (pa_cons (pe_op op_cat (pv 4)
        (by exact (pe_lc (own := [("_law_word", 5)]) (g := gName 5) (tt := tTest (tOp (rIn K true) (tVar 5) (tVar 4))) rfl scNames.nd (pi_list (pe_lst (pa_cons (pv 2) pa_nil)))
          (blkOk_by (own := [("_law_word", 5)]) (N := ["_law_purse_here", "_law_many", "_law_fresh", "_law_turn", "_law_some", "_law_word"]) (sc := defScope sNames) (by decide +kernel))
          (fun _ _ _ _ _ => pg_name (i := 5) scNames.nd rfl (Or.inl rfl)) (fun _ _ _ _ _ => pts_one (by exact (pt_cmpR op_notIn_seq (pv 5) (pv 4) (by rfl)))) (fun _ _ _ _ _ => pv 5)))) pa_nil)))) po_none (po_some (pv 1))))))), ?_⟩
    refine ⟨_, rfl, a, n + 17, 10, rfl, pu, ⟨by decide, by decide⟩, fun r H0 h0 h1 pu0 sb0 => ⟨_, _, rfl, rfl, 1 + r, rfl, by omega, by omega, ?_⟩⟩
    refine for_range (lo := 0) (n := (1 + r).toNat) (fun i σ H' => ∃ (z : Str) (o3 : Option V), σ = [some (.ref a), some (.int (k : Int)), some (.str z), o3, none, none] ∧ z.length = i ∧ (∀ c ∈ z.cps.toList, 97 ≤ c ∧ c ≤ 122) ∧ Pu H' a (n + 7 + (10 - i)) ∧ Sb a H H')
      ⟨"", none, rfl, rfl, (fun c hc => nomatch hc), pu0, sb0⟩ ?_ ?_
    · rintro i σ H1 hi ⟨z, o3, rfl, hz, hc, pu1, sb1⟩
      refine ⟨_, rfl, _, rfl, a, n + 7 + (10 - (i + 1)), 26, rfl, pu1.le (by omega), ⟨by decide, by decide⟩, fun r2 H2 h2 h3 pu2 sb2 => ?_⟩
      obtain ⟨j, rfl⟩ : ∃ j : Nat, r2 = (j : Int) := ⟨r2.toNat, by omega⟩
      refine ⟨_, _, 97 + j, rfl, rfl, by decide +kernel, lett j (by omega), _, _, rfl, rfl, ?_, ?_⟩
      · show z.length + 1 ≤ sizeLine
        have : (1000 : Nat) ≤ sizeLine := by decide
        omega
      · refine ⟨_, _, rfl, ?_, ?_, pu2, sb1.trans sb2⟩
        · rw [str_len_add, hz] <;> rfl
        · intro c hc2
          rw [str_cps_add] at hc2
          rcases List.mem_append.mp hc2 with h | h
          · exact hc c h
          · have h : c ∈ [97 + j] := h
            obtain rfl := List.mem_singleton.mp h
            omega
    · rintro σ H1 ⟨z, o3, rfl, hz, hc, pu1, sb1⟩
      have nmz : IsNm z := ⟨by omega, by omega, hc⟩
      have pu1 : Pu H1 a (n + 7) := pu1.le (by omega)
      clear pu0 sb0
      refine ⟨by decide, fun p np => ?_⟩
      have npH := sb1.free pu1 np
      have pa : p ≠ a := pu1.ne np
      have sb2 : Sb a H (upd H1 p (.lst (fixed6.map V.str))) := sb1.put npH
      have pu2 : Pu (upd H1 p (.lst (fixed6.map V.str))) a (n + 7) := pu1.put pa
      have e2 : upd H1 p (.lst (fixed6.map V.str)) p = some (.lst (fixed6.map V.str)) := upd_same
      refine (show ∀ G : Hp, G = upd H1 p (.lst (fixed6.map V.str)) → tSeq _ _ { nx := fun _ H' => Q .non H', rt := Q } [some (.ref a), some (.int (k : Int)), some (.str z), o3, some (.ref p), none] G from fun G hG => ?_) _ rfl
      rw [← hG] at sb2 pu2 e2
      clear hG np npH
      refine ⟨_, rfl, _, rfl, _, rfl, (by show 1 ≤ sizeLine; decide), fun l nl => ⟨l, rfl, ⟨[.str z], SqL.of upd_same⟩, fun D nD => ?_⟩⟩
      have e3 : upd G l (.lst [.str z]) p = some (.lst (fixed6.map V.str)) := same_new nl _ _ e2
      have e4 : upd G l (.lst [.str z]) l = some (.lst [.str z]) := upd_same
      have pu3 : Pu (upd G l (.lst [.str z])) a (n + 7) := pu2.put (pu2.ne nl)
      have sb3 : Sb a H (upd G l (.lst [.str z])) := sb2.put (sb2.free pu2 nl)
      generalize upd G l (.lst [.str z]) = G1 at e3 e4 pu3 sb3 nD ⊢
      have pD : p ≠ D := ne_of_none e3 nD
      have lD : l ≠ D := ne_of_none e4 nD
      refine lc_list (K := K) (a := l) (xs := [.str z]) (fun i H' => Same G1 H' ∧ H' D = some (.lst ((if i = 0 then ([] : List Str) else if z ∈ fixed6 then [] else [z]).map V.str))) ⟨same_new nD, upd_same⟩ (fun i H' _ y => SqL.of (y.1 _ _ e4)) ?_ ?_
      · rintro i x G2 hi ⟨s1, e5⟩
        obtain ⟨rfl, rfl⟩ : i = 0 ∧ x = V.str z := by
          match i, hi with
          | 0, h => exact ⟨rfl, (Option.some.inj h).symm⟩
        rw [if_pos rfl] at e5
        refine ⟨rfl, _, rfl, _, rfl, p, fixed6.map V.str, rfl, .inl (SqL.of (s1 _ _ e3)), rfl, flat_strs _, _, rfl, ?_⟩
        rw [inV_strs]
        by_cases hz6 : z ∈ fixed6
        · rw [decide_eq_true hz6]
          refine iteF ⟨s1, ?_⟩
          rw [if_neg (by decide), if_pos hz6]
          exact e5
        · rw [decide_eq_false hz6]
          refine iteT ⟨_, rfl, _, e5, (by show 0 < sizeLine; decide), fun b o e => ?_, ?_⟩
          · rw [upd_ne (ne_of_none e nD)]
            exact s1 _ _ e
          · rw [upd_same, if_neg (by decide), if_neg hz6] <;> rfl
      · rintro G2 ⟨s1, e5⟩
        rw [if_neg (fun h => by cases h)] at e5
        generalize hys : (if z ∈ fixed6 then ([] : List Str) else [z]) = ys at e5
        have hy : ys.length ≤ 1 ∧ (∀ x ∈ ys, IsNm x ∧ x ∉ fixed6) ∧ ys.Nodup := by
          rw [← hys]
          split
          · exact ⟨by decide, (fun x hx => nomatch hx), List.nodup_nil⟩
          · rename_i h
            exact ⟨(by show 1 ≤ 1; decide), (fun x hx => by rw [List.mem_singleton.mp hx]; exact ⟨nmz, h⟩), by simp⟩
        have pu4 := pu3.same s1
        have sb4 := sb3.then s1
        refine ⟨_, _, _, _, rfl, rfl, s1 _ _ e3, e5, ?_, fun q1 nq => ?_⟩
        · rw [List.length_map, List.length_map]
          show 6 + ys.length ≤ sizeLine
          have : (1000 : Nat) ≤ sizeLine := by decide
          omega
        · have hl7 : (fixed6.map V.str ++ ys.map V.str).length ≤ 7 := by
            rw [List.length_append, List.length_map, List.length_map]
            show 6 + ys.length ≤ 7
            omega
          have nqa := pu4.ne nq
          refine ⟨a, q1, n, _, rfl, (pu4.put nqa).le (by omega), SqL.of upd_same, nqa, by omega, fun q2 ws H3 pm nq2 pu5 sb5 e6 => ?_⟩
          rw [← List.map_append] at pm
          obtain ⟨us, rfl, pu⟩ : ∃ us : List Str, ws = us.map V.str ∧ us.Perm (fixed6 ++ ys) := perm_map_inv (fun _ _ e => by injection e) pm
          have npq : H q2 = none := by
            have h1 : upd G2 q1 (.lst (fixed6.map V.str ++ ys.map V.str)) q2 = none := nq2
            have h2 : q2 ≠ q1 := fun z => by rw [z, upd_same] at h1; cases h1
            rw [upd_ne h2] at h1
            exact sb4.free pu4 h1
          refine ⟨_, rfl, _, rfl, q2, _, rfl, SqL.of e6, fun q3 nq3 => ?_⟩
          have sb6 : Sb a H H3 := (sb4.put (sb4.free pu4 nq)).trans sb5
          have hcut : cutV (us.map V.str) none (some (k : Int)) = (us.take k).map V.str := by
            unfold cutV
            have : us.length ≥ 6 := by
              rw [pu.length_eq, List.length_append]
              show 6 ≤ 6 + ys.length
              omega
            rw [HT.sIx_none, HT.sIx_nat, List.drop_zero, List.length_map, Nat.sub_zero, Nat.min_eq_left (by omega), List.map_take]
          rw [hcut]
          have hus : us.length ≥ 6 := by
            rw [pu.length_eq, List.length_append]
            show 6 ≤ 6 + ys.length
            omega
          refine q q3 (us.take k) _ (by rw [List.length_take]; omega) (fun x hx => ?_) ?_ (sb6.free pu5 nq3) (pu5.put (pu5.ne nq3)) (sb6.put (sb6.free pu5 nq3)) upd_same
          · have hx := pu.mem_iff.mp (List.mem_of_mem_take hx)
            rcases List.mem_append.mp hx with h | h
            · exact fixed6_nm _ h
            · exact (hy.2.1 _ h).1
          · refine List.Nodup.sublist (List.take_sublist _ _) (pu.nodup_iff.mpr (List.nodup_append.mpr ⟨fixed6_nd, hy.2.2, fun x hx y hy2 z => ?_⟩))
            subst z
            exact (hy.2.1 _ hy2).2 hx
end
end Nv
set_option maxHeartbeats 4000000
namespace Nv
open PySem PySem.Spec PyProof.Rows L2
def up1 (c : Nat) : Nat := if 97 ≤ c ∧ c ≤ 122 then c - 32 else c
theorem upper_list : ∀ l : List Nat, (∀ c ∈ l, c < 128) → Txt.upper ⟨l.toArray⟩ = ⟨(l.map up1).toArray⟩
  | [], _ => rfl
  | c :: l, h => by
    have e : (⟨(c :: l).toArray⟩ : Str) = (⟨#[c]⟩ : Str) ++ (⟨l.toArray⟩ : Str) := by
      show Str.mk _ = Str.mk _
      simp
    rw [e, PySem.W.KOpn.upper_app, PySem.W.KOpn.upper_one (h c List.mem_cons_self), upper_list l fun x hx => h x (List.mem_cons_of_mem _ hx)]
    show Str.mk _ = Str.mk _
    simp [up1]
theorem str_eta (z : Str) : z = ⟨z.cps.toList.toArray⟩ := by
  cases z
  simp
theorem upper_vr {z : Str} (h : IsVr z) : Txt.upper z = z := by
  rw [str_eta z, upper_list _ fun c hc => by have := h.2.2 c hc; omega]
  refine congrArg Str.mk (congrArg List.toArray ?_)
  refine (List.map_congr_left fun c hc => ?_).trans (List.map_id _)
  have := h.2.2 c hc
  unfold up1
  rw [if_neg (by omega)]
  rfl
theorem upper_nm {z : Str} (h : IsNm z) : Txt.upper z ≠ z := by
  intro e
  rw [str_eta z, upper_list _ fun c hc => by have := h.2.2 c hc; omega] at e
  have e2 : (z.cps.toList.map up1) = z.cps.toList := by
    have e3 := congrArg (fun s : Str => s.cps.toList) e
    simpa using e3
  have hl : z.cps.toList.length = z.length := by simp [Str.length]
  match hz : z.cps.toList with
  | [] =>
    rw [hz] at hl
    have := h.1
    simp at hl
    omega
  | c :: l =>
    rw [hz] at e2
    injection e2 with h1 h2
    have h3 := h.2.2 c (by rw [hz]; exact List.mem_cons_self)
    unfold up1 at h1
    rw [if_pos h3] at h1
    omega
end Nv
set_option maxHeartbeats 4000000
namespace Nv
open PySem PySem.Spec PyProof.Rows L2
/-- a word of a kind -/
def IsWd (w : Str) : Prop := IsNm w ∧ w ≠ "never"
instance (w : Str) : Decidable (IsWd w) := inferInstanceAs (Decidable (_ ∧ _))
/-- a kind: a tuple of a word and a number -/
def Kd (H : Hp) (v : V) : Prop := ∃ (t : Addr) (w : Str) (m : Nat), v = .ref t ∧ H t = some (.tup [.str w, .int (m : Int)]) ∧ IsWd w ∧ m ≤ 3
section
variable {a : Addr} {H H1 H2 : Hp} {n m : Nat} {v : V}
theorem Kd.same (k : Kd H v) (s : Same H H1) : Kd H1 v := by
  obtain ⟨t, w, m, rfl, e, h⟩ := k
  exact ⟨t, w, m, rfl, s _ _ e, h⟩
theorem Kd.ne (k : Kd H v) (pu : Pu H a n) : v ≠ .ref a := by
  obtain ⟨t, w, m, rfl, e, h⟩ := k
  obtain ⟨s, d, tt, kk, e2, _⟩ := pu.ex
  intro z
  cases z
  rw [e] at e2
  cases e2
theorem Kd.sb (k : Kd H v) (pu : Pu H a n) (s : Sb a H H1) : Kd H1 v := by
  have hn := k.ne pu
  obtain ⟨t, w, m, rfl, e, h⟩ := k
  exact ⟨t, w, m, rfl, s _ _ (fun z => hn (by rw [z])) e, h⟩
theorem kd_new {G : Hp} {t : Addr} {w : Str} {m : Nat} (sb : Same H G) (nt : G t = none) (hw : IsWd w) (hm : m ≤ 3) :
    Same H (upd G t (.tup [.str w, .int (m : Int)])) ∧ Same G (upd G t (.tup [.str w, .int (m : Int)])) ∧ Kd (upd G t (.tup [.str w, .int (m : Int)])) (.ref t) :=
  ⟨same_put sb (sb.free nt), same_new nt, t, w, m, rfl, upd_same, hw, hm⟩
end
section
variable {P : Program} {w : World} {K : PySem.W.Frag} {mg : Str → Option Value} {base : Heap}
/-- _law_kinds(purse, many) -/
def spKinds : Sp := fun vs H Q _ => ∃ (a : Addr) (n k : Nat), vs = [.ref a, .int (k : Int)] ∧ Pu H a (n + 9) ∧ k ≤ 7 ∧
  ∀ (p : Addr) (ks : List V) (H' : Hp), ks.length = k → (∀ v ∈ ks, Kd H' v) → H p = none → Pu H' a n → Sb a H H' → H' p = some (.lst ks) → Q (.ref p) H'
theorem scKinds : FnScope ["_law_purse_here", "_law_many", "_law_some"] ["_law_purse_here", "_law_many"] (defScope sKinds) := ⟨rfl, rfl, rfl, by decide +kernel, rfl, by decide +kernel, by decide +kernel⟩
theorem ok_kinds {f fD fS : Addr} {fd fdD fdS : FuncData} (F : Fun K "_law_kinds" "_law_kinds" sKinds f fd)
    (GD : FnOk P w K mg base CX0 2 fD fdD ["_law_purse_here", "_law_many"] spDraw) (kD : PySem.W.keepIn K (.ref fD) = true) (gD : mg "_law_draw" = some (.ref fD)) (bD : Binds K fdD ["_law_purse_here", "_law_many"] [])
    (GS : FnOk P w K mg base CX0 3 fS fdS ["_law_purse_here", "_law_some"] (spShuffled K)) (kS : PySem.W.keepIn K (.ref fS) = true) (gS : mg "_law_shuffled" = some (.ref fS)) (bS : Binds K fdS ["_law_purse_here", "_law_some"] []) (B : Bl mg) :
    FnOk P w K mg base CX0 4 f fd ["_law_purse_here", "_law_many"] spKinds := by
  refine F.ok scKinds (fun vs H Q E h => ?_) (fun cdv A outer s H vs Q E hr h => ?_)
  · obtain ⟨a, n, k, rfl, _⟩ := h
    rfl
  · obtain ⟨a, n, k, rfl, pu, hk, q⟩ := h
    have hr2 : Room 2 _ := hr.mono (by decide)
    refine ⟨_, pss_cons (ps_set (i := 2) scKinds.nd rfl (Or.inl rfl) (pe_lst (pa_cons (pe_tup (pa_cons pe_str (pa_cons pe_int pa_nil))) (pa_cons (pe_tup (pa_cons pe_str (pa_cons pe_int pa_nil))) (pa_cons (pe_tup (pa_cons pe_str (pa_cons pe_int pa_nil))) (pa_cons (pe_tup (pa_cons pe_str (pa_cons pe_int pa_nil))) (pa_cons (pe_tup (pa_cons pe_str (pa_cons pe_int pa_nil))) (pa_cons (pe_tup (pa_cons pe_str (pa_cons pe_int pa_nil))) (pa_cons (pe_tup (pa_cons pe_str (pa_cons pe_int pa_nil))) (pa_cons (pe_tup (pa_cons pe_str (pa_cons pe_int pa_nil))) pa_nil))))))))))
      (pss_one (ps_ret (pe_slice sl_list (by exact (pe_call GS hr (by rfl) gS kS bS .nil pass0 (pa_cons (pv 0) (pa_cons
        (pe_slice sl_list (pv 2) po_none (po_some (pe_op op_add pe_int (pe_callTy call_int1 (by rfl) B.int boot_int (pa_cons (pe_cmpR op_eq (by exact (pe_call GD hr2 (by rfl) gD kD bD .nil pass0 (pa_cons (pv 0) (pa_cons pe_int pa_nil)))) pe_int (nomark _)) pa_nil)))))
        pa_nil)))) po_none (po_some (pv 1))))), ?_⟩
    have s0 : Same H H := Same.refl H
    refine ⟨(by show 2 ≤ sizeLine; decide), fun t1 n1 => ?_⟩
    obtain ⟨s1, r1, k1⟩ := kd_new (w := "p") (m := 1) s0 n1 (by decide +kernel) (by decide)
    refine (show ∀ G : Hp, Same H G → Same H G → Kd G (.ref t1) → _ from fun G1 s1 r1 k1 => ?_) _ s1 r1 k1
    refine ⟨(by show 2 ≤ sizeLine; decide), fun t2 n2 => ?_⟩
    obtain ⟨s2, r2, k2⟩ := kd_new (w := "q") (m := 1) s1 n2 (by decide +kernel) (by decide)
    refine (show ∀ G : Hp, Same H G → Same G1 G → Kd G (.ref t2) → _ from fun G2 s2 r2 k2 => ?_) _ s2 r2 k2
    replace k1 := k1.same r2
    refine ⟨(by show 2 ≤ sizeLine; decide), fun t3 n3 => ?_⟩
    obtain ⟨s3, r3, k3⟩ := kd_new (w := "way") (m := 2) s2 n3 (by decide +kernel) (by decide)
    refine (show ∀ G : Hp, Same H G → Same G2 G → Kd G (.ref t3) → _ from fun G3 s3 r3 k3 => ?_) _ s3 r3 k3
    replace k1 := k1.same r3
    replace k2 := k2.same r3
    refine ⟨(by show 2 ≤ sizeLine; decide), fun t4 n4 => ?_⟩
    obtain ⟨s4, r4, k4⟩ := kd_new (w := "p") (m := 2) s3 n4 (by decide +kernel) (by decide)
    refine (show ∀ G : Hp, Same H G → Same G3 G → Kd G (.ref t4) → _ from fun G4 s4 r4 k4 => ?_) _ s4 r4 k4
    replace k1 := k1.same r4
    replace k2 := k2.same r4
    replace k3 := k3.same r4
    refine ⟨(by show 2 ≤ sizeLine; decide), fun t5 n5 => ?_⟩
    obtain ⟨s5, r5, k5⟩ := kd_new (w := "rain") (m := 0) s4 n5 (by decide +kernel) (by decide)
    refine (show ∀ G : Hp, Same H G → Same G4 G → Kd G (.ref t5) → _ from fun G5 s5 r5 k5 => ?_) _ s5 r5 k5
    replace k1 := k1.same r5
    replace k2 := k2.same r5
    replace k3 := k3.same r5
    replace k4 := k4.same r5
    refine ⟨(by show 2 ≤ sizeLine; decide), fun t6 n6 => ?_⟩
    obtain ⟨s6, r6, k6⟩ := kd_new (w := "not") (m := 2) s5 n6 (by decide +kernel) (by decide)
    refine (show ∀ G : Hp, Same H G → Same G5 G → Kd G (.ref t6) → _ from fun G6 s6 r6 k6 => ?_) _ s6 r6 k6
    replace k1 := k1.same r6
    replace k2 := k2.same r6
    replace k3 := k3.same r6
    replace k4 := k4.same r6
    replace k5 := k5.same r6
    refine ⟨(by show 2 ≤ sizeLine; decide), fun t7 n7 => ?_⟩
    obtain ⟨s7, r7, k7⟩ := kd_new (w := "a") (m := 1) s6 n7 (by decide +kernel) (by decide)
    refine (show ∀ G : Hp, Same H G → Same G6 G → Kd G (.ref t7) → _ from fun G7 s7 r7 k7 => ?_) _ s7 r7 k7
    replace k1 := k1.same r7
    replace k2 := k2.same r7
    replace k3 := k3.same r7
    replace k4 := k4.same r7
    replace k5 := k5.same r7
    replace k6 := k6.same r7
    refine ⟨(by show 2 ≤ sizeLine; decide), fun t8 n8 => ?_⟩
    obtain ⟨s8, r8, k8⟩ := kd_new (w := "longestone") (m := 3) s7 n8 (by decide +kernel) (by decide)
    refine (show ∀ G : Hp, Same H G → Same G7 G → Kd G (.ref t8) → _ from fun G8 s8 r8 k8 => ?_) _ s8 r8 k8
    replace k1 := k1.same r8
    replace k2 := k2.same r8
    replace k3 := k3.same r8
    replace k4 := k4.same r8
    replace k5 := k5.same r8
    replace k6 := k6.same r8
    replace k7 := k7.same r8
    refine ⟨(by show 8 ≤ sizeLine; decide), fun p np => ?_⟩
    have kall : ∀ v ∈ [V.ref t1, .ref t2, .ref t3, .ref t4, .ref t5, .ref t6, .ref t7, .ref t8], Kd G8 v := by
      intro v hv
      simp only [List.mem_cons, List.not_mem_nil, or_false] at hv
      rcases hv with rfl | rfl | rfl | rfl | rfl | rfl | rfl | rfl <;> assumption
    have hl8 : [V.ref t1, .ref t2, .ref t3, .ref t4, .ref t5, .ref t6, .ref t7, .ref t8].length = 8 := rfl
    generalize [V.ref t1, .ref t2, .ref t3, .ref t4, .ref t5, .ref t6, .ref t7, .ref t8] = xs at kall hl8 ⊢
    refine (show ∀ G : Hp, Same G8 G → G p = some (.lst xs) → tSeq _ _ { nx := fun _ H' => Q .non H', rt := Q } [some (.ref a), some (.int (k : Int)), some (.ref p)] G from fun G sG eG => ?_) _ (same_new np) upd_same
    have sG := s8.trans sG
    replace kall : ∀ v ∈ xs, Kd G v := fun v hv => (kall v hv).same (by assumption)
    have puG : Pu G a (n + 9) := pu.same sG
    have pa := puG.ne (q := p)
    refine ⟨_, rfl, _, rfl, _, rfl, a, n + 8, 8, rfl, puG, ⟨by decide, by decide⟩, fun r H1 h0 h1 pu1 sb1 => ?_⟩
    have pna : p ≠ a := fun z => by
      obtain ⟨s, d, t, kk, e2, _⟩ := puG.ex
      rw [z, e2] at eG
      injection eG with eG
      injection eG with eG
      have := congrArg List.length eG
      rw [hl8] at this
      cases this
    have e1 : H1 p = some (.lst xs) := sb1 _ _ pna eG
    have k1 : ∀ v ∈ xs, Kd H1 v := fun v hv => (kall v hv).sb puG sb1
    refine ⟨rfl, .inr ⟨_, rfl, ?_⟩⟩
    generalize hb : (if decide (V.int r = V.int 0) = true then (1 : Int) else 0) = b
    have hb2 : 0 ≤ b ∧ b ≤ 1 := by
      rw [← hb]
      split <;> decide
    obtain ⟨j, rfl⟩ : ∃ j : Nat, b = (j : Int) := ⟨b.toNat, by omega⟩
    refine ⟨_, _, rfl, rfl, _, rfl, p, xs, rfl, SqL.of e1, fun q1 nq1 => ?_⟩
    have hc : cutV xs none (some (7 + (j : Int))) = xs.take (7 + j) := by
      unfold cutV
      have e7 : (7 + (j : Int)) = ((7 + j : Nat) : Int) := by omega
      rw [e7, HT.sIx_none, HT.sIx_nat, List.drop_zero, Nat.sub_zero, Nat.min_eq_left (by omega)]
    rw [hc]
    have hl : (xs.take (7 + j)).length = 7 + j := by
      rw [List.length_take]
      omega
    have q1a := pu1.ne nq1
    refine ⟨a, q1, n, _, rfl, (pu1.put q1a).le (by omega), SqL.of upd_same, q1a, by omega, fun q2 ys H2 pm nq2 pu2 sb2 e2 => ?_⟩
    have sb3 : Sb a H1 H2 := (Sb.new nq1).trans sb2
    refine ⟨_, rfl, _, rfl, q2, ys, rfl, SqL.of e2, fun q3 nq3 => ?_⟩
    have hc2 : cutV ys none (some (k : Int)) = ys.take k := by
      unfold cutV
      have := pm.length_eq
      rw [HT.sIx_none, HT.sIx_nat, List.drop_zero, Nat.sub_zero, Nat.min_eq_left (by omega)]
    rw [hc2]
    have sb4 : Sb a H H2 := ((Sb.of sG).trans sb1).trans sb3
    have hly := pm.length_eq
    refine q q3 (ys.take k) _ (by rw [List.length_take]; omega) (fun v hv => ?_) (sb4.free pu2 nq3) (pu2.put (pu2.ne nq3)) (sb4.put (sb4.free pu2 nq3)) upd_same
    have hv2 := List.mem_of_mem_take (pm.mem_iff.mp (List.mem_of_mem_take hv))
    exact ((k1 v hv2).sb pu1 sb3).same (same_new nq3)
end
end Nv
set_option maxHeartbeats 4000000
namespace Nv
open PySem PySem.Spec PyProof.Rows L2
theorem big1000 : (1000 : Nat) ≤ sizeLine := by decide
/-- a list of tuples of texts, as they stand in the heap -/
inductive PaL (H : Hp) : List V → List (List Str) → Prop
  | nil : PaL H [] []
  | cons {t : Addr} {p : List Str} {vs : List V} {ps : List (List Str)} (e : H t = some (.tup (p.map V.str))) (h : PaL H vs ps) : PaL H (.ref t :: vs) (p :: ps)
section
variable {a : Addr} {H H1 H2 : Hp} {n m : Nat} {vs us : List V} {ps qs : List (List Str)}
theorem PaL.same (h : PaL H vs ps) (s : Same H H1) : PaL H1 vs ps := by
  induction h with
  | nil => exact .nil
  | cons e _ ih => exact .cons (s _ _ e) ih
theorem tup_ne {t : Addr} {xs : List V} (pu : Pu H a n) (e : H t = some (.tup xs)) : t ≠ a := fun z => by
  obtain ⟨s, d, tt, kk, e2, _⟩ := pu.ex
  rw [z, e2] at e
  cases e
theorem PaL.sb (h : PaL H vs ps) (pu : Pu H a n) (s : Sb a H H1) : PaL H1 vs ps := by
  induction h with
  | nil => exact .nil
  | cons e _ ih => exact .cons (s _ _ (tup_ne pu e) e) ih
theorem PaL.len (h : PaL H vs ps) : vs.length = ps.length := by
  induction h with
  | nil => rfl
  | cons e _ ih => simp [ih]
theorem PaL.app (h : PaL H vs ps) (h2 : PaL H us qs) : PaL H (vs ++ us) (ps ++ qs) := by
  induction h with
  | nil => exact h2
  | cons e _ ih => exact .cons e ih
theorem PaL.at_ (h : PaL H vs ps) {i : Nat} {v : V} (hi : vs[i]? = some v) : ∃ (t : Addr) (p : List Str), v = .ref t ∧ ps[i]? = some p ∧ H t = some (.tup (p.map V.str)) := by
  induction h generalizing i with
  | nil => cases i <;> cases hi
  | cons e _ ih =>
    cases i with
    | zero =>
      cases hi
      exact ⟨_, _, rfl, rfl, e⟩
    | succ i => exact ih hi
end
/-- a pattern's parts -/
def PatOk (p : List Str) : Prop := ∃ (w : Str) (ts : List Str), p = w :: ts ∧ IsNm w ∧ ts.length ≤ 3 ∧ ∀ x ∈ ts, IsVr x ∨ IsNm x
section
variable {P : Program} {w : World} {K : PySem.W.Frag} {mg : Str → Option Value} {base : Heap}
/-- _law_pattern(purse, kinds, terms) -/
def spPattern (K : PySem.W.Frag) : Sp := fun vs H Q _ => ∃ (a b c : Addr) (n : Nat) (ks : List V) (zs : List Str), vs = [.ref a, .ref b, .ref c] ∧ Pu H a (n + 4) ∧ (SqL K H b ks ∧ b ≠ a ∧ 1 ≤ ks.length ∧ ks.length ≤ 1000 ∧ ∀ v ∈ ks, Kd H v) ∧
  (SqL K H c (zs.map V.str) ∧ c ≠ a ∧ 1 ≤ zs.length ∧ zs.length ≤ 1000) ∧
  ∀ (t : Addr) (wd : Str) (ts : List Str) (H' : Hp), IsWd wd → ts.length ≤ 3 → (∀ x ∈ ts, x ∈ zs) → H t = none → Pu H' a n → Sb a H H' → H' t = some (.tup ((wd :: ts).map V.str)) → Q (.ref t) H'
theorem scPattern : FnScope ["_law_purse_here", "_law_kinds_here", "_law_terms", "_law_word", "_law_many", "_law_turn"] ["_law_purse_here", "_law_kinds_here", "_law_terms"] (defScope sPattern) := ⟨rfl, rfl, rfl, by decide +kernel, rfl, by decide +kernel, by decide +kernel⟩
theorem ok_pattern {f fO : Addr} {fd fdO : FuncData} (F : Fun K "_law_pattern" "_law_pattern" sPattern f fd)
    (GO : FnOk P w K mg base CX0 3 fO fdO ["_law_purse_here", "_law_some"] (spOneOf K)) (kO : PySem.W.keepIn K (.ref fO) = true) (gO : mg "_law_one_of" = some (.ref fO)) (bO : Binds K fdO ["_law_purse_here", "_law_some"] []) (B : Bl mg) :
    FnOk P w K mg base CX0 4 f fd ["_law_purse_here", "_law_kinds_here", "_law_terms"] (spPattern K) := by
  refine F.ok scPattern (fun vs H Q E h => ?_) (fun cdv A outer s H vs Q E hr h => ?_)
  · obtain ⟨a, b, c, n, ks, zs, rfl, _⟩ := h
    rfl
  · obtain ⟨a, b, c, n, ks, zs, rfl, pu, ⟨hb, hba, hk1, hk2, hkd⟩, ⟨hc, hca, hz1, hz2⟩, q⟩ := h
    refine ⟨_, pss_cons (ps_asg (by exact (pe_call GO hr (by rfl) gO kO bO .nil pass0 (pa_cons (pv 0) (pa_cons (pv 1) pa_nil)))) (pg_tup (by rfl) (pgs_cons (pg_name (i := 3) scPattern.nd rfl (Or.inl rfl)) (pgs_cons (pg_name (i := 4) scPattern.nd rfl (Or.inl rfl)) pgs_nil))))
      (pss_one (ps_ret (pe_callTy call_tuple_of (by rfl) B.tup PyProof.Rows.boot_tuple (pa_cons (pe_op op_cat (pe_lst (pa_cons (pv 3) pa_nil))
        (by exact (pe_lc (own := [("_law_turn", 5)]) (g := gName 5) (tt := tYes) rfl scPattern.nd (pi_range1 (by rfl) B.rg (pa_cons (pv 4) pa_nil))
          (blkOk_by (own := [("_law_turn", 5)]) (N := ["_law_purse_here", "_law_kinds_here", "_law_terms", "_law_word", "_law_many", "_law_turn"]) (sc := defScope sPattern) (by decide +kernel))
          (fun _ _ _ _ _ => pg_name (i := 5) scPattern.nd rfl (Or.inl rfl)) (fun _ _ _ _ _ => pts_nil)
          (fun _ _ _ _ _ => by exact (pe_call GO hr (by rfl) gO kO bO .nil pass0 (pa_cons (pv 0) (pa_cons (pv 2) pa_nil))))))) pa_nil)))), ?_⟩
    refine ⟨_, rfl, _, rfl, a, b, n + 3, ks, rfl, pu, hb, hba, ⟨hk1, hk2⟩, fun v H1 hv pu1 sb1 => ?_⟩
    obtain ⟨t0, wd, m, rfl, e0, hw, hm⟩ := hkd v hv
    have e1 : H1 t0 = some (.tup [.str wd, .int (m : Int)]) := sb1 _ _ (tup_ne pu e0) e0
    refine ⟨t0, _, rfl, SqT.of e1, rfl, _, _, rfl, _, _, rfl, rfl, ?_⟩
    have hc1 := sb1.seq hca hc
    refine ⟨_, rfl, (by show 1 ≤ sizeLine; decide), fun l nl => ?_⟩
    have pu2 : Pu (upd H1 l (.lst [V.str wd])) a (n + 3) := pu1.put (pu1.ne nl)
    have sb2 : Sb a H (upd H1 l (.lst [V.str wd])) := sb1.put (sb1.free pu1 nl)
    have hc2 : SqL K (upd H1 l (.lst [V.str wd])) c (zs.map V.str) := (same_new nl).seq hc1
    have el : upd H1 l (.lst [V.str wd]) l = some (.lst [V.str wd]) := upd_same
    generalize upd H1 l (.lst [V.str wd]) = G at pu2 sb2 hc2 el ⊢
    refine ⟨_, rfl, (m : Int), rfl, by omega, by omega, fun D nD => ?_⟩
    have hDa := pu2.ne nD
    refine lc_range (lo := 0) (n := (m : Int).toNat) (fun i H' => ∃ ts : List Str, ts.length = i ∧ (∀ x ∈ ts, x ∈ zs) ∧ Pu H' a (n + (3 - i)) ∧ Sb a G H' ∧ H' D = some (.lst (ts.map V.str))) ⟨[], rfl, (fun x hx => nomatch hx), pu2.put hDa, Sb.new nD, upd_same⟩ ?_ ?_
    · rintro i H2 hi ⟨ts, hl, hts, pu3, sb3, e3⟩
      refine ⟨rfl, ?_⟩
      refine ⟨_, rfl, _, rfl, a, c, n + (3 - (i + 1)), zs.map V.str, rfl, pu3.le (by omega), sb3.seq hca hc2, hca, ⟨by rw [List.length_map]; exact hz1, by rw [List.length_map]; exact hz2⟩, fun v H3 hv pu4 sb4 => ?_⟩
      obtain ⟨z, hz, rfl⟩ := List.mem_map.mp hv
      refine ⟨_, sb4 _ _ hDa e3, by rw [List.length_map]; exact small1000 (by omega), ts ++ [z], by rw [List.length_append, hl] <;> rfl, ?_, pu4.put hDa, ?_, by rw [upd_same, List.map_append] <;> rfl⟩
      · intro x hx
        rcases List.mem_append.mp hx with h | h
        · exact hts x h
        · rw [List.mem_singleton.mp h]
          exact hz
      · exact (sb3.trans sb4).put nD
    · rintro H2 ⟨ts, hl, hts, pu3, sb3, e3⟩
      have hla : l ≠ a := by
        intro z
        obtain ⟨s, d, tt, kk, e2, _⟩ := pu2.ex
        rw [z, e2] at el
        injection el with el
        injection el with el
        cases el
      have el2 := sb3 _ _ hla el
      refine ⟨_, _, _, _, rfl, rfl, el2, e3, ?_, fun q1 nq => ?_⟩
      · rw [List.length_map]
        have := big1000
        show 1 + ts.length ≤ _
        omega
      · refine ⟨q1, _, rfl, .inl ⟨SqL.of upd_same, fun q2 nq2 => ?_⟩⟩
        have sb4 : Sb a H H2 := sb2.trans sb3
        have pu4 := pu3.put (o := .lst ([V.str wd] ++ ts.map V.str)) (pu3.ne nq)
        have sb5 : Sb a H (upd H2 q1 (.lst ([V.str wd] ++ ts.map V.str))) := sb4.put (sb4.free pu3 nq)
        refine q q2 wd ts _ hw (by omega) hts (sb5.free pu4 nq2) ((pu4.put (pu4.ne nq2)).le (by omega)) (sb5.put (sb5.free pu4 nq2)) upd_same
/-- _law_told(purse, kinds, names, most, few) -/
def spTold (K : PySem.W.Frag) : Sp := fun vs H Q _ => ∃ (a b c : Addr) (n most few : Nat) (ks : List V) (zs : List Str), vs = [.ref a, .ref b, .ref c, .int (most : Int), .int (few : Int)] ∧ Pu H a (n + (2 + 4 * most)) ∧ (1 ≤ few ∧ few ≤ 4 ∧ most ≤ 100) ∧
  (SqL K H b ks ∧ b ≠ a ∧ 1 ≤ ks.length ∧ ks.length ≤ 1000 ∧ ∀ v ∈ ks, Kd H v) ∧ (SqL K H c (zs.map V.str) ∧ c ≠ a ∧ zs.length ≤ 100 ∧ ∀ z ∈ zs, IsNm z) ∧
  ∀ (p : Addr) (us : List V) (ps : List (List Str)) (H' : Hp), PaL H' us ps → (∀ x ∈ ps, PatOk x) → ps.length ≤ most → H p = none → Pu H' a n → Sb a H H' → H' p = some (.lst us) → Q (.ref p) H'
theorem scTold : FnScope ["_law_purse_here", "_law_kinds_here", "_law_names_here", "_law_most", "_law_few", "_law_terms", "_law_many", "_law_turn"] ["_law_purse_here", "_law_kinds_here", "_law_names_here", "_law_most", "_law_few"] (defScope sTold) := ⟨rfl, rfl, rfl, by decide +kernel, rfl, by decide +kernel, by decide +kernel⟩
def four : List Str := ["X", "Y", "Z", "XYZ"]
theorem four_vr : ∀ z ∈ four, IsVr z := by decide +kernel
theorem ok_told {f fO fD fP : Addr} {fd fdO fdD fdP : FuncData} (F : Fun K "_law_told" "_law_told" sTold f fd)
    (GO : FnOk P w K mg base CX0 3 fO fdO ["_law_purse_here", "_law_some"] (spOneOf K)) (kO : PySem.W.keepIn K (.ref fO) = true) (gO : mg "_law_one_of" = some (.ref fO)) (bO : Binds K fdO ["_law_purse_here", "_law_some"] [])
    (GD : FnOk P w K mg base CX0 2 fD fdD ["_law_purse_here", "_law_many"] spDraw) (kD : PySem.W.keepIn K (.ref fD) = true) (gD : mg "_law_draw" = some (.ref fD)) (bD : Binds K fdD ["_law_purse_here", "_law_many"] [])
    (GP : FnOk P w K mg base CX0 4 fP fdP ["_law_purse_here", "_law_kinds_here", "_law_terms"] (spPattern K)) (kP : PySem.W.keepIn K (.ref fP) = true) (gP : mg "_law_pattern" = some (.ref fP)) (bP : Binds K fdP ["_law_purse_here", "_law_kinds_here", "_law_terms"] []) (B : Bl mg) :
    FnOk P w K mg base CX0 5 f fd ["_law_purse_here", "_law_kinds_here", "_law_names_here", "_law_most", "_law_few"] (spTold K) := by
  refine F.ok scTold (fun vs H Q E h => ?_) (fun cdv A outer s H vs Q E hr h => ?_)
  · obtain ⟨a, b, c, n, most, few, ks, zs, rfl, _⟩ := h
    rfl
  · obtain ⟨a, b, c, n, most, few, ks, zs, rfl, pu, ⟨hf1, hf2, hm⟩, ⟨hb, hba, hk1, hk2, hkd⟩, ⟨hc, hca, hz1, hz2⟩, q⟩ := h
    have hr2 : Room 2 _ := hr.mono (by decide)
    have hr3 : Room 3 _ := hr.mono (by decide)
    refine ⟨_, pss_cons (ps_set (i := 5) scTold.nd rfl (Or.inr rfl) (pe_op op_cat (pe_op op_rep (pe_slice sl_list (pe_lst (pa_cons pe_str (pa_cons pe_str (pa_cons pe_str (pa_cons pe_str pa_nil))))) po_none (po_some (pv 4))) pe_int)
        (pe_slice sl_list (pv 2) po_none (po_some (by exact (pe_call GD hr2 (by rfl) gD kD bD .nil pass0 (pa_cons (pv 0) (pa_cons pe_int pa_nil))))))))
      (pss_cons (ps_set (i := 6) scTold.nd rfl (Or.inl rfl) (by exact (pe_call GO hr3 (by rfl) gO kO bO .nil pass0 (pa_cons (pv 0) (pa_cons (pe_lst (pa_cons pe_int (pa_cons pe_int (pa_cons pe_int (pa_cons pe_int (pa_cons pe_int (pa_cons pe_int (pa_cons (pv 3) pa_nil)))))))) pa_nil)))))
      (pss_one (ps_ret (by exact (pe_lc (own := [("_law_turn", 7)]) (g := gName 7) (tt := tYes) rfl scTold.nd
        (pi_range1 (by rfl) B.rg (pa_cons (pe_callB (call_min2 rfl) (by rfl) B.min bootMin (pa_cons (pv 6) (pa_cons (pv 3) pa_nil))) pa_nil))
        (blkOk_by (own := [("_law_turn", 7)]) (N := ["_law_purse_here", "_law_kinds_here", "_law_names_here", "_law_most", "_law_few", "_law_terms", "_law_many", "_law_turn"]) (sc := defScope sTold) (by decide +kernel))
        (fun _ _ _ _ _ => pg_name (i := 7) scTold.nd rfl (Or.inl rfl)) (fun _ _ _ _ _ => pts_nil)
        (fun _ _ _ _ _ => by exact (pe_call GP hr (by rfl) gP kP bP .nil pass0 (pa_cons (pv 0) (pa_cons (pv 1) (pa_cons (pv 5) pa_nil))))))))))
      , ?_⟩
    refine ⟨(by show 4 ≤ sizeLine; decide), fun l nl => ⟨_, rfl, _, rfl, l, four.map V.str, rfl, SqL.of upd_same, fun l2 nl2 => ?_⟩⟩
    have hc1 : cutV (four.map V.str) none (some (few : Int)) = (four.take few).map V.str := by
      unfold cutV
      rw [HT.sIx_none, HT.sIx_nat, List.drop_zero, Nat.sub_zero, List.map_take, List.length_map]
      rw [Nat.min_eq_left (by show few ≤ 4; omega)]
    rw [hc1]
    have s2 : Same H (upd (upd H l (.lst (four.map V.str))) l2 (.lst ((four.take few).map V.str))) := same_put (same_new nl) ((same_new nl).free nl2)
    refine (show ∀ G : Hp, Same H G → G l2 = some (.lst ((four.take few).map V.str)) → _ from fun G2 s2 e2 => ?_) _ s2 upd_same
    refine ⟨l2, 3, _, rfl, rfl, e2, by decide, by decide, ?_, fun l3 nl3 => ?_⟩
    · rw [List.length_map, List.length_take]
      have := big1000
      show min few 4 * 3 ≤ _
      omega
    · have hrep : (List.replicate (3 : Int).toNat ((four.take few).map V.str)).flatten = ((four.take few) ++ (four.take few) ++ (four.take few)).map V.str := by
        show (List.replicate 3 _).flatten = _
        simp [List.replicate]
      rw [hrep]
      have hv3 : ∀ z ∈ (four.take few) ++ (four.take few) ++ (four.take few), IsVr z := by
        intro z hz
        simp only [List.mem_append] at hz
        rcases hz with (h | h) | h <;> exact four_vr z (List.mem_of_mem_take h)
      have hl3 : ((four.take few) ++ (four.take few) ++ (four.take few)).length = 3 * few := by
        rw [List.length_append, List.length_append, List.length_take]
        have : min few four.length = few := by
          show min few 4 = few
          omega
        rw [this]
        omega
      generalize (four.take few) ++ (four.take few) ++ (four.take few) = vs at hv3 hl3 ⊢
      refine (show ∀ G : Hp, Same H G → G l3 = some (.lst (vs.map V.str)) → _ from fun G3 s3 e3 => ?_) _ (same_put s2 (s2.free nl3)) upd_same
      have pu3 := pu.same s3
      refine ⟨_, rfl, _, rfl, a, n + (1 + 4 * most), 2, rfl, pu3.le (by omega), ⟨by decide, by decide⟩, fun r H1 h0 h1 pu4 sb4 => ?_⟩
      obtain ⟨j, rfl⟩ : ∃ j : Nat, r = (j : Int) := ⟨r.toNat, by omega⟩
      have hl3a : l3 ≠ a := fun z => by
        obtain ⟨s, d, t, kk, e, _⟩ := pu3.ex
        rw [z, e] at e3
        injection e3 with e3
        injection e3 with e3
        cases vs with
        | nil => cases e3
        | cons v vs =>
          injection e3 with e3 _
          cases e3
      have e4 := sb4 _ _ hl3a e3
      have sb5 : Sb a H H1 := (Sb.of s3).trans sb4
      refine ⟨_, rfl, c, zs.map V.str, rfl, sb5.seq hca hc, fun l4 nl4 => ?_⟩
      have hc2 : cutV (zs.map V.str) none (some (j : Int)) = (zs.take j).map V.str := by
        unfold cutV
        rw [HT.sIx_none, HT.sIx_nat, List.drop_zero, Nat.sub_zero, List.map_take, List.length_map]
        rcases Nat.le_total j zs.length with h | h
        · rw [Nat.min_eq_left h]
        · rw [Nat.min_eq_right h, ← List.map_take, ← List.map_take, List.take_of_length_le h, List.take_of_length_le (Nat.le_refl _)]
      rw [hc2]
      have pu5 := pu4.put (o := .lst ((zs.take j).map V.str)) (pu4.ne nl4)
      have sb6 : Sb a H (upd H1 l4 (.lst ((zs.take j).map V.str))) := sb5.put (sb5.free pu4 nl4)
      have e5 : upd H1 l4 (.lst ((zs.take j).map V.str)) l3 = some (.lst (vs.map V.str)) := same_new nl4 _ _ e4
      refine (show ∀ G : Hp, G l4 = some (.lst ((zs.take j).map V.str)) → Pu G a (n + (1 + 4 * most)) → Sb a H G → G l3 = some (.lst (vs.map V.str)) → _ from fun G4 e6 pu5 sb6 e5 => ?_) _ upd_same pu5 sb6 e5
      have hlen : (vs.map V.str ++ (zs.take j).map V.str).length ≤ 200 := by
        rw [List.length_append, List.length_map, List.length_map, List.length_take]
        omega
      refine ⟨_, _, _, _, rfl, rfl, e5, e6, ?_, fun l5 nl5 => ?_⟩
      · have := big1000
        rw [List.length_append] at hlen
        omega
      · rw [← List.map_append]
        rw [← List.map_append] at hlen
        have ht : ∀ z ∈ vs ++ zs.take j, IsVr z ∨ IsNm z := by
          intro z hz
          rcases List.mem_append.mp hz with h | h
          · exact .inl (hv3 z h)
          · exact .inr (hz2 z (List.mem_of_mem_take h))
        have ht1 : 1 ≤ (vs ++ zs.take j).length := by
          rw [List.length_append]
          omega
        generalize vs ++ zs.take j = ts at ht ht1 hlen ⊢
        rw [List.length_map] at hlen
        have l5a := pu5.ne nl5
        refine (show ∀ G : Hp, Pu G a (n + (1 + 4 * most)) → Sb a H G → G l5 = some (.lst (ts.map V.str)) → tSeq _ _ { nx := fun _ H' => Q .non H', rt := Q } [some (.ref a), some (.ref b), some (.ref c), some (.int (most : Int)), some (.int (few : Int)), some (.ref l5), none, none] G from fun G5 pu6 sb7 e7 => ?_) _ (pu5.put l5a) (sb6.put (sb6.free pu5 nl5)) upd_same
        refine ⟨_, rfl, _, rfl, (by show 7 ≤ sizeLine; decide), fun l6 nl6 => ?_⟩
        have pu7 := pu6.put (o := .lst [V.int 0, .int 1, .int 1, .int 1, .int 2, .int 2, .int (most : Int)]) (pu6.ne nl6)
        refine ⟨a, l6, n + 4 * most, [V.int 0, .int 1, .int 1, .int 1, .int 2, .int 2, .int (most : Int)], rfl, pu7.le (by omega), SqL.of upd_same, pu6.ne nl6, ⟨by show 1 ≤ 7; decide, by show 7 ≤ 1000; decide⟩, fun v H2 hv pu8 sb8 => ?_⟩
        obtain ⟨m, rfl, hm100⟩ : ∃ m : Nat, v = V.int (m : Int) ∧ m ≤ 100 := by
          simp only [List.mem_cons, List.not_mem_nil, or_false] at hv
          rcases hv with rfl | rfl | rfl | rfl | rfl | rfl | rfl
          · exact ⟨0, rfl, by decide⟩
          · exact ⟨1, rfl, by decide⟩
          · exact ⟨1, rfl, by decide⟩
          · exact ⟨1, rfl, by decide⟩
          · exact ⟨2, rfl, by decide⟩
          · exact ⟨2, rfl, by decide⟩
          · exact ⟨most, rfl, hm⟩
        have sb9 : Sb a G5 H2 := (Sb.new nl6).trans sb8
        have sb10 : Sb a H H2 := sb7.trans sb9
        have e8 : H2 l5 = some (.lst (ts.map V.str)) := sb9 _ _ l5a e7
        have hb2 := sb10.seq hba hb
        have hkd2 : ∀ v ∈ ks, Kd H2 v := fun v hv => (hkd v hv).sb pu sb10
        clear pu7 sb8
        refine ⟨_, rfl, _, rfl, (m : Int), (most : Int), rfl, ?_⟩
        generalize hM : (if (most : Int) < (m : Int) then (most : Int) else (m : Int)) = M
        have hM2 : 0 ≤ M ∧ M ≤ most := by
          rw [← hM]
          split <;> omega
        refine ⟨M, rfl, by omega, by omega, fun D nD => ?_⟩
        have Da := pu8.ne nD
        refine lc_range (lo := 0) (n := M.toNat) (fun i H' => ∃ (us : List V) (ps : List (List Str)), PaL H' us ps ∧ ps.length = i ∧ (∀ x ∈ ps, PatOk x) ∧ Pu H' a (n + 4 * (most - i)) ∧ Sb a H2 H' ∧ H' D = some (.lst us)) ⟨[], [], .nil, rfl, (fun x hx => nomatch hx), pu8.put Da, Sb.new nD, upd_same⟩ ?_ ?_
        · rintro i H3 hi ⟨us, ps, hp, hl, hok, pu9, sb11, e9⟩
          refine ⟨rfl, ?_⟩
          refine ⟨_, rfl, _, rfl, _, rfl, a, b, l5, n + 4 * (most - (i + 1)), ks, ts, rfl, pu9.le (by omega), ⟨sb11.seq hba hb2, hba, hk1, hk2, fun v hv => (hkd2 v hv).sb pu8 sb11⟩, ⟨SqL.of (sb11 _ _ l5a e8), l5a, ht1, by omega⟩, fun t wd xs H4 hw hx1 hx2 nt pu10 sb12 et => ?_⟩
          have e10 := sb12 _ _ Da e9
          have hD : t ≠ D := fun z => by
            rw [z, e9] at nt
            cases nt
          refine ⟨us, e10, by rw [hp.len, hl]; exact small1000 (by omega), us ++ [.ref t], ps ++ [wd :: xs], ?_, by rw [List.length_append, hl] <;> rfl, ?_, pu10.put Da, (sb11.trans sb12).put nD, upd_same⟩
          · have h1 : PaL H4 us ps := hp.sb pu9 sb12
            have nDt : ∀ {vs ps}, PaL H4 vs ps → PaL (upd H4 D (.lst (us ++ [.ref t]))) vs ps := fun {vs ps} h => by
              induction h with
              | nil => exact .nil
              | cons e _ ih =>
                refine .cons ?_ ih
                rw [upd_ne (fun z => by rw [z, e10] at e; cases e)]
                exact e
            exact (nDt h1).app (nDt (.cons et .nil))
          · intro x hx
            rcases List.mem_append.mp hx with h | h
            · exact hok x h
            · rw [List.mem_singleton.mp h]
              exact ⟨wd, xs, rfl, hw.1, hx1, fun y hy => ht y (hx2 y hy)⟩
        · rintro H3 ⟨us, ps, hp, hl, hok, pu9, sb11, e9⟩
          refine q D us ps H3 hp hok (by omega) (sb10.free pu8 nD) (pu9.le (by omega)) (sb10.trans sb11) e9
end
end Nv
set_option maxHeartbeats 4000000
namespace Nv
open PySem PySem.Spec PyProof.Rows L2
/-- the variables among terms, in the order in which they first stand there -/
def vst (acc : List Str) (x : Str) : List Str := if IsVr x ∧ x ∉ acc then acc ++ [x] else acc
def varsIn (ts : List Str) : List Str := ts.foldl vst []
def tails (ps : List (List Str)) : List Str := (ps.map List.tail).flatten
theorem vst_len (acc : List Str) (x : Str) : (vst acc x).length ≤ acc.length + 1 := by
  unfold vst
  split
  · rw [List.length_append] <;> exact Nat.le_refl _
  · omega
theorem fold_len : ∀ (ts acc : List Str), (ts.foldl vst acc).length ≤ acc.length + ts.length
  | [], acc => Nat.le_refl _
  | x :: ts, acc => by
    have h1 := fold_len ts (vst acc x)
    have h2 := vst_len acc x
    show (ts.foldl vst (vst acc x)).length ≤ acc.length + (ts.length + 1)
    omega
theorem fold_mem : ∀ (ts acc : List Str) (y : Str), y ∈ ts.foldl vst acc ↔ y ∈ acc ∨ (y ∈ ts ∧ IsVr y)
  | [], acc, y => by simp
  | x :: ts, acc, y => by
    show y ∈ ts.foldl vst (vst acc x) ↔ _
    rw [fold_mem ts (vst acc x) y]
    unfold vst
    by_cases h : IsVr x ∧ x ∉ acc
    · rw [if_pos h]
      constructor
      · rintro (h1 | h1)
        · rcases List.mem_append.mp h1 with h2 | h2
          · exact .inl h2
          · rw [List.mem_singleton.mp h2]
            exact .inr ⟨List.mem_cons_self, h.1⟩
        · exact .inr ⟨List.mem_cons_of_mem _ h1.1, h1.2⟩
      · rintro (h1 | ⟨h1, h2⟩)
        · exact .inl (List.mem_append_left _ h1)
        · rcases List.mem_cons.mp h1 with rfl | h1
          · exact .inl (List.mem_append_right _ (List.mem_singleton.mpr rfl))
          · exact .inr ⟨h1, h2⟩
    · rw [if_neg h]
      constructor
      · rintro (h1 | h1)
        · exact .inl h1
        · exact .inr ⟨List.mem_cons_of_mem _ h1.1, h1.2⟩
      · rintro (h1 | ⟨h1, h2⟩)
        · exact .inl h1
        · rcases List.mem_cons.mp h1 with rfl | h1
          · refine .inl ?_
            by_cases hm : y ∈ acc
            · exact hm
            · exact absurd ⟨h2, hm⟩ h
          · exact .inr ⟨h1, h2⟩
theorem varsIn_mem {ts : List Str} {y : Str} : y ∈ varsIn ts ↔ y ∈ ts ∧ IsVr y := by
  unfold varsIn
  rw [fold_mem]
  simp
theorem fold_nd : ∀ (ts acc : List Str), acc.Nodup → (ts.foldl vst acc).Nodup
  | [], acc, h => h
  | x :: ts, acc, h => by
    show (ts.foldl vst (vst acc x)).Nodup
    refine fold_nd ts _ ?_
    unfold vst
    split
    · rename_i hx
      rw [List.nodup_append]
      refine ⟨h, by simp, fun a ha b hb e => ?_⟩
      rw [List.mem_singleton.mp hb] at e
      exact hx.2 (e ▸ ha)
    · exact h
theorem varsIn_nd (ts : List Str) : (varsIn ts).Nodup := fold_nd ts [] List.nodup_nil
theorem varsIn_len (ts : List Str) : (varsIn ts).length ≤ ts.length := by
  have := fold_len ts []
  simpa [varsIn] using this
theorem tails_take {ps : List (List Str)} {i : Nat} {p : List Str} (h : ps[i]? = some p) : tails (ps.take (i + 1)) = tails (ps.take i) ++ p.tail := by
  unfold tails
  rw [List.take_add_one, h, List.map_append, List.flatten_append]
  simp
theorem tails_len {ps : List (List Str)} (h : ∀ x ∈ ps, PatOk x) : (tails ps).length ≤ 3 * ps.length := by
  induction ps with
  | nil => simp [tails]
  | cons p ps ih =>
    obtain ⟨w, ts, rfl, _, h3, _⟩ := h p List.mem_cons_self
    have h2 := ih fun x hx => h x (List.mem_cons_of_mem _ hx)
    have e : tails ((w :: ts) :: ps) = ts ++ tails ps := by simp [tails]
    rw [e, List.length_append, List.length_cons]
    omega
theorem nm_not_vr {z : Str} (h : IsNm z) : ¬ IsVr z := fun v => upper_nm h (upper_vr v)
theorem cut1 (w : Str) (ts : List Str) : cutV ((w :: ts).map V.str) (some 1) none = ts.map V.str := by
  unfold cutV
  have e : HT.sIx ((w :: ts).map V.str).length 0 (some (1 : Int)) = 1 := by
    have := HT.sIx_nat ((w :: ts).map V.str).length 0 1
    rw [show ((1 : Nat) : Int) = 1 by rfl] at this
    rw [this, List.length_map, List.length_cons]
    omega
  rw [e, HT.sIx_none, List.length_map, List.length_cons]
  show (ts.map V.str).take (ts.length + 1 - 1) = _
  rw [Nat.add_sub_cancel, List.take_of_length_le (by rw [List.length_map]; exact Nat.le_refl _)]
section
variable {P : Program} {w : World} {K : PySem.W.Frag} {mg : Str → Option Value} {base : Heap}
/-- _law_variables(told) -/
def spVariables (K : PySem.W.Frag) : Sp := fun vs H Q _ => ∃ (a : Addr) (us : List V) (ps : List (List Str)), vs = [.ref a] ∧ SqL K H a us ∧ PaL H us ps ∧ (∀ x ∈ ps, PatOk x) ∧ ps.length ≤ 1000 ∧
  ∀ (p : Addr) (H' : Hp), H p = none → Same H H' → H' p = some (.lst ((varsIn (tails ps)).map V.str)) → Q (.ref p) H'
theorem scVariables : FnScope ["_law_told_here", "_law_found", "_law_pattern_here", "_law_term"] ["_law_told_here"] (defScope sVariables) := ⟨rfl, rfl, rfl, by decide +kernel, rfl, by decide +kernel, by decide +kernel⟩
theorem ok_variables {f : Addr} {fd : FuncData} (F : Fun K "_law_variables" "_law_variables" sVariables f fd) : FnOk P w K mg base CX0 1 f fd ["_law_told_here"] (spVariables K) := by
  refine F.ok scVariables (fun vs H Q E h => ?_) (fun cdv A outer s H vs Q E hr h => ?_)
  · obtain ⟨a, us, ps, rfl, _⟩ := h
    rfl
  · obtain ⟨a, us, ps, rfl, ha, hp, hok, hl, q⟩ := h
    refine ⟨_, pss_cons (ps_set (i := 1) scVariables.nd rfl (Or.inl rfl) (pe_lst pa_nil))
      (pss_cons (ps_for PassesOwn.never rfl (pi_list (pv 0)) (pg_name (i := 2) scVariables.nd rfl (Or.inl rfl))
        (pss_one (ps_for PassesOwn.never rfl (pi_tup (pe_slice sl_tup (pv 2) (po_some pe_int) po_none)) (pg_name (i := 3) scVariables.nd rfl (Or.inl rfl))
          (pss_one (ps_if (PW.pt (pw_and (pt_cmpR op_eq (pv 3) (pe_upper (pv 3)) (nomark _)) (pw_and1 (pt_cmpR op_notIn_seq (pv 3) (pv 1) (by rfl)))))
            (pss_one (ps_expr (pe_bm PySem.F.plainAttrs_list PySem.F.slot_list_append PySem.F.type_list_append mt_append (pv 1) (pa_cons (pv 3) pa_nil)))) pss_nil)))))
      (pss_one (ps_ret (pv 1)))), ?_⟩
    refine ⟨by decide, fun p np => ?_⟩
    have hul := hp.len
    refine ⟨_, rfl, a, rfl, ⟨_, (same_new np).seq ha⟩, for_list (K := K) (a := a) (xs := us) (fun i σ H' => ∃ (o2 o3 : Option V), σ = [some (.ref a), some (.ref p), o2, o3] ∧ Same H H' ∧ H' p = some (.lst ((varsIn (tails (ps.take i))).map V.str))) ⟨none, none, rfl, same_new np, upd_same⟩ (fun i σ H' _ z => ?_) ?_ ?_⟩
    · obtain ⟨_, _, _, sm, _⟩ := z
      exact sm.seq ha
    · rintro i v σ H1 hi ⟨o2, o3, rfl, sm, e1⟩
      obtain ⟨t, pat, rfl, hpi, et⟩ := hp.at_ hi
      obtain ⟨wd, ts, rfl, hw, h3, hts⟩ := hok pat (List.mem_of_getElem? hpi)
      have et1 := sm _ _ et
      have hacc : (varsIn (tails (ps.take i))).length ≤ 3000 := by
        have h1 := varsIn_len (tails (ps.take i))
        have h2 := tails_len (ps := ps.take i) fun x hx => hok x (List.mem_of_mem_take hx)
        rw [List.length_take] at h2
        omega
      rw [tails_take hpi]
      show tFor _ _ _ _ _ _
      have hfold : varsIn (tails (ps.take i) ++ (wd :: ts).tail) = ts.foldl vst (varsIn (tails (ps.take i))) := by
        unfold varsIn
        rw [List.foldl_append] <;> rfl
      rw [hfold]
      generalize varsIn (tails (ps.take i)) = acc at e1 hacc ⊢
      refine ⟨_, rfl, 1, rfl, t, _, rfl, SqT.of et1, ?_, fun t2 nt2 => ?_⟩
      · rintro ⟨h, _⟩
        have := HT.sIx_nat ((wd :: ts).map V.str).length 0 1
        rw [show ((1 : Nat) : Int) = 1 by rfl] at this
        rw [this, List.length_map, List.length_cons] at h
        omega
      · rw [cut1]
        have sm2 : Same H (upd H1 t2 (.tup (ts.map V.str))) := same_put sm (sm.free nt2)
        have e2 : upd H1 t2 (.tup (ts.map V.str)) p = some (.lst (acc.map V.str)) := same_new nt2 _ _ e1
        refine (show ∀ G : Hp, G t2 = some (.tup (ts.map V.str)) → Same H G → G p = some (.lst (acc.map V.str)) → _ from fun G et2 sm2 e2 => ?_) _ upd_same sm2 e2
        refine ⟨t2, rfl, ⟨_, SqT.of et2⟩, for_tup (K := K) (a := t2) (xs := ts.map V.str) (fun j σ H' => ∃ (o3 : Option V), σ = [some (.ref a), some (.ref p), some (.ref t), o3] ∧ Same H H' ∧ H' t2 = some (.tup (ts.map V.str)) ∧ H' p = some (.lst (((ts.take j).foldl vst acc).map V.str))) ⟨o3, rfl, sm2, et2, e2⟩ (fun j σ H' _ z => ?_) ?_ ?_⟩
        · obtain ⟨_, _, _, e, _⟩ := z
          exact SqT.of e
        · rintro j x σ H2 hj ⟨o, rfl, sm3, et3, e3⟩
          rw [List.getElem?_map] at hj
          obtain ⟨z, hz, rfl⟩ : ∃ z, ts[j]? = some z ∧ x = V.str z := by
            cases g : ts[j]? with
            | none =>
              rw [g] at hj
              cases hj
            | some z =>
              rw [g] at hj
              exact ⟨z, rfl, (Option.some.inj hj).symm⟩
          have hzt := hts z (List.mem_of_getElem? hz)
          have hzl : z.length ≤ 10 := by
            rcases hzt with h | h
            · have := h.2.1
              omega
            · exact h.2.1
          have htk : (ts.take (j + 1)).foldl vst acc = vst ((ts.take j).foldl vst acc) z := by
            rw [List.take_add_one, hz, List.foldl_append] <;> rfl
          rw [htk]
          have hal : ((ts.take j).foldl vst acc).length ≤ 3003 := by
            have := fold_len (ts.take j) acc
            rw [List.length_take] at this
            omega
          generalize (ts.take j).foldl vst acc = ac at e3 hal ⊢
          have hpt : t2 ≠ p := fun y => by
            rw [y, e3] at et3
            cases et3
          refine ⟨_, rfl, _, rfl, ⟨_, rfl⟩, z, rfl, rfl, (by omega), rfl, _, rfl, ?_⟩
          by_cases hv : IsVr z
          · rw [upper_vr hv, decide_eq_true rfl]
            refine iteT ⟨_, rfl, _, rfl, p, _, rfl, .inl (SqL.of e3), rfl, flat_strs _, _, rfl, ?_⟩
            rw [inV_strs]
            by_cases hm : z ∈ ac
            · rw [decide_eq_true hm]
              refine iteF ?_
              refine ⟨_, rfl, sm3, et3, ?_⟩
              unfold vst
              rw [if_neg (fun h => h.2 hm)]
              exact e3
            · rw [decide_eq_false hm]
              refine iteT ⟨_, rfl, .inl ⟨rfl, _, SqL.of e3⟩, _, rfl, p, _, _, rfl, rfl, e3, ?_, ?_⟩
              · rw [List.length_map]
                exact Nat.lt_of_le_of_lt hal (by decide)
              · refine ⟨_, rfl, same_put sm3 np, ?_, ?_⟩
                · rw [upd_ne hpt]
                  exact et3
                · unfold vst
                  rw [upd_same, if_pos ⟨hv, hm⟩, List.map_append] <;> rfl
          · have hn : IsNm z := hzt.resolve_left hv
            have hne : ¬ V.str z = V.str (Txt.upper z) := fun e => by
              injection e with e
              exact upper_nm hn e.symm
            rw [decide_eq_false hne]
            refine iteF ?_
            refine iteF ?_
            refine ⟨_, rfl, sm3, et3, ?_⟩
            unfold vst
            rw [if_neg (fun h => hv h.1)]
            exact e3
        · rintro σ H2 ⟨o, rfl, sm3, et3, e3⟩
          rw [List.length_map, List.take_length] at e3
          exact ⟨_, _, rfl, sm3, e3⟩
    · rintro σ H1 ⟨o2, o3, rfl, sm, e1⟩
      rw [hul, List.take_length] at e1
      exact ⟨_, rfl, q p H1 np sm e1⟩
end
end Nv
set_option maxHeartbeats 4000000
namespace Nv
open PySem PySem.Spec PyProof.Rows L2
theorem layAll : ∀ {ds : List PyData}, (∀ d ∈ ds, d.canLay0 = true ∧ d.depth ≤ 50) → PyData.canLayAll0 ds = true ∧ PyData.depthAll ds ≤ 50
  | [], _ => ⟨by simp [PyData.canLayAll0], by simp [PyData.depthAll]⟩
  | d :: ds, h => by
    obtain ⟨h1, h2⟩ := h d List.mem_cons_self
    obtain ⟨h3, h4⟩ := layAll (ds := ds) fun x hx => h x (List.mem_cons_of_mem _ hx)
    refine ⟨by simp [PyData.canLayAll0, h1, h3], ?_⟩
    simp only [PyData.depthAll]
    omega
/-- data that can be laid, of a depth of at most n -/
def Lay (n : Nat) (d : PyData) : Prop := d.canLay0 = true ∧ d.depth ≤ n
/-- signs of ASCII alone -/
def Asc (z : Str) : Prop := ∀ c ∈ z.cps.toList, c < 128
theorem IsNm.asc {z : Str} (h : IsNm z) : Asc z := fun c hc => by
  have := h.2.2 c hc
  omega
theorem IsVr.asc {z : Str} (h : IsVr z) : Asc z := fun c hc => by
  have := h.2.2 c hc
  omega
theorem PatOk.asc {p : List Str} (h : PatOk p) : ∀ x ∈ p, Asc x := by
  obtain ⟨w, ts, rfl, hw, _, ht⟩ := h
  intro x hx
  rcases List.mem_cons.mp hx with rfl | hx
  · exact hw.asc
  · rcases ht x hx with h | h
    · exact h.asc
    · exact h.asc
theorem Asc.ok {z : Str} (h : Asc z) : PyData.strOk z = true := by
  unfold PyData.strOk
  rw [Array.all_eq_true']
  intro c hc
  have := h c (by simpa using hc)
  simp
  omega
theorem lay_str {x : Str} (h : Asc x) : Lay 0 (.str x) := ⟨by simp [PyData.canLay0, h.ok], by simp [PyData.depth]⟩
theorem lay_non : Lay 0 .none := ⟨by simp [PyData.canLay0], by simp [PyData.depth]⟩
theorem Lay.le {n m : Nat} {d : PyData} (h : Lay n d) (l : n ≤ m) : Lay m d := ⟨h.1, Nat.le_trans h.2 l⟩
theorem lay_all {n : Nat} : ∀ {ds : List PyData}, (∀ d ∈ ds, Lay n d) → PyData.canLayAll0 ds = true ∧ PyData.depthAll ds ≤ n
  | [], _ => ⟨by simp [PyData.canLayAll0], by simp [PyData.depthAll]⟩
  | d :: ds, h => by
    obtain ⟨h1, h2⟩ := h d List.mem_cons_self
    obtain ⟨h3, h4⟩ := lay_all (ds := ds) fun x hx => h x (List.mem_cons_of_mem _ hx)
    refine ⟨by simp [PyData.canLayAll0, h1, h3], ?_⟩
    simp only [PyData.depthAll]
    omega
theorem lay_list {n : Nat} {ds : List PyData} (h : ∀ d ∈ ds, Lay n d) : Lay (n + 1) (.list ds) := by
  obtain ⟨h1, h2⟩ := lay_all h
  refine ⟨by simpa [PyData.canLay0] using h1, ?_⟩
  simp only [PyData.depth]
  omega
theorem lay_tup {n : Nat} {ds : List PyData} (h : ∀ d ∈ ds, Lay n d) : Lay (n + 1) (.tuple ds) := by
  obtain ⟨h1, h2⟩ := lay_all h
  refine ⟨by simpa [PyData.canLay0] using h1, ?_⟩
  simp only [PyData.depth]
  omega
theorem Lay.shaped {n : Nat} {d : PyData} (h : Lay n d) (hn : n ≤ 50) : SeqAt.shaped d = true := by
  refine Bool.and_eq_true_iff.mpr ⟨h.1, decide_eq_true ?_⟩
  have := h.2
  omega
/-- a tuple of texts, a list of such, a list of texts, as data -/
def dT (p : List Str) : PyData := .tuple (p.map PyData.str)
def dL (ps : List (List Str)) : PyData := .list (ps.map dT)
def dS (xs : List Str) : PyData := .list (xs.map PyData.str)
theorem lay_dT {p : List Str} (h : ∀ x ∈ p, Asc x) : Lay 1 (dT p) := lay_tup fun d hd => by
  obtain ⟨x, hx, rfl⟩ := List.mem_map.mp hd
  exact lay_str (h x hx)
theorem lay_dL {ps : List (List Str)} (h : ∀ p ∈ ps, ∀ x ∈ p, Asc x) : Lay 2 (dL ps) := lay_list fun d hd => by
  obtain ⟨x, hx, rfl⟩ := List.mem_map.mp hd
  exact lay_dT (h x hx)
theorem lay_dS {xs : List Str} (h : ∀ x ∈ xs, Asc x) : Lay 1 (dS xs) := lay_list fun d hd => by
  obtain ⟨x, hx, rfl⟩ := List.mem_map.mp hd
  exact lay_str (h x hx)
theorem dp_strs {K : PySem.W.Frag} {H : Hp} : ∀ xs : List Str, DpAll K H (xs.map V.str) (xs.map PyData.str)
  | [] => .nil
  | x :: xs => .cons (.str x) (dp_strs xs)
theorem dp_T {K : PySem.W.Frag} {H : Hp} {t : Addr} {p : List Str} (e : H t = some (.tup (p.map V.str))) : Dp K H (.ref t) (dT p) := .tup (SqT.of e) (dp_strs p)
theorem dp_S {K : PySem.W.Frag} {H : Hp} {t : Addr} {p : List Str} (e : SqL K H t (p.map V.str)) : Dp K H (.ref t) (dS p) := .lst e (dp_strs p)
theorem PaL.dp {K : PySem.W.Frag} {H : Hp} {vs : List V} {ps : List (List Str)} (h : PaL H vs ps) : DpAll K H vs (ps.map dT) := by
  induction h with
  | nil => exact .nil
  | cons e _ ih => exact .cons (dp_T e) ih
theorem dp_L {K : PySem.W.Frag} {H : Hp} {t : Addr} {vs : List V} {ps : List (List Str)} (e : SqL K H t vs) (h : PaL H vs ps) : Dp K H (.ref t) (dL ps) := .lst e h.dp
theorem eqv_strs : ∀ xs ys : List Str, PyData.eqvAll (xs.map PyData.str) (ys.map PyData.str) = decide (xs = ys)
  | [], [] => by simp [PyData.eqvAll]
  | [], y :: ys => by simp [PyData.eqvAll]
  | x :: xs, [] => by simp [PyData.eqvAll]
  | x :: xs, y :: ys => by
    rw [List.map_cons, List.map_cons, PyData.eqvAll, eqv_strs xs ys, PyData.eqv]
    by_cases h : x = y
    · subst h
      simp
    · have : (x == y) = false := by simpa using h
      simp [this, h]
theorem eqv_T (p q : List Str) : PyData.eqv (dT p) (dT q) = decide (p = q) := by
  unfold dT
  rw [PyData.eqv, eqv_strs]
theorem eqv_S (p q : List Str) : PyData.eqv (dS p) (dS q) = decide (p = q) := by
  unfold dS
  rw [PyData.eqv, eqv_strs]
theorem eqv_Ts : ∀ ps qs : List (List Str), PyData.eqvAll (ps.map dT) (qs.map dT) = decide (ps = qs)
  | [], [] => by simp [PyData.eqvAll]
  | [], y :: ys => by simp [PyData.eqvAll]
  | x :: xs, [] => by simp [PyData.eqvAll]
  | x :: xs, y :: ys => by
    rw [List.map_cons, List.map_cons, PyData.eqvAll, eqv_Ts xs ys, eqv_T]
    by_cases h : x = y
    · subst h
      simp
    · simp [h]
theorem eqv_L (ps qs : List (List Str)) : PyData.eqv (dL ps) (dL qs) = decide (ps = qs) := by
  unfold dL
  rw [PyData.eqv, eqv_Ts]
end Nv
set_option maxHeartbeats 4000000
namespace Nv
open PySem PySem.Spec PyProof.Rows L2
/-- a pair of unlike terms, one of them at least among the variables vs -/
def PrOk (vs : List Str) (q : List Str) : Prop := ∃ x y, q = [x, y] ∧ x ≠ y ∧ (x ∈ vs ∨ IsNm x) ∧ (y ∈ vs ∨ IsNm y) ∧ (x ∈ vs ∨ y ∈ vs)
section
variable {P : Program} {w : World} {K : PySem.W.Frag} {mg : Str → Option Value} {base : Heap}
/-- _law_pairs(purse, told, names) -/
def spPairs (K : PySem.W.Frag) : Sp := fun vs H Q _ => ∃ (a b c : Addr) (n : Nat) (us : List V) (ps : List (List Str)) (zs : List Str), vs = [.ref a, .ref b, .ref c] ∧ Pu H a (n + 5) ∧ (SqL K H b us ∧ PaL H us ps ∧ (∀ x ∈ ps, PatOk x) ∧ ps.length ≤ 300) ∧
  (SqL K H c (zs.map V.str) ∧ c ≠ a ∧ zs.length ≤ 100 ∧ ∀ z ∈ zs, IsNm z) ∧
  ∀ (p : Addr) (ws : List V) (qs : List (List Str)) (H' : Hp), PaL H' ws qs → qs.length ≤ 1 → (∀ x ∈ qs, PrOk (varsIn (tails ps)) x) → H p = none → Pu H' a n → Sb a H H' → H' p = some (.lst ws) → Q (.ref p) H'
theorem scPairs : FnScope ["_law_purse_here", "_law_told_here", "_law_names_here", "_law_some", "_law_one", "_law_others", "_law_term"] ["_law_purse_here", "_law_told_here", "_law_names_here"] (defScope sPairs) := ⟨rfl, rfl, rfl, by decide +kernel, rfl, by decide +kernel, by decide +kernel⟩
theorem two_perm {α : Type} {x y : α} {zs : List α} (h : zs.Perm [x, y]) : zs = [x, y] ∨ zs = [y, x] := by
  have hl := h.length_eq
  match zs, hl with
  | [u, v], _ =>
    have hu : u = x ∨ u = y := by
      have := h.mem_iff.mp (List.mem_cons_self (a := u))
      simpa using this
    rcases hu with rfl | rfl
    · have h2 := (List.perm_cons u).mp h
      have := h2.mem_iff.mp (List.mem_singleton.mpr rfl : v ∈ [v])
      rw [List.mem_singleton.mp this]
      exact .inl rfl
    · have h2 : [v].Perm [x] := by
        have h3 : (u :: [v]).Perm (u :: [x]) := h.trans (List.Perm.swap _ _ _)
        exact (List.perm_cons u).mp h3
      have := h2.mem_iff.mp (List.mem_singleton.mpr rfl : v ∈ [v])
      rw [List.mem_singleton.mp this]
      exact .inr rfl
theorem ok_pairs {f fV fD fO fS : Addr} {fd fdV fdD fdO fdS : FuncData} (F : Fun K "_law_pairs" "_law_pairs" sPairs f fd)
    (GV : FnOk P w K mg base CX0 1 fV fdV ["_law_told_here"] (spVariables K)) (kV : PySem.W.keepIn K (.ref fV) = true) (gV : mg "_law_variables" = some (.ref fV)) (bV : Binds K fdV ["_law_told_here"] [])
    (GD : FnOk P w K mg base CX0 2 fD fdD ["_law_purse_here", "_law_many"] spDraw) (kD : PySem.W.keepIn K (.ref fD) = true) (gD : mg "_law_draw" = some (.ref fD)) (bD : Binds K fdD ["_law_purse_here", "_law_many"] [])
    (GO : FnOk P w K mg base CX0 3 fO fdO ["_law_purse_here", "_law_some"] (spOneOf K)) (kO : PySem.W.keepIn K (.ref fO) = true) (gO : mg "_law_one_of" = some (.ref fO)) (bO : Binds K fdO ["_law_purse_here", "_law_some"] [])
    (GS : FnOk P w K mg base CX0 3 fS fdS ["_law_purse_here", "_law_some"] (spShuffled K)) (kS : PySem.W.keepIn K (.ref fS) = true) (gS : mg "_law_shuffled" = some (.ref fS)) (bS : Binds K fdS ["_law_purse_here", "_law_some"] []) (B : Bl mg) :
    FnOk P w K mg base CX0 4 f fd ["_law_purse_here", "_law_told_here", "_law_names_here"] (spPairs K) := by
  refine F.ok scPairs (fun vs H Q E h => ?_) (fun cdv A outer s H vs Q E hr h => ?_)
  · obtain ⟨a, b, c, n, us, ps, zs, rfl, _⟩ := h
    rfl
  · obtain ⟨a, b, c, n, us, ps, zs, rfl, pu, ⟨hb, hps, hok, hpl⟩, ⟨hc, hca, hz1, hz2⟩, q⟩ := h
    have hr1 : Room 1 _ := hr.mono (by decide)
    have hr2 : Room 2 _ := hr.mono (by decide)
    refine ⟨_, pss_cons (ps_set (i := 3) scPairs.nd rfl (Or.inl rfl) (by exact (pe_call GV hr1 (by rfl) gV kV bV .nil pass0 (pa_cons (pv 1) pa_nil))))
      (pss_cons (ps_if (PW.pt (pw_or (pt_cmpR (op_eqD hr.units) (pv 3) (pe_lst pa_nil) (nomark _)) (pw_or1 (pt_cmpR op_gt (by exact (pe_call GD hr2 (by rfl) gD kD bD .nil pass0 (pa_cons (pv 0) (pa_cons pe_int pa_nil)))) pe_int (nomark _)))))
        (pss_one (ps_ret (pe_lst pa_nil))) pss_nil)
      (pss_cons (ps_set (i := 4) scPairs.nd rfl (Or.inr rfl) (by exact (pe_call GO hr (by rfl) gO kO bO .nil pass0 (pa_cons (pv 0) (pa_cons (pv 3) pa_nil)))))
      (pss_cons (ps_setLc (i := 5) (own := [("_law_term", 6)]) (g := gName 6) (tt := tTest (tOp rNe (tVar 6) (tVar 4))) (te := tVar 6) rfl scPairs.nd rfl rfl (sw_true rfl rfl rfl (by decide +kernel))
        (pi_list (pe_op op_cat (pv 3) (pe_slice sl_list (pv 2) po_none (po_some pe_int))))
        (blkOk_by (own := [("_law_term", 6)]) (N := ["_law_purse_here", "_law_told_here", "_law_names_here", "_law_some", "_law_one", "_law_others", "_law_term"]) (sc := defScope sPairs) (by decide +kernel))
        (fun _ _ _ _ _ => pg_name (i := 6) scPairs.nd rfl (Or.inl rfl)) (fun _ _ _ _ _ => pts_one (by exact (pt_cmpR op_ne (pv 6) (pv 4) (nomark _)))) (fun _ _ _ _ _ => by exact (pv 6)))
      (pss_one (ps_ret (pe_ifExp (pt_cmpR (op_neD hr.units) (pv 5) (pe_lst pa_nil) (nomark _))
        (pe_lst (pa_cons (pe_callTy call_tuple_of (by rfl) B.tup PyProof.Rows.boot_tuple (pa_cons (by exact (pe_call GS hr (by rfl) gS kS bS .nil pass0 (pa_cons (pv 0) (pa_cons
          (pe_lst (pa_cons (pv 4) (pa_cons (by exact (pe_call GO hr (by rfl) gO kO bO .nil pass0 (pa_cons (pv 0) (pa_cons (pv 5) pa_nil)))) pa_nil))) pa_nil)))) pa_nil)) pa_nil))
        (pe_lst pa_nil))))))), ?_⟩
    refine ⟨_, rfl, b, us, ps, rfl, hb, hps, hok, (by omega), fun p1 H1 np1 sm1 e1 => ?_⟩
    refine (show ∀ vs : List Str, varsIn (tails ps) = vs → H1 p1 = some (.lst (vs.map V.str)) → tSeq _ _ { nx := fun _ H' => Q .non H', rt := Q } [some (.ref a), some (.ref b), some (.ref c), some (.ref p1), none, none, none] H1 from fun vs hvs e1 => ?_) _ rfl e1
    have hv : ∀ x ∈ vs, IsVr x := fun x hx => by
      rw [← hvs] at hx
      exact (varsIn_mem.mp hx).2
    have hvl : vs.length ≤ 900 := by
      rw [← hvs]
      have h1 := varsIn_len (tails ps)
      have h2 := tails_len hok
      omega
    rw [hvs] at q
    have pu1 := pu.same sm1
    have p1a : p1 ≠ a := pu.ne np1
    refine ⟨_, rfl, by decide, fun l nl => ?_⟩
    have pu2 := pu1.put (o := .lst []) (pu1.ne nl)
    have sm2 : Same H (upd H1 l (.lst [])) := same_put sm1 (sm1.free nl)
    have e2 : upd H1 l (.lst []) p1 = some (.lst (vs.map V.str)) := same_new nl _ _ e1
    refine ⟨dS vs, dS [], dp_S (SqL.of e2), .lst (SqL.of upd_same) .nil, (lay_dS fun x hx => (hv x hx).asc).shaped (by decide), (lay_dS (xs := []) (fun x hx => nomatch hx)).shaped (by decide), _, rfl, ?_⟩
    rw [eqv_S]
    generalize upd H1 l (.lst []) = G2 at pu2 sm2 e2 ⊢
    by_cases hvs0 : vs = []
    · rw [decide_eq_true hvs0]
      refine iteT (iteT ?_)
      refine ⟨by decide, fun p np => ?_⟩
      exact q p [] [] _ .nil (by decide) (fun x hx => nomatch hx) (sm2.free np) ((pu2.put (pu2.ne np)).le (by omega)) (Sb.of (same_put sm2 (sm2.free np))) upd_same
    · rw [decide_eq_false hvs0]
      refine iteF ?_
      refine ⟨_, rfl, a, n + 4, 3, rfl, pu2, ⟨by decide, by decide⟩, fun r H3 h0 h1 pu3 sb3 => ?_⟩
      have e3 := sb3 _ _ p1a e2
      have sb3' : Sb a H H3 := (Sb.of sm2).trans sb3
      refine ⟨_, _, rfl, rfl, _, rfl, ?_⟩
      by_cases hr0 : r > 0
      · rw [decide_eq_true hr0]
        refine iteT ?_
        refine ⟨by decide, fun p np => ?_⟩
        exact q p [] [] _ .nil (by decide) (fun x hx => nomatch hx) (sb3'.free pu3 np) ((pu3.put (pu3.ne np)).le (by omega)) (sb3'.put (sb3'.free pu3 np)) upd_same
      · rw [decide_eq_false hr0]
        refine iteF ?_
        have hv1 : 1 ≤ (vs.map V.str).length := by
          rw [List.length_map]
          cases vs with
          | nil => exact absurd rfl hvs0
          | cons x xs => simp
        refine ⟨_, rfl, _, rfl, a, p1, n + 3, vs.map V.str, rfl, pu3, SqL.of e3, p1a, ⟨hv1, ?_⟩, fun v1 H4 hv4 pu4 sb4 => ?_⟩
        · rw [List.length_map]
          omega
        · obtain ⟨one, hone, rfl⟩ := List.mem_map.mp hv4
          have e4 := sb4 _ _ p1a e3
          have sb4' := sb3'.trans sb4
          refine (show ∀ G : Hp, G = H4 → tSeq _ _ { nx := fun _ H' => Q .non H', rt := Q } [some (.ref a), some (.ref b), some (.ref c), some (.ref p1), some (.str one), none, none] G from fun G hG => ?_) _ rfl
          subst hG
          refine ⟨_, rfl, _, rfl, 1, rfl, c, _, rfl, sb4'.seq hca hc, fun l2 nl2 => ?_⟩
          have hcz : cutV (zs.map V.str) none (some 1) = (zs.take 1).map V.str := by
            unfold cutV
            have hx := HT.sIx_nat (zs.map V.str).length (zs.map V.str).length 1
            rw [show ((1 : Nat) : Int) = 1 by rfl] at hx
            rw [HT.sIx_none, hx, List.drop_zero, Nat.sub_zero, List.length_map, List.map_take]
            cases zs with
            | nil => rfl
            | cons z zs =>
              rw [List.length_cons, Nat.min_eq_left (by omega)]
          rw [hcz]
          have pu5 := pu4.put (o := .lst ((zs.take 1).map V.str)) (pu4.ne nl2)
          have sb5 : Sb a H (upd G l2 (.lst ((zs.take 1).map V.str))) := sb4'.put (sb4'.free pu4 nl2)
          have e5 : upd G l2 (.lst ((zs.take 1).map V.str)) p1 = some (.lst (vs.map V.str)) := same_new nl2 _ _ e4
          have e6 : upd G l2 (.lst ((zs.take 1).map V.str)) l2 = some (.lst ((zs.take 1).map V.str)) := upd_same
          generalize upd G l2 (.lst ((zs.take 1).map V.str)) = G5 at pu5 sb5 e5 e6 ⊢
          refine ⟨_, _, _, _, rfl, rfl, e5, e6, ?_, fun l3 nl3 => ?_⟩
          · rw [List.length_map, List.length_map, List.length_take]
            exact Nat.le_trans (by omega : _ ≤ 3001) (by decide)
          · rw [← List.map_append]
            have hx : ∀ x ∈ vs ++ zs.take 1, x ∈ vs ∨ IsNm x := fun x hx => by
              rcases List.mem_append.mp hx with h | h
              · exact .inl h
              · exact .inr (hz2 x (List.mem_of_mem_take h))
            have hxl : (vs ++ zs.take 1).length ≤ 901 := by
              rw [List.length_append, List.length_take]
              omega
            generalize vs ++ zs.take 1 = xs at hx hxl ⊢
            have pu6 := pu5.put (o := .lst (xs.map V.str)) (pu5.ne nl3)
            have sb6 : Sb a H (upd G5 l3 (.lst (xs.map V.str))) := sb5.put (sb5.free pu5 nl3)
            have e7 : upd G5 l3 (.lst (xs.map V.str)) l3 = some (.lst (xs.map V.str)) := upd_same
            generalize upd G5 l3 (.lst (xs.map V.str)) = G6 at pu6 sb6 e7 ⊢
            refine ⟨l3, rfl, ⟨_, SqL.of e7⟩, fun D nD => ?_⟩
            have Da := pu6.ne nD
            refine lc_list (K := K) (a := l3) (xs := xs.map V.str) (fun i H' => Same G6 H' ∧ H' D = some (.lst (((xs.take i).filter fun x => decide (x ≠ one)).map V.str))) ⟨same_new nD, upd_same⟩ (fun i H' _ y => SqL.of (y.1 _ _ e7)) ?_ ?_
            · rintro i x H5 hi ⟨sm5, e8⟩
              rw [List.getElem?_map] at hi
              obtain ⟨z, hz, rfl⟩ : ∃ z, xs[i]? = some z ∧ x = V.str z := by
                cases g : xs[i]? with
                | none =>
                  rw [g] at hi
                  cases hi
                | some z =>
                  rw [g] at hi
                  exact ⟨z, rfl, (Option.some.inj hi).symm⟩
              have htk : (xs.take (i + 1)).filter (fun x => decide (x ≠ one)) = (xs.take i).filter (fun x => decide (x ≠ one)) ++ (if z = one then [] else [z]) := by
                rw [List.take_add_one, hz, List.filter_append]
                by_cases h : z = one
                · simp [h]
                · simp [h]
              rw [htk]
              refine ⟨rfl, _, rfl, _, rfl, rfl, _, rfl, ?_⟩
              by_cases h : z = one
              · rw [decide_eq_true (by rw [h] : V.str z = V.str one)]
                refine iteF ⟨sm5, ?_⟩
                rw [if_pos h, List.append_nil]
                exact e8
              · rw [decide_eq_false (fun e => h (by injection e) : ¬ V.str z = V.str one)]
                refine iteT ⟨_, rfl, _, e8, ?_, same_put sm5 nD, ?_⟩
                · rw [List.length_map]
                  have h1 := List.length_filter_le (fun x => decide (x ≠ one)) (xs.take i)
                  rw [List.length_take] at h1
                  exact Nat.lt_of_le_of_lt (by omega : _ ≤ 3001) (by decide)
                · rw [upd_same, if_neg h, List.map_append] <;> rfl
            · rintro H5 ⟨sm5, e8⟩
              rw [List.length_map, List.take_length] at e8
              have hy : ∀ y ∈ xs.filter (fun x => decide (x ≠ one)), (y ∈ vs ∨ IsNm y) ∧ y ≠ one := fun y hy => by
                obtain ⟨h1, h2⟩ := List.mem_filter.mp hy
                exact ⟨hx y h1, of_decide_eq_true h2⟩
              have hyl := List.length_filter_le (fun x => decide (x ≠ one)) xs
              generalize xs.filter (fun x => decide (x ≠ one)) = ys at e8 hy hyl
              have pu7 := pu6.same sm5
              have sb7 := sb6.then sm5
              refine (show ∀ G : Hp, G = H5 → tSeq _ _ { nx := fun _ H' => Q .non H', rt := Q } [some (.ref a), some (.ref b), some (.ref c), some (.ref p1), some (.str one), some (.ref D), none] G from fun G hG => ?_) _ rfl
              subst hG
              have D2a : D ≠ a := Da
              refine ⟨_, rfl, by decide, fun l4 nl4 => ?_⟩
              have e9 : upd G l4 (.lst []) D = some (.lst (ys.map V.str)) := same_new nl4 _ _ e8
              have sb8 : Sb a H (upd G l4 (.lst [])) := sb7.put (sb7.free pu7 nl4)
              have pu8 := pu7.put (o := .lst []) (pu7.ne nl4)
              have yasc : ∀ y ∈ ys, Asc y := fun y hh => by
                rcases (hy y hh).1 with h | h
                · exact (hv y h).asc
                · exact h.asc
              refine ⟨dS ys, dS [], dp_S (SqL.of e9), .lst (SqL.of upd_same) .nil, (lay_dS yasc).shaped (by decide), (lay_dS (xs := []) (fun x hx => nomatch hx)).shaped (by decide), _, rfl, ?_⟩
              rw [eqv_S]
              generalize upd G l4 (.lst []) = G7 at e9 sb8 pu8 ⊢
              by_cases hys : ys = []
              · rw [decide_eq_true hys]
                refine iteF ?_
                refine ⟨by decide, fun p np => ?_⟩
                exact q p [] [] _ .nil (by decide) (fun x hx => nomatch hx) (sb8.free pu8 np) ((pu8.put (pu8.ne np)).le (by omega)) (sb8.put (sb8.free pu8 np)) upd_same
              · rw [decide_eq_false hys]
                refine iteT ?_
                have hy1 : 1 ≤ (ys.map V.str).length := by
                  rw [List.length_map]
                  cases ys with
                  | nil => exact absurd rfl hys
                  | cons x xs => simp
                refine ⟨_, rfl, _, rfl, _, rfl, _, rfl, a, D, n + 2, ys.map V.str, rfl, pu8, SqL.of e9, Da, ⟨hy1, by rw [List.length_map]; omega⟩, fun v2 H8 hv2 pu9 sb9 => ?_⟩
                obtain ⟨two, htwo, rfl⟩ := List.mem_map.mp hv2
                obtain ⟨hto, htne⟩ := hy two htwo
                have sb10 := sb8.trans sb9
                refine ⟨(by show 2 ≤ sizeLine; decide), fun l5 nl5 => ?_⟩
                have l5a := pu9.ne nl5
                have pu10 := pu9.put (o := .lst [.str one, .str two]) l5a
                have sb11 : Sb a H (upd H8 l5 (.lst [.str one, .str two])) := sb10.put (sb10.free pu9 nl5)
                refine ⟨a, l5, n, [.str one, .str two], rfl, pu10, SqL.of upd_same, l5a, by show 2 ≤ 1000; decide, fun p2 ws H9 pm np2 pu11 sb12 e10 => ?_⟩
                have sb13 := sb11.trans sb12
                refine ⟨p2, ws, rfl, .inl ⟨SqL.of e10, fun t nt => ?_⟩⟩
                have pu12 := pu11.put (o := .tup ws) (pu11.ne nt)
                have sb14 : Sb a H (upd H9 t (.tup ws)) := sb13.put (sb13.free pu11 nt)
                refine ⟨(by show 1 ≤ sizeLine; decide), fun p3 np3 => ?_⟩
                have hne : t ≠ p3 := fun z => by
                  rw [← z, upd_same] at np3
                  cases np3
                have done : ∀ x y : Str, ws = [V.str x, V.str y] → PrOk vs [x, y] → Q (.ref p3) (upd (upd H9 t (.tup ws)) p3 (.lst [.ref t])) := fun x y hw hp => by
                  refine q p3 [.ref t] [[x, y]] _ (.cons ?_ .nil) (by show 1 ≤ 1; decide) (fun z hz => by rw [List.mem_singleton.mp hz]; exact hp) (sb14.free pu12 np3) ((pu12.put (pu12.ne np3)).le (by omega)) (sb14.put (sb14.free pu12 np3)) upd_same
                  rw [upd_ne hne, upd_same, hw] <;> rfl
                rcases two_perm pm with h | h
                · exact done one two h ⟨one, two, rfl, Ne.symm htne, .inl hone, hto, .inl hone⟩
                · exact done two one h ⟨two, one, rfl, htne, hto, .inl hone, .inr hone⟩
end
end Nv
set_option maxHeartbeats 4000000
namespace Nv
open PySem PySem.Spec PyProof.Rows L2
/-- the built-ins that the program's text calls -/
structure Bp (mg : Str → Option Value) : Prop where
  isi : mg "isinstance" = none
  str : mg "str" = none
  tup : mg "tuple" = none
  lst : mg "list" = none
  set : mg "set" = none
  len : mg "len" = none
  all : mg "all" = none
  any : mg "any" = none
theorem bootIsi : bootBuiltins "isinstance" = some (.builtin "isinstance") := by decide +kernel
theorem bootAll : bootBuiltins "all" = some (.builtin "all") := by decide +kernel
theorem bootAny : bootBuiltins "any" = some (.builtin "any") := by decide +kernel
theorem lt_one (c d : Nat) : (([c] : List Nat) < [d]) ↔ c < d := by
  constructor
  · intro h
    cases h with
    | rel h => exact h
    | cons h => cases h
  · intro h
    exact .rel h
theorem take_one {α : Type} {l : List α} {i : Nat} {x : α} (h : l[i]? = some x) : l.take (i + 1) = l.take i ++ [x] := by
  rw [List.take_add_one, h] <;> rfl
section
variable {P : Program} {w : World} {K : PySem.W.Frag} {mg : Str → Option Value} {base : Heap}
/-- a test of any value that may only hold of a text -/
def spTxt (K : PySem.W.Frag) (p : Str → Bool) : Sp := fun vs H Q _ => ∃ v : V, vs = [v] ∧ ((∃ z : Str, v = .str z ∧ z.length ≤ sizeLine ∧ ∀ H', Same H H' → Q (.bl (p z)) H') ∨
  (∃ t : Value, TyX K H v t ∧ PySem.W.kitOne K t (.type "str") = some false ∧ ∀ H', Same H H' → Q (.bl false) H'))
theorem spTxt.yes {p : Str → Bool} {z : Str} {H : Hp} {Q : VK} {E : XK} (hz : z.length ≤ 1000) (q : ∀ H', Same H H' → Q (.bl (p z)) H') : spTxt K p [.str z] H Q E :=
  ⟨_, rfl, .inl ⟨z, rfl, Nat.le_trans hz big1000, q⟩⟩
theorem scIsName : FnScope ["value", "sign"] ["value"] (defScope sIsName) := ⟨rfl, rfl, rfl, by decide +kernel, rfl, by decide +kernel, by decide +kernel⟩
theorem ok_isName {f : Addr} {fd : FuncData} (F : Fun K "is_name" "is_name" sIsName f fd) (B : Bp mg) : FnOk P w K mg base CX0 1 f fd ["value"] (spTxt K fun z => decide (IsNm z)) := by
  refine F.ok scIsName (fun vs H Q E h => ?_) (fun cdv A outer s H vs Q E hr h => ?_)
  · obtain ⟨v, rfl, _⟩ := h
    rfl
  · obtain ⟨v, rfl, h⟩ := h
    refine ⟨_, pss_one (ps_ret (pe_and (pe_callB call_isi (by rfl) B.isi bootIsi (pa_cons (pv 0) (pa_cons (pe_bltn (v := V.ty "str") (by rfl) B.str PyProof.Rows.boot_str rfl) pa_nil)))
      (pe_and (pe_chain op_le op_le pe_int (pe_callB call_len_str (by rfl) B.len PySem.boot_len (pa_cons (pv 0) pa_nil)) pe_int)
      (pe_one (pe_callB (cr_all rfl) (by rfl) B.all bootAll (pa_cons (by exact (pe_lc (own := [("sign", 1)]) (g := gName 1) (tt := tYes) rfl scIsName.nd (pi_str (pv 0))
        (blkOk_by (own := [("sign", 1)]) (N := ["value", "sign"]) (sc := defScope sIsName) (by decide +kernel))
        (fun _ _ _ _ _ => pg_name (i := 1) scIsName.nd rfl (Or.inl rfl)) (fun _ _ _ _ _ => pts_nil)
        (fun _ _ _ _ _ => by exact (pe_chain op_le_str op_le_str pe_str (pv 1) pe_str)))) pa_nil)))))), ?_⟩
    rcases h with ⟨z, rfl, hz, q⟩ | ⟨t, ht, hk, q⟩
    · have q : ∀ H', Same H H' → Q (.bl (decide (IsNm z))) H' := q
      refine ⟨_, rfl, _, _, _, _, true, rfl, .ty _, .base (.str _), kit_ty (by decide +kernel), true, rfl, iteT ?_⟩
      refine ⟨_, rfl, z, rfl, hz, _, _, rfl, rfl, _, rfl, ?_⟩
      by_cases h1 : (1 : Int) ≤ (z.length : Int)
      · rw [decide_eq_true h1]
        refine iteT ⟨_, _, rfl, rfl, ?_⟩
        refine ⟨decide ((z.length : Int) ≤ 10), rfl, ?_⟩
        by_cases h2 : (z.length : Int) ≤ 10
        · rw [decide_eq_true h2]
          refine iteT ?_
          refine ⟨_, rfl, z, rfl, fun D nD => ?_⟩
          refine lc_it walk_str (fun i H' => Same H H' ∧ H' D = some (.lst ((z.cps.toList.take i).map fun c => V.bl (decide (97 ≤ c ∧ c ≤ 122))))) ⟨same_new nD, upd_same⟩ (fun _ _ _ _ => trivial) ?_ ?_
          · rintro i x H1 H2 hi ⟨sm, e⟩ ⟨rfl, c, hc, rfl⟩
            have hc2 : z.cps.toList[i]? = some c := by simpa using hc
            refine ⟨rfl, ?_⟩
            have hil : i ≤ 10 := by
              have : z.cps.size = z.length := rfl
              omega
            refine ⟨_, rfl, _, _, rfl, rfl, _, rfl, ?_⟩
            have e1 : (!decide (([c] : List Nat) < [97])) = decide (97 ≤ c) := by
              by_cases h : c < 97
              · rw [decide_eq_true ((lt_one _ _).mpr h), decide_eq_false (by omega)] <;> rfl
              · rw [decide_eq_false (fun y => h ((lt_one _ _).mp y)), decide_eq_true (by omega)] <;> rfl
            have e2 : (!decide (([122] : List Nat) < [c])) = decide (c ≤ 122) := by
              by_cases h : 122 < c
              · rw [decide_eq_true ((lt_one _ _).mpr h), decide_eq_false (by omega)] <;> rfl
              · rw [decide_eq_false (fun y => h ((lt_one _ _).mp y)), decide_eq_true (by omega)] <;> rfl
            have put : ∀ b : Bool, b = decide (97 ≤ c ∧ c ≤ 122) → ∃ acc, H2 D = some (.lst acc) ∧ acc.length < sizeLine ∧ (Same H (upd H2 D (.lst (acc ++ [V.bl b]))) ∧ upd H2 D (.lst (acc ++ [V.bl b])) D = some (.lst ((z.cps.toList.take (i + 1)).map fun c => V.bl (decide (97 ≤ c ∧ c ≤ 122))))) := fun b hb => by
              refine ⟨_, e, ?_, same_put sm nD, ?_⟩
              · rw [List.length_map, List.length_take]
                exact Nat.lt_of_le_of_lt (by omega : _ ≤ 10) (by decide)
              · rw [upd_same, take_one hc2, List.map_append, hb] <;> rfl
            show if (!decide (([c] : List Nat) < [97])) = true then _ else _
            rw [e1]
            by_cases h3 : 97 ≤ c
            · rw [decide_eq_true h3]
              refine iteT ⟨_, _, rfl, rfl, ?_⟩
              refine put _ (e2.trans ?_)
              simp [h3]
            · rw [decide_eq_false h3]
              refine iteF (put _ ?_)
              simp [h3]
          · rintro H1 ⟨sm, e⟩
            have ht : z.cps.toList.take z.cps.size = z.cps.toList := List.take_of_length_le (by simp)
            rw [ht] at e
            refine ⟨D, z.cps.toList.map fun c => decide (97 ≤ c ∧ c ≤ 122), rfl, SqL.of (by rw [e, List.map_map] <;> rfl), ?_⟩
            have hb : (z.cps.toList.map fun c => decide (97 ≤ c ∧ c ≤ 122)).all id = decide (IsNm z) := by
              rw [List.all_map]
              by_cases hn : IsNm z
              · rw [decide_eq_true hn, List.all_eq_true]
                intro c hc
                exact decide_eq_true (hn.2.2 c hc)
              · rw [decide_eq_false hn, ← Bool.not_eq_true]
                intro y
                refine hn ⟨by omega, by omega, fun c hc => ?_⟩
                exact of_decide_eq_true (List.all_eq_true.mp y c hc)
            rw [hb]
            exact q _ sm
        · rw [decide_eq_false h2]
          refine iteF ?_
          have := q H (Same.refl H)
          rw [decide_eq_false (fun h : IsNm z => h2 (by have := h.2.1; omega))] at this
          exact this
      · rw [decide_eq_false h1]
        refine iteF ⟨false, rfl, iteF ?_⟩
        have := q H (Same.refl H)
        rw [decide_eq_false (fun h : IsNm z => h1 (by have := h.1; omega))] at this
        exact this
    · refine ⟨_, rfl, _, _, _, _, false, rfl, .ty _, ht, hk, false, rfl, iteF ?_⟩
      exact q H (Same.refl H)
end
end Nv
set_option maxHeartbeats 4000000
namespace Nv
open PySem PySem.Spec PyProof.Rows L2
section
variable {P : Program} {w : World} {K : PySem.W.Frag} {mg : Str → Option Value} {base : Heap}
theorem scIsVar : FnScope ["value", "sign"] ["value"] (defScope sIsVar) := ⟨rfl, rfl, rfl, by decide +kernel, rfl, by decide +kernel, by decide +kernel⟩
theorem ok_isVar {f : Addr} {fd : FuncData} (F : Fun K "is_variable" "is_variable" sIsVar f fd) (B : Bp mg) : FnOk P w K mg base CX0 1 f fd ["value"] (spTxt K fun z => decide (IsVr z)) := by
  refine F.ok scIsVar (fun vs H Q E h => ?_) (fun cdv A outer s H vs Q E hr h => ?_)
  · obtain ⟨v, rfl, _⟩ := h
    rfl
  · obtain ⟨v, rfl, h⟩ := h
    refine ⟨_, pss_one (ps_ret (pe_and (pe_callB call_isi (by rfl) B.isi bootIsi (pa_cons (pv 0) (pa_cons (pe_bltn (v := V.ty "str") (by rfl) B.str PyProof.Rows.boot_str rfl) pa_nil)))
      (pe_and (pe_chain op_le op_le pe_int (pe_callB call_len_str (by rfl) B.len PySem.boot_len (pa_cons (pv 0) pa_nil)) pe_int)
      (pe_one (pe_callB (cr_all rfl) (by rfl) B.all bootAll (pa_cons (by exact (pe_lc (own := [("sign", 1)]) (g := gName 1) (tt := tYes) rfl scIsVar.nd (pi_str (pv 0))
        (blkOk_by (own := [("sign", 1)]) (N := ["value", "sign"]) (sc := defScope sIsVar) (by decide +kernel))
        (fun _ _ _ _ _ => pg_name (i := 1) scIsVar.nd rfl (Or.inl rfl)) (fun _ _ _ _ _ => pts_nil)
        (fun _ _ _ _ _ => by exact (pe_chain op_le_str op_le_str pe_str (pv 1) pe_str)))) pa_nil)))))), ?_⟩
    rcases h with ⟨z, rfl, hz, q⟩ | ⟨t, ht, hk, q⟩
    · have q : ∀ H', Same H H' → Q (.bl (decide (IsVr z))) H' := q
      refine ⟨_, rfl, _, _, _, _, true, rfl, .ty _, .base (.str _), kit_ty (by decide +kernel), true, rfl, iteT ?_⟩
      refine ⟨_, rfl, z, rfl, hz, _, _, rfl, rfl, _, rfl, ?_⟩
      by_cases h1 : (1 : Int) ≤ (z.length : Int)
      · rw [decide_eq_true h1]
        refine iteT ⟨_, _, rfl, rfl, ?_⟩
        refine ⟨decide ((z.length : Int) ≤ 3), rfl, ?_⟩
        by_cases h2 : (z.length : Int) ≤ 3
        · rw [decide_eq_true h2]
          refine iteT ?_
          refine ⟨_, rfl, z, rfl, fun D nD => ?_⟩
          refine lc_it walk_str (fun i H' => Same H H' ∧ H' D = some (.lst ((z.cps.toList.take i).map fun c => V.bl (decide (65 ≤ c ∧ c ≤ 90))))) ⟨same_new nD, upd_same⟩ (fun _ _ _ _ => trivial) ?_ ?_
          · rintro i x H1 H2 hi ⟨sm, e⟩ ⟨rfl, c, hc, rfl⟩
            have hc2 : z.cps.toList[i]? = some c := by simpa using hc
            refine ⟨rfl, ?_⟩
            have hil : i ≤ 3 := by
              have : z.cps.size = z.length := rfl
              omega
            refine ⟨_, rfl, _, _, rfl, rfl, _, rfl, ?_⟩
            have e1 : (!decide (([c] : List Nat) < [65])) = decide (65 ≤ c) := by
              by_cases h : c < 65
              · rw [decide_eq_true ((lt_one _ _).mpr h), decide_eq_false (by omega)] <;> rfl
              · rw [decide_eq_false (fun y => h ((lt_one _ _).mp y)), decide_eq_true (by omega)] <;> rfl
            have e2 : (!decide (([90] : List Nat) < [c])) = decide (c ≤ 90) := by
              by_cases h : 90 < c
              · rw [decide_eq_true ((lt_one _ _).mpr h), decide_eq_false (by omega)] <;> rfl
              · rw [decide_eq_false (fun y => h ((lt_one _ _).mp y)), decide_eq_true (by omega)] <;> rfl
            have put : ∀ b : Bool, b = decide (65 ≤ c ∧ c ≤ 90) → ∃ acc, H2 D = some (.lst acc) ∧ acc.length < sizeLine ∧ (Same H (upd H2 D (.lst (acc ++ [V.bl b]))) ∧ upd H2 D (.lst (acc ++ [V.bl b])) D = some (.lst ((z.cps.toList.take (i + 1)).map fun c => V.bl (decide (65 ≤ c ∧ c ≤ 90))))) := fun b hb => by
              refine ⟨_, e, ?_, same_put sm nD, ?_⟩
              · rw [List.length_map, List.length_take]
                exact Nat.lt_of_le_of_lt (by omega : _ ≤ 3) (by decide)
              · rw [upd_same, take_one hc2, List.map_append, hb] <;> rfl
            show if (!decide (([c] : List Nat) < [65])) = true then _ else _
            rw [e1]
            by_cases h3 : 65 ≤ c
            · rw [decide_eq_true h3]
              refine iteT ⟨_, _, rfl, rfl, ?_⟩
              refine put _ (e2.trans ?_)
              simp [h3]
            · rw [decide_eq_false h3]
              refine iteF (put _ ?_)
              simp [h3]
          · rintro H1 ⟨sm, e⟩
            have ht : z.cps.toList.take z.cps.size = z.cps.toList := List.take_of_length_le (by simp)
            rw [ht] at e
            refine ⟨D, z.cps.toList.map fun c => decide (65 ≤ c ∧ c ≤ 90), rfl, SqL.of (by rw [e, List.map_map] <;> rfl), ?_⟩
            have hb : (z.cps.toList.map fun c => decide (65 ≤ c ∧ c ≤ 90)).all id = decide (IsVr z) := by
              rw [List.all_map]
              by_cases hn : IsVr z
              · rw [decide_eq_true hn, List.all_eq_true]
                intro c hc
                exact decide_eq_true (hn.2.2 c hc)
              · rw [decide_eq_false hn, ← Bool.not_eq_true]
                intro y
                refine hn ⟨by omega, by omega, fun c hc => ?_⟩
                exact of_decide_eq_true (List.all_eq_true.mp y c hc)
            rw [hb]
            exact q _ sm
        · rw [decide_eq_false h2]
          refine iteF ?_
          have := q H (Same.refl H)
          rw [decide_eq_false (fun h : IsVr z => h2 (by have := h.2.1; omega))] at this
          exact this
      · rw [decide_eq_false h1]
        refine iteF ⟨false, rfl, iteF ?_⟩
        have := q H (Same.refl H)
        rw [decide_eq_false (fun h : IsVr z => h1 (by have := h.1; omega))] at this
        exact this
    · refine ⟨_, rfl, _, _, _, _, false, rfl, .ty _, ht, hk, false, rfl, iteF ?_⟩
      exact q H (Same.refl H)
def IsTm (z : Str) : Prop := IsNm z ∨ IsVr z
instance (z : Str) : Decidable (IsTm z) := by unfold IsTm; exact inferInstance
theorem scIsTerm : FnScope ["value"] ["value"] (defScope sIsTerm) := ⟨rfl, rfl, rfl, by decide +kernel, rfl, by decide +kernel, by decide +kernel⟩
theorem spTxt.again {p q : Str → Bool} {v : V} {H : Hp} {Q Q2 : VK} {E E2 : XK} (h : spTxt K p [v] H Q E) (hq : ∀ b H', Same H H' → ((∃ z, v = .str z ∧ b = p z ∧ (∀ H2, Same H H2 → Q (.bl (p z)) H2)) ∨ (b = false ∧ ∀ H2, Same H H2 → Q (.bl false) H2)) → Q2 (.bl b) H') : spTxt K p [v] H Q2 E2 := by
  obtain ⟨v', e, h⟩ := h
  obtain rfl : v = v' := by injection e
  rcases h with ⟨z, rfl, hz, q⟩ | ⟨t, ht, hk, q⟩
  · exact ⟨_, rfl, .inl ⟨z, rfl, hz, fun H' s => hq _ H' s (.inl ⟨z, rfl, rfl, q⟩)⟩⟩
  · exact ⟨_, rfl, .inr ⟨t, ht, hk, fun H' s => hq _ H' s (.inr ⟨rfl, q⟩)⟩⟩
/-- a value, a text or none -/
def Tv (K : PySem.W.Frag) (H : Hp) (v : V) : Option Str → Prop
  | some z => v = .str z ∧ z.length ≤ sizeLine
  | none => ∃ t : Value, TyX K H v t ∧ PySem.W.kitOne K t (.type "str") = some false
theorem tyx_same {H H' : Hp} {v : V} {t : Value} (s : Same H H') (h : TyX K H v t) : TyX K H' v t := by
  cases h with
  | base b =>
    cases b with
    | non => exact .base .non
    | bl y => exact .base (.bl y)
    | int i => exact .base (.int i)
    | str y => exact .base (.str y)
    | flt y => exact .base (.flt y)
    | lst e => exact .base (.lst (s _ _ e))
    | frz e => exact .base (.frz (s _ _ e))
    | tup e => exact .base (.tup (s _ _ e))
    | dK e => exact .base (.dK (s _ _ e))
    | dT e => exact .base (.dT (s _ _ e))
    | ins e cl ha hn htk hm => exact .base (.ins (s _ _ e) cl ha hn htk hm)
  | byt b => exact .byt b
  | set e => exact .set (s _ _ e)
  | kList e c => exact .kList e c
  | kTuple e c => exact .kTuple e c
  | kDict e c => exact .kDict e c
  | fTuple e => exact .fTuple (s _ _ e)
  | fDict e => exact .fDict (s _ _ e)
theorem Tv.same {H H' : Hp} {v : V} : ∀ {o : Option Str}, Tv K H v o → Same H H' → Tv K H' v o
  | some z, h, _ => h
  | none, ⟨t, h, k⟩, s => ⟨t, tyx_same s h, k⟩
theorem spTxt.of {p : Str → Bool} {v : V} {H : Hp} {Q : VK} {E : XK} : ∀ {o : Option Str}, Tv K H v o → (∀ H', Same H H' → Q (.bl (o.any p)) H') → spTxt K p [v] H Q E
  | some z, ⟨e, hz⟩, q => ⟨_, rfl, .inl ⟨z, e, hz, q⟩⟩
  | none, ⟨t, ht, hk⟩, q => ⟨_, rfl, .inr ⟨t, ht, hk, q⟩⟩
theorem ok_isTerm {f fN fV : Addr} {fd fdN fdV : FuncData} (F : Fun K "is_term" "is_term" sIsTerm f fd)
    (GN : FnOk P w K mg base CX0 1 fN fdN ["value"] (spTxt K fun z => decide (IsNm z))) (kN : PySem.W.keepIn K (.ref fN) = true) (gN : mg "is_name" = some (.ref fN)) (bN : Binds K fdN ["value"] [])
    (GV : FnOk P w K mg base CX0 1 fV fdV ["value"] (spTxt K fun z => decide (IsVr z))) (kV : PySem.W.keepIn K (.ref fV) = true) (gV : mg "is_variable" = some (.ref fV)) (bV : Binds K fdV ["value"] []) :
    FnOk P w K mg base CX0 2 f fd ["value"] (spTxt K fun z => decide (IsTm z)) := by
  refine F.ok scIsTerm (fun vs H Q E h => ?_) (fun cdv A outer s H vs Q E hr h => ?_)
  · obtain ⟨v, rfl, _⟩ := h
    rfl
  · obtain ⟨v, rfl, h⟩ := h
    refine ⟨_, pss_one (ps_ret (pe_or (by exact (pe_call GN hr (by rfl) gN kN bN .nil pass0 (pa_cons (pv 0) pa_nil))) (pe_one (by exact (pe_call GV hr (by rfl) gV kV bV .nil pass0 (pa_cons (pv 0) pa_nil)))))), ?_⟩
    refine ⟨_, rfl, ?_⟩
    rcases h with ⟨z, rfl, hz, q⟩ | ⟨t, ht, hk, q⟩
    · have q : ∀ H', Same H H' → Q (.bl (decide (IsTm z))) H' := q
      refine ⟨_, rfl, .inl ⟨z, rfl, hz, fun H1 s1 => ⟨decide (IsNm z), rfl, ?_⟩⟩⟩
      by_cases h1 : IsNm z
      · rw [decide_eq_true h1]
        refine iteT ?_
        have := q H1 s1
        rw [show decide (IsTm z) = true from decide_eq_true (Or.inl h1)] at this
        exact this
      · rw [decide_eq_false h1]
        refine iteF ⟨_, rfl, _, rfl, .inl ⟨z, rfl, hz, fun H2 s2 => ?_⟩⟩
        have := q H2 (s1.trans s2)
        have e : decide (IsTm z) = decide (IsVr z) := decide_eq_decide.mpr ⟨fun h => h.resolve_left h1, .inr⟩
        rw [e] at this
        exact this
    · refine ⟨_, rfl, .inr ⟨t, ht, hk, fun H1 s1 => ⟨false, rfl, iteF ?_⟩⟩⟩
      refine ⟨_, rfl, _, rfl, .inr ⟨t, tyx_same s1 ht, hk, fun H2 s2 => q H2 (s1.trans s2)⟩⟩
end
end Nv
set_option maxHeartbeats 4000000
namespace Nv
open PySem PySem.Spec PyProof.Rows L2
/-- item by item -/
inductive All2 {α β : Type} (R : α → β → Prop) : List α → List β → Prop
  | nil : All2 R [] []
  | cons {x : α} {y : β} {xs : List α} {ys : List β} (h : R x y) (t : All2 R xs ys) : All2 R (x :: xs) (y :: ys)
section
variable {α β : Type} {R S : α → β → Prop} {xs : List α} {ys : List β}
theorem All2.len (h : All2 R xs ys) : xs.length = ys.length := by
  induction h with
  | nil => rfl
  | cons _ _ ih => simp [ih]
theorem All2.imp (h : All2 R xs ys) (i : ∀ x y, R x y → S x y) : All2 S xs ys := by
  induction h with
  | nil => exact .nil
  | cons h _ ih => exact .cons (i _ _ h) ih
theorem All2.at_ (h : All2 R xs ys) {i : Nat} {x : α} (hi : xs[i]? = some x) : ∃ y, ys[i]? = some y ∧ R x y := by
  induction h generalizing i with
  | nil => cases i <;> cases hi
  | cons h _ ih =>
    cases i with
    | zero =>
      cases hi
      exact ⟨_, rfl, h⟩
    | succ i => exact ih hi
end
/-- a value that may be a pattern: its parts, where it is a tuple -/
def Tp (K : PySem.W.Frag) (H : Hp) (v : V) : Option (List (Option Str)) → Prop
  | some os => ∃ (t : Addr) (xs : List V), v = .ref t ∧ H t = some (.tup xs) ∧ All2 (Tv K H) xs os ∧ os.length ≤ 1000
  | none => ∃ t : Value, TyX K H v t ∧ PySem.W.kitOne K t (.type "tuple") = some false
theorem Tp.same {K : PySem.W.Frag} {H H' : Hp} {v : V} : ∀ {o : Option (List (Option Str))}, Tp K H v o → Same H H' → Tp K H' v o
  | some os, ⟨t, xs, e, h, a, l⟩, s => ⟨t, xs, e, s _ _ h, a.imp fun _ _ z => z.same s, l⟩
  | none, ⟨t, h, k⟩, s => ⟨t, tyx_same s h, k⟩
theorem tp_strs {K : PySem.W.Frag} {H : Hp} {t : Addr} {p : List Str} (e : H t = some (.tup (p.map V.str))) (hp : ∀ x ∈ p, x.length ≤ 1000) (hl : p.length ≤ 1000) : Tp K H (.ref t) (some (p.map some)) := by
  refine ⟨t, _, rfl, e, ?_, by rw [List.length_map]; exact hl⟩
  clear e hl
  induction p with
  | nil => exact .nil
  | cons x p ih => exact .cons ⟨rfl, Nat.le_trans (hp x List.mem_cons_self) big1000⟩ (ih fun y hy => hp y (List.mem_cons_of_mem _ hy))
def nmO (o : Option Str) : Bool := o.any fun z => decide (IsNm z)
def tmO (o : Option Str) : Bool := o.any fun z => decide (IsTm z)
def vrO (o : Option Str) : Bool := o.any fun z => decide (IsVr z)
def patB : Option (List (Option Str)) → Bool
  | some (o :: os) => decide (os.length ≤ 3) && (nmO o && os.all tmO)
  | _ => false
section
variable {P : Program} {w : World} {K : PySem.W.Frag} {mg : Str → Option Value} {base : Heap}
def spIsPattern (K : PySem.W.Frag) : Sp := fun vs H Q _ => ∃ (v : V) (o : Option (List (Option Str))), vs = [v] ∧ Tp K H v o ∧ ∀ H', Same H H' → Q (.bl (patB o)) H'
theorem scIsPattern : FnScope ["value", "part"] ["value"] (defScope sIsPattern) := ⟨rfl, rfl, rfl, by decide +kernel, rfl, by decide +kernel, by decide +kernel⟩
theorem tyx_tup {H : Hp} {t : Addr} {xs : List V} (e : H t = some (.tup xs)) : TyX K H (.ref t) (.type "tuple") := .base (.tup e)
theorem tyx_lst {H : Hp} {t : Addr} {xs : List V} (e : H t = some (.lst xs)) : TyX K H (.ref t) (.type "list") := .base (.lst e)
theorem cut_one (xs : List V) : cutV xs (some 1) none = xs.drop 1 := by
  unfold cutV
  have e : HT.sIx xs.length 0 (some (1 : Int)) = min 1 xs.length := HT.sIx_nat xs.length 0 1
  rw [e, HT.sIx_none]
  cases xs with
  | nil => rfl
  | cons x xs =>
    rw [List.length_cons, Nat.min_eq_left (by omega), Nat.add_sub_cancel, List.drop_succ_cons, List.drop_zero, List.take_of_length_le (Nat.le_refl _)]
theorem ok_isPattern {f fN fT : Addr} {fd fdN fdT : FuncData} (F : Fun K "is_pattern" "is_pattern" sIsPattern f fd) (B : Bp mg)
    (GN : FnOk P w K mg base CX0 1 fN fdN ["value"] (spTxt K fun z => decide (IsNm z))) (kN : PySem.W.keepIn K (.ref fN) = true) (gN : mg "is_name" = some (.ref fN)) (bN : Binds K fdN ["value"] [])
    (GT : FnOk P w K mg base CX0 2 fT fdT ["value"] (spTxt K fun z => decide (IsTm z))) (kT : PySem.W.keepIn K (.ref fT) = true) (gT : mg "is_term" = some (.ref fT)) (bT : Binds K fdT ["value"] []) :
    FnOk P w K mg base CX0 3 f fd ["value"] (spIsPattern K) := by
  refine F.ok scIsPattern (fun vs H Q E h => ?_) (fun cdv A outer s H vs Q E hr h => ?_)
  · obtain ⟨v, o, rfl, _⟩ := h
    rfl
  · obtain ⟨v, o, rfl, h, q⟩ := h
    have hr1 : Room 1 _ := hr.mono (by decide)
    refine ⟨_, pss_cons (ps_if (PW.pt (pw_or (pt_not (pt_val (pe_callB call_isi (by rfl) B.isi bootIsi (pa_cons (pv 0) (pa_cons (pe_bltn (v := V.ty "tuple") (by rfl) B.tup PyProof.Rows.boot_tuple rfl) pa_nil)))))
        (pw_or1 (pt_not (pt_chain op_le op_le pe_int (pe_callB call_len_seq (by rfl) B.len PySem.boot_len (pa_cons (pv 0) pa_nil)) pe_int))))) (pss_one (ps_ret pe_bl)) pss_nil)
      (pss_one (ps_ret (pe_and (by exact (pe_call GN hr1 (by rfl) gN kN bN .nil pass0 (pa_cons (pe_ix ix_tup (pv 0) pe_int (fun _ _ => rfl)) pa_nil)))
        (pe_one (pe_callB (cr_all rfl) (by rfl) B.all bootAll (pa_cons (by exact (pe_lc (own := [("part", 1)]) (g := gName 1) (tt := tYes) rfl scIsPattern.nd (pi_tup (pe_slice sl_tup (pv 0) (po_some pe_int) po_none))
          (blkOk_by (own := [("part", 1)]) (N := ["value", "part"]) (sc := defScope sIsPattern) (by decide +kernel))
          (fun _ _ _ _ _ => pg_name (i := 1) scIsPattern.nd rfl (Or.inl rfl)) (fun _ _ _ _ _ => pts_nil)
          (fun _ _ _ _ _ => by exact (pe_call GT hr (by rfl) gT kT bT .nil pass0 (pa_cons (pv 1) pa_nil))))) pa_nil)))))), ?_⟩
    cases o with
    | none =>
      obtain ⟨t, ht, hk⟩ := h
      refine ⟨_, rfl, _, _, _, _, false, rfl, .ty _, ht, hk, false, rfl, iteT (iteT ?_)⟩
      exact q H (Same.refl H)
    | some os =>
      obtain ⟨t, xs, rfl, e, ha, hl⟩ := h
      have hxl := ha.len
      refine ⟨_, rfl, _, _, _, _, true, rfl, .ty _, tyx_tup e, kit_ty (by decide +kernel), true, rfl, iteF ?_⟩
      refine ⟨_, rfl, t, xs, rfl, .inr (SqT.of e), _, _, rfl, rfl, _, rfl, ?_⟩
      cases ha with
      | nil =>
        refine iteF ⟨false, rfl, iteT ?_⟩
        exact q H (Same.refl H)
      | @cons x o1 xs1 os1 h1 ht =>
        have e1 : decide ((1 : Int) ≤ ((x :: xs1).length : Int)) = true := decide_eq_true (by rw [List.length_cons]; omega)
        show if decide ((1 : Int) ≤ ((x :: xs1).length : Int)) = true then _ else _
        rw [e1]
        refine iteT ⟨_, _, rfl, rfl, ?_⟩
        refine ⟨decide (((x :: xs1).length : Int) ≤ 4), rfl, ?_⟩
        by_cases h4 : os1.length ≤ 3
        · have e4 : decide (((x :: xs1).length : Int) ≤ 4) = true := decide_eq_true (by rw [List.length_cons] at *; rw [List.length_cons] at hxl; omega)
          rw [e4]
          refine iteF ?_
          have q : ∀ H', Same H H' → Q (.bl (nmO o1 && os1.all tmO)) H' := fun H' s => by
            have := q H' s
            simp only [patB, decide_eq_true h4, Bool.true_and] at this
            exact this
          refine ⟨_, rfl, t, _, _, x, rfl, rfl, SqT.of e, atI_nat (j := 0) rfl, ?_⟩
          dsimp only [tNil]
          refine spTxt.of h1 fun H1 s1 => ?_
          refine ⟨nmO o1, rfl, ?_⟩
          cases hn : nmO o1 with
          | false =>
            refine iteF ?_
            have := q H1 s1
            rw [hn] at this
            exact this
          | true =>
            rw [hn] at q
            refine iteT ?_
            refine ⟨_, rfl, 1, rfl, t, _, rfl, SqT.of (s1 _ _ e), ?_, fun t2 nt2 => ?_⟩
            · rintro ⟨h, _⟩
              have := HT.sIx_nat (x :: xs1).length 0 1
              rw [show ((1 : Nat) : Int) = 1 by rfl] at this
              rw [this, List.length_cons] at h
              omega
            · rw [cut_one, List.drop_succ_cons, List.drop_zero]
              have s2 : Same H (upd H1 t2 (.tup xs1)) := same_put s1 (s1.free nt2)
              have e2 : upd H1 t2 (.tup xs1) t2 = some (.tup xs1) := upd_same
              generalize upd H1 t2 (.tup xs1) = G at s2 e2 ⊢
              refine ⟨t2, rfl, ⟨_, SqT.of e2⟩, fun D nD => ?_⟩
              refine lc_tup (K := K) (a := t2) (xs := xs1) (fun i H' => Same G H' ∧ H' D = some (.lst ((os1.take i).map fun o => V.bl (tmO o)))) ⟨same_new nD, upd_same⟩ (fun i H' _ y => SqT.of (y.1 _ _ e2)) ?_ ?_
              · rintro i y H3 hi ⟨s3, e3⟩
                obtain ⟨o2, ho2, hy⟩ := ht.at_ hi
                refine ⟨rfl, ?_⟩
                refine ⟨_, rfl, ?_⟩
                dsimp only [tNil]
                refine spTxt.of (hy.same (s2.trans s3)) fun H4 s4 => ?_
                refine ⟨_, s4 _ _ e3, ?_, same_put (s3.trans s4) nD, ?_⟩
                · rw [List.length_map, List.length_take]
                  exact Nat.lt_of_le_of_lt (by omega : _ ≤ 3) (by decide)
                · rw [upd_same, take_one ho2, List.map_append] <;> rfl
              · rintro H3 ⟨s3, e3⟩
                have hlen := ht.len
                rw [hlen, List.take_length] at e3
                refine ⟨D, os1.map tmO, rfl, SqL.of (by rw [e3, List.map_map] <;> rfl), ?_⟩
                have := q H3 (s2.trans s3)
                rw [Bool.true_and] at this
                rw [List.all_map]
                exact this
        · have e4 : decide (((x :: xs1).length : Int) ≤ 4) = false := decide_eq_false (by rw [List.length_cons] at *; rw [List.length_cons] at hxl; omega)
          rw [e4]
          refine iteT ?_
          have := q H (Same.refl H)
          simp only [patB, decide_eq_false h4, Bool.false_and] at this
          exact this
end
end Nv
set_option maxHeartbeats 4000000
namespace Nv
open PySem PySem.Spec PyProof.Rows L2
/-- a value that may be a list of tuples: what stands in it, where it is a list -/
def Tps (K : PySem.W.Frag) (H : Hp) (v : V) : Option (List (Option (List (Option Str)))) → Prop
  | some ls => ∃ (a : Addr) (xs : List V), v = .ref a ∧ H a = some (.lst xs) ∧ All2 (Tp K H) xs ls ∧ ls.length ≤ 1000
  | none => ∃ t : Value, TyX K H v t ∧ PySem.W.kitOne K t (.type "list") = some false
theorem Tps.same {K : PySem.W.Frag} {H H' : Hp} {v : V} : ∀ {o : Option (List (Option (List (Option Str))))}, Tps K H v o → Same H H' → Tps K H' v o
  | some os, ⟨t, xs, e, h, a, l⟩, s => ⟨t, xs, e, s _ _ h, a.imp fun _ _ z => z.same s, l⟩
  | none, ⟨t, h, k⟩, s => ⟨t, tyx_same s h, k⟩
theorem PaL.tps {K : PySem.W.Frag} {H : Hp} {vs : List V} {ps : List (List Str)} (h : PaL H vs ps) (hp : ∀ p ∈ ps, p.length ≤ 1000 ∧ ∀ x ∈ p, x.length ≤ 1000) : All2 (Tp K H) vs (ps.map fun p => some (p.map some)) := by
  induction h with
  | nil => exact .nil
  | cons e _ ih =>
    obtain ⟨h1, h2⟩ := hp _ List.mem_cons_self
    exact .cons (tp_strs e h2 h1) (ih fun p hq => hp p (List.mem_cons_of_mem _ hq))
def prB : Option (List (Option Str)) → Bool
  | some [o1, o2] => tmO o1 && (tmO o2 && (decide (o1 ≠ o2) && (vrO o1 || vrO o2)))
  | _ => false
def listB (p : Option (List (Option Str)) → Bool) (o : Option (List (Option (List (Option Str))))) : Bool := o.any fun ls => ls.all p
section
variable {P : Program} {w : World} {K : PySem.W.Frag} {mg : Str → Option Value} {base : Heap}
def spTup (K : PySem.W.Frag) (p : Option (List (Option Str)) → Bool) : Sp := fun vs H Q _ => ∃ (v : V) (o : Option (List (Option Str))), vs = [v] ∧ Tp K H v o ∧ ∀ H', Same H H' → Q (.bl (p o)) H'
def spLst (K : PySem.W.Frag) (p : Option (List (Option Str)) → Bool) : Sp := fun vs H Q _ => ∃ (v : V) (o : Option (List (Option (List (Option Str))))), vs = [v] ∧ Tps K H v o ∧ ∀ H', Same H H' → Q (.bl (listB p o)) H'
theorem scIsPatterns : FnScope ["value", "part"] ["value"] (defScope sIsPatterns) := ⟨rfl, rfl, rfl, by decide +kernel, rfl, by decide +kernel, by decide +kernel⟩
theorem ok_isPatterns {f fN : Addr} {fd fdN : FuncData} {p : Option (List (Option Str)) → Bool} (F : Fun K "is_patterns" "is_patterns" sIsPatterns f fd) (B : Bp mg)
    (GN : FnOk P w K mg base CX0 3 fN fdN ["value"] (spTup K p)) (kN : PySem.W.keepIn K (.ref fN) = true) (gN : mg "is_pattern" = some (.ref fN)) (bN : Binds K fdN ["value"] []) :
    FnOk P w K mg base CX0 4 f fd ["value"] (spLst K p) := by
  refine F.ok scIsPatterns (fun vs H Q E h => ?_) (fun cdv A outer s H vs Q E hr h => ?_)
  · obtain ⟨v, o, rfl, _⟩ := h
    rfl
  · obtain ⟨v, o, rfl, h, q⟩ := h
    refine ⟨_, pss_one (ps_ret (pe_and (pe_callB call_isi (by rfl) B.isi bootIsi (pa_cons (pv 0) (pa_cons (pe_bltn (v := V.ty "list") (by rfl) B.lst PyProof.Rows.boot_list rfl) pa_nil)))
      (pe_one (pe_callB (cr_all rfl) (by rfl) B.all bootAll (pa_cons (by exact (pe_lc (own := [("part", 1)]) (g := gName 1) (tt := tYes) rfl scIsPatterns.nd (pi_list (pv 0))
          (blkOk_by (own := [("part", 1)]) (N := ["value", "part"]) (sc := defScope sIsPatterns) (by decide +kernel))
          (fun _ _ _ _ _ => pg_name (i := 1) scIsPatterns.nd rfl (Or.inl rfl)) (fun _ _ _ _ _ => pts_nil)
          (fun _ _ _ _ _ => by exact (pe_call GN hr (by rfl) gN kN bN .nil pass0 (pa_cons (pv 1) pa_nil))))) pa_nil))))), ?_⟩
    cases o with
    | none =>
      obtain ⟨t, ht, hk⟩ := h
      refine ⟨_, rfl, _, _, _, _, false, rfl, .ty _, ht, hk, false, rfl, iteF ?_⟩
      exact q H (Same.refl H)
    | some ls =>
      obtain ⟨a, xs, rfl, e, ha, hl⟩ := h
      have hxl := ha.len
      refine ⟨_, rfl, _, _, _, _, true, rfl, .ty _, tyx_lst e, kit_ty (by decide +kernel), true, rfl, iteT ?_⟩
      refine ⟨_, rfl, a, rfl, ⟨_, SqL.of e⟩, fun D nD => ?_⟩
      refine lc_list (K := K) (a := a) (xs := xs) (fun i H' => Same H H' ∧ H' D = some (.lst ((ls.take i).map fun o => V.bl (p o)))) ⟨same_new nD, upd_same⟩ (fun i H' _ y => SqL.of (y.1 _ _ e)) ?_ ?_
      · rintro i y H3 hi ⟨s3, e3⟩
        obtain ⟨o2, ho2, hy⟩ := ha.at_ hi
        refine ⟨rfl, _, rfl, y, o2, rfl, hy.same s3, fun H4 s4 => ?_⟩
        refine ⟨_, s4 _ _ e3, ?_, same_put (s3.trans s4) nD, ?_⟩
        · rw [List.length_map, List.length_take]
          exact Nat.lt_of_le_of_lt (by omega : _ ≤ 1000) (by decide)
        · rw [upd_same, take_one ho2, List.map_append] <;> rfl
      · rintro H3 ⟨s3, e3⟩
        rw [hxl, List.take_length] at e3
        refine ⟨D, ls.map p, rfl, SqL.of (by rw [e3, List.map_map] <;> rfl), ?_⟩
        rw [List.all_map]
        exact q H3 s3
theorem scIsPairs : FnScope ["value", "part"] ["value"] (defScope sIsPairs) := ⟨rfl, rfl, rfl, by decide +kernel, rfl, by decide +kernel, by decide +kernel⟩
theorem ok_isPairs {f fN : Addr} {fd fdN : FuncData} {p : Option (List (Option Str)) → Bool} (F : Fun K "is_pairs" "is_pairs" sIsPairs f fd) (B : Bp mg)
    (GN : FnOk P w K mg base CX0 3 fN fdN ["value"] (spTup K p)) (kN : PySem.W.keepIn K (.ref fN) = true) (gN : mg "is_pair" = some (.ref fN)) (bN : Binds K fdN ["value"] []) :
    FnOk P w K mg base CX0 4 f fd ["value"] (spLst K p) := by
  refine F.ok scIsPairs (fun vs H Q E h => ?_) (fun cdv A outer s H vs Q E hr h => ?_)
  · obtain ⟨v, o, rfl, _⟩ := h
    rfl
  · obtain ⟨v, o, rfl, h, q⟩ := h
    refine ⟨_, pss_one (ps_ret (pe_and (pe_callB call_isi (by rfl) B.isi bootIsi (pa_cons (pv 0) (pa_cons (pe_bltn (v := V.ty "list") (by rfl) B.lst PyProof.Rows.boot_list rfl) pa_nil)))
      (pe_one (pe_callB (cr_all rfl) (by rfl) B.all bootAll (pa_cons (by exact (pe_lc (own := [("part", 1)]) (g := gName 1) (tt := tYes) rfl scIsPairs.nd (pi_list (pv 0))
          (blkOk_by (own := [("part", 1)]) (N := ["value", "part"]) (sc := defScope sIsPairs) (by decide +kernel))
          (fun _ _ _ _ _ => pg_name (i := 1) scIsPairs.nd rfl (Or.inl rfl)) (fun _ _ _ _ _ => pts_nil)
          (fun _ _ _ _ _ => by exact (pe_call GN hr (by rfl) gN kN bN .nil pass0 (pa_cons (pv 1) pa_nil))))) pa_nil))))), ?_⟩
    cases o with
    | none =>
      obtain ⟨t, ht, hk⟩ := h
      refine ⟨_, rfl, _, _, _, _, false, rfl, .ty _, ht, hk, false, rfl, iteF ?_⟩
      exact q H (Same.refl H)
    | some ls =>
      obtain ⟨a, xs, rfl, e, ha, hl⟩ := h
      have hxl := ha.len
      refine ⟨_, rfl, _, _, _, _, true, rfl, .ty _, tyx_lst e, kit_ty (by decide +kernel), true, rfl, iteT ?_⟩
      refine ⟨_, rfl, a, rfl, ⟨_, SqL.of e⟩, fun D nD => ?_⟩
      refine lc_list (K := K) (a := a) (xs := xs) (fun i H' => Same H H' ∧ H' D = some (.lst ((ls.take i).map fun o => V.bl (p o)))) ⟨same_new nD, upd_same⟩ (fun i H' _ y => SqL.of (y.1 _ _ e)) ?_ ?_
      · rintro i y H3 hi ⟨s3, e3⟩
        obtain ⟨o2, ho2, hy⟩ := ha.at_ hi
        refine ⟨rfl, _, rfl, y, o2, rfl, hy.same s3, fun H4 s4 => ?_⟩
        refine ⟨_, s4 _ _ e3, ?_, same_put (s3.trans s4) nD, ?_⟩
        · rw [List.length_map, List.length_take]
          exact Nat.lt_of_le_of_lt (by omega : _ ≤ 1000) (by decide)
        · rw [upd_same, take_one ho2, List.map_append] <;> rfl
      · rintro H3 ⟨s3, e3⟩
        rw [hxl, List.take_length] at e3
        refine ⟨D, ls.map p, rfl, SqL.of (by rw [e3, List.map_map] <;> rfl), ?_⟩
        rw [List.all_map]
        exact q H3 s3
theorem scIsPair : FnScope ["value", "part"] ["value"] (defScope sIsPair) := ⟨rfl, rfl, rfl, by decide +kernel, rfl, by decide +kernel, by decide +kernel⟩
theorem tm_some {o : Option Str} (h : tmO o = true) : ∃ z, o = some z := by
  cases o with
  | none => cases h
  | some z => exact ⟨z, rfl⟩
theorem ok_isPair {f fT fV : Addr} {fd fdT fdV : FuncData} (F : Fun K "is_pair" "is_pair" sIsPair f fd) (B : Bp mg)
    (GT : FnOk P w K mg base CX0 2 fT fdT ["value"] (spTxt K fun z => decide (IsTm z))) (kT : PySem.W.keepIn K (.ref fT) = true) (gT : mg "is_term" = some (.ref fT)) (bT : Binds K fdT ["value"] [])
    (GV : FnOk P w K mg base CX0 1 fV fdV ["value"] (spTxt K fun z => decide (IsVr z))) (kV : PySem.W.keepIn K (.ref fV) = true) (gV : mg "is_variable" = some (.ref fV)) (bV : Binds K fdV ["value"] []) :
    FnOk P w K mg base CX0 3 f fd ["value"] (spTup K prB) := by
  refine F.ok scIsPair (fun vs H Q E h => ?_) (fun cdv A outer s H vs Q E hr h => ?_)
  · obtain ⟨v, o, rfl, _⟩ := h
    rfl
  · obtain ⟨v, o, rfl, h, q⟩ := h
    have hr1 : Room 1 _ := hr.mono (by decide)
    refine ⟨_, pss_cons (ps_if (PW.pt (pw_or (pt_not (pt_val (pe_callB call_isi (by rfl) B.isi bootIsi (pa_cons (pv 0) (pa_cons (pe_bltn (v := V.ty "tuple") (by rfl) B.tup PyProof.Rows.boot_tuple rfl) pa_nil)))))
        (pw_or (pt_cmpR op_ne (pe_callB call_len_seq (by rfl) B.len PySem.boot_len (pa_cons (pv 0) pa_nil)) pe_int (nomark _))
        (pw_or1 (pt_not (pt_val (pe_callB (cr_all rfl) (by rfl) B.all bootAll (pa_cons (by exact (pe_lc (own := [("part", 1)]) (g := gName 1) (tt := tYes) rfl scIsPair.nd (pi_tup (pv 0))
          (blkOk_by (own := [("part", 1)]) (N := ["value", "part"]) (sc := defScope sIsPair) (by decide +kernel))
          (fun _ _ _ _ _ => pg_name (i := 1) scIsPair.nd rfl (Or.inl rfl)) (fun _ _ _ _ _ => pts_nil)
          (fun _ _ _ _ _ => by exact (pe_call GT hr (by rfl) gT kT bT .nil pass0 (pa_cons (pv 1) pa_nil))))) pa_nil)))))))) (pss_one (ps_ret pe_bl)) pss_nil)
      (pss_one (ps_ret (pe_and (pe_cmpR op_ne (pe_ix ix_tup (pv 0) pe_int (fun _ _ => rfl)) (pe_ix ix_tup (pv 0) pe_int (fun _ _ => rfl)) (nomark _))
        (pe_one (pe_callB (cr_any rfl) (by rfl) B.any bootAny (pa_cons (by exact (pe_lc (own := [("part", 1)]) (g := gName 1) (tt := tYes) rfl scIsPair.nd (pi_tup (pv 0))
          (blkOk_by (own := [("part", 1)]) (N := ["value", "part"]) (sc := defScope sIsPair) (by decide +kernel))
          (fun _ _ _ _ _ => pg_name (i := 1) scIsPair.nd rfl (Or.inl rfl)) (fun _ _ _ _ _ => pts_nil)
          (fun _ _ _ _ _ => by exact (pe_call GV hr1 (by rfl) gV kV bV .nil pass0 (pa_cons (pv 1) pa_nil))))) pa_nil)))))), ?_⟩
    cases o with
    | none =>
      obtain ⟨t, ht, hk⟩ := h
      refine ⟨_, rfl, _, _, _, _, false, rfl, .ty _, ht, hk, false, rfl, iteT (iteT ?_)⟩
      exact q H (Same.refl H)
    | some os =>
      obtain ⟨t, xs, rfl, e, ha, hl⟩ := h
      have hxl := ha.len
      refine ⟨_, rfl, _, _, _, _, true, rfl, .ty _, tyx_tup e, kit_ty (by decide +kernel), true, rfl, iteF ?_⟩
      refine ⟨_, rfl, t, xs, rfl, .inr (SqT.of e), rfl, _, rfl, ?_⟩
      by_cases h2 : os.length = 2
      · obtain ⟨o1, o2, rfl⟩ : ∃ o1 o2, os = [o1, o2] := by
          match os, h2 with
          | [o1, o2], _ => exact ⟨o1, o2, rfl⟩
        have hx2 : V.int (xs.length : Int) = V.int 2 := by
          rw [hxl] <;> rfl
        rw [decide_eq_true hx2]
        refine iteF ?_
        refine ⟨_, rfl, t, rfl, ⟨_, SqT.of e⟩, fun D nD => ?_⟩
        refine lc_tup (K := K) (a := t) (xs := xs) (fun i H' => Same H H' ∧ H' D = some (.lst (([o1, o2].take i).map fun o => V.bl (tmO o)))) ⟨same_new nD, upd_same⟩ (fun i H' _ y => SqT.of (y.1 _ _ e)) ?_ ?_
        · rintro i y H3 hi ⟨s3, e3⟩
          obtain ⟨o, ho, hy⟩ := ha.at_ hi
          refine ⟨rfl, _, rfl, ?_⟩
          dsimp only [tNil]
          refine spTxt.of (hy.same s3) fun H4 s4 => ?_
          refine ⟨_, s4 _ _ e3, ?_, same_put (s3.trans s4) nD, ?_⟩
          · rw [List.length_map, List.length_take]
            exact Nat.lt_of_le_of_lt (Nat.min_le_right _ _) (by show 2 < sizeLine; decide)
          · rw [upd_same, take_one ho, List.map_append] <;> rfl
        · rintro H3 ⟨s3, e3⟩
          rw [hxl, List.take_length] at e3
          refine ⟨D, [o1, o2].map tmO, rfl, SqL.of (by rw [e3] <;> rfl), _, rfl, ?_⟩
          have hq := q H3 s3
          cases h1 : tmO o1 with
          | false =>
            have e5 : ([o1, o2].map tmO).all id = false := by simp [h1]
            rw [e5]
            refine iteT ?_
            simp only [prB, h1, Bool.false_and] at hq
            exact hq
          | true =>
            cases h3 : tmO o2 with
            | false =>
              have e5 : ([o1, o2].map tmO).all id = false := by simp [h3]
              rw [e5]
              refine iteT ?_
              simp only [prB, h1, h3, Bool.false_and, Bool.true_and] at hq
              exact hq
            | true =>
              have e5 : ([o1, o2].map tmO).all id = true := by simp [h1, h3]
              rw [e5]
              refine iteF ?_
              obtain ⟨z1, rfl⟩ := tm_some h1
              obtain ⟨z2, rfl⟩ := tm_some h3
              have q : ∀ H', Same H H' → Q (.bl (decide (some z1 ≠ some z2) && (vrO (some z1) || vrO (some z2)))) H' := fun H' s => by
                have := q H' s
                simp only [prB, h1, h3, Bool.true_and] at this
                exact this
              obtain ⟨x1, x2, rfl⟩ : ∃ x1 x2, xs = [x1, x2] := by
                match xs, hxl with
                | [x1, x2], _ => exact ⟨x1, x2, rfl⟩
              have g1 : x1 = V.str z1 := by
                obtain ⟨o, ho, hy⟩ := ha.at_ (i := 0) rfl
                cases ho
                exact hy.1
              have g2 : x2 = V.str z2 := by
                obtain ⟨o, ho, hy⟩ := ha.at_ (i := 1) rfl
                cases ho
                exact hy.1
              subst g1 g2
              refine ⟨_, rfl, t, _, _, _, rfl, rfl, SqT.of (s3 _ _ e), atI_nat (j := 0) rfl, _, rfl, t, _, _, _, rfl, rfl, SqT.of (s3 _ _ e), atI_nat (j := 1) rfl, rfl, ?_⟩
              refine ⟨!decide (V.str z1 = V.str z2), rfl, ?_⟩
              by_cases hz : z1 = z2
              · rw [decide_eq_true (by rw [hz] : V.str z1 = V.str z2)]
                refine iteF ?_
                have := q H3 s3
                have e7 : decide (some z1 ≠ some z2) = false := decide_eq_false (fun y => y (by rw [hz]))
                rw [e7, Bool.false_and] at this
                exact this
              · rw [decide_eq_false (fun y => hz (by injection y) : ¬ V.str z1 = V.str z2)]
                refine iteT ?_
                refine ⟨_, rfl, t, rfl, ⟨_, SqT.of (s3 _ _ e)⟩, fun D2 nD2 => ?_⟩
                refine lc_tup (K := K) (a := t) (xs := [V.str z1, V.str z2]) (fun i H' => Same H3 H' ∧ H' D2 = some (.lst (([some z1, some z2].take i).map fun o => V.bl (vrO o)))) ⟨same_new nD2, upd_same⟩ (fun i H' _ y => SqT.of (y.1 _ _ (s3 _ _ e))) ?_ ?_
                · rintro i y H4 hi ⟨s4, e4⟩
                  obtain ⟨o, ho, hy⟩ := ha.at_ hi
                  refine ⟨rfl, _, rfl, ?_⟩
                  dsimp only [tNil]
                  refine spTxt.of (hy.same (s3.trans s4)) fun H5 s5 => ?_
                  refine ⟨_, s5 _ _ e4, ?_, same_put (s4.trans s5) nD2, ?_⟩
                  · rw [List.length_map, List.length_take]
                    exact Nat.lt_of_le_of_lt (Nat.min_le_right _ _) (by show 2 < sizeLine; decide)
                  · rw [upd_same, take_one ho, List.map_append] <;> rfl
                · rintro H4 ⟨s4, e4⟩
                  refine ⟨D2, [some z1, some z2].map vrO, rfl, SqL.of (by rw [e4] <;> rfl), ?_⟩
                  have := q H4 (s3.trans s4)
                  have e7 : decide (some z1 ≠ some z2) = true := decide_eq_true (fun y => hz (by injection y))
                  rw [e7, Bool.true_and] at this
                  have e6 : ([some z1, some z2].map vrO).any id = (vrO (some z1) || vrO (some z2)) := by simp
                  rw [e6]
                  exact this
      · have hx2 : ¬ V.int (xs.length : Int) = V.int 2 := fun y => by
          injection y with y
          omega
        rw [decide_eq_false hx2]
        refine iteT (iteT ?_)
        have := q H (Same.refl H)
        have e5 : prB (some os) = false := by
          match os, h2 with
          | [], _ => rfl
          | [_], _ => rfl
          | [_, _], h => exact absurd rfl h
          | _ :: _ :: _ :: _, _ => rfl
        rw [e5] at this
        exact this
end
end Nv
set_option maxHeartbeats 4000000
namespace Nv
open PySem PySem.Spec PyProof.Rows L2
theorem sqT_same {K : PySem.W.Frag} {H H' : Hp} {a : Addr} {xs : List V} (e : Same H H') (h : SqT K H a xs) : SqT K H' a xs :=
  h.elim (fun h => .inl (h.elim (fun h => .inl (e _ _ h)) fun ⟨o, h⟩ => .inr ⟨o, e _ _ h⟩)) fun h => .inr h
theorem walk_any {J : It} {n : Nat} {G : Hp → Prop} {Y : Nat → Hp → V → Hp → Prop} (w : Walk J n G Y) {S : Hp → Prop} {BODY : (Hp → Prop) → V → Hp → Prop} {H0 : Hp} (Pv : Nat → Hp → Prop) (h0 : Pv 0 H0) (hG : ∀ i H, i ≤ n → Pv i H → G H)
    (hs : ∀ i x H H', i < n → Pv i H → Y i H x H' → BODY (Pv (i + 1)) x H') (hd : ∀ H, Pv n H → S H) :
    ∃ W : Nat → Nat → Hp → Prop, (∃ m, W 0 m H0) ∧ ∀ i m H, W i m H → (J.stop i H ∧ S H) ∨ (J.go i H ∧ ∃ Nx : Hp → Prop, (∀ H', Nx H' → ∃ m', m' < m ∧ W (i + 1) m' H') ∧ ∀ x H', J.yld i H x H' → BODY Nx x H') := by
  refine ⟨fun i m H => m = n - i ∧ i ≤ n ∧ Pv i H, ⟨n, by simp, Nat.zero_le _, h0⟩, ?_⟩
  rintro i m H ⟨rfl, hi, p⟩
  have q := hG i H hi p
  by_cases hlt : i < n
  · refine .inr ⟨w.goes i H hlt q, Pv (i + 1), fun H' p' => ⟨n - (i + 1), by omega, rfl, hlt, p'⟩, fun x H' y => hs i x H H' hlt p (w.yields i H x H' hlt q y)⟩
  · have e : i = n := by omega
    subst e
    exact .inl ⟨w.stops H q, hd H p⟩
section
variable {P : Program} {w : World} {K : PySem.W.Frag} {mg : Str → Option Value} {base : Heap}
def spTermsOf (K : PySem.W.Frag) : Sp := fun vs H Q _ => ∃ (a : Addr) (us : List V) (ps : List (List Str)), vs = [.ref a] ∧ SqL K H a us ∧ PaL H us ps ∧ (∀ x ∈ ps, PatOk x) ∧ ps.length ≤ 1000 ∧
  ∀ (p : Addr) (H' : Hp), H p = none → Same H H' → H' p = some (.lst ((tails ps).map V.str)) → Q (.ref p) H'
theorem scTermsOf : FnScope ["patterns", "pattern", "term"] ["patterns"] (defScope sTermsOf) := ⟨rfl, rfl, rfl, by decide +kernel, rfl, by decide +kernel, by decide +kernel⟩
theorem tails_le {ps : List (List Str)} (h : ∀ x ∈ ps, PatOk x) (hl : ps.length ≤ 1000) : (tails ps).length ≤ 3000 := by
  have := tails_len h
  omega
theorem ok_termsOf {f : Addr} {fd : FuncData} (F : Fun K "terms_of" "terms_of" sTermsOf f fd) : FnOk P w K mg base CX0 1 f fd ["patterns"] (spTermsOf K) := by
  refine F.ok scTermsOf (fun vs H Q E h => ?_) (fun cdv A outer s H vs Q E hr h => ?_)
  · obtain ⟨a, us, ps, rfl, _⟩ := h
    rfl
  · obtain ⟨a, us, ps, rfl, ha, hp, hok, hl, q⟩ := h
    refine ⟨_, pss_one (ps_ret (by exact (pe_lc2 (own := [("pattern", 1), ("term", 2)]) (vs1 := [2]) (g := gName 1) (g1 := gName 2) (tt := tYes) (tt1 := tYes) (wi1 := iTup K (tSl (rSlT K) (tVar 1) (tPart (tC (V.int 1))) tNoPart)) (te := tVar 2) rfl scTermsOf.nd (pi_list (pv 0))
      (blkOk_by (own := [("pattern", 1), ("term", 2)]) (N := ["patterns", "pattern", "term"]) (sc := defScope sTermsOf) (by decide +kernel)) (by decide)
      (fun _ _ _ _ _ => pg_name (i := 1) scTermsOf.nd rfl (Or.inl rfl)) (fun _ _ _ _ _ => pts_nil)
      (fun _ _ _ _ _ => by exact (pi_tup (pe_slice sl_tup (pv 1) (po_some pe_int) po_none)))
      (fun _ _ _ _ _ => pg_name (i := 2) scTermsOf.nd rfl (Or.inl rfl)) (fun _ _ _ _ _ => pts_nil) (fun _ _ _ _ _ => by exact (pv 2))))), ?_⟩
    have hul := hp.len
    refine ⟨_, rfl, a, rfl, ⟨_, ha⟩, fun D nD => ?_⟩
    refine walk_any (walk_list (K := K) (a := a) (xs := us)) (fun i H' => Same H H' ∧ H' D = some (.lst ((tails (ps.take i)).map V.str))) ⟨same_new nD, upd_same⟩ (fun i H' _ y => y.1.seq ha) ?_ ?_
    · rintro i v H1 H1' hi ⟨sm, e1⟩ ⟨rfl, hv⟩
      obtain ⟨t, pat, rfl, hpi, et⟩ := hp.at_ hv
      obtain ⟨wd, ts, rfl, hw, h3, hts⟩ := hok pat (List.mem_of_getElem? hpi)
      have et1 := sm _ _ et
      have hacc : (tails (ps.take i)).length ≤ 3000 := by
        refine tails_le (fun x hx => hok x (List.mem_of_mem_take hx)) ?_
        rw [List.length_take]
        omega
      rw [tails_take hpi]
      show gName 1 _ _ _ _
      generalize tails (ps.take i) = acc at e1 hacc ⊢
      refine ⟨rfl, _, rfl, 1, rfl, t, _, rfl, SqT.of et1, ?_, fun t2 nt2 => ?_⟩
      · rintro ⟨h, _⟩
        have := HT.sIx_nat ((wd :: ts).map V.str).length 0 1
        rw [show ((1 : Nat) : Int) = 1 by rfl] at this
        rw [this, List.length_map, List.length_cons] at h
        omega
      · rw [cut1]
        have sm2 : Same H (upd H1' t2 (.tup (ts.map V.str))) := same_put sm (sm.free nt2)
        have e2 : upd H1' t2 (.tup (ts.map V.str)) D = some (.lst (acc.map V.str)) := same_new nt2 _ _ e1
        have et2 : upd H1' t2 (.tup (ts.map V.str)) t2 = some (.tup (ts.map V.str)) := upd_same
        generalize upd H1' t2 (.tup (ts.map V.str)) = G at sm2 e2 et2 ⊢
        refine ⟨t2, rfl, ⟨_, SqT.of et2⟩, ?_⟩
        refine walk_any (walk_tup (K := K) (a := t2) (xs := ts.map V.str)) (fun j H' => Same H H' ∧ H' t2 = some (.tup (ts.map V.str)) ∧ H' D = some (.lst ((acc ++ ts.take j).map V.str))) ⟨sm2, et2, by rw [List.take_zero, List.append_nil]; exact e2⟩ (fun j H' _ z => SqT.of z.2.1) ?_ ?_
        · rintro j x H2 H2' hj ⟨sm3, et3, e3⟩ ⟨rfl, hx⟩
          rw [List.getElem?_map] at hx
          obtain ⟨z, hz, rfl⟩ : ∃ z, ts[j]? = some z ∧ x = V.str z := by
            cases g : ts[j]? with
            | none =>
              rw [g] at hx
              cases hx
            | some z =>
              rw [g] at hx
              exact ⟨z, rfl, (Option.some.inj hx).symm⟩
          have htD : t2 ≠ D := fun y => by
            rw [y, e3] at et3
            cases et3
          refine ⟨rfl, _, rfl, _, e3, ?_, same_put sm3 nD, ?_, ?_⟩
          · rw [List.length_map, List.length_append, List.length_take]
            exact Nat.lt_of_le_of_lt (by omega : _ ≤ 3003) (by decide)
          · rw [upd_ne htD]
            exact et3
          · rw [upd_same, take_one hz]
            simp only [List.map_append, List.map_cons, List.map_nil, List.append_assoc]
        · rintro H2 ⟨sm3, et3, e3⟩
          refine ⟨sm3, ?_⟩
          rw [e3, List.length_map, List.take_length] <;> rfl
    · rintro H1 ⟨sm, e1⟩
      rw [hul, List.take_length] at e1
      exact q D H1 nD sm e1
/-- variables_among(terms) -/
def spVarsAmong (K : PySem.W.Frag) : Sp := fun vs H Q _ => ∃ (a : Addr) (ts : List Str), vs = [.ref a] ∧ (SqL K H a (ts.map V.str) ∨ SqT K H a (ts.map V.str)) ∧ (∀ x ∈ ts, x.length ≤ 1000) ∧ ts.length ≤ 5000 ∧
  ∀ (p : Addr) (H' : Hp), H p = none → Same H H' → H' p = some (.lst ((varsIn ts).map V.str)) → Q (.ref p) H'
theorem scVarsAmong : FnScope ["terms", "found", "term"] ["terms"] (defScope sVarsAmong) := ⟨rfl, rfl, rfl, by decide +kernel, rfl, by decide +kernel, by decide +kernel⟩
def tk (z : Str) : Key × V := (Sum.inr z, V.bl true)
theorem put_tk (l : List Str) (z : Str) : putK (l.map tk) (Sum.inr z) (V.bl true) = (if z ∈ l then l else l ++ [z]).map tk := by
  unfold putK
  have e : ((l.map tk).any fun kv => decide (kv.1 = Sum.inr z)) = decide (z ∈ l) := by
    rw [List.any_map]
    by_cases h : z ∈ l
    · rw [decide_eq_true h, List.any_eq_true]
      exact ⟨z, h, decide_eq_true rfl⟩
    · rw [decide_eq_false h, List.any_eq_false]
      intro y hy y2
      have := of_decide_eq_true y2
      injection this with this
      exact h (this ▸ hy)
  rw [e]
  by_cases h : z ∈ l
  · rw [decide_eq_true h, if_pos rfl, if_pos h, List.map_map]
    refine List.map_congr_left fun y hy => ?_
    show (if (tk y).1 = Sum.inr z then ((tk y).1, V.bl true) else tk y) = tk y
    split <;> rfl
  · rw [decide_eq_false h, if_neg (by decide), if_neg h, List.map_append] <;> rfl
theorem vst_vr {acc : List Str} {z : Str} (h : IsVr z) : vst acc z = if z ∈ acc then acc else acc ++ [z] := by
  unfold vst
  by_cases hm : z ∈ acc
  · rw [if_neg (fun y => y.2 hm), if_pos hm]
  · rw [if_pos ⟨h, hm⟩, if_neg hm]
theorem vst_no {acc : List Str} {z : Str} (h : ¬ IsVr z) : vst acc z = acc := by
  unfold vst
  rw [if_neg (fun y => h y.1)]
theorem ok_varsAmong {f fV : Addr} {fd fdV : FuncData} (F : Fun K "variables_among" "variables_among" sVarsAmong f fd) (B : Bp mg)
    (GV : FnOk P w K mg base CX0 1 fV fdV ["value"] (spTxt K fun z => decide (IsVr z))) (kV : PySem.W.keepIn K (.ref fV) = true) (gV : mg "is_variable" = some (.ref fV)) (bV : Binds K fdV ["value"] []) :
    FnOk P w K mg base CX0 2 f fd ["terms"] (spVarsAmong K) := by
  refine F.ok scVarsAmong (fun vs H Q E h => ?_) (fun cdv A outer s H vs Q E hr h => ?_)
  · obtain ⟨a, ts, rfl, _⟩ := h
    rfl
  · obtain ⟨a, ts, rfl, ha, hz, hl, q⟩ := h
    have hu := hu_of hr
    have turn : ∀ (i : Nat) (x : V) (d : Addr) (σ : L2.St) (H1 : Hp) (z : Str), H d = none → x = V.str z → ts[i]? = some z → (∃ o : Option V, σ = [some (.ref a), some (.ref d), o] ∧ Same H H1 ∧ H1 d = some (.dK (((ts.take i).foldl vst []).map tk))) →
        ∃ o : Option V, σ = [some (.ref a), some (.ref d), o] ∧ Same H H1 ∧ H1 d = some (.dK (((ts.take i).foldl vst []).map tk)) ∧ ((ts.take i).foldl vst []).length ≤ 5000 ∧ (ts.take (i + 1)).foldl vst [] = vst ((ts.take i).foldl vst []) z := by
      rintro i x d σ H1 z nd rfl hi ⟨o, rfl, sm, e⟩
      refine ⟨o, rfl, sm, e, ?_, ?_⟩
      · have := fold_len (ts.take i) []
        rw [List.length_take] at this
        have h0 : ([] : List Str).length = 0 := rfl
        omega
      · rw [take_one hi, List.foldl_append] <;> rfl
    rcases ha with ha | ha
    · refine ⟨_, pss_cons (ps_set (i := 1) scVarsAmong.nd rfl (Or.inl rfl) pe_dnewK)
        (pss_cons (ps_for PassesOwn.never rfl (pi_list (pv 0)) (pg_name (i := 2) scVarsAmong.nd rfl (Or.inl rfl))
          (pss_one (ps_if (pt_val (by exact (pe_call GV hr (by rfl) gV kV bV .nil pass0 (pa_cons (pv 2) pa_nil)))) (pss_one (ps_dput hu (pv 1) (pv 2) pe_bl rfl)) pss_nil)))
        (pss_one (ps_ret (pe_callTy (call_list_dK rfl) (by rfl) B.lst PyProof.Rows.boot_list (pa_cons (pv 1) pa_nil))))), ?_⟩
      intro d nd
      refine ⟨_, rfl, a, rfl, ⟨_, (same_new nd).seq ha⟩, for_list (K := K) (a := a) (xs := ts.map V.str) (fun i σ H' => ∃ o : Option V, σ = [some (.ref a), some (.ref d), o] ∧ Same H H' ∧ H' d = some (.dK (((ts.take i).foldl vst []).map tk))) ⟨none, rfl, same_new nd, upd_same⟩ (fun i σ H' _ z => ?_) ?_ ?_⟩
      · obtain ⟨_, _, sm, _⟩ := z
        exact sm.seq ha
      · rintro i x σ H1 hi h
        rw [List.getElem?_map] at hi
        obtain ⟨z, hiz, rfl⟩ : ∃ z, ts[i]? = some z ∧ x = V.str z := by
          cases g : ts[i]? with
          | none =>
            rw [g] at hi
            cases hi
          | some z =>
            rw [g] at hi
            exact ⟨z, rfl, (Option.some.inj hi).symm⟩
        obtain ⟨o, rfl, sm, e, hl2, hf⟩ := turn i _ d σ H1 z nd rfl hiz h
        rw [hf]
        generalize (ts.take i).foldl vst [] = acc at e hl2 ⊢
        refine ⟨_, rfl, ?_⟩
        dsimp only [tNil]
        refine spTxt.yes (hz z (List.mem_of_getElem? hiz)) fun H2 s2 => ⟨_, rfl, ?_⟩
        have e2 := s2 _ _ e
        show if decide (IsVr z) = true then _ else _
        by_cases hv : IsVr z
        · rw [decide_eq_true hv]
          refine iteT ⟨_, rfl, _, rfl, d, _, rfl, DPut.k (k := Sum.inr z) e2 ?_, ?_⟩
          · rw [List.length_map]
            exact Nat.lt_of_le_of_lt hl2 (by decide)
          · refine ⟨_, rfl, same_put (sm.trans s2) nd, ?_⟩
            rw [upd_same, put_tk, vst_vr hv]
        · rw [decide_eq_false hv]
          refine iteF ⟨_, rfl, sm.trans s2, ?_⟩
          rw [vst_no hv]
          exact e2
      · rintro σ H1 ⟨o, rfl, sm, e⟩
        rw [List.length_map, List.take_length] at e
        refine ⟨_, rfl, d, _, rfl, e, fun p np => ?_⟩
        refine q p _ (sm.free np) (same_put sm (sm.free np)) ?_
        rw [upd_same, List.map_map] <;> rfl
    · refine ⟨_, pss_cons (ps_set (i := 1) scVarsAmong.nd rfl (Or.inl rfl) pe_dnewK)
        (pss_cons (ps_for PassesOwn.never rfl (pi_tup (pv 0)) (pg_name (i := 2) scVarsAmong.nd rfl (Or.inl rfl))
          (pss_one (ps_if (pt_val (by exact (pe_call GV hr (by rfl) gV kV bV .nil pass0 (pa_cons (pv 2) pa_nil)))) (pss_one (ps_dput hu (pv 1) (pv 2) pe_bl rfl)) pss_nil)))
        (pss_one (ps_ret (pe_callTy (call_list_dK rfl) (by rfl) B.lst PyProof.Rows.boot_list (pa_cons (pv 1) pa_nil))))), ?_⟩
      intro d nd
      refine ⟨_, rfl, a, rfl, ⟨_, sqT_same (same_new nd) ha⟩, for_tup (K := K) (a := a) (xs := ts.map V.str) (fun i σ H' => ∃ o : Option V, σ = [some (.ref a), some (.ref d), o] ∧ Same H H' ∧ H' d = some (.dK (((ts.take i).foldl vst []).map tk))) ⟨none, rfl, same_new nd, upd_same⟩ (fun i σ H' _ z => ?_) ?_ ?_⟩
      · obtain ⟨_, _, sm, _⟩ := z
        exact sqT_same sm ha
      · rintro i x σ H1 hi h
        rw [List.getElem?_map] at hi
        obtain ⟨z, hiz, rfl⟩ : ∃ z, ts[i]? = some z ∧ x = V.str z := by
          cases g : ts[i]? with
          | none =>
            rw [g] at hi
            cases hi
          | some z =>
            rw [g] at hi
            exact ⟨z, rfl, (Option.some.inj hi).symm⟩
        obtain ⟨o, rfl, sm, e, hl2, hf⟩ := turn i _ d σ H1 z nd rfl hiz h
        rw [hf]
        generalize (ts.take i).foldl vst [] = acc at e hl2 ⊢
        refine ⟨_, rfl, ?_⟩
        dsimp only [tNil]
        refine spTxt.yes (hz z (List.mem_of_getElem? hiz)) fun H2 s2 => ⟨_, rfl, ?_⟩
        have e2 := s2 _ _ e
        show if decide (IsVr z) = true then _ else _
        by_cases hv : IsVr z
        · rw [decide_eq_true hv]
          refine iteT ⟨_, rfl, _, rfl, d, _, rfl, DPut.k (k := Sum.inr z) e2 ?_, ?_⟩
          · rw [List.length_map]
            exact Nat.lt_of_le_of_lt hl2 (by decide)
          · refine ⟨_, rfl, same_put (sm.trans s2) nd, ?_⟩
            rw [upd_same, put_tk, vst_vr hv]
        · rw [decide_eq_false hv]
          refine iteF ⟨_, rfl, sm.trans s2, ?_⟩
          rw [vst_no hv]
          exact e2
      · rintro σ H1 ⟨o, rfl, sm, e⟩
        rw [List.length_map, List.take_length] at e
        refine ⟨_, rfl, d, _, rfl, e, fun p np => ?_⟩
        refine q p _ (sm.free np) (same_put sm (sm.free np)) ?_
        rw [upd_same, List.map_map] <;> rfl
/-- variables_of(patterns) -/
def spVarsOf (K : PySem.W.Frag) : Sp := fun vs H Q _ => ∃ (a : Addr) (us : List V) (ps : List (List Str)), vs = [.ref a] ∧ SqL K H a us ∧ PaL H us ps ∧ (∀ x ∈ ps, PatOk x) ∧ ps.length ≤ 1000 ∧
  ∀ (p : Addr) (H' : Hp), H p = none → Same H H' → H' p = some (.lst ((varsIn (tails ps)).map V.str)) → Q (.ref p) H'
theorem scVarsOf : FnScope ["patterns"] ["patterns"] (defScope sVarsOf) := ⟨rfl, rfl, rfl, by decide +kernel, rfl, by decide +kernel, by decide +kernel⟩
theorem tails_short {ps : List (List Str)} (h : ∀ x ∈ ps, PatOk x) : ∀ z ∈ tails ps, (IsVr z ∨ IsNm z) ∧ z.length ≤ 10 := by
  intro z hz
  unfold tails at hz
  obtain ⟨l, hl, hzl⟩ := List.mem_flatten.mp hz
  obtain ⟨p, hp, rfl⟩ := List.mem_map.mp hl
  obtain ⟨w, ts, rfl, _, _, ht⟩ := h p hp
  have h1 := ht z hzl
  refine ⟨h1, ?_⟩
  rcases h1 with h2 | h2
  · have := h2.2.1
    omega
  · exact h2.2.1
theorem ok_varsOf {f fT fA : Addr} {fd fdT fdA : FuncData} (F : Fun K "variables_of" "variables_of" sVarsOf f fd)
    (GT : FnOk P w K mg base CX0 1 fT fdT ["patterns"] (spTermsOf K)) (kT : PySem.W.keepIn K (.ref fT) = true) (gT : mg "terms_of" = some (.ref fT)) (bT : Binds K fdT ["patterns"] [])
    (GA : FnOk P w K mg base CX0 2 fA fdA ["terms"] (spVarsAmong K)) (kA : PySem.W.keepIn K (.ref fA) = true) (gA : mg "variables_among" = some (.ref fA)) (bA : Binds K fdA ["terms"] []) :
    FnOk P w K mg base CX0 3 f fd ["patterns"] (spVarsOf K) := by
  refine F.ok scVarsOf (fun vs H Q E h => ?_) (fun cdv A outer s H vs Q E hr h => ?_)
  · obtain ⟨a, us, ps, rfl, _⟩ := h
    rfl
  · obtain ⟨a, us, ps, rfl, ha, hp, hok, hl, q⟩ := h
    have hr1 : Room 1 _ := hr.mono (by decide)
    refine ⟨_, pss_one (ps_ret (by exact (pe_call GA hr (by rfl) gA kA bA .nil pass0 (pa_cons (by exact (pe_call GT hr1 (by rfl) gT kT bT .nil pass0 (pa_cons (pv 0) pa_nil))) pa_nil)))), ?_⟩
    refine ⟨_, rfl, a, us, ps, rfl, ha, hp, hok, hl, fun p H1 np sm e => ?_⟩
    refine ⟨p, tails ps, rfl, .inl (SqL.of e), (fun x hx => by have := (tails_short hok x hx).2; omega), by have := tails_le hok hl; omega, fun p2 H2 np2 sm2 e2 => ?_⟩
    exact q p2 H2 (sm.free np2) (sm.trans sm2) e2
end
end Nv
set_option maxHeartbeats 4000000
namespace Nv
open PySem PySem.Spec PyProof.Rows L2
def hasMore (ts : List Str) (ps : List (List Str)) : Bool := (varsIn ts).any fun x => !decide (x ∈ varsIn (tails ps))
theorem at_map {ts : List Str} {i : Nat} {x : V} (hx : (ts.map V.str)[i]? = some x) : ∃ z, ts[i]? = some z ∧ x = V.str z := by
  rw [List.getElem?_map] at hx
  cases g : ts[i]? with
  | none =>
    rw [g] at hx
    cases hx
  | some z =>
    rw [g] at hx
    exact ⟨z, rfl, (Option.some.inj hx).symm⟩
section
variable {P : Program} {w : World} {K : PySem.W.Frag} {mg : Str → Option Value} {base : Heap}
/-- _sides(pairs) -/
def spSides (K : PySem.W.Frag) : Sp := fun vs H Q _ => ∃ (a : Addr) (us : List V) (qs : List (List Str)), vs = [.ref a] ∧ SqL K H a us ∧ PaL H us qs ∧ (∀ x ∈ qs, x.length = 2) ∧ qs.length ≤ 1000 ∧
  ∀ (p : Addr) (H' : Hp), H p = none → Same H H' → H' p = some (.lst (qs.flatten.map V.str)) → Q (.ref p) H'
theorem scSides : FnScope ["pairs", "pair", "term"] ["pairs"] (defScope sSides) := ⟨rfl, rfl, rfl, by decide +kernel, rfl, by decide +kernel, by decide +kernel⟩
theorem flat_len {qs : List (List Str)} (h : ∀ x ∈ qs, x.length = 2) : qs.flatten.length = 2 * qs.length := by
  induction qs with
  | nil => rfl
  | cons q qs ih =>
    rw [List.flatten_cons, List.length_append, ih fun x hx => h x (List.mem_cons_of_mem _ hx), h q List.mem_cons_self, List.length_cons]
    omega
theorem ok_sides {f : Addr} {fd : FuncData} (F : Fun K "sides_of" "sides_of" sSides f fd) : FnOk P w K mg base CX0 1 f fd ["pairs"] (spSides K) := by
  refine F.ok scSides (fun vs H Q E h => ?_) (fun cdv A outer s H vs Q E hr h => ?_)
  · obtain ⟨a, us, ps, rfl, _⟩ := h
    rfl
  · obtain ⟨a, us, qs, rfl, ha, hp, h2, hl, q⟩ := h
    refine ⟨_, pss_one (ps_ret (by exact (pe_lc2 (own := [("pair", 1), ("term", 2)]) (vs1 := [2]) (g := gName 1) (g1 := gName 2) (tt := tYes) (tt1 := tYes) (wi1 := iTup K (tVar 1)) (te := tVar 2) rfl scSides.nd (pi_list (pv 0))
      (blkOk_by (own := [("pair", 1), ("term", 2)]) (N := ["pairs", "pair", "term"]) (sc := defScope sSides) (by decide +kernel)) (by decide)
      (fun _ _ _ _ _ => pg_name (i := 1) scSides.nd rfl (Or.inl rfl)) (fun _ _ _ _ _ => pts_nil)
      (fun _ _ _ _ _ => by exact (pi_tup (pv 1)))
      (fun _ _ _ _ _ => pg_name (i := 2) scSides.nd rfl (Or.inl rfl)) (fun _ _ _ _ _ => pts_nil) (fun _ _ _ _ _ => by exact (pv 2))))), ?_⟩
    have hul := hp.len
    refine ⟨_, rfl, a, rfl, ⟨_, ha⟩, fun D nD => ?_⟩
    refine walk_any (walk_list (K := K) (a := a) (xs := us)) (fun i H' => Same H H' ∧ H' D = some (.lst ((qs.take i).flatten.map V.str))) ⟨same_new nD, upd_same⟩ (fun i H' _ y => y.1.seq ha) ?_ ?_
    · rintro i v H1 H1' hi ⟨sm, e1⟩ ⟨rfl, hv⟩
      obtain ⟨t, ts, rfl, hpi, et⟩ := hp.at_ hv
      have et1 := sm _ _ et
      have hts := h2 ts (List.mem_of_getElem? hpi)
      have hacc : (qs.take i).flatten.length ≤ 2000 := by
        rw [flat_len fun x hx => h2 x (List.mem_of_mem_take hx), List.length_take]
        omega
      have htk : (qs.take (i + 1)).flatten = (qs.take i).flatten ++ ts := by
        rw [take_one hpi, List.flatten_append]
        simp
      rw [htk]
      show gName 1 _ _ _ _
      generalize (qs.take i).flatten = acc at e1 hacc ⊢
      refine ⟨rfl, _, rfl, t, rfl, ⟨_, SqT.of et1⟩, ?_⟩
      refine walk_any (walk_tup (K := K) (a := t) (xs := ts.map V.str)) (fun j H' => Same H H' ∧ H' D = some (.lst ((acc ++ ts.take j).map V.str))) ⟨sm, by rw [List.take_zero, List.append_nil]; exact e1⟩ (fun j H' _ z => SqT.of (z.1 _ _ et)) ?_ ?_
      · rintro j x H2 H2' hj ⟨sm3, e3⟩ ⟨rfl, hx⟩
        obtain ⟨z, hz, rfl⟩ := at_map hx
        refine ⟨rfl, _, rfl, _, e3, ?_, same_put sm3 nD, ?_⟩
        · rw [List.length_map, List.length_append, List.length_take]
          exact Nat.lt_of_le_of_lt (by omega : _ ≤ 3003) (by decide)
        · rw [upd_same, take_one hz]
          simp only [List.map_append, List.map_cons, List.map_nil, List.append_assoc]
      · rintro H2 ⟨sm3, e3⟩
        refine ⟨sm3, ?_⟩
        rw [e3, List.length_map, List.take_length] <;> rfl
    · rintro H1 ⟨sm, e1⟩
      rw [hul, List.take_length] at e1
      exact q D H1 nD sm e1
/-- _has_more(terms, told) -/
def spHasMore (K : PySem.W.Frag) : Sp := fun vs H Q _ => ∃ (a b : Addr) (ts : List Str) (us : List V) (ps : List (List Str)), vs = [.ref a, .ref b] ∧ ((SqL K H a (ts.map V.str) ∨ SqT K H a (ts.map V.str)) ∧ (∀ x ∈ ts, x.length ≤ 1000) ∧ ts.length ≤ 5000) ∧
  (SqL K H b us ∧ PaL H us ps ∧ (∀ x ∈ ps, PatOk x) ∧ ps.length ≤ 1000) ∧ ∀ H' : Hp, Same H H' → Q (.bl (hasMore ts ps)) H'
theorem scHasMore : FnScope ["terms", "told", "known", "term"] ["terms", "told"] (defScope sHasMore) := ⟨rfl, rfl, rfl, by decide +kernel, rfl, by decide +kernel, by decide +kernel⟩
theorem ok_hasMore {f fA fO : Addr} {fd fdA fdO : FuncData} (F : Fun K "has_more" "has_more" sHasMore f fd) (B : Bp mg)
    (GA : FnOk P w K mg base CX0 2 fA fdA ["terms"] (spVarsAmong K)) (kA : PySem.W.keepIn K (.ref fA) = true) (gA : mg "variables_among" = some (.ref fA)) (bA : Binds K fdA ["terms"] [])
    (GO : FnOk P w K mg base CX0 3 fO fdO ["patterns"] (spVarsOf K)) (kO : PySem.W.keepIn K (.ref fO) = true) (gO : mg "variables_of" = some (.ref fO)) (bO : Binds K fdO ["patterns"] []) :
    FnOk P w K mg base CX0 4 f fd ["terms", "told"] (spHasMore K) := by
  refine F.ok scHasMore (fun vs H Q E h => ?_) (fun cdv A outer s H vs Q E hr h => ?_)
  · obtain ⟨a, b, ts, us, ps, rfl, _⟩ := h
    rfl
  · obtain ⟨a, b, ts, us, ps, rfl, ⟨ha, hz, hl⟩, ⟨hb, hp, hok, hpl⟩, q⟩ := h
    have hr2 : Room 2 _ := hr.mono (by decide)
    refine ⟨_, pss_cons (ps_set (i := 2) scHasMore.nd rfl (Or.inr rfl) (by exact (pe_call GO hr (by rfl) gO kO bO .nil pass0 (pa_cons (pv 1) pa_nil))))
      (pss_one (ps_ret (pe_callB (cr_any rfl) (by rfl) B.any bootAny (pa_cons (by exact (pe_lc (own := [("term", 3)]) (g := gName 3) (tt := tYes) (te := tOp (rIn K true) (tVar 3) (tVar 2)) rfl scHasMore.nd
        (pi_list (by exact (pe_call GA hr2 (by rfl) gA kA bA .nil pass0 (pa_cons (pv 0) pa_nil))))
        (blkOk_by (own := [("term", 3)]) (N := ["terms", "told", "known", "term"]) (sc := defScope sHasMore) (by decide +kernel))
        (fun _ _ _ _ _ => pg_name (i := 3) scHasMore.nd rfl (Or.inl rfl)) (fun _ _ _ _ _ => pts_nil)
        (fun _ _ _ _ _ => by exact (pe_cmpR op_notIn_seq (pv 3) (pv 2) (by rfl))))) pa_nil)))), ?_⟩
    refine ⟨_, rfl, b, us, ps, rfl, hb, hp, hok, hpl, fun p1 H1 np1 sm1 e1 => ?_⟩
    refine (show ∀ G : Hp, G = H1 → tSeq _ _ { nx := fun _ H' => Q .non H', rt := Q } [some (.ref a), some (.ref b), some (.ref p1), none] G from fun G hG => ?_) _ rfl
    subst hG
    refine ⟨_, rfl, a, ts, rfl, ?_, hz, hl, fun p2 H2 np2 sm2 e2 => ?_⟩
    · rcases ha with h | h
      · exact .inl (sm1.seq h)
      · exact .inr (sqT_same sm1 h)
    · have e12 := sm2 _ _ e1
      refine ⟨p2, rfl, ⟨_, SqL.of e2⟩, fun D nD => ?_⟩
      refine lc_list (K := K) (a := p2) (xs := (varsIn ts).map V.str) (fun i H' => Same H2 H' ∧ H' D = some (.lst (((varsIn ts).take i).map fun x => V.bl (!decide (x ∈ varsIn (tails ps)))))) ⟨same_new nD, upd_same⟩ (fun i H' _ y => SqL.of (y.1 _ _ e2)) ?_ ?_
      · rintro i x H3 hi ⟨s3, e3⟩
        obtain ⟨z, hz2, rfl⟩ := at_map hi
        refine ⟨rfl, _, rfl, _, rfl, p1, _, rfl, .inl (SqL.of (s3 _ _ e12)), rfl, flat_strs _, ?_⟩
        rw [inV_strs]
        refine ⟨_, e3, ?_, same_put s3 nD, ?_⟩
        · rw [List.length_map, List.length_take]
          have := varsIn_len ts
          exact Nat.lt_of_le_of_lt (by omega : _ ≤ 5000) (by decide)
        · rw [upd_same, take_one hz2, List.map_append] <;> rfl
      · rintro H3 ⟨s3, e3⟩
        rw [List.length_map, List.take_length] at e3
        refine ⟨D, (varsIn ts).map fun x => !decide (x ∈ varsIn (tails ps)), rfl, SqL.of (by rw [e3, List.map_map] <;> rfl), ?_⟩
        rw [List.any_map]
        exact q H3 ((sm1.trans sm2).trans s3)
end
end Nv
set_option maxHeartbeats 4000000
namespace Nv
open PySem PySem.Spec PyProof.Rows
/-- texts, each once -/
def dstep (acc : List Str) (x : Str) : List Str := if acc.any (· == x) = true then acc else acc ++ [x]
def dist (l : List Str) : List Str := l.foldl dstep []
theorem dstep_any (acc : List Str) (x k : Str) : (dstep acc x).any (· == k) = (acc.any (· == k) || decide (k = x)) := by
  unfold dstep
  by_cases e : k = x
  · subst e
    by_cases h : acc.any (· == k) = true
    · simp [h]
    · simp [h]
  · have hb : (x == k) = false := beq_eq_false_iff_ne.mpr fun z => e z.symm
    by_cases h : acc.any (· == x) = true
    · simp [h, e]
    · simp [h, e, hb]
theorem dstep_len (acc : List Str) (x : Str) : (dstep acc x).length = if acc.any (· == x) then acc.length else acc.length + 1 := by
  unfold dstep
  split <;> simp
theorem dist_le : ∀ (l acc : List Str), (l.foldl dstep acc).length ≤ acc.length + l.length
  | [], acc => Nat.le_refl _
  | x :: l, acc => by
    have h1 := dist_le l (dstep acc x)
    have h2 := dstep_len acc x
    show (l.foldl dstep (dstep acc x)).length ≤ acc.length + (l.length + 1)
    split at h2 <;> omega
theorem dist_take {l : List Str} {i : Nat} {x : Str} (h : l[i]? = some x) : dist (l.take (i + 1)) = dstep (dist (l.take i)) x := by
  unfold dist
  rw [take_one h, List.foldl_append] <;> rfl
theorem dist_nd_aux : ∀ (l acc : List Str), (acc ++ l).Nodup → l.foldl dstep acc = acc ++ l
  | [], acc, _ => by simp
  | x :: l, acc, h => by
    have hx : ¬ acc.any (· == x) = true := fun z => by
      obtain ⟨y, hy, e⟩ := List.any_eq_true.mp z
      rw [eq_of_beq e] at hy
      exact (List.nodup_append.mp h).2.2 x hy x List.mem_cons_self rfl
    show l.foldl dstep (dstep acc x) = _
    have e : dstep acc x = acc ++ [x] := by
      unfold dstep
      rw [if_neg hx]
    rw [e, dist_nd_aux l (acc ++ [x]) (by rw [List.append_assoc]; exact h), List.append_assoc] <;> rfl
theorem dist_nd {l : List Str} (h : l.Nodup) : dist l = l := by
  have := dist_nd_aux l [] (by simpa using h)
  simpa [dist] using this
theorem dist_lt_aux : ∀ (l acc : List Str), ¬ (acc ++ l).Nodup → acc.Nodup → (l.foldl dstep acc).length < acc.length + l.length
  | [], acc, h, h2 => absurd (by simpa using h2) h
  | x :: l, acc, h, h2 => by
    show (l.foldl dstep (dstep acc x)).length < acc.length + (l.length + 1)
    by_cases hx : acc.any (· == x) = true
    · have e : dstep acc x = acc := by
        unfold dstep
        rw [if_pos hx]
      rw [e]
      have := dist_le l acc
      omega
    · have e : dstep acc x = acc ++ [x] := by
        unfold dstep
        rw [if_neg hx]
      rw [e]
      have hn : x ∉ acc := fun z => hx (List.any_eq_true.mpr ⟨x, z, beq_self_eq_true x⟩)
      have := dist_lt_aux l (acc ++ [x]) (by rw [List.append_assoc]; exact h) (List.nodup_append.mpr ⟨h2, by simp, fun a ha b hb z => by
        rw [List.mem_singleton.mp hb] at z
        exact hn (z ▸ ha)⟩)
      rw [List.length_append, List.length_singleton] at this
      omega
theorem dist_lt {l : List Str} : decide ((dist l).length < l.length) = !decide l.Nodup := by
  by_cases h : l.Nodup
  · rw [dist_nd h, decide_eq_true h, decide_eq_false (Nat.lt_irrefl _)] <;> rfl
  · have := dist_lt_aux l [] (by simpa using h) List.nodup_nil
    rw [decide_eq_false h, decide_eq_true (by simpa [dist] using this)] <;> rfl
theorem str_at : ∀ {us : List Value} {zs : List Str}, StrsAre us zs → ∀ {j : Nat} {u : Value}, us[j]? = some u → ∃ (z : Str) (t : Tok), zs[j]? = some z ∧ u = .str z t
  | _, _, .nil, j, u, h => by cases j <;> cases h
  | _, _, .cons z t r, 0, u, h => by
    cases h
    exact ⟨z, t, rfl, rfl⟩
  | _, _, .cons z t r, j + 1, u, h => str_at r (j := j) (by simpa using h)
section
variable {prog : Program} {w : World} {A : Around} {R : Result → Shared → Prop} {J : Addr} {fp wr : List Addr} {G : Array GenState → Array GenState → Prop} {n : Nat} {P : Nat → Value → Prop} {St : Nat → Shared → Prop}
/-- a set is filled from a walk over texts -/
theorem fillStrs (W : WalksS prog w A.in1 J fp wr G n P St) (b : Addr) (hb : b ∉ fp) (zs : List Str) (hn : n = zs.length) (hs : n + 1 < scanBound) (hP : ∀ i v, P i v → ∃ z t, zs[i]? = some z ∧ v = .str z t) :
    ∀ (k i : Nat) (s : Shared), n - i = k → i ≤ n → St i s → s.heap.SetOf (PySem.strKind prog w) b (fun x => (dist (zs.take i)).any (· == x)) (dist (zs.take i)).length →
      (∀ s', Moved (b :: wr) G s s' → s'.heap.SetOf (PySem.strKind prog w) b (fun x => (dist zs).any (· == x)) (dist zs).length → R (.ok (.ret .none)) s') →
      codeAny (model prog w) A (.builtin "set.update.loop" ⟨[.ref b, .ref J], []⟩) R s := by
  have hbw : b ∉ wr := fun h => hb (W.sub _ h)
  have more : ∀ c ∈ wr, c ∈ b :: wr := fun c hc => List.mem_cons_of_mem _ hc
  intro k
  induction k with
  | zero =>
    intro i s hk hi hst hS hR
    have e : i = n := by omega
    subst e
    refine codeAny_builtin PyProof.Rows.F.entry_set_update_loop ?_
    rw [Around.under_plainId PyProof.Rows.F.plain_set_update_loop _]
    show wpAny _ A.in1 (pyNext (.ref J) >>= _) _ _ s
    refine wpAny_bind (W.done s _ _ hst fun s1 m1 => ?_)
    show wpAny _ A.in1 (ret Value.none) _ _ s1
    obtain ⟨o, es, ep, t, ho, rest⟩ := hS
    rw [hn, List.take_length] at rest
    exact wpAny_pure (hR s1 (m1.mono more) ⟨o, es, ep, t, m1.heap b _ hbw ho, rest⟩)
  | succ k ih =>
    intro i s hk hi hst hS hR
    have lt : i < n := by omega
    refine codeAny_builtin PyProof.Rows.F.entry_set_update_loop ?_
    rw [Around.under_plainId PyProof.Rows.F.plain_set_update_loop _]
    show wpAny _ A.in1 (pyNext (.ref J) >>= _) _ _ s
    refine wpAny_bind (W.item i s _ _ lt hst fun v s1 hPv st1 m1 => ?_)
    obtain ⟨z, t, hz, rfl⟩ := hP i v hPv
    have hS1 : s1.heap.SetOf (PySem.strKind prog w) b (fun x => (dist (zs.take i)).any (· == x)) (dist (zs.take i)).length := by
      obtain ⟨o, es, ep, tb, ho, rest⟩ := hS
      exact ⟨o, es, ep, tb, m1.heap b _ hbw ho, rest⟩
    show wpAny _ A.in1 (holding [Value.str z t] (setAdd b (.str z t)) >>= _) _ _ s1
    refine wpAny_bind (wpAny_holding ?_)
    unfold setAdd
    refine wpAny_holding (wpAny_bind ((PySem.strKind prog w).pyHash (k := z) (strKind_is _ _ _ _) ?_))
    have room : (dist (zs.take i)).length + 1 < scanBound := by
      have := dist_le (zs.take i) []
      rw [List.length_take] at this
      have h0 : ([] : List Str).length = 0 := rfl
      unfold dist
      omega
    refine wpAny_setAddHashed_of (knd := PySem.strKind prog w) (s := { s1 with toks := s1.toks + 1 }) (strKind_is _ _ _ _) rfl hS1 room fun h2 sb2 hS2 => ?_
    have hS3 : h2.SetOf (PySem.strKind prog w) b (fun x => (dist (zs.take (i + 1))).any (· == x)) (dist (zs.take (i + 1))).length :=
      SetOf_congr hS2 (fun x => by rw [dist_take hz, dstep_any]) (by rw [dist_take hz, dstep_len])
    have else2 : ∀ c, c ≠ b → h2.get? c = s1.heap.get? c := fun c hc => sb2.2 c hc
    refine wpAny_pure ⟨plainId_quiet PyProof.Rows.F.plain_set_update_loop _, ih (i + 1) _ (by omega) lt (W.frame _ s1 _ _ st1 (Nat.le_succ _) fun c hc o e => ?_) hS3 fun s3 m3 hS4 => ?_⟩
    · rw [else2 c fun z => hb (z ▸ hc)]
      exact e
    · refine hR s3 (Moved.trans W.gtrans ((m1.mono more).then_heap (Nat.le_succ _) fun c o hc e => ?_) m3) hS4
      rw [else2 c fun z => hc (by rw [z]; exact List.mem_cons_self)]
      exact e
end
end Nv
set_option maxHeartbeats 4000000
namespace Nv
open PySem PySem.Spec PyProof.Rows
section
variable {prog : Program} {w : World} {A : Around} {E : Value → Shared → Prop} {s : Shared}
/-- the empty set, as it is laid -/
abbrev freshSet (led : Bool) : Obj := { cls := .type "set", dict := none, data := .set #[] 0 (.fresh 0 0 led) }
/-- the set at b, of the texts zs, laid behind all that stood -/
abbrev Filled (prog : Program) (w : World) (zs : List Str) (b : Addr) (h0 h1 : Heap) : Prop :=
  h1.SetOf (PySem.strKind prog w) b (fun x => (dist zs).any (· == x)) (dist zs).length ∧ ∀ c o, c < b → h0.get? c = some o → h1.get? c = some o
/-- set(xs), xs a list of texts -/
theorem set_of_strs {l : Addr} {its : Array Value} {zs : List Str} {Q : Value → Shared → Prop} (calm : A.handled = none) (hl : s.heap.IsList l its) (hz : StrsAre its.toList zs) (few : zs.length + 1 < scanBound)
    (hq : ∀ (h1 : Heap) (tk : Nat), Filled prog w zs s.heap.objs.size s.heap h1 → Q (.ref s.heap.objs.size) { s with heap := h1, toks := tk }) : wpAny (model prog w) A (call (.type "set") [.ref l]) Q E s := by
  obtain ⟨c, tl, m0⟩ := PySem.F.called_set.mro
  have m1 := PySem.F.called_set.made; have m2 := PySem.F.called_set.sub; have m3 := PySem.F.called_set.notType; have m4 := PySem.F.called_set.canCreate
  have m5 := PySem.F.typeCall_set_1 (.ref l)
  have size : its.size = zs.length := by rw [← Array.length_toList]; exact hz.len_eq
  refine wpAny_call (codeAny_of_tree (show wpAny _ _ (callAny (.type "set") _) _ _ _ from wpAny_pure ⟨Code.quiet_builtin _ (by decide +kernel), codeAny_builtin PySem.F.entry_type_call ?_⟩))
  rw [Around.under_plain (weight_type_call_type "set" [.ref l] []) rfl]
  repeat (any_goals (first | assumption | wp_step))
  refine codeAny_mono (code_set_new_1 (.ref l) (E := E) (Q₁ := fun v s1 => ∃ led : Bool, v = .ref s.heap.objs.size ∧ s1 = { s with heap := s.heap.push (freshSet led) }) fun led => ⟨led, rfl, rfl⟩) fun r s1 hr => ?_
  rcases r with e | fl
  · exact hr
  cases fl with
  | ret v =>
    obtain ⟨led, rfl, rfl⟩ := hr
    have at0 : (s.heap.push (freshSet led)).get? s.heap.objs.size = some (freshSet led) := Heap.get?_push_size _ rfl
    have ty : Shared.TypeIs { s with heap := s.heap.push (freshSet led) } (.ref s.heap.objs.size) "set" := ⟨_, at0, rfl⟩
    have i1 := PySem.F.called_set.init.lookup; have i2 := PySem.F.called_set.init.bind (.ref s.heap.objs.size)
    repeat (any_goals (first | assumption | wp_step))
    refine codeAny_mono (codeAny_call_builtin (R := wants (fun v s2 => v = .none ∧ ∃ h1 tk, s2 = { s with heap := h1, toks := tk } ∧ Filled prog w zs s.heap.objs.size s.heap h1) E) PySem.F.called_set.init.plain PySem.F.entry_set_init (check_set_init_1 ty ?_)) fun r2 s2 hr2 => ?_
    · obtain ⟨⟨oc, od, odt, osl⟩, ho, e1, nl, e2⟩ := hl
      simp only at e1 e2; subst e1; subst e2
      have ho1 : (s.heap.push (freshSet led)).get? l = some { cls := .type "list", dict := od, data := .seq its nl, slots := osl } := Heap.get?_push_of_some _ ho
      have f1 := PySem.F.sub_list_set; have f2 := PySem.F.sub_list_frozenset; have f3 : (Value.type "list" == Value.type "dict") = false := by decide
      have lst : (s.heap.push (freshSet led)).IsList l its := ⟨_, ho1, rfl, nl, rfl⟩
      have lt : l < s.heap.objs.size := Heap.lt_size ho
      unfold Builtin.«set.__init__» noKeywords Builtin.Frozenset.updateFrom; generalize hI : pyIter = PI
      wp_walk; subst hI
      refine wpAny_pyIter_list lst (wpAny_bind (wpAny_runValue ?_))
      have n1 : l ≠ (s.heap.push (freshSet led)).objs.size := by rw [Heap.size_push]; exact Nat.ne_of_lt (Nat.lt_succ_of_lt lt)
      have n2 : s.heap.objs.size ∉ [(s.heap.push (freshSet led)).objs.size, l] := by
        rw [Heap.size_push]; simp only [List.mem_cons, List.not_mem_nil, or_false, not_or]; exact ⟨Nat.ne_of_lt (Nat.lt_succ_self _), Nat.ne_of_gt lt⟩
      refine fillStrs ((Walks.list (by simp [calm]) _ l n1 its).toS) s.heap.objs.size n2 zs size (by omega) (fun i v hv => ?_) (its.size - 0) 0 _ (by omega) (Nat.zero_le _) ⟨⟨_, Heap.get?_push_size _ rfl, rfl, rfl⟩, lst.push _⟩ ?_ ?_
      · exact str_at hz (j := i) (by rw [Array.getElem?_toList]; exact hv)
      · exact SetOf_congr ((setObjOf_fresh (knd := PySem.strKind prog w) led).setOf (Heap.get?_push_of_some _ at0) (by unfold scanBound; omega)) (fun _ => rfl) rfl
      · intro s3 m hS
        obtain ⟨h3, g3, d3, t3, o3⟩ := s3
        have eg : g3 = s.gens := m.gens; have ed : d3 = s.drawn := m.drawn; have eo : o3 = s.os := m.os
        subst eg; subst ed; subst eo
        refine show wpAny _ _ _ _ _ _ from wpAny_pure (show wpAny _ _ (ret Value.none) _ _ _ from wpAny_pure ⟨rfl, h3, t3, rfl, hS, fun c o hc e => ?_⟩)
        refine m.heap c o ?_ (Heap.get?_push_of_some _ (Heap.get?_push_of_some _ e))
        rw [Heap.size_push]; simp only [List.mem_cons, List.not_mem_nil, or_false, not_or]; exact ⟨Nat.ne_of_lt hc, Nat.ne_of_lt (Nat.lt_succ_of_lt hc)⟩
    · rcases r2 with e | fl2
      · exact hr2
      cases fl2 with
      | ret v2 =>
        obtain ⟨rfl, h1, tk, rfl, hF⟩ := hr2
        repeat (any_goals (first | assumption | wp_step))
        exact hq _ _ hF
      | _ => exact hr2.elim
  | _ => exact hr.elim
end
end Nv
set_option maxHeartbeats 4000000
namespace Nv
open PySem PySem.Spec PyProof.Rows L2
/-- len(set(xs)), xs a list of texts: how many unlike ones -/
def tDist (K : PySem.W.Frag) (ta : TE) : TE := fun σ H Q => ta σ H fun x H1 => ∃ (l : Addr) (zs : List Str), x = .ref l ∧ SqL K H1 l (zs.map V.str) ∧ zs.length ≤ 4000 ∧ Q (.int ((dist zs).length : Nat)) H1
theorem pe_dist {X : Cx} {a : Expr} {ta : TE} {p p2 q pos : Pos} (gl : Gl X "len") (ml : X.mg "len" = none) (gs : Gl X "set") (ms : X.mg "set" = none) (ha : PE X a ta) (calm : X.calm = true := by rfl)
    (na : starEach [a] X.env = (false, eval a X.env) :: starEach [] X.env := by rfl) : PE X (.Call (.Name "len" p) [.Call (.Name "set" p2) [a] [] q] [] pos) (tDist X.K ta) := by
  refine ⟨fun pins s σ H Q I h => ?_⟩
  refine Call_ (ld_blt I gl ml boot_len (PyProof.Rows.callWith_builtin1 (PyProof.Rows.args_cons (Call_ (ld_blt I gs ms boot_set ?_)) rfl) rfl rfl))
  refine PyProof.Rows.callWith_type1 (PyProof.Rows.args_cons (thn (ha.run pins s σ H _ I h) fun v s1 ⟨x, H1, I1, r1, q1⟩ => PyProof.Rows.args_nil ?_) na) na rfl
  obtain ⟨l, zs, rfl, hl, few, q1⟩ := q1
  cases r1
  obtain ⟨its, r, pl, _⟩ := I1.list hl
  have hz : ∀ {ys : List Str} {us : List Value}, Vals (ys.map V.str) us → StrsAre us ys := by
    intro ys
    induction ys with
    | nil =>
      intro us r
      cases r
      exact .nil
    | cons y ys ih =>
      intro us r
      cases r with
      | cons r t =>
        obtain ⟨k, rfl⟩ := r
        exact .cons y k (ih t)
  refine set_of_strs (zs := zs) (I1.ok.hd calm) pl.isList (by simpa using hz r) (by unfold scanBound; omega) fun h1 tk hF => PyProof.Rows.args_nil ?_
  obtain ⟨hS, kept⟩ := hF
  obtain ⟨o, es, ep, t, ho, hex, hd, _, _, _, hf, hn⟩ := hS
  have I2 : Inv X pins σ H1 { s1 with heap := h1, toks := tk } := I1.kept fun b o e => kept b o (Heap.lt_size e) e
  have small : (dist zs).length ≤ 0 + zs.length := dist_le zs []
  exact call_len_set ho hex hd hf (by rw [hn]; omega) ⟨.int ((dist zs).length : Nat), H1, I2.tok _, ⟨_, by rw [hn]⟩, q1⟩
end Nv
set_option maxHeartbeats 4000000
namespace Nv
open PySem PySem.Spec PyProof.Rows L2
section
variable {P : Program} {w : World} {K : PySem.W.Frag} {mg : Str → Option Value} {base : Heap}
/-- _has_double(labels) -/
def spHasDouble (K : PySem.W.Frag) : Sp := fun vs H Q _ => ∃ (a : Addr) (zs : List Str), vs = [.ref a] ∧ SqL K H a (zs.map V.str) ∧ zs.length ≤ 4000 ∧ Q (.bl (!decide zs.Nodup)) H
theorem scHasDouble : FnScope ["labels"] ["labels"] (defScope sHasDouble) := ⟨rfl, rfl, rfl, by decide +kernel, rfl, by decide +kernel, by decide +kernel⟩
theorem ok_hasDouble {f : Addr} {fd : FuncData} (F : Fun K "_has_double" "_has_double" sHasDouble f fd) (B : Bp mg) : FnOk P w K mg base CX0 1 f fd ["labels"] (spHasDouble K) := by
  refine F.ok scHasDouble (fun vs H Q E h => ?_) (fun cdv A outer s H vs Q E hr h => ?_)
  · obtain ⟨a, zs, rfl, _⟩ := h
    rfl
  · obtain ⟨a, zs, rfl, ha, hl, q⟩ := h
    refine ⟨_, pss_one (ps_ret (pe_cmpR op_lt (by exact (pe_dist (by rfl) B.len (by rfl) B.set (pv 0))) (pe_callB call_len_seq (by rfl) B.len PySem.boot_len (pa_cons (pv 0) pa_nil)) (nomark _))), ?_⟩
    refine ⟨_, rfl, a, zs, rfl, ha, hl, _, rfl, a, _, rfl, .inl ha, _, _, rfl, rfl, ?_⟩
    have e : decide (((dist zs).length : Int) < ((zs.map V.str).length : Int)) = !decide zs.Nodup := by
      rw [← dist_lt, List.length_map]
      exact decide_eq_decide.mpr (by omega)
    show Q (.bl (decide (((dist zs).length : Int) < ((zs.map V.str).length : Int)))) H
    rw [e]
    exact q
/-- _place(label, labels), a label that is there -/
def spPlace (K : PySem.W.Frag) : Sp := fun vs H Q _ => ∃ (z : Str) (b : Addr) (zs : List Str) (j : Nat), vs = [.str z, .ref b] ∧ SqL K H b (zs.map V.str) ∧ zs[j]? = some z ∧ zs.Nodup ∧ Q (.int (j : Nat)) H
theorem scPlace : FnScope ["label", "labels"] ["label", "labels"] (defScope sPlace) := ⟨rfl, rfl, rfl, by decide +kernel, rfl, by decide +kernel, by decide +kernel⟩
theorem ok_place {f : Addr} {fd : FuncData} (F : Fun K "_place" "_place" sPlace f fd) : FnOk P w K mg base CX0 1 f fd ["label", "labels"] (spPlace K) := by
  refine F.ok scPlace (fun vs H Q E h => ?_) (fun cdv A outer s H vs Q E hr h => ?_)
  · obtain ⟨z, b, zs, j, rfl, _⟩ := h
    rfl
  · obtain ⟨z, b, zs, j, rfl, hb, hj, nd, q⟩ := h
    refine ⟨_, pss_cons (ps_if (pt_cmpR op_notIn_seq (pv 0) (pv 1) (by rfl)) (pss_one ps_never) pss_nil)
      (pss_one (ps_ret (pe_bm PySem.F.plainAttrs_list PySem.F.slot_list_index PySem.F.type_list_index mt_index (pv 1) (pa_cons (pv 0) pa_nil)))), ?_⟩
    refine ⟨_, rfl, _, rfl, b, _, rfl, .inl hb, rfl, flat_strs _, _, rfl, ?_⟩
    rw [inV_strs, decide_eq_true (List.mem_of_getElem? hj)]
    refine iteF ?_
    refine ⟨_, rfl, .inl ⟨rfl, _, hb⟩, _, rfl, b, zs.map V.str, _, j, .str z, rfl, rfl, hb, rfl, flat_strs _, by rw [List.getElem?_map, hj] <;> rfl, by show (z == z) = true; exact beq_self_eq_true z, fun m v hm hv => ?_, q⟩
    obtain ⟨y, hy, rfl⟩ := at_map hv
    show (y == z) = false
    refine beq_eq_false_iff_ne.mpr fun e => ?_
    subst e
    obtain ⟨h1, e1⟩ := List.getElem?_eq_some_iff.mp hy
    obtain ⟨h2, e2⟩ := List.getElem?_eq_some_iff.mp hj
    exact absurd (e1.trans e2.symm) (List.pairwise_iff_getElem.mp nd m j h1 h2 hm)
end
end Nv
set_option maxHeartbeats 4000000
namespace Nv
open PySem PySem.Spec PyProof.Rows L2
abbrev sRuleInit : Stmt := inClass cRule 0
/-- a list or None, of tuples of texts -/
def Opt (H : Hp) (v : V) (ps : List (List Str)) : Prop := (v = .non ∧ ps = []) ∨ ∃ (a : Addr) (us : List V), v = .ref a ∧ H a = some (.lst us) ∧ PaL H us ps ∧ ps.length ≤ 300
def PairOk (q : List Str) : Prop := ∃ x y, q = [x, y] ∧ x ≠ y ∧ IsTm x ∧ IsTm y ∧ (IsVr x ∨ IsVr y)
theorem tm_len {z : Str} (h : IsTm z) : z.length ≤ 10 := by
  rcases h with h | h
  · exact h.2.1
  · have := h.2.1
    omega
theorem PatOk.small {p : List Str} (h : PatOk p) : p.length ≤ 1000 ∧ ∀ x ∈ p, x.length ≤ 1000 := by
  obtain ⟨w, ts, rfl, hw, h3, ht⟩ := h
  refine ⟨by rw [List.length_cons]; omega, fun x hx => ?_⟩
  rcases List.mem_cons.mp hx with rfl | hx
  · have := hw.2.1
    omega
  · have := tm_len (Or.symm (ht x hx))
    omega
theorem PairOk.small {p : List Str} (h : PairOk p) : p.length ≤ 1000 ∧ ∀ x ∈ p, x.length ≤ 1000 := by
  obtain ⟨x, y, rfl, _, h1, h2, _⟩ := h
  refine ⟨by show 2 ≤ 1000; decide, fun z hz => ?_⟩
  simp only [List.mem_cons, List.not_mem_nil, or_false] at hz
  have h3 := tm_len h1
  have h4 := tm_len h2
  rcases hz with rfl | rfl <;> omega
theorem PatOk.yes {p : List Str} (h : PatOk p) : patB (some (p.map some)) = true := by
  obtain ⟨w, ts, rfl, hw, h3, ht⟩ := h
  show (decide ((ts.map some).length ≤ 3) && (nmO (some w) && (ts.map some).all tmO)) = true
  rw [List.length_map, decide_eq_true h3, Bool.true_and, show nmO (some w) = true from decide_eq_true hw, Bool.true_and, List.all_map, List.all_eq_true]
  intro x hx
  exact decide_eq_true (Or.symm (ht x hx))
theorem PairOk.yes {p : List Str} (h : PairOk p) : prB (some (p.map some)) = true := by
  obtain ⟨x, y, rfl, hn, h1, h2, h3⟩ := h
  show (tmO (some x) && (tmO (some y) && (decide (some x ≠ some y) && (vrO (some x) || vrO (some y))))) = true
  rw [show tmO (some x) = true from decide_eq_true h1, show tmO (some y) = true from decide_eq_true h2, show decide (some x ≠ some y) = true from decide_eq_true (fun e => hn (by injection e)), Bool.true_and, Bool.true_and, Bool.true_and]
  rcases h3 with h | h
  · rw [show vrO (some x) = true from decide_eq_true h] <;> rfl
  · rw [show vrO (some y) = true from decide_eq_true h, Bool.or_true]
theorem all_yes {p : Option (List (Option Str)) → Bool} {ps : List (List Str)} (h : ∀ x ∈ ps, p (some (x.map some)) = true) : listB p (some (ps.map fun q => some (q.map some))) = true := by
  show ((ps.map fun q => some (q.map some)).all p) = true
  rw [List.all_map, List.all_eq_true]
  exact h
/-- the rule's object r (its dict dx), of these parts: th its head's tuple; l1, l2, l3 its own lists -/
abbrev ruleF (l : Str) (th l1 l2 l3 : Addr) : List (Str × V) := [("_label", .str l), ("_head", .ref th), ("_told", .ref l1), ("_pairs", .ref l2), ("_denied", .ref l3)]
/-- the class Rule, as the top leaves it -/
structure RC (K : PySem.W.Frag) (C : Addr) : Prop where
  cl : Cls K C
  n1 : NoAttr K C "_label"
  n2 : NoAttr K C "_head"
  n3 : NoAttr K C "_told"
  n4 : NoAttr K C "_pairs"
  n5 : NoAttr K C "_denied"
/-- the promises of what the classes' defs call -/
structure Ct (P : Program) (w : World) (K : PySem.W.Frag) (mg : Str → Option Value) (base : Heap) : Prop where
  nm : ∃ f fd, FnOk P w K mg base CX0 1 f fd ["value"] (spTxt K fun z => decide (IsNm z)) ∧ PySem.W.keepIn K (.ref f) = true ∧ mg "is_name" = some (.ref f) ∧ Binds K fd ["value"] []
  vr : ∃ f fd, FnOk P w K mg base CX0 1 f fd ["value"] (spTxt K fun z => decide (IsVr z)) ∧ PySem.W.keepIn K (.ref f) = true ∧ mg "is_variable" = some (.ref f) ∧ Binds K fd ["value"] []
  pt : ∃ f fd, FnOk P w K mg base CX0 3 f fd ["value"] (spTup K patB) ∧ PySem.W.keepIn K (.ref f) = true ∧ mg "is_pattern" = some (.ref f) ∧ Binds K fd ["value"] []
  ps : ∃ f fd, FnOk P w K mg base CX0 4 f fd ["value"] (spLst K patB) ∧ PySem.W.keepIn K (.ref f) = true ∧ mg "is_patterns" = some (.ref f) ∧ Binds K fd ["value"] []
  pr : ∃ f fd, FnOk P w K mg base CX0 4 f fd ["value"] (spLst K prB) ∧ PySem.W.keepIn K (.ref f) = true ∧ mg "is_pairs" = some (.ref f) ∧ Binds K fd ["value"] []
  to : ∃ f fd, FnOk P w K mg base CX0 1 f fd ["patterns"] (spTermsOf K) ∧ PySem.W.keepIn K (.ref f) = true ∧ mg "terms_of" = some (.ref f) ∧ Binds K fd ["patterns"] []
  sd : ∃ f fd, FnOk P w K mg base CX0 1 f fd ["pairs"] (spSides K) ∧ PySem.W.keepIn K (.ref f) = true ∧ mg "sides_of" = some (.ref f) ∧ Binds K fd ["pairs"] []
  hm : ∃ f fd, FnOk P w K mg base CX0 4 f fd ["terms", "told"] (spHasMore K) ∧ PySem.W.keepIn K (.ref f) = true ∧ mg "has_more" = some (.ref f) ∧ Binds K fd ["terms", "told"] []
theorem PaL.sbo {H H1 : Hp} {r C dx : Addr} {fs : List (Str × V)} {vs : List V} {ps : List (List Str)} (h : PaL H vs ps) (e : H r = some (.ins C dx fs)) (s : Sb r H H1) : PaL H1 vs ps := by
  induction h with
  | nil => exact .nil
  | cons e1 _ ih => exact .cons (s _ _ (fun z => by rw [z, e] at e1; cases e1) e1) ih
section
variable {P : Program} {w : World} {K : PySem.W.Frag} {mg : Str → Option Value} {base : Heap}
def spRuleInit (C : Addr) : Sp := fun vs H Q _ => ∃ (r dx : Addr) (l : Str) (th tt : Addr) (h : List Str) (us : List V) (ps : List (List Str)) (vp : V) (qs : List (List Str)) (vd : V) (ds : List (List Str)), vs = [.ref r, .str l, .ref th, .ref tt, vp, vd] ∧
  H r = some (.ins C dx []) ∧ IsNm l ∧ (H th = some (.tup (h.map V.str)) ∧ PatOk h) ∧ (H tt = some (.lst us) ∧ PaL H us ps ∧ (∀ x ∈ ps, PatOk x) ∧ ps.length ≤ 300) ∧ (Opt H vp qs ∧ ∀ x ∈ qs, PairOk x) ∧ (Opt H vd ds ∧ ∀ x ∈ ds, PatOk x) ∧
  (hasMore h.tail ps = false ∧ hasMore qs.flatten ps = false ∧ hasMore (tails ds) ps = false) ∧
  ∀ (l1 l2 l3 : Addr) (us2 us3 : List V) (H' : Hp), H l1 = none → H l2 = none → H l3 = none → Sb r H H' → H' r = some (.ins C dx (ruleF l th l1 l2 l3)) → H' l1 = some (.lst us) → H' l2 = some (.lst us2) → PaL H' us2 qs → H' l3 = some (.lst us3) → PaL H' us3 ds → Q .non H'
theorem scRuleInit : FnScope ["self", "label", "head", "told", "pairs", "denied"] ["self", "label", "head", "told", "pairs", "denied"] (defScope sRuleInit) := ⟨rfl, rfl, rfl, by decide +kernel, rfl, by decide +kernel, by decide +kernel⟩
theorem Opt.tru {H : Hp} {v : V} {ps : List (List Str)} (h : Opt H v ps) : TruV K v H (!ps.isEmpty) := by
  rcases h with ⟨rfl, rfl⟩ | ⟨a, us, rfl, e, hp, _⟩
  · rfl
  · refine .inl ⟨us, SqL.of e, ?_⟩
    cases hp <;> rfl
theorem Opt.same {H H1 : Hp} {v : V} {ps : List (List Str)} (h : Opt H v ps) (s : Same H H1) : Opt H1 v ps := by
  rcases h with ⟨rfl, rfl⟩ | ⟨a, us, rfl, e, hp, l⟩
  · exact .inl ⟨rfl, rfl⟩
  · exact .inr ⟨a, us, rfl, s _ _ e, hp.same s, l⟩
theorem Opt.sbo {H H1 : Hp} {r C dx : Addr} {fs : List (Str × V)} {v : V} {ps : List (List Str)} (h : Opt H v ps) (e : H r = some (.ins C dx fs)) (s : Sb r H H1) : Opt H1 v ps := by
  rcases h with ⟨rfl, rfl⟩ | ⟨a, us, rfl, e1, hp, l⟩
  · exact .inl ⟨rfl, rfl⟩
  · exact .inr ⟨a, us, rfl, s _ _ (fun z => by rw [z, e] at e1; cases e1) e1, hp.sbo e s, l⟩
theorem opt_and {v : V} {A : Prop} {Qf : Hp → Prop} {H3 : Hp} (k : ∀ G, Same H3 G → Qf G) (h2 : (∀ G, Same H3 G → Qf G) → v ≠ .non → A) : ∃ c, V.bl (!decide (v = .non)) = V.bl c ∧ if c = true then A else Qf H3 := by
  refine ⟨_, rfl, ?_⟩
  by_cases h : v = .non
  · rw [decide_eq_true h]
    exact iteF (k _ (Same.refl _))
  · rw [decide_eq_false h]
    exact iteT (h2 k h)
theorem or_list {i : Nat} {v : V} {ps : List (List Str)} {H3 : Hp} {σ : L2.St} {Z : VK} (o : Opt H3 v ps) (hi : σ[i]? = some (some v)) (k : ∀ (a : Addr) (us : List V) (G : Hp), Same H3 G → G a = some (.lst us) → PaL G us ps → Z (.ref a) G) :
    tOrT K (tVar i) (tLst tNil) σ H3 Z := by
  refine ⟨v, hi, _, o.tru, ?_⟩
  rcases o with ⟨rfl, rfl⟩ | ⟨a, us, rfl, e, hp, _⟩
  · exact iteF ⟨Nat.zero_le _, fun p np => k p [] _ (same_new np) upd_same .nil⟩
  · cases ps with
    | nil =>
      exact iteF ⟨Nat.zero_le _, fun p np => k p [] _ (same_new np) upd_same .nil⟩
    | cons p ps => exact iteT (k a us _ (Same.refl _) e hp)
theorem if_opt {i : Nat} {p : Option (List (Option Str)) → Bool} {v : V} {qs : List (List Str)} {D : Ends} {σ : L2.St} {H : Hp} (o : Opt H v qs) (hi : σ[i]? = some (some v)) (sm : ∀ x ∈ qs, x.length ≤ 1000 ∧ ∀ y ∈ x, y.length ≤ 1000) (ok : ∀ x ∈ qs, p (some (x.map some)) = true)
    (k : ∀ G, Same H G → D.nx σ G) : tIfS (tAnd (tTest (tOp (fun x y H Q => y = V.non ∧ Q (V.bl (!decide (x = V.non))) H) (tVar i) (tC V.non))) (tNot (tB (tCall (spLst K p) [] E0 (tCons (tVar i) tNil))))) tNever tNext D σ H := by
  refine ⟨v, hi, rfl, !decide (v = .non), rfl, ?_⟩
  rcases o with ⟨rfl, _⟩ | ⟨a, us, rfl, e, hp, l⟩
  · rw [decide_eq_true rfl]
    exact iteF (iteF (k H (Same.refl H)))
  · rw [decide_eq_false (fun z : V.ref a = V.non => by cases z)]
    have tq : Tps K H (.ref a) (some (qs.map fun q => some (q.map some))) := ⟨a, us, rfl, e, hp.tps sm, by rw [List.length_map]; omega⟩
    refine iteT ⟨_, hi, _, _, rfl, tq, fun G sG => ⟨_, rfl, ?_⟩⟩
    rw [all_yes ok]
    exact iteF (k G sG)
theorem if_sides {i j : Nat} {v : V} {tt : Addr} {us : List V} {ps qs : List (List Str)} {D : Ends} {σ : L2.St} {H : Hp} (o : Opt H v qs) (hi : σ[i]? = some (some v)) (hj : σ[j]? = some (some (.ref tt))) (ok : ∀ x ∈ qs, PairOk x)
    (et : H tt = some (.lst us)) (hp : PaL H us ps) (hok : ∀ x ∈ ps, PatOk x) (hpl : ps.length ≤ 300) (m : hasMore qs.flatten ps = false) (k : ∀ G, Same H G → D.nx σ G) :
    tIfS (tB (tCall (spHasMore K) [] E0 (tCons (tCall (spSides K) [] E0 (tCons (tOrT K (tVar i) (tLst tNil)) tNil)) (tCons (tVar j) tNil)))) tNever tNext D σ H := by
  have ql : qs.length ≤ 1000 := by
    rcases o with ⟨_, rfl⟩ | ⟨_, _, _, _, _, l⟩
    · exact Nat.zero_le _
    · omega
  show tOrT K (tVar i) (tLst tNil) σ H _
  refine or_list o hi fun a us2 G sG ea pa => ?_
  refine ⟨a, us2, qs, rfl, SqL.of ea, pa, fun x hx => ?_, ql, fun b G2 nb s2 eb => ?_⟩
  · obtain ⟨x1, x2, rfl, _⟩ := ok x hx
    rfl
  · have s3 := sG.trans s2
    refine ⟨_, hj, b, tt, qs.flatten, us, ps, rfl, ⟨.inl (SqL.of eb), fun x hx => ?_, ?_⟩, ⟨SqL.of (s3 _ _ et), hp.same s3, hok, by omega⟩, fun G4 s4 => ⟨_, rfl, ?_⟩⟩
    · obtain ⟨y, hy, hx⟩ := List.mem_flatten.mp hx
      exact (ok y hy).small.2 x hx
    · rw [flat_len fun x hx => by obtain ⟨x1, x2, rfl, _⟩ := ok x hx; rfl]
      omega
    · rw [m]
      exact iteF (k G4 (s3.trans s4))
theorem if_terms {i j : Nat} {v : V} {tt : Addr} {us : List V} {ps qs : List (List Str)} {D : Ends} {σ : L2.St} {H : Hp} (o : Opt H v qs) (hi : σ[i]? = some (some v)) (hj : σ[j]? = some (some (.ref tt))) (ok : ∀ x ∈ qs, PatOk x)
    (et : H tt = some (.lst us)) (hp : PaL H us ps) (hok : ∀ x ∈ ps, PatOk x) (hpl : ps.length ≤ 300) (m : hasMore (tails qs) ps = false) (k : ∀ G, Same H G → D.nx σ G) :
    tIfS (tB (tCall (spHasMore K) [] E0 (tCons (tCall (spTermsOf K) [] E0 (tCons (tOrT K (tVar i) (tLst tNil)) tNil)) (tCons (tVar j) tNil)))) tNever tNext D σ H := by
  have ql : qs.length ≤ 1000 := by
    rcases o with ⟨_, rfl⟩ | ⟨_, _, _, _, _, l⟩
    · exact Nat.zero_le _
    · omega
  show tOrT K (tVar i) (tLst tNil) σ H _
  refine or_list o hi fun a us2 G sG ea pa => ?_
  refine ⟨a, us2, qs, rfl, SqL.of ea, pa, ok, ql, fun b G2 nb s2 eb => ?_⟩
  have s3 := sG.trans s2
  refine ⟨_, hj, b, tt, tails qs, us, ps, rfl, ⟨.inl (SqL.of eb), fun x hx => ?_, ?_⟩, ⟨SqL.of (s3 _ _ et), hp.same s3, hok, by omega⟩, fun G4 s4 => ⟨_, rfl, ?_⟩⟩
  · have := (tails_short ok x hx).2
    omega
  · have := tails_le ok ql
    omega
  · rw [m]
    exact iteF (k G4 (s3.trans s4))
theorem putF_new {f : Str} {v : V} : ∀ {fs : List (Str × V)} {ns : List Str}, fs.map (·.1) = ns → f ∉ ns → putF f v fs = fs ++ [(f, v)]
  | [], _, _, _ => rfl
  | (g, x) :: fs, _, rfl, h => by
    unfold putF
    rw [if_neg (fun e => h (by rw [e]; exact List.mem_cons_self)), putF_new (fs := fs) rfl (fun e => h (List.mem_cons_of_mem _ e))] <;> rfl
abbrev Flds := List (Str × V)
theorem putF2 {l : Str} {th : Addr} : putF "_head" (V.ref th) ([("_label", V.str l)] : Flds) = ([("_label", V.str l), ("_head", V.ref th)] : Flds) := putF_new (ns := ["_label"]) rfl (by decide +kernel)
theorem putF3 {l : Str} {th l1 : Addr} : putF "_told" (V.ref l1) ([("_label", V.str l), ("_head", V.ref th)] : Flds) = ([("_label", V.str l), ("_head", V.ref th), ("_told", V.ref l1)] : Flds) := putF_new (ns := ["_label", "_head"]) rfl (by decide +kernel)
theorem putF4 {l : Str} {th l1 l2 : Addr} : putF "_pairs" (V.ref l2) ([("_label", V.str l), ("_head", V.ref th), ("_told", V.ref l1)] : Flds) = ([("_label", V.str l), ("_head", V.ref th), ("_told", V.ref l1), ("_pairs", V.ref l2)] : Flds) := putF_new (ns := ["_label", "_head", "_told"]) rfl (by decide +kernel)
theorem putF5 {l : Str} {th l1 l2 l3 : Addr} : putF "_denied" (V.ref l3) ([("_label", V.str l), ("_head", V.ref th), ("_told", V.ref l1), ("_pairs", V.ref l2)] : Flds) = ruleF l th l1 l2 l3 := putF_new (ns := ["_label", "_head", "_told", "_pairs"]) rfl (by decide +kernel)
theorem fld_list {i : Nat} {v : V} {qs : List (List Str)} {D : Ends} {σ : L2.St} {H : Hp} {r C dx : Addr} {fs : List (Str × V)} {f : Str} (o : Opt H v qs) (hi : σ[i]? = some (some v)) (h0 : σ[0]? = some (some (.ref r))) (er : H r = some (.ins C dx fs)) (cl : Cls K C) (na : NoAttr K C f) (hf : fs.length < 1000)
    (k : ∀ (l2 : Addr) (us2 : List V) (G : Hp), H l2 = none → Sb r H G → G r = some (.ins C dx (putF f (.ref l2) fs)) → G l2 = some (.lst us2) → PaL G us2 qs → D.nx σ G) :
    sFld K (tVar 0) (tCB (fun xs H Q => ∃ p ys, xs = [V.ref p] ∧ (SqL K H p ys ∨ SqT K H p ys) ∧ ∀ l, H l = none → Q (.ref l) (upd H l (.lst ys))) (tCons (tOrT K (tVar i) (tLst tNil)) tNil)) f D σ H := by
  show tOrT K (tVar i) (tLst tNil) σ H _
  refine or_list o hi fun a us G sG ea pa => ?_
  refine ⟨a, us, rfl, .inl (SqL.of ea), fun l2 n2 => ⟨_, h0, r, C, dx, fs, rfl, ?_, cl, na, hf, ?_⟩⟩
  · exact same_new n2 _ _ (sG _ _ er)
  · have nr : l2 ≠ r := fun z => by
      rw [z, sG _ _ er] at n2
      cases n2
    have e2 : upd G l2 (.lst us) r = some (.ins C dx fs) := same_new n2 _ _ (sG _ _ er)
    have s2 : Sb r H (upd (upd G l2 (.lst us)) r (.ins C dx (putF f (.ref l2) fs))) := (Sb.of (same_put sG (sG.free n2))).trans Sb.upd
    refine k l2 us _ (sG.free n2) s2 upd_same ?_ ?_
    · rw [upd_ne nr, upd_same]
    · exact (pa.same (same_new n2)).sbo e2 Sb.upd
theorem ok_ruleInit {f C : Addr} {fd : FuncData} (F : FunD K "__init__" "Rule.__init__" (defArgs sRuleInit) (defBody sRuleInit) (defScope sRuleInit) [.non, .non] [] f fd) (B : Bp mg) (R : RC K C) (T : Ct P w K mg base) :
    FnOk P w K mg base CX0 5 f fd ["self", "label", "head", "told", "pairs", "denied"] (spRuleInit C) := by
  obtain ⟨fN, dN, GN, kN, gN, bN⟩ := T.nm
  obtain ⟨fP, dP, GP, kP, gP, bP⟩ := T.pt
  obtain ⟨fS, dS, GS, kS, gS, bS⟩ := T.ps
  obtain ⟨fR, dR, GR, kR, gR, bR⟩ := T.pr
  obtain ⟨fT, dT, GT, kT, gT, bT⟩ := T.to
  obtain ⟨fD, dD, GD, kD, gD, bD⟩ := T.sd
  obtain ⟨fM, dM, GM, kM, gM, bM⟩ := T.hm
  refine F.ok scRuleInit (fun vs H Q E h => ?_) (fun cdv A outer s H vs Q E hr h => ?_)
  · obtain ⟨r, dx, l, th, tt, h, us, ps, vp, qs, vd, ds, rfl, _⟩ := h
    rfl
  · obtain ⟨r, dx, l, th, tt, h, us, ps, vp, qs, vd, ds, rfl, er, hl, ⟨eh, hh⟩, ⟨et, hp, hok, hpl⟩, ⟨oq, hq⟩, ⟨od, hd⟩, ⟨m1, m2, m3⟩, q⟩ := h
    have hr1 : Room 1 _ := hr.mono (by decide)
    have hr3 : Room 3 _ := hr.mono (by decide)
    refine ⟨_, pss_cons (ps_if (pt_not (pt_val (by exact (pe_call GN hr1 (by rfl) gN kN bN .nil pass0 (pa_cons (pv 1) pa_nil))))) (pss_one ps_never) pss_nil)
      (pss_cons (ps_if (pt_not (pt_val (by exact (pe_call GP hr3 (by rfl) gP kP bP .nil pass0 (pa_cons (pv 2) pa_nil))))) (pss_one ps_never) pss_nil)
      (pss_cons (ps_if (pt_not (pt_val (by exact (pe_call GS hr (by rfl) gS kS bS .nil pass0 (pa_cons (pv 3) pa_nil))))) (pss_one ps_never) pss_nil)
      (pss_cons (ps_if (PW.pt (pw_and (pt_cmpR op_notN (pv 4) pe_non (nomark _)) (pw_and1 (pt_not (pt_val (by exact (pe_call GR hr (by rfl) gR kR bR .nil pass0 (pa_cons (pv 4) pa_nil)))))))) (pss_one ps_never) pss_nil)
      (pss_cons (ps_if (PW.pt (pw_and (pt_cmpR op_notN (pv 5) pe_non (nomark _)) (pw_and1 (pt_not (pt_val (by exact (pe_call GS hr (by rfl) gS kS bS .nil pass0 (pa_cons (pv 5) pa_nil)))))))) (pss_one ps_never) pss_nil)
      (pss_cons (ps_if (pt_val (by exact (pe_call GM hr (by rfl) gM kM bM .nil pass0 (pa_cons (pe_slice sl_tup (pv 2) (po_some pe_int) po_none) (pa_cons (pv 3) pa_nil))))) (pss_one ps_never) pss_nil)
      (pss_cons (ps_if (pt_val (by exact (pe_call GM hr (by rfl) gM kM bM .nil pass0 (pa_cons (by exact (pe_call GD hr1 (by rfl) gD kD bD .nil pass0 (pa_cons (pe_orT (pv 4) (pe_one (pe_lst pa_nil))) pa_nil))) (pa_cons (pv 3) pa_nil))))) (pss_one ps_never) pss_nil)
      (pss_cons (ps_if (pt_val (by exact (pe_call GM hr (by rfl) gM kM bM .nil pass0 (pa_cons (by exact (pe_call GT hr1 (by rfl) gT kT bT .nil pass0 (pa_cons (pe_orT (pv 5) (pe_one (pe_lst pa_nil))) pa_nil))) (pa_cons (pv 3) pa_nil))))) (pss_one ps_never) pss_nil)
      (pss_cons (ps_fld (pv 0) (pv 1) rfl)
      (pss_cons (ps_fld (pv 0) (pv 2) rfl)
      (pss_cons (ps_fld (pv 0) (pe_callTy call_list_of (by rfl) B.lst PyProof.Rows.boot_list (pa_cons (pv 3) pa_nil)) rfl)
      (pss_cons (ps_fld (pv 0) (pe_callTy call_list_of (by rfl) B.lst PyProof.Rows.boot_list (pa_cons (pe_orT (pv 4) (pe_one (pe_lst pa_nil))) pa_nil)) rfl)
      (pss_one (ps_fld (pv 0) (pe_callTy call_list_of (by rfl) B.lst PyProof.Rows.boot_list (pa_cons (pe_orT (pv 5) (pe_one (pe_lst pa_nil))) pa_nil)) rfl))))))))))))), ?_⟩
    refine ⟨_, rfl, ?_⟩
    dsimp only [tNil]
    refine spTxt.yes (by have := hl.2.1; omega) fun H1 s1 => ⟨_, rfl, ?_⟩
    show if (!decide (IsNm l)) = true then _ else _
    rw [decide_eq_true hl]
    refine iteF ?_
    refine ⟨_, rfl, _, some (h.map some), rfl, tp_strs (s1 _ _ eh) hh.small.2 hh.small.1, fun H2 s2 => ⟨_, rfl, ?_⟩⟩
    rw [hh.yes]
    refine iteF ?_
    have s12 := s1.trans s2
    have tps : ∀ G, Same H G → Tps K G (.ref tt) (some (ps.map fun q => some (q.map some))) := fun G sG => ⟨tt, us, rfl, sG _ _ et, (hp.same sG).tps fun p hpp => (hok p hpp).small, by rw [List.length_map]; omega⟩
    refine ⟨_, rfl, _, _, rfl, tps _ s12, fun H3 s3 => ⟨_, rfl, ?_⟩⟩
    rw [all_yes fun x hx => (hok x hx).yes]
    refine iteF ?_
    have s13 := s12.trans s3
    show tSeq _ _ _ _ _
    refine if_opt (v := vp) (o := oq.same s13) rfl (fun x hx => (hq x hx).small) (fun x hx => (hq x hx).yes) fun G4 s4 => ?_
    replace s13 := s13.trans s4
    show tSeq _ _ _ _ _
    refine if_opt (v := vd) (o := od.same s13) rfl (fun x hx => (hd x hx).small) (fun x hx => (hd x hx).yes) fun G5 s5 => ?_
    replace s13 := s13.trans s5
    clear s4 s5 tps
    obtain ⟨wd, tms, rfl, hw, h3, hts⟩ := hh
    have small : ∀ x, IsVr x ∨ IsNm x → x.length ≤ 1000 := fun x hx => by
      have := tm_len (Or.symm hx)
      omega
    -- head[1:]
    refine ⟨_, rfl, 1, rfl, th, _, rfl, SqT.of (s13 _ _ eh), ?_, fun t6 nt6 => ?_⟩
    · rintro ⟨h, _⟩
      have := HT.sIx_nat ((wd :: tms).map V.str).length 0 1
      rw [show ((1 : Nat) : Int) = 1 by rfl] at this
      rw [this, List.length_map, List.length_cons] at h
      omega
    rw [cut1]
    have s6 : Same H (upd G5 t6 (.tup (tms.map V.str))) := same_put s13 (s13.free nt6)
    refine ⟨_, rfl, t6, tt, tms, us, ps, rfl, ⟨.inr (SqT.of upd_same), fun x hx => small x (hts x hx), by omega⟩, ⟨SqL.of (s6 _ _ et), hp.same s6, hok, by omega⟩, fun G7 s7 => ⟨_, rfl, ?_⟩⟩
    rw [show hasMore tms ps = false from m1]
    refine iteF ?_
    replace s13 := s6.trans s7
    clear s6 s7
    show tSeq _ _ _ _ _
    refine if_sides (K := K) (v := vp) (o := oq.same s13) rfl rfl (fun x hx => hq x hx) (s13 _ _ et) (hp.same s13) hok hpl m2 fun G8 s8 => ?_
    replace s13 := s13.trans s8
    show tSeq _ _ _ _ _
    refine if_terms (K := K) (v := vd) (o := od.same s13) rfl rfl hd (s13 _ _ et) (hp.same s13) hok hpl m3 fun G9 s9 => ?_
    replace s13 := s13.trans s9
    clear s8 s9
    -- the fields
    refine ⟨_, rfl, _, rfl, r, C, dx, [], rfl, s13 _ _ er, R.cl, R.n1, (by show 0 < 1000; decide), ?_⟩
    have f1 : Sb r H (upd G9 r (.ins C dx (putF "_label" (V.str l) []))) := (Sb.of s13).trans Sb.upd
    have e1 : upd G9 r (.ins C dx (putF "_label" (V.str l) [])) r = some (.ins C dx [("_label", .str l)]) := upd_same
    generalize upd G9 r (.ins C dx (putF "_label" (V.str l) [])) = G at f1 e1 ⊢
    refine ⟨_, rfl, _, rfl, r, C, dx, _, rfl, e1, R.cl, R.n2, (by show 1 < 1000; decide), ?_⟩
    rw [putF2]
    have f2 : Sb r H (upd G r (.ins C dx [("_label", .str l), ("_head", .ref th)])) := f1.trans Sb.upd
    have e2 : upd G r (.ins C dx [("_label", .str l), ("_head", .ref th)]) r = some (.ins C dx [("_label", .str l), ("_head", .ref th)]) := upd_same
    generalize upd G r (.ins C dx [("_label", .str l), ("_head", .ref th)]) = G at f2 e2 ⊢
    have tne : tt ≠ r := fun z => by
      rw [z, er] at et
      cases et
    refine ⟨_, rfl, tt, us, rfl, .inl (SqL.of (f2 _ _ tne et)), fun l1 n1 => ⟨_, rfl, r, C, dx, _, rfl, same_new n1 _ _ e2, R.cl, R.n3, (by show 2 < 1000; decide), ?_⟩⟩
    rw [putF3]
    have l1r : l1 ≠ r := fun z => by
      rw [z, e2] at n1
      cases n1
    have n1H : H l1 = none := by
      cases g : H l1 with
      | none => rfl
      | some o =>
        rw [f2 _ _ l1r g] at n1
        cases n1
    have f3 : Sb r H (upd (upd G l1 (.lst us)) r (.ins C dx [("_label", .str l), ("_head", .ref th), ("_told", .ref l1)])) := (f2.put n1H).trans Sb.upd
    have e3 : upd (upd G l1 (.lst us)) r (.ins C dx [("_label", .str l), ("_head", .ref th), ("_told", .ref l1)]) r = some (.ins C dx [("_label", .str l), ("_head", .ref th), ("_told", .ref l1)]) := upd_same
    have el1 : upd (upd G l1 (.lst us)) r (.ins C dx [("_label", .str l), ("_head", .ref th), ("_told", .ref l1)]) l1 = some (.lst us) := by rw [upd_ne l1r, upd_same]
    generalize upd (upd G l1 (.lst us)) r (.ins C dx [("_label", .str l), ("_head", .ref th), ("_told", .ref l1)]) = G3 at f3 e3 el1 ⊢
    refine fld_list (K := K) (v := vp) (oq.sbo er f3) rfl rfl e3 R.cl R.n4 (by show 3 < 1000; decide) fun l2 us2 G4 n2 s4 e4 el2 p2 => ?_
    rw [putF4] at e4
    have f4 := f3.trans s4
    have l2r : l2 ≠ r := fun z => by
      rw [z, e3] at n2
      cases n2
    have el1' := s4 _ _ l1r el1
    have n2H : H l2 = none := by
      cases g : H l2 with
      | none => rfl
      | some o =>
        rw [f3 _ _ l2r g] at n2
        cases n2
    refine fld_list (K := K) (v := vd) (od.sbo er f4) rfl rfl e4 R.cl R.n5 (by show 4 < 1000; decide) fun l3 us3 G5 n3 s5 e5 el3 p3 => ?_
    rw [putF5] at e5
    have l3r : l3 ≠ r := fun z => by
      rw [z, e4] at n3
      cases n3
    have n3H : H l3 = none := by
      cases g : H l3 with
      | none => rfl
      | some o =>
        rw [f4 _ _ l3r g] at n3
        cases n3
    exact q l1 l2 l3 us2 us3 G5 n1H n2H n3H (f4.trans s5) e5 (s5 _ _ l1r el1') (s5 _ _ l2r el2) (p2.sbo e4 s5) el3 p3
end
end Nv
set_option maxHeartbeats 4000000
namespace Nv
open PySem PySem.Spec PyProof.Rows L2
/-- what a rule is made of -/
structure Rl where
  l : Str
  h : List Str
  ps : List (List Str)
  qs : List (List Str)
  ds : List (List Str)
  deriving DecidableEq
structure Rl.Ok (x : Rl) : Prop where
  l : IsNm x.l
  h : PatOk x.h
  ps : ∀ y ∈ x.ps, PatOk y
  pl : x.ps.length ≤ 300
  qs : ∀ y ∈ x.qs, PairOk y
  ql : x.qs.length ≤ 300
  ds : ∀ y ∈ x.ds, PatOk y
  dl : x.ds.length ≤ 300
/-- the rule x stands at r -/
def RA (C : Addr) (H : Hp) (r : Addr) (x : Rl) : Prop := ∃ (dx th l1 l2 l3 : Addr) (us us2 us3 : List V), H r = some (.ins C dx (ruleF x.l th l1 l2 l3)) ∧ H th = some (.tup (x.h.map V.str)) ∧ (H l1 = some (.lst us) ∧ PaL H us x.ps) ∧ (H l2 = some (.lst us2) ∧ PaL H us2 x.qs) ∧ H l3 = some (.lst us3) ∧ PaL H us3 x.ds
theorem RA.same {C : Addr} {H H1 : Hp} {r : Addr} {x : Rl} (h : RA C H r x) (s : Same H H1) : RA C H1 r x := by
  obtain ⟨dx, th, l1, l2, l3, us, us2, us3, e, e1, ⟨e2, p2⟩, ⟨e3, p3⟩, e4, p4⟩ := h
  exact ⟨dx, th, l1, l2, l3, us, us2, us3, s _ _ e, s _ _ e1, ⟨s _ _ e2, p2.same s⟩, ⟨s _ _ e3, p3.same s⟩, s _ _ e4, p4.same s⟩
theorem PairOk.asc {p : List Str} (h : PairOk p) : ∀ x ∈ p, Asc x := by
  obtain ⟨x, y, rfl, _, h1, h2, _⟩ := h
  intro z hz
  simp only [List.mem_cons, List.not_mem_nil, or_false] at hz
  have : ∀ z, IsTm z → Asc z := fun z h => by
    rcases h with h | h
    · exact h.asc
    · exact h.asc
  rcases hz with rfl | rfl
  · exact this _ h1
  · exact this _ h2
/-- what isinstance asks of an own class -/
structure IC (K : PySem.W.Frag) (C : Addr) : Prop where
  ha : PySem.W.findIn K (.ref C) "__class__" = some (some (.builtin "object.__class__"))
  hn : PySem.W.specialIn K (.builtin "object.__class__") "__get__" = some (some (.builtin "getset_descriptor.__get__"))
  ht : PySem.W.takesIn K (.builtin "object.__class__") = some true
  hm : PySem.W.mroIn K C (.type "object") = some true
  me : PySem.W.kitOne K (.ref C) (.ref C) = some true
section
variable {P : Program} {w : World} {K : PySem.W.Frag} {mg : Str → Option Value} {base : Heap}
/-- a list that an object keeps, told anew -/
def spGetL (C : Addr) (f : Str) : Sp := fun vs H Q _ => ∃ (r dx l : Addr) (fs : List (Str × V)) (us : List V), vs = [.ref r] ∧ H r = some (.ins C dx fs) ∧ fs.lookup f = some (.ref l) ∧ H l = some (.lst us) ∧ ∀ p, H p = none → Q (.ref p) (upd H p (.lst us))
theorem ok_getL {name qual f : Str} {st : Stmt} {fa C : Addr} {fd : FuncData} {p1 p2 p3 p4 p5 : Pos} (F : Fun K name qual st fa fd) (S : FnScope ["self"] ["self"] (defScope st)) (hb : defBody st = [.Return (some (.Call (.Name "list" p1) [.Attribute (.Name "self" p2) f p3] [] p4)) p5])
    (hl : ∀ X : Cx, X.env.scope = defScope st → Gl X "list") (cl : Cls K C) (na : NoAttr K C f) (B : Bp mg) : FnOk P w K mg base CX0 1 fa fd ["self"] (spGetL C f) := by
  refine F.ok S (fun vs H Q E h => ?_) (fun cdv A outer s H vs Q E hr h => ?_)
  · obtain ⟨r, dx, l, fs, us, rfl, _⟩ := h
    rfl
  · obtain ⟨r, dx, l, fs, us, rfl, er, ef, el, q⟩ := h
    rw [hb]
    refine ⟨_, pss_one (ps_ret (pe_callTy call_list_of (hl _ rfl) B.lst PyProof.Rows.boot_list (pa_cons (pe_fld (pe_var (i := 0) rfl ((S.par "self" (List.Mem.head _)).elim (fun z => .inl z) (fun z => .inr (.inl z)))) rfl) pa_nil))), ?_⟩
    exact ⟨_, rfl, r, C, dx, fs, _, rfl, er, cl, na, ef, l, us, rfl, .inl (SqL.of el), fun p np => q p np⟩
/-- Rule.__eq__ -/
abbrev sRuleEq : Stmt := inClass cRule 1
def spRuleEq (K : PySem.W.Frag) (C : Addr) : Sp := fun vs H Q _ => ∃ (a : Addr) (x : Rl) (v : V), vs = [.ref a, v] ∧ RA C H a x ∧ x.Ok ∧
  ((∃ (b : Addr) (y : Rl), v = .ref b ∧ RA C H b y ∧ y.Ok ∧ Q (.bl (decide (x = y))) H) ∨ (∃ t : Value, TyX K H v t ∧ PySem.W.kitOne K t (.ref C) = some false ∧ Q (.bl false) H))
theorem scRuleEq : FnScope ["self", "other"] ["self", "other"] (defScope sRuleEq) := ⟨rfl, rfl, rfl, by decide +kernel, rfl, by decide +kernel, by decide +kernel⟩
theorem lk_no {k g : Str} {v : V} {r : List (Str × V)} (h : (k == g) = false) : List.lookup k ((g, v) :: r) = List.lookup k r := by
  rw [List.lookup_cons, h]
theorem lk_yes {k : Str} {v : V} {r : List (Str × V)} : List.lookup k ((k, v) :: r) = some v := by
  rw [List.lookup_cons, beq_self_eq_true]
theorem lk1 {l : Str} {th l1 l2 l3 : Addr} : (ruleF l th l1 l2 l3).lookup ("_label" : Str) = some (V.str l) := lk_yes
theorem lk2 {l : Str} {th l1 l2 l3 : Addr} : (ruleF l th l1 l2 l3).lookup ("_head" : Str) = some (V.ref th) := (lk_no (by decide +kernel)).trans lk_yes
theorem lk3 {l : Str} {th l1 l2 l3 : Addr} : (ruleF l th l1 l2 l3).lookup ("_told" : Str) = some (V.ref l1) := (lk_no (by decide +kernel)).trans ((lk_no (by decide +kernel)).trans lk_yes)
theorem lk4 {l : Str} {th l1 l2 l3 : Addr} : (ruleF l th l1 l2 l3).lookup ("_pairs" : Str) = some (V.ref l2) := (lk_no (by decide +kernel)).trans ((lk_no (by decide +kernel)).trans ((lk_no (by decide +kernel)).trans lk_yes))
theorem lk5 {l : Str} {th l1 l2 l3 : Addr} : (ruleF l th l1 l2 l3).lookup ("_denied" : Str) = some (V.ref l3) := (lk_no (by decide +kernel)).trans ((lk_no (by decide +kernel)).trans ((lk_no (by decide +kernel)).trans ((lk_no (by decide +kernel)).trans lk_yes)))
theorem ok_ruleEq {f C : Addr} {fd : FuncData} (F : Fun K "__eq__" "Rule.__eq__" sRuleEq f fd) (B : Bp mg) (R : RC K C) (I : IC K C) (gC : mg "Rule" = some (.ref C)) : FnOk P w K mg base CX0 1 f fd ["self", "other"] (spRuleEq K C) := by
  refine F.ok scRuleEq (fun vs H Q E h => ?_) (fun cdv A outer s H vs Q E hr h => ?_)
  · obtain ⟨a, x, v, rfl, _⟩ := h
    rfl
  · obtain ⟨a, x, v, rfl, ra, xo, h⟩ := h
    refine ⟨_, pss_cons (ps_if (pt_not (pt_val (pe_callB call_isi (by rfl) B.isi bootIsi (pa_cons (pv 1) (pa_cons (pe_glob (v := V.ref C) (by rfl) gC rfl) pa_nil))))) (pss_one (ps_ret pe_bl)) pss_nil)
      (pss_cons (ps_if (PW.pt (pw_or (pt_cmpR op_ne (pe_fld (pv 0) rfl) (pe_fld (pv 1) rfl) (nomark _)) (pw_or (pt_cmpR (op_neD hr.units) (pe_fld (pv 0) rfl) (pe_fld (pv 1) rfl) (nomark _)) (pw_or1 (pt_cmpR (op_neD hr.units) (pe_fld (pv 0) rfl) (pe_fld (pv 1) rfl) (nomark _)))))) (pss_one (ps_ret pe_bl)) pss_nil)
      (pss_one (ps_ret (pe_and (pe_cmpR (op_eqD hr.units) (pe_fld (pv 0) rfl) (pe_fld (pv 1) rfl) (nomark _)) (pe_one (pe_cmpR (op_eqD hr.units) (pe_fld (pv 0) rfl) (pe_fld (pv 1) rfl) (nomark _))))))), ?_⟩
    rcases h with ⟨b, y, rfl, rb, yo, q⟩ | ⟨t, ht, hk, q⟩
    · obtain ⟨dx, th, l1, l2, l3, us, us2, us3, e, e1, ⟨e2, p2⟩, ⟨e3, p3⟩, e4, p4⟩ := ra
      obtain ⟨dx', th', m1, m2, m3, ws, ws2, ws3, g, g1, ⟨g2, r2⟩, ⟨g3, r3⟩, g4, r4⟩ := rb
      refine ⟨_, rfl, _, _, _, _, true, rfl, .own _, .base (.ins g R.cl I.ha I.hn I.ht I.hm), I.me, true, rfl, iteF ?_⟩
      refine ⟨_, rfl, a, C, dx, _, _, rfl, e, R.cl, R.n1, lk1, _, rfl, b, C, dx', _, _, rfl, g, R.cl, R.n1, lk1, rfl, _, rfl, ?_⟩
      obtain ⟨xl, xh, xp, xq, xd⟩ := x
      obtain ⟨yl, yh, yp, yq, yd⟩ := y
      have no : (⟨xl, xh, xp, xq, xd⟩ : Rl) ≠ ⟨yl, yh, yp, yq, yd⟩ → Q (.bl false) H := fun z => by
        rw [decide_eq_false z] at q
        exact q
      by_cases z1 : xl = yl
      · rw [decide_eq_true (by rw [z1] : V.str xl = V.str yl)]
        refine iteF ?_
        refine ⟨_, rfl, a, C, dx, _, _, rfl, e, R.cl, R.n2, lk2, _, rfl, b, C, dx', _, _, rfl, g, R.cl, R.n2, lk2, dT xh, dT yh, dp_T e1, dp_T g1, (lay_dT xo.h.asc).shaped (by decide), (lay_dT yo.h.asc).shaped (by decide), _, rfl, ?_⟩
        rw [eqv_T]
        by_cases z2 : xh = yh
        · rw [decide_eq_true z2]
          refine iteF ?_
          refine ⟨_, rfl, a, C, dx, _, _, rfl, e, R.cl, R.n3, lk3, _, rfl, b, C, dx', _, _, rfl, g, R.cl, R.n3, lk3, dL xp, dL yp, dp_L (SqL.of e2) p2, dp_L (SqL.of g2) r2, (lay_dL fun p hp => (xo.ps p hp).asc).shaped (by decide), (lay_dL fun p hp => (yo.ps p hp).asc).shaped (by decide), _, rfl, ?_⟩
          rw [eqv_L]
          by_cases z3 : xp = yp
          · rw [decide_eq_true z3]
            refine iteF ?_
            refine ⟨_, rfl, a, C, dx, _, _, rfl, e, R.cl, R.n4, lk4, _, rfl, b, C, dx', _, _, rfl, g, R.cl, R.n4, lk4, dL xq, dL yq, dp_L (SqL.of e3) p3, dp_L (SqL.of g3) r3, (lay_dL fun p hp => (xo.qs p hp).asc).shaped (by decide), (lay_dL fun p hp => (yo.qs p hp).asc).shaped (by decide), ?_⟩
            rw [eqv_L]
            refine ⟨_, rfl, ?_⟩
            by_cases z4 : xq = yq
            · rw [decide_eq_true z4]
              refine iteT ?_
              refine ⟨_, rfl, a, C, dx, _, _, rfl, e, R.cl, R.n5, lk5, _, rfl, b, C, dx', _, _, rfl, g, R.cl, R.n5, lk5, dL xd, dL yd, dp_L (SqL.of e4) p4, dp_L (SqL.of g4) r4, (lay_dL fun p hp => (xo.ds p hp).asc).shaped (by decide), (lay_dL fun p hp => (yo.ds p hp).asc).shaped (by decide), ?_⟩
              rw [eqv_L]
              have e5 : decide ((⟨xl, xh, xp, xq, xd⟩ : Rl) = ⟨yl, yh, yp, yq, yd⟩) = decide (xd = yd) := decide_eq_decide.mpr ⟨fun w => by injection w, fun w => by rw [z1, z2, z3, z4, w]⟩
              rw [e5] at q
              exact q
            · rw [decide_eq_false z4]
              exact iteF (no fun w => z4 (by injection w))
          · rw [decide_eq_false z3]
            exact iteT (no fun w => z3 (by injection w))
        · rw [decide_eq_false z2]
          exact iteT (iteT (no fun w => z2 (by injection w)))
      · rw [decide_eq_false (fun w => z1 (by injection w) : ¬ V.str xl = V.str yl)]
        exact iteT (iteT (no fun w => z1 (by injection w)))
    · refine ⟨_, rfl, _, _, _, _, false, rfl, .own _, ht, hk, false, rfl, iteT ?_⟩
      exact q
end
end Nv
set_option maxHeartbeats 4000000
namespace Nv
open PySem PySem.Spec PyProof.Rows L2
abbrev sBookInit : Stmt := inClass cBook 0
abbrev sBookEq : Stmt := inClass cBook 1
abbrev sBookLen : Stmt := inClass cBook 2
abbrev sBookAdd : Stmt := inClass cBook 3
abbrev sBookRules : Stmt := inClass cBook 4
abbrev sBookLabels : Stmt := inClass cBook 5
abbrev sBookRule : Stmt := inClass cBook 6
abbrev sBookWithout : Stmt := inClass cBook 7
abbrev sBookPlain : Stmt := inClass cBook 8
theorem RA.sbo {C C2 : Addr} {H H1 : Hp} {a r dx : Addr} {x : Rl} (h : RA C H a x) (e : H r = some (.ins C2 dx [])) (s : Sb r H H1) : RA C H1 a x := by
  obtain ⟨dx, th, l1, l2, l3, us, us2, us3, e0, e1, ⟨e2, p2⟩, ⟨e3, p3⟩, e4, p4⟩ := h
  refine ⟨dx, th, l1, l2, l3, us, us2, us3, s _ _ (fun z => ?_) e0, s _ _ (fun z => ?_) e1, ⟨s _ _ (fun z => ?_) e2, p2.sbo e s⟩, ⟨s _ _ (fun z => ?_) e3, p3.sbo e s⟩, s _ _ (fun z => ?_) e4, p4.sbo e s⟩
  · rw [z, e] at e0
    injection e0 with e0
    injection e0 with _ _ e0
    cases e0
  · rw [z, e] at e1
    cases e1
  · rw [z, e] at e2
    cases e2
  · rw [z, e] at e3
    cases e3
  · rw [z, e] at e4
    cases e4
section
variable {P : Program} {w : World} {K : PySem.W.Frag} {mg : Str → Option Value} {base : Heap}
theorem ok_get {name qual f : Str} {st : Stmt} {fa C : Addr} {fd : FuncData} {p2 p3 p5 : Pos} (F : Fun K name qual st fa fd) (S : FnScope ["self"] ["self"] (defScope st)) (hb : defBody st = [.Return (some (.Attribute (.Name "self" p2) f p3)) p5])
    (cl : Cls K C) (na : NoAttr K C f) : FnOk P w K mg base CX0 1 fa fd ["self"] (getSp C f) := by
  refine F.ok S (fun vs H Q E h => ?_) (fun cdv A outer s H vs Q E hr h => ?_)
  · obtain ⟨a, dx, fs, v, rfl, _⟩ := h
    rfl
  · obtain ⟨a, dx, fs, v, rfl, ea, l, q⟩ := h
    rw [hb]
    refine ⟨_, pss_one (ps_ret (pe_fld (pe_var (i := 0) rfl ((S.par "self" (List.Mem.head _)).elim (fun z => .inl z) (fun z => .inr (.inl z)))) rfl)), ?_⟩
    exact ⟨.ref a, rfl, a, C, dx, fs, v, rfl, ea, cl, na, l, q⟩
/-- the property Rule.label -/
structure PL (P : Program) (w : World) (K : PySem.W.Frag) (mg : Str → Option Value) (base : Heap) (C : Addr) (x f : Str) : Prop where
  ex : ∃ p g fd, PropOf K C x p g ∧ FnOk P w K mg base CX0 1 g fd ["self"] (getSp C f) ∧ Binds K fd ["self"] []
/-- rules, as a list of the heap -/
def RAs (C : Addr) (H : Hp) (rs : List Addr) (xs : List Rl) : Prop := All2 (fun r x => RA C H r x) rs xs
theorem RAs.same {C : Addr} {H H1 : Hp} {rs : List Addr} {xs : List Rl} (h : RAs C H rs xs) (s : Same H H1) : RAs C H1 rs xs := h.imp fun _ _ z => z.same s
theorem at_ref {rs : List Addr} {i : Nat} {x : V} (hx : (rs.map V.ref)[i]? = some x) : ∃ r, rs[i]? = some r ∧ x = V.ref r := by
  rw [List.getElem?_map] at hx
  cases g : rs[i]? with
  | none =>
    rw [g] at hx
    cases hx
  | some z =>
    rw [g] at hx
    exact ⟨z, rfl, (Option.some.inj hx).symm⟩
theorem spHasDouble.no {H : Hp} {a : Addr} {zs : List Str} {Q : VK} {E : XK} (e : SqL K H a (zs.map V.str)) (hl : zs.length ≤ 4000) (nd : zs.Nodup) (q : Q (.bl false) H) : spHasDouble K [.ref a] H Q E := ⟨a, zs, rfl, e, hl, by rw [decide_eq_true nd]; exact q⟩
def spBookInit (CR C : Addr) : Sp := fun vs H Q _ => ∃ (r dx a : Addr) (rs : List Addr) (xs : List Rl), vs = [.ref r, .ref a] ∧ H r = some (.ins C dx []) ∧ H a = some (.lst (rs.map V.ref)) ∧ RAs CR H rs xs ∧ (xs.map Rl.l).Nodup ∧ xs.length ≤ 100 ∧
  ∀ (l1 : Addr) (H' : Hp), H l1 = none → Sb r H H' → H' r = some (.ins C dx [("_rules", .ref l1)]) → H' l1 = some (.lst (rs.map V.ref)) → Q .non H'
theorem scBookInit : FnScope ["self", "rules", "part"] ["self", "rules"] (defScope sBookInit) := ⟨rfl, rfl, rfl, by decide +kernel, rfl, by decide +kernel, by decide +kernel⟩
theorem ok_bookInit {f C CR fH : Addr} {fd dH : FuncData} (F : Fun K "__init__" "Book.__init__" sBookInit f fd) (B : Bp mg) (cl : Cls K C) (na : NoAttr K C "_rules") (R : RC K CR) (I : IC K CR) (gR : mg "Rule" = some (.ref CR)) (L : PL P w K mg base CR "label" "_label")
    (GH : FnOk P w K mg base CX0 1 fH dH ["labels"] (spHasDouble K)) (kH : PySem.W.keepIn K (.ref fH) = true) (gH : mg "_has_double" = some (.ref fH)) (bH : Binds K dH ["labels"] []) :
    FnOk P w K mg base CX0 3 f fd ["self", "rules"] (spBookInit CR C) := by
  obtain ⟨pp, pg, pd, PO, PF, PB⟩ := L.ex
  refine F.ok scBookInit (fun vs H Q E h => ?_) (fun cdv A outer s H vs Q E hr h => ?_)
  · obtain ⟨r, dx, a, rs, xs, rfl, _⟩ := h
    rfl
  · obtain ⟨r, dx, a, rs, xs, rfl, er, ea, hx, nd, hl, q⟩ := h
    have hr1 : Room 1 _ := hr.mono (by decide)
    have hxl := hx.len
    refine ⟨_, pss_cons (ps_if (PW.pt (pw_or (pt_not (pt_val (pe_callB call_isi (by rfl) B.isi bootIsi (pa_cons (pv 1) (pa_cons (pe_bltn (v := V.ty "list") (by rfl) B.lst PyProof.Rows.boot_list rfl) pa_nil)))))
        (pw_or1 (pt_not (pt_val (pe_callB (cr_all rfl) (by rfl) B.all bootAll (pa_cons (by exact (pe_lc (own := [("part", 2)]) (g := gName 2) (tt := tYes) (te := tCB (rIsi K) (tCons (tVar 2) (tCons (tC (.ref CR)) tNil))) rfl scBookInit.nd (pi_list (pv 1))
          (blkOk_by (own := [("part", 2)]) (N := ["self", "rules", "part"]) (sc := defScope sBookInit) (by decide +kernel))
          (fun _ _ _ _ _ => pg_name (i := 2) scBookInit.nd rfl (Or.inl rfl)) (fun _ _ _ _ _ => pts_nil)
          (fun _ _ _ _ _ => by exact (pe_callB call_isi (by rfl) B.isi bootIsi (pa_cons (pv 2) (pa_cons (pe_glob (v := V.ref CR) (by rfl) gR rfl) pa_nil)))))) pa_nil))))))) (pss_one ps_never) pss_nil)
      (pss_cons (ps_if (pt_val (by exact (pe_call GH hr1 (by rfl) gH kH bH .nil pass0 (pa_cons (by exact (pe_lc (own := [("part", 2)]) (g := gName 2) (tt := tYes) (te := tProp CR (getSp CR "_label") [] E0 (tVar 2)) rfl scBookInit.nd (pi_list (pv 1))
          (blkOk_by (own := [("part", 2)]) (N := ["self", "rules", "part"]) (sc := defScope sBookInit) (by decide +kernel))
          (fun _ _ _ _ _ => pg_name (i := 2) scBookInit.nd rfl (Or.inl rfl)) (fun _ _ _ _ _ => pts_nil)
          (fun _ _ _ _ _ => by exact (pe_prop (pv 2) R.cl PO PF hr PB .nil pass0 rfl)))) pa_nil)))) (pss_one ps_never) pss_nil)
      (pss_one (ps_fld (pv 0) (pe_callTy call_list_of (by rfl) B.lst PyProof.Rows.boot_list (pa_cons (pv 1) pa_nil)) rfl))), ?_⟩
    refine ⟨_, rfl, _, _, _, _, true, rfl, .ty _, tyx_lst ea, kit_ty (by decide +kernel), true, rfl, iteF ?_⟩
    refine ⟨_, rfl, a, rfl, ⟨_, SqL.of ea⟩, fun D nD => ?_⟩
    refine lc_list (K := K) (a := a) (xs := rs.map V.ref) (fun i H' => Same H H' ∧ H' D = some (.lst ((rs.take i).map fun _ => V.bl true))) ⟨same_new nD, upd_same⟩ (fun i H' _ y => SqL.of (y.1 _ _ ea)) ?_ ?_
    · rintro i v H1 hi ⟨s1, e1⟩
      obtain ⟨ri, hri, rfl⟩ := at_ref hi
      obtain ⟨x, hxi, ra⟩ := hx.at_ hri
      obtain ⟨dx2, th, l1, l2, l3, us, us2, us3, g, _⟩ := ra.same s1
      refine ⟨rfl, _, rfl, _, _, _, _, true, rfl, .own _, .base (.ins g R.cl I.ha I.hn I.ht I.hm), I.me, ?_⟩
      refine ⟨_, e1, ?_, same_put s1 nD, ?_⟩
      · rw [List.length_map, List.length_take]
        exact Nat.lt_of_le_of_lt (by omega : _ ≤ 100) (by decide)
      · rw [upd_same, take_one hri, List.map_append] <;> rfl
    · rintro H1 ⟨s1, e1⟩
      rw [List.length_map, List.take_length] at e1
      refine ⟨D, rs.map fun _ => true, rfl, SqL.of (by rw [e1, List.map_map] <;> rfl), _, rfl, ?_⟩
      have eall : (rs.map fun _ => true).all id = true := by simp
      rw [eall]
      refine iteF ?_
      refine ⟨_, rfl, a, rfl, ⟨_, SqL.of (s1 _ _ ea)⟩, fun D2 nD2 => ?_⟩
      refine lc_list (K := K) (a := a) (xs := rs.map V.ref) (fun i H' => Same H H' ∧ H' D2 = some (.lst (((xs.map Rl.l).take i).map V.str))) ⟨same_put s1 (s1.free nD2), upd_same⟩ (fun i H' _ y => SqL.of (y.1 _ _ ea)) ?_ ?_
      · rintro i v H2 hi ⟨s2, e2⟩
        obtain ⟨ri, hri, rfl⟩ := at_ref hi
        obtain ⟨x, hxi, ra⟩ := hx.at_ hri
        obtain ⟨dx2, th, l1, l2, l3, us, us2, us3, g, _⟩ := ra.same s2
        have hz : (xs.map Rl.l)[i]? = some x.l := by rw [List.getElem?_map, hxi] <;> rfl
        refine ⟨rfl, _, rfl, ri, dx2, _, rfl, g, ri, dx2, _, _, rfl, g, lk1, ?_⟩
        refine ⟨_, e2, ?_, same_put s2 (s1.free nD2), ?_⟩
        · rw [List.length_map, List.length_take, List.length_map]
          exact Nat.lt_of_le_of_lt (by omega : _ ≤ 100) (by decide)
        · rw [upd_same, take_one hz, List.map_append] <;> rfl
      · rintro H2 ⟨s2, e2⟩
        have hfull : (xs.map Rl.l).take (rs.map V.ref).length = xs.map Rl.l := List.take_of_length_le (by rw [List.length_map, List.length_map]; omega)
        rw [hfull] at e2
        refine ⟨D2, xs.map Rl.l, rfl, SqL.of e2, by rw [List.length_map]; omega, _, rfl, ?_⟩
        rw [decide_eq_true nd]
        refine iteF ?_
        refine ⟨_, rfl, a, _, rfl, .inl (SqL.of (s2 _ _ ea)), fun l1 n1 => ⟨_, rfl, r, C, dx, [], rfl, same_new n1 _ _ (s2 _ _ er), cl, na, (by show 0 < 1000; decide), ?_⟩⟩
        have n1r : l1 ≠ r := fun z => by
          rw [z, s2 _ _ er] at n1
          cases n1
        exact q l1 _ (s2.free n1) ((Sb.of (same_put s2 (s2.free n1))).trans Sb.upd) upd_same (by rw [upd_ne n1r, upd_same])
end
end Nv
set_option maxHeartbeats 4000000
namespace Nv
open PySem PySem.Spec PyProof.Rows L2
/-- the book of the rules rs stands at b -/
def BA (C : Addr) (H : Hp) (b : Addr) (rs : List Addr) : Prop := ∃ dx l : Addr, H b = some (.ins C dx [("_rules", .ref l)]) ∧ H l = some (.lst (rs.map V.ref))
theorem BA.same {C : Addr} {H H1 : Hp} {b : Addr} {rs : List Addr} (h : BA C H b rs) (s : Same H H1) : BA C H1 b rs := by
  obtain ⟨dx, l, e1, e2⟩ := h
  exact ⟨dx, l, s _ _ e1, s _ _ e2⟩
theorem lkR {l : Addr} : List.lookup ("_rules" : Str) ([("_rules", V.ref l)] : Flds) = some (V.ref l) := lk_yes
section
variable {P : Program} {w : World} {K : PySem.W.Frag} {mg : Str → Option Value} {base : Heap}
/-- Book.labels() -/
def spBookLabels (CR C : Addr) : Sp := fun vs H Q _ => ∃ (b : Addr) (rs : List Addr) (xs : List Rl), vs = [.ref b] ∧ BA C H b rs ∧ RAs CR H rs xs ∧ xs.length ≤ 1000 ∧ ∀ (p : Addr) (H' : Hp), H p = none → Same H H' → H' p = some (.lst ((xs.map Rl.l).map V.str)) → Q (.ref p) H'
theorem scBookLabels : FnScope ["self", "part"] ["self"] (defScope sBookLabels) := ⟨rfl, rfl, rfl, by decide +kernel, rfl, by decide +kernel, by decide +kernel⟩
theorem ok_bookLabels {f C CR : Addr} {fd : FuncData} (F : Fun K "labels" "Book.labels" sBookLabels f fd) (cl : Cls K C) (na : NoAttr K C "_rules") (R : RC K CR) (L : PL P w K mg base CR "label" "_label") : FnOk P w K mg base CX0 3 f fd ["self"] (spBookLabels CR C) := by
  obtain ⟨pp, pg, pd, PO, PF, PB⟩ := L.ex
  refine F.ok scBookLabels (fun vs H Q E h => ?_) (fun cdv A outer s H vs Q E hr h => ?_)
  · obtain ⟨b, rs, xs, rfl, _⟩ := h
    rfl
  · obtain ⟨b, rs, xs, rfl, ⟨dx, l, eb, el⟩, hx, hl, q⟩ := h
    have hxl := hx.len
    refine ⟨_, pss_one (ps_ret (by exact (pe_lc (own := [("part", 1)]) (g := gName 1) (tt := tYes) (te := tProp CR (getSp CR "_label") [] E0 (tVar 1)) rfl scBookLabels.nd (pi_list (pe_fld (pv 0) rfl))
      (blkOk_by (own := [("part", 1)]) (N := ["self", "part"]) (sc := defScope sBookLabels) (by decide +kernel))
      (fun _ _ _ _ _ => pg_name (i := 1) scBookLabels.nd rfl (Or.inl rfl)) (fun _ _ _ _ _ => pts_nil)
      (fun _ _ _ _ _ => by exact (pe_prop (pv 1) R.cl PO PF hr PB .nil pass0 rfl))))), ?_⟩
    refine ⟨_, rfl, b, C, dx, _, _, rfl, eb, cl, na, lkR, l, rfl, ⟨_, SqL.of el⟩, fun D nD => ?_⟩
    refine lc_list (K := K) (a := l) (xs := rs.map V.ref) (fun i H' => Same H H' ∧ H' D = some (.lst (((xs.map Rl.l).take i).map V.str))) ⟨same_new nD, upd_same⟩ (fun i H' _ y => SqL.of (y.1 _ _ el)) ?_ ?_
    · rintro i v H2 hi ⟨s2, e2⟩
      obtain ⟨ri, hri, rfl⟩ := at_ref hi
      obtain ⟨x, hxi, ra⟩ := hx.at_ hri
      obtain ⟨dx2, th, l1, l2, l3, us, us2, us3, g, _⟩ := ra.same s2
      have hz : (xs.map Rl.l)[i]? = some x.l := by rw [List.getElem?_map, hxi] <;> rfl
      refine ⟨rfl, _, rfl, ri, dx2, _, rfl, g, ri, dx2, _, _, rfl, g, lk1, ?_⟩
      refine ⟨_, e2, ?_, same_put s2 nD, ?_⟩
      · rw [List.length_map, List.length_take, List.length_map]
        exact Nat.lt_of_le_of_lt (by omega : _ ≤ 1000) (by decide)
      · rw [upd_same, take_one hz, List.map_append] <;> rfl
    · rintro H2 ⟨s2, e2⟩
      have hfull : (xs.map Rl.l).take (rs.map V.ref).length = xs.map Rl.l := List.take_of_length_le (by rw [List.length_map, List.length_map]; omega)
      rw [hfull] at e2
      exact q D H2 nD s2 e2
/-- Book.rule(label), a label that is there -/
def spBookRule (CR C : Addr) : Sp := fun vs H Q _ => ∃ (b : Addr) (z : Str) (rs : List Addr) (xs : List Rl) (j : Nat) (r : Addr), vs = [.ref b, .str z] ∧ BA C H b rs ∧ RAs CR H rs xs ∧ xs.length ≤ 1000 ∧ (xs.map Rl.l).Nodup ∧ (xs.map Rl.l)[j]? = some z ∧ rs[j]? = some r ∧ ∀ H', Same H H' → Q (.ref r) H'
theorem scBookRule : FnScope ["self", "label"] ["self", "label"] (defScope sBookRule) := ⟨rfl, rfl, rfl, by decide +kernel, rfl, by decide +kernel, by decide +kernel⟩
theorem ok_bookRule {f C CR fL fP : Addr} {fd dL dP : FuncData} (F : Fun K "rule" "Book.rule" sBookRule f fd) (cl : Cls K C) (na : NoAttr K C "_rules")
    (GL : FnOk P w K mg base CX0 3 fL dL ["self"] (spBookLabels CR C)) (mL : Meth K C "labels" fL) (bL : Binds K dL ["self"] [])
    (GP : FnOk P w K mg base CX0 1 fP dP ["label", "labels"] (spPlace K)) (kP : PySem.W.keepIn K (.ref fP) = true) (gP : mg "_place" = some (.ref fP)) (bP : Binds K dP ["label", "labels"] []) : FnOk P w K mg base CX0 4 f fd ["self", "label"] (spBookRule CR C) := by
  refine F.ok scBookRule (fun vs H Q E h => ?_) (fun cdv A outer s H vs Q E hr h => ?_)
  · obtain ⟨b, z, rs, xs, j, r, rfl, _⟩ := h
    rfl
  · obtain ⟨b, z, rs, xs, j, r, rfl, ba, hx, hl, nd, hj, hrj, q⟩ := h
    obtain ⟨dx, l, eb, el⟩ := id ba
    have hr1 : Room 1 _ := hr.mono (by decide)
    refine ⟨_, pss_one (ps_ret (pe_ix ix_list (pe_fld (pv 0) rfl) (by exact (pe_call GP hr1 (by rfl) gP kP bP .nil pass0 (pa_cons (pv 1) (pa_cons (by exact (pe_meth0 (pv 0) cl mL GL hr bL .nil pass0)) pa_nil)))) (fun _ _ => rfl))), ?_⟩
    refine ⟨_, rfl, b, C, dx, _, _, rfl, eb, cl, na, lkR, _, rfl, _, rfl, b, dx, _, rfl, eb, (lk_no (by decide +kernel)), b, rs, xs, rfl, ba, hx, hl, fun p H1 np s1 e1 => ?_⟩
    refine ⟨z, p, xs.map Rl.l, j, rfl, SqL.of e1, hj, nd, ?_⟩
    refine ⟨l, _, _, .ref r, rfl, rfl, SqL.of (s1 _ _ el), atI_nat (by rw [List.getElem?_map, hrj] <;> rfl), q H1 s1⟩
end
end Nv
set_option maxHeartbeats 4000000
namespace Nv
open PySem PySem.Spec PyProof.Rows L2
section
variable {P : Program} {w : World} {K : PySem.W.Frag} {mg : Str → Option Value} {base : Heap}
theorem All2.split {α β : Type} {R : α → β → Prop} {xs : List α} {ys : List β} (h : All2 R xs ys) : ∀ j, All2 R (xs.take j) (ys.take j) ∧ All2 R (xs.drop j) (ys.drop j) := by
  induction h with
  | nil =>
    intro j
    rw [List.take_nil, List.drop_nil, List.take_nil, List.drop_nil]
    exact ⟨All2.nil, All2.nil⟩
  | cons a _ ih =>
    intro j
    cases j with
    | zero => exact ⟨.nil, .cons a (by simpa using (ih 0).2)⟩
    | succ j => exact ⟨.cons a (ih j).1, (ih j).2⟩
theorem All2.app {α β : Type} {R : α → β → Prop} {xs xs' : List α} {ys ys' : List β} (h : All2 R xs ys) (h' : All2 R xs' ys') : All2 R (xs ++ xs') (ys ++ ys') := by
  induction h with
  | nil => exact h'
  | cons a _ ih => exact .cons a ih
def less {α : Type} (xs : List α) (j : Nat) : List α := xs.take j ++ xs.drop (j + 1)
theorem less_sub {α : Type} (xs : List α) (j : Nat) : (less xs j).Sublist xs := by
  have h : (xs.take j ++ xs.drop (j + 1)).Sublist (xs.take j ++ xs.drop j) := by
    refine List.Sublist.append (List.Sublist.refl _) ?_
    rw [← List.drop_drop]
    exact List.drop_sublist _ _
  rw [List.take_append_drop] at h
  exact h
theorem less_map {α β : Type} (f : α → β) (xs : List α) (j : Nat) : (less xs j).map f = less (xs.map f) j := by
  unfold less
  rw [List.map_append, List.map_take, List.map_drop]
/-- a new instance: what stood stands -/
theorem made_same {H H1 H2 : Hp} {x dx C : Addr} (s : Same H H1) (nx : H1 x = none) (nd : H1 dx = none) (sb : Sb x (upd (upd H1 dx (.own x)) x (.ins C dx [])) H2) : Same H H2 := by
  intro b o e
  have e1 := s b o e
  have n1 : b ≠ x := ne_of_none e1 nx
  refine sb b o n1 ?_
  rw [upd_ne n1, upd_ne (ne_of_none e1 nd)]
  exact e1
/-- Book.without(label), a label that is there -/
def spBookWithout (CR C : Addr) : Sp := fun vs H Q _ => ∃ (b : Addr) (z : Str) (rs : List Addr) (xs : List Rl) (j : Nat), vs = [.ref b, .str z] ∧ BA C H b rs ∧ RAs CR H rs xs ∧ xs.length ≤ 100 ∧ (xs.map Rl.l).Nodup ∧ (xs.map Rl.l)[j]? = some z ∧
  ∀ (b2 : Addr) (H' : Hp), H b2 = none → BA C H' b2 (less rs j) → Same H H' → Q (.ref b2) H'
theorem scBookWithout : FnScope ["self", "label", "place"] ["self", "label"] (defScope sBookWithout) := ⟨rfl, rfl, rfl, by decide +kernel, rfl, by decide +kernel, by decide +kernel⟩
theorem ok_bookWithout {f C CR fL fP fI : Addr} {fd dL dP dI : FuncData} (F : Fun K "without" "Book.without" sBookWithout f fd) (cl : Cls K C) (na : NoAttr K C "_rules")
    (GL : FnOk P w K mg base CX0 3 fL dL ["self"] (spBookLabels CR C)) (mL : Meth K C "labels" fL) (bL : Binds K dL ["self"] [])
    (GP : FnOk P w K mg base CX0 1 fP dP ["label", "labels"] (spPlace K)) (kP : PySem.W.keepIn K (.ref fP) = true) (gP : mg "_place" = some (.ref fP)) (bP : Binds K dP ["label", "labels"] [])
    (GI : FnOk P w K mg base CX0 3 fI dI ["self", "rules"] (spBookInit CR C)) (MI : Mk K C fI) (gB : mg "Book" = some (.ref C)) (bI : Binds K dI ["self", "rules"] []) : FnOk P w K mg base CX0 5 f fd ["self", "label"] (spBookWithout CR C) := by
  refine F.ok scBookWithout (fun vs H Q E h => ?_) (fun cdv A outer s H vs Q E hr h => ?_)
  · obtain ⟨b, z, rs, xs, j, rfl, _⟩ := h
    rfl
  · obtain ⟨b, z, rs, xs, j, rfl, ba, hx, hl, nd, hj, q⟩ := h
    obtain ⟨dx, l, eb, el⟩ := id ba
    have hr1 : Room 1 _ := hr.mono (by decide)
    have hr3 : Room 3 _ := hr.mono (by decide)
    have hxl := hx.len
    have hjl : j < rs.length := by
      have := (List.getElem?_eq_some_iff.mp hj).1
      rw [List.length_map] at this
      omega
    refine ⟨_, pss_cons (ps_set (i := 2) scBookWithout.nd rfl (Or.inl rfl) (by exact (pe_call GP hr1 (by rfl) gP kP bP .nil pass0 (pa_cons (pv 1) (pa_cons (by exact (pe_meth0 (pv 0) cl mL GL hr3 bL .nil pass0)) pa_nil)))))
      (pss_one (ps_ret (by exact (pe_make MI GI hr (by rfl) gB bI .nil pass0 (pa_cons (pe_op op_cat (pe_slice sl_list (pe_fld (pv 0) rfl) po_none (po_some (pv 2))) (pe_slice sl_list (pe_fld (pv 0) rfl) (po_some (pe_op op_add (pv 2) pe_int)) po_none)) pa_nil))))), ?_⟩
    refine ⟨_, rfl, _, rfl, b, dx, _, rfl, eb, (lk_no (by decide +kernel)), b, rs, xs, rfl, ba, hx, by omega, fun p H1 np s1 e1 => ?_⟩
    refine ⟨z, p, xs.map Rl.l, j, rfl, SqL.of e1, hj, nd, ?_⟩
    have hc1 : cutV (rs.map V.ref) none (some (j : Int)) = (rs.take j).map V.ref := by
      unfold cutV
      rw [HT.sIx_none, HT.sIx_nat, List.drop_zero, Nat.sub_zero, List.length_map, Nat.min_eq_left (by omega), List.map_take]
    have hc2 : cutV (rs.map V.ref) (some ((j : Int) + 1)) none = (rs.drop (j + 1)).map V.ref := by
      unfold cutV
      have e : ((j : Int) + 1) = ((j + 1 : Nat) : Int) := by omega
      rw [e, HT.sIx_none, HT.sIx_nat, List.length_map, Nat.min_eq_left (by omega), List.map_drop, List.take_of_length_le (by rw [List.length_drop, List.length_map]; exact Nat.le_refl _)]
    refine ⟨_, rfl, b, C, dx, _, _, rfl, s1 _ _ eb, cl, na, lkR, _, rfl, _, rfl, l, _, rfl, SqL.of (s1 _ _ el), fun q1 n1 => ?_⟩
    rw [hc1]
    have s2 : Same H (upd H1 q1 (.lst ((rs.take j).map V.ref))) := same_put s1 (s1.free n1)
    have g1 : upd H1 q1 (.lst ((rs.take j).map V.ref)) q1 = some (.lst ((rs.take j).map V.ref)) := upd_same
    generalize upd H1 q1 (.lst ((rs.take j).map V.ref)) = G2 at s2 g1 ⊢
    refine ⟨_, rfl, b, C, dx, _, _, rfl, s2 _ _ eb, cl, na, lkR, _, rfl, _, _, rfl, rfl, _, rfl, l, _, rfl, SqL.of (s2 _ _ el), fun q2 n2 => ?_⟩
    rw [hc2]
    have s3 : Same H (upd G2 q2 (.lst ((rs.drop (j + 1)).map V.ref))) := same_put s2 (s2.free n2)
    have g2 : upd G2 q2 (.lst ((rs.drop (j + 1)).map V.ref)) q1 = some (.lst ((rs.take j).map V.ref)) := same_new n2 _ _ g1
    have g3 : upd G2 q2 (.lst ((rs.drop (j + 1)).map V.ref)) q2 = some (.lst ((rs.drop (j + 1)).map V.ref)) := upd_same
    generalize upd G2 q2 (.lst ((rs.drop (j + 1)).map V.ref)) = G3 at s3 g2 g3 ⊢
    refine ⟨_, _, _, _, rfl, rfl, g2, g3, ?_, fun q3 n3 => ?_⟩
    · rw [List.length_map, List.length_map, List.length_take, List.length_drop]
      exact Nat.le_trans (by omega : _ ≤ 1000) (by decide)
    · have hls : (rs.take j).map V.ref ++ (rs.drop (j + 1)).map V.ref = (less rs j).map V.ref := by
        unfold less
        rw [List.map_append]
      rw [hls]
      have s4 : Same H (upd G3 q3 (.lst ((less rs j).map V.ref))) := same_put s3 (s3.free n3)
      have g4 : upd G3 q3 (.lst ((less rs j).map V.ref)) q3 = some (.lst ((less rs j).map V.ref)) := upd_same
      generalize upd G3 q3 (.lst ((less rs j).map V.ref)) = G4 at s4 g4 ⊢
      intro x dx2 nx ndx ne
      have s5 : Same G4 (upd (upd G4 dx2 (.own x)) x (.ins C dx2 [])) := fun b o e => by
        rw [upd_ne (ne_of_none e nx), upd_ne (ne_of_none e ndx)]
        exact e
      refine ⟨x, dx2, q3, less rs j, less xs j, rfl, upd_same, s5 _ _ g4, ?_, ?_, ?_, fun l1 H5 n1 sb e5 e6 => ⟨rfl, ?_⟩⟩
      · have h1 := hx.split j
        have h2 := hx.split (j + 1)
        exact RAs.same (RAs.same (h1.1.app h2.2) s4) s5
      · rw [less_map]
        exact List.Nodup.sublist (less_sub _ _) nd
      · have := (less_sub xs j).length_le
        omega
      · exact q x H5 (s4.free nx) ⟨dx2, l1, e5, e6⟩ (made_same s4 nx ndx sb)
/-- Book.plain -/
def spBookPlain (CR C : Addr) : Sp := fun vs H Q _ => ∃ (b : Addr) (rs : List Addr) (xs : List Rl), vs = [.ref b] ∧ BA C H b rs ∧ RAs CR H rs xs ∧ (∀ x ∈ xs, x.Ok) ∧ xs.length ≤ 1000 ∧ ∀ H', Same H H' → Q (.bl (xs.all fun x => decide (x.ds = []))) H'
theorem scBookPlain : FnScope ["self", "part"] ["self"] (defScope sBookPlain) := ⟨rfl, rfl, rfl, by decide +kernel, rfl, by decide +kernel, by decide +kernel⟩
theorem ok_bookPlain {f C CR pp pg : Addr} {fd pd : FuncData} (F : Fun K "plain" "Book.plain" sBookPlain f fd) (B : Bp mg) (cl : Cls K C) (na : NoAttr K C "_rules") (R : RC K CR)
    (PO : PropOf K CR "denied" pp pg) (PF : FnOk P w K mg base CX0 1 pg pd ["self"] (spGetL CR "_denied")) (PB : Binds K pd ["self"] []) : FnOk P w K mg base CX0 3 f fd ["self"] (spBookPlain CR C) := by
  refine F.ok scBookPlain (fun vs H Q E h => ?_) (fun cdv A outer s H vs Q E hr h => ?_)
  · obtain ⟨b, rs, xs, rfl, _⟩ := h
    rfl
  · obtain ⟨b, rs, xs, rfl, ⟨dx, l, eb, el⟩, hx, ok, hl, q⟩ := h
    have hxl := hx.len
    refine ⟨_, pss_one (ps_ret (pe_callB (cr_all rfl) (by rfl) B.all bootAll (pa_cons (by exact (pe_lc (own := [("part", 1)]) (g := gName 1) (tt := tYes) (te := tOp (rEqD K) (tProp CR (spGetL CR "_denied") [] E0 (tVar 1)) (tLst tNil)) rfl scBookPlain.nd (pi_list (pe_fld (pv 0) rfl))
      (blkOk_by (own := [("part", 1)]) (N := ["self", "part"]) (sc := defScope sBookPlain) (by decide +kernel))
      (fun _ _ _ _ _ => pg_name (i := 1) scBookPlain.nd rfl (Or.inl rfl)) (fun _ _ _ _ _ => pts_nil)
      (fun _ _ _ _ _ => by exact (pe_cmpR (op_eqD hr.units) (pe_prop (pv 1) R.cl PO PF hr PB .nil pass0 rfl) (pe_lst pa_nil) (nomark _))))) pa_nil))), ?_⟩
    refine ⟨_, rfl, b, C, dx, _, _, rfl, eb, cl, na, lkR, l, rfl, ⟨_, SqL.of el⟩, fun D nD => ?_⟩
    refine lc_list (K := K) (a := l) (xs := rs.map V.ref) (fun i H' => Same H H' ∧ H' D = some (.lst ((xs.take i).map fun x => V.bl (decide (x.ds = []))))) ⟨same_new nD, upd_same⟩ (fun i H' _ y => SqL.of (y.1 _ _ el)) ?_ ?_
    · rintro i v H2 hi ⟨s2, e2⟩
      obtain ⟨ri, hri, rfl⟩ := at_ref hi
      obtain ⟨x, hxi, ra⟩ := hx.at_ hri
      have xo := ok x (List.mem_of_getElem? hxi)
      obtain ⟨dx2, th, l1, l2, l3, us, us2, us3, g, _, _, _, g4, p4⟩ := ra.same s2
      refine ⟨rfl, _, rfl, ri, dx2, _, rfl, g, ri, dx2, l3, _, us3, rfl, g, lk5, g4, fun p1 n1 => ?_⟩
      have t1 : Same H2 (upd H2 p1 (.lst us3)) := same_new n1
      have k1 : upd H2 p1 (.lst us3) p1 = some (.lst us3) := upd_same
      generalize upd H2 p1 (.lst us3) = G1 at t1 k1 ⊢
      refine ⟨by decide, fun p2 n2 => ?_⟩
      have t2 : Same H2 (upd G1 p2 (.lst [])) := same_put t1 (t1.free n2)
      have k2 : upd G1 p2 (.lst []) p1 = some (.lst us3) := same_new n2 _ _ k1
      refine ⟨dL x.ds, dL [], dp_L (SqL.of k2) (p4.same t2), .lst (SqL.of upd_same) .nil, (lay_dL fun p hp => (xo.ds p hp).asc).shaped (by decide), (lay_dL (ps := []) (fun p hp => nomatch hp)).shaped (by decide), ?_⟩
      rw [eqv_L]
      generalize upd G1 p2 (.lst []) = G2 at t2 ⊢
      refine ⟨_, t2 _ _ e2, ?_, same_put (s2.trans t2) nD, ?_⟩
      · rw [List.length_map, List.length_take]
        exact Nat.lt_of_le_of_lt (by omega : _ ≤ 1000) (by decide)
      · rw [upd_same, take_one hxi, List.map_append] <;> rfl
    · rintro H2 ⟨s2, e2⟩
      have hfull : xs.take (rs.map V.ref).length = xs := List.take_of_length_le (by rw [List.length_map]; omega)
      rw [hfull] at e2
      refine ⟨D, xs.map fun x => decide (x.ds = []), rfl, SqL.of (by rw [e2, List.map_map] <;> rfl), ?_⟩
      rw [List.all_map]
      exact q H2 s2
end
end Nv
set_option maxHeartbeats 4000000
namespace Nv
open PySem PySem.Spec PyProof.Rows L2
section
variable {X : Cx} {C f : Addr} {k : Nat} {fd : FuncData} {ps : List Str} {sp : Sp}
/-- a def of the text, called at values from below the running body -/
theorem call_own {A : Around} {pins : List (Addr × Obj)} {σ : L2.St} {H : Hp} {s : Shared} {vs : List V} {us : List Value} {Q : VK} {E2 : Value → Shared → Prop} (F : FnOk X.prog X.w X.K X.mg X.base CX0 k f fd ps sp) (hr : Room k A) (fr : A.frames = X.A.frames) (hb : Binds X.K fd ps [])
    (I : Inv X pins σ H s) (r : Vals vs us) (h : sp vs H Q E0) : wpAny (model X.prog X.w) A (call (.ref f) us) (EP X pins σ Q) E2 s := by
  have e0 : Env0 X.prog X.w X.K X.mg X.base A X.stack s H := by
    have e := I.env0
    exact ⟨by rw [fr]; exact e.frames, e.mod, e.bs, e.bsz, e.funs, e.frf, e.hok, e.bare⟩
  have hl : us.length = ps.length := by rw [← F.len _ _ _ _ h, r.length]
  refine wpAny_call (codeAny_mono (F.run A X.stack s H ⟨us, []⟩ us vs Q E0 hr e0 (by simpa using hb s us I.kIn (by simpa using hl)) r h) fun q s1 hq => ?_)
  rcases q with e | fl
  · exact hq.elim
  cases fl with
  | ret w => exact I.after hq
  | _ => exact hq.elim
/-- x == y by the own __eq__ of x's class -/
def rOwnEq (K : PySem.W.Frag) (C : Addr) (sp : Sp) : R2 := fun x y H Q => ∃ (a dx : Addr) (fs : List (Str × V)) (t : Value), x = .ref a ∧ H a = some (.ins C dx fs) ∧ TyX K H y t ∧ PySem.W.notFirst K C t = true ∧ sp [x, y] H (fun v H' => ∃ b, v = .bl b ∧ Q (.bl b) H') E0
theorem op_ownEq (F : FnOk X.prog X.w X.K X.mg X.base CX0 k f fd ps sp) (hr : Room k X.A) (hs : PySem.W.findIn X.K (.ref C) "__eq__" = some (some (.ref f))) (hf : PySem.W.isFn X.K (.ref f) = true) (hb : Binds X.K fd ps []) : OpR X (compareOp .Eq) (rOwnEq X.K C sp) := by
  intro pins s σ H x y v u Q I rx ry hq
  obtain ⟨a, dx, fs, t, rfl, ha, ht, hn, hsp⟩ := hq
  obtain ⟨P, Z, p, _⟩ := kit_of I ry ht
  have ty := Z.ty (model X.prog X.w) s.heap I.kIn p
  cases rx
  obtain ⟨mA, J, _⟩ := ins_get I.hok ha
  obtain ⟨od, J, _⟩ := J.look
  obtain ⟨m, hF⟩ := I.fr
  show wpAny (model X.prog X.w) X.A (richCompare .Eq (.ref a) u) (EP X pins σ Q) X.xe s
  refine PySem.W.cmp_K (op := .Eq) (tb := t) hr.units0 hF I.ok.mod.kin J ty hn hs hf ?_
  refine wpAny_mono (call_own (X := X) F hr rfl hb I (vs := [.ref a, y]) (.cons rfl (.cons ry .nil)) hsp) (fun w s1 h => ?_) fun _ _ e => e
  obtain ⟨z, H1, I1, rz, b, rfl, q⟩ := h
  cases rz
  exact ⟨.bl b, H1, I1, rfl, q⟩
/-- len(x) by an own __len__ -/
def rOwnLen (C : Addr) (sp : Sp) : List V → Hp → VK → Prop := fun xs H Q => ∃ (a dx : Addr) (fs : List (Str × V)), xs = [.ref a] ∧ H a = some (.ins C dx fs) ∧ sp [.ref a] H (fun v H' => ∃ n : Int, v = .int n ∧ (0 ≤ n ∧ n < 2 ^ 63) ∧ Q (.int n) H') E0
theorem call_ownLen (F : FnOk X.prog X.w X.K X.mg X.base CX0 k f fd ps sp) (hr : Room k X.A.in1) (hs : PySem.W.findIn X.K (.ref C) "__len__" = some (some (.ref f))) (hf : PySem.W.isFn X.K (.ref f) = true) (hb : Binds X.K fd ps []) : CallR X (.builtin "len") (rOwnLen C sp) := by
  intro pins s σ H xs us Q I r hq
  obtain ⟨a, dx, fs, rfl, ha, hsp⟩ := hq
  obtain ⟨u, rfl, rx⟩ := vals1 r
  cases rx
  obtain ⟨mA, J, _⟩ := ins_get I.hok ha
  obtain ⟨od, J, _⟩ := J.look
  obtain ⟨m, hF⟩ := I.fr
  refine PySem.W.len_K hF I.ok.mod.kin J hs hf ?_
  refine wpAny_mono (call_own (X := X) F hr rfl hb I (vs := [.ref a]) (.cons rfl .nil) hsp) (fun w s1 h => ?_) fun _ _ e => e
  obtain ⟨z, H1, I1, rz, n, rfl, hn, q⟩ := h
  obtain ⟨t, rfl⟩ := rz
  exact ⟨hn, .int n, H1, I1.tok _, ⟨_, rfl⟩, q⟩
/-- x + y by an own __add__, both of one class -/
def rOwnAdd (C : Addr) (sp : Sp) : R2 := fun x y H Q => ∃ (a b dx dy : Addr) (fs gs : List (Str × V)), x = .ref a ∧ y = .ref b ∧ H a = some (.ins C dx fs) ∧ H b = some (.ins C dy gs) ∧ sp [x, y] H (fun v H' => ∃ c, v = .ref c ∧ Q (.ref c) H') E0
theorem op_ownAdd (F : FnOk X.prog X.w X.K X.mg X.base CX0 k f fd ps sp) (hr : Room k X.A) (hc : PySem.W.selfFirst X.K C = true) (hs : PySem.W.findIn X.K (.ref C) "__add__" = some (some (.ref f))) (hf : PySem.W.isFn X.K (.ref f) = true) (hb : Binds X.K fd ps []) : OpR X (binaryOp .Add) (rOwnAdd C sp) := by
  intro pins s σ H x y v u Q I rx ry hq
  obtain ⟨a, b, dx, dy, fs, gs, rfl, rfl, ha, hb2, hsp⟩ := hq
  cases rx
  cases ry
  obtain ⟨mA, J, _⟩ := ins_get I.hok ha
  obtain ⟨od, J, _⟩ := J.look
  obtain ⟨mB, J2, _⟩ := ins_get I.hok hb2
  obtain ⟨od2, J2, _⟩ := J2.look
  obtain ⟨m, hF⟩ := I.fr
  refine PySem.W.binop_K (op := .Add) hF I.ok.mod.kin J J2.type hc hs hf ?_
  refine wpAny_mono (call_own (X := X) F hr rfl hb I (vs := [.ref a, .ref b]) (.cons rfl (.cons rfl .nil)) hsp) (fun w s1 h => ?_) fun _ _ e => e
  obtain ⟨z, H1, I1, rz, c, rfl, q⟩ := h
  cases rz
  exact ⟨.ref c, H1, I1, rfl, q⟩
end
end Nv
set_option maxHeartbeats 4000000
namespace Nv
open PySem PySem.Spec PyProof.Rows L2 PySem.W
section
variable {prog : Program} {w : World} {A : Around} {E : Value → Shared → Prop} {s : Shared} {K : PySem.W.Frag} {x C f : Addr} {ox : Obj} {od : Option Obj} {b tb : Value}
/-- the body of the built-in != of an instance with an own ==, at another around -/
theorem ne_body {Q : Fin → Shared → Prop} (X : K.In s.heap) (I : InstAt s.heap x ox C od) (he : findIn K (.ref C) "__eq__" = some (some (.ref f))) (hf : isFn K (.ref f) = true) (hu : A.units < cLine)
    (h : wpAny (model prog w) A (call (.ref f) [.ref x, b]) (fun v s' => ∃ c, v = .bool c ∧ Q (.done (.ret (.bool (!c)))) s') E s) : wpAny (model prog w) A (Builtin.«object.__ne__» ⟨[.ref x, b], []⟩) Q E s := by
  have eq : wpAny (model prog w) A (callSpecialIfBound? (.ref x) "__eq__" [b]) (fun r s' => ∃ c, r = some (.bool c) ∧ Q (.done (.ret (.bool (!c)))) s') E s :=
    ifBound_K X I he hf (wpAny_mono h (fun v s' ⟨c, e, q⟩ => ⟨c, by rw [e], q⟩) fun _ _ e => e)
  unfold Builtin.«object.__ne__»
  repeat (first
    | with_reducible refine wpAny_cRoomFor hu ?_
    | (refine wpAny_bind (m := callSpecialIfBound? (.ref x) (Str.ofString "__eq__") [b]) (wpAny_mono eq (fun r s' hr => by
        obtain ⟨c, rfl, hq⟩ := hr
        repeat (first | exact hq | exact wpAny_pure hq | exact wpAny_truthy_bool hq | (refine wpAny_bind (m := truthy (.bool _)) (wpAny_truthy_bool ?_)) | wp_step)) fun _ _ e => e))
    | wp_step)
theorem ifBound_ne {args : List Value} {Q : Option Value → Shared → Prop} (X : K.In s.heap) (I : InstAt s.heap x ox C od) (hs : findIn K (.ref C) "__ne__" = some (some (.builtin "object.__ne__")))
    (h : wpAny (model prog w) A (call (.builtin "object.__ne__") (.ref x :: args)) (fun v => Q (some v)) E s) : wpAny (model prog w) A (callSpecialIfBound? (.ref x) "__ne__" args) Q E s := by
  simp only [callSpecialIfBound?, bindSpecialIfBound?]
  refine wpAny_holding (wpAny_bind (wpAny_bind (wpAny_bind (I.type.here ((looks_findIn X hs).here (wpAny_bind (wpAny_askSetting (wpAny_ite ?_))))))))
  have fin2 : wpAny (model prog w) A (call (.builtin "object.__ne__") ([.ref x] ++ args) >>= fun v => pure (some v)) Q E s := wpAny_bind (wpAny_mono h (fun v s' q => wpAny_pure q) fun _ _ q => q)
  split
  · exact wpAny_bind (wpAny_of_eq (F.cmp_object.ne.bind _) (wpAny_pure (by exact fin2)))
  · exact wpAny_tryCatch (wpAny_bind (wpAny_of_eq (F.cmp_object.ne.bind _) (wpAny_pure (by exact fin2))))
theorem rich_ne {Q : Value → Shared → Prop} (hu : A.units + 1 < cLine) (X : K.In s.heap) (I : InstAt s.heap x ox C od) (hm : mroIn K C (.type "object") = some true) (hb : Looks (model prog w) s.heap (typeOf b) tb) (hn : notFirst K C tb = true)
    (hne : findIn K (.ref C) "__ne__" = some (some (.builtin "object.__ne__"))) (he : findIn K (.ref C) "__eq__" = some (some (.ref f))) (hf : isFn K (.ref f) = true)
    (h : wpAny (model prog w) A.in1 (call (.ref f) [.ref x, b]) (fun v s' => ∃ c, v = .bool c ∧ Q (.bool (!c)) s') E s) : wpAny (model prog w) A (richCompare .NotEq (.ref x) b) Q E s := by
  have one : wpAny (model prog w) A (tryCompare (.ref x) "__ne__" b) (fun r s' => ∃ v, r = some v ∧ Q v s') E s := by
    unfold tryCompare
    refine wpAny_bind (ifBound_ne X I hne (wpAny_call (codeAny_call_builtin F.cmp_object.ne.plain F.cmpEntry_ne (check_slot F.cmpKind_ne F.cmpSplit_ne (I.type.andThen (looks_mroIn X hm)) (F.cmpArgs_ne _ _) (ne_body (A := A.in1) X I he hf hu (wpAny_mono h (fun v s' hv => ?_) fun _ _ e => e))))))
    obtain ⟨c, rfl, q⟩ := hv
    exact ⟨c, rfl, wpAny_pure ⟨_, rfl, q⟩⟩
  simp only [richCompare, cmpInfo_NotEq, oneThing_ref]
  refine wpAny_holding (wpAny_bind (wpAny_cRoomFor (Nat.lt_of_succ_lt hu) (wpAny_bind (I.type.here (wpAny_bind (hb.here ?_))))))
  split
  · rename_i z
    have e : subIn K tb (.ref C) = some false := by
      rcases Bool.or_eq_true_iff.mp hn with e | e
      · rw [beq_iff_eq.mp e] at z
        simp at z
      · exact beq_iff_eq.mp e
    refine wpAny_bind ((looks_subIn X e).here ?_)
    simp only [Bool.false_eq_true, if_false]
    refine wpAny_bind (wpAny_mono one (fun r s' ⟨v, e1, q⟩ => ?_) fun _ _ e => e)
    subst e1
    exact wpAny_pure q
  · refine wpAny_bind (wpAny_pure ?_)
    simp only [Bool.false_eq_true, if_false]
    refine wpAny_bind (wpAny_mono one (fun r s' ⟨v, e1, q⟩ => ?_) fun _ _ e => e)
    subst e1
    exact wpAny_pure q
end
section
variable {X : Cx} {C f : Addr} {k : Nat} {fd : FuncData} {ps : List Str} {sp : Sp}
/-- x != y by the own __eq__ of x's class -/
def rOwnNe (K : PySem.W.Frag) (C : Addr) (sp : Sp) : R2 := fun x y H Q => ∃ (a dx : Addr) (fs : List (Str × V)) (t : Value), x = .ref a ∧ H a = some (.ins C dx fs) ∧ TyX K H y t ∧ PySem.W.notFirst K C t = true ∧ sp [x, y] H (fun v H' => ∃ b, v = .bl b ∧ Q (.bl (!b)) H') E0
theorem op_ownNe (F : FnOk X.prog X.w X.K X.mg X.base CX0 k f fd ps sp) (hr : Room (k + 1) X.A) (hs : PySem.W.findIn X.K (.ref C) "__eq__" = some (some (.ref f))) (hne : PySem.W.findIn X.K (.ref C) "__ne__" = some (some (.builtin "object.__ne__"))) (hm : PySem.W.mroIn X.K C (.type "object") = some true)
    (hf : PySem.W.isFn X.K (.ref f) = true) (hb : Binds X.K fd ps []) : OpR X (compareOp .NotEq) (rOwnNe X.K C sp) := by
  intro pins s σ H x y v u Q I rx ry hq
  obtain ⟨a, dx, fs, t, rfl, ha, ht, hn, hsp⟩ := hq
  obtain ⟨P, Z, p, _⟩ := kit_of I ry ht
  have ty := Z.ty (model X.prog X.w) s.heap I.kIn p
  cases rx
  obtain ⟨mA, J, _⟩ := ins_get I.hok ha
  obtain ⟨od, J, _⟩ := J.look
  show wpAny (model X.prog X.w) X.A (richCompare .NotEq (.ref a) u) (EP X pins σ Q) X.xe s
  refine rich_ne (hu_of hr) I.kIn J hm ty hn hne hs hf ?_
  refine wpAny_mono (call_own (X := X) F hr.in1 rfl hb I (vs := [.ref a, y]) (.cons rfl (.cons ry .nil)) hsp) (fun w s1 h => ?_) fun _ _ e => e
  obtain ⟨z, H1, I1, rz, b, rfl, q⟩ := h
  cases rz
  exact ⟨b, rfl, .bl (!b), H1, I1, rfl, q⟩
end
end Nv
set_option maxHeartbeats 4000000
namespace Nv
open PySem PySem.Spec PyProof.Rows L2
abbrev sQInit : Stmt := inClass cQuestion 0
abbrev sQEq : Stmt := inClass cQuestion 1
/-- what a question is made of -/
structure Ql where
  cs : List Str
  ps : List (List Str)
  qs : List (List Str)
  deriving DecidableEq
structure Ql.Ok (x : Ql) : Prop where
  cs : ∀ y ∈ x.cs, IsVr y
  cl : x.cs.length ≤ 300
  ps : ∀ y ∈ x.ps, PatOk y
  pl : x.ps.length ≤ 300
  qs : ∀ y ∈ x.qs, PairOk y
  ql : x.qs.length ≤ 300
abbrev qF (l1 l2 l3 : Addr) : Flds := [("_columns", .ref l1), ("_told", .ref l2), ("_pairs", .ref l3)]
theorem qF2 {l1 l2 : Addr} : putF "_told" (V.ref l2) ([("_columns", V.ref l1)] : Flds) = ([("_columns", V.ref l1), ("_told", V.ref l2)] : Flds) := putF_new (ns := ["_columns"]) rfl (by decide +kernel)
theorem qF3 {l1 l2 l3 : Addr} : putF "_pairs" (V.ref l3) ([("_columns", V.ref l1), ("_told", V.ref l2)] : Flds) = qF l1 l2 l3 := putF_new (ns := ["_columns", "_told"]) rfl (by decide +kernel)
theorem qk1 {l1 l2 l3 : Addr} : (qF l1 l2 l3).lookup ("_columns" : Str) = some (V.ref l1) := lk_yes
theorem qk2 {l1 l2 l3 : Addr} : (qF l1 l2 l3).lookup ("_told" : Str) = some (V.ref l2) := (lk_no (by decide +kernel)).trans lk_yes
theorem qk3 {l1 l2 l3 : Addr} : (qF l1 l2 l3).lookup ("_pairs" : Str) = some (V.ref l3) := (lk_no (by decide +kernel)).trans ((lk_no (by decide +kernel)).trans lk_yes)
structure QC (K : PySem.W.Frag) (C : Addr) : Prop where
  cl : Cls K C
  n1 : NoAttr K C "_columns"
  n2 : NoAttr K C "_told"
  n3 : NoAttr K C "_pairs"
/-- the question x stands at r -/
def QA (C : Addr) (H : Hp) (r : Addr) (x : Ql) : Prop := ∃ (dx l1 l2 l3 : Addr) (us us2 : List V), H r = some (.ins C dx (qF l1 l2 l3)) ∧ H l1 = some (.lst (x.cs.map V.str)) ∧ (H l2 = some (.lst us) ∧ PaL H us x.ps) ∧ H l3 = some (.lst us2) ∧ PaL H us2 x.qs
theorem QA.same {C : Addr} {H H1 : Hp} {r : Addr} {x : Ql} (h : QA C H r x) (s : Same H H1) : QA C H1 r x := by
  obtain ⟨dx, l1, l2, l3, us, us2, e, e1, ⟨e2, p2⟩, e3, p3⟩ := h
  exact ⟨dx, l1, l2, l3, us, us2, s _ _ e, s _ _ e1, ⟨s _ _ e2, p2.same s⟩, s _ _ e3, p3.same s⟩
theorem free_sb {H G : Hp} {r l C dx : Addr} {fs : Flds} (s : Sb r H G) (e : G r = some (.ins C dx fs)) (n : G l = none) : l ≠ r ∧ H l = none := by
  have hn : l ≠ r := fun z => by
    rw [z, e] at n
    cases n
  refine ⟨hn, ?_⟩
  cases g : H l with
  | none => rfl
  | some o =>
    rw [s _ _ hn g] at n
    cases n
section
variable {P : Program} {w : World} {K : PySem.W.Frag} {mg : Str → Option Value} {base : Heap}
def spQInit (C : Addr) : Sp := fun vs H Q _ => ∃ (r dx tc tt : Addr) (cs : List Str) (us : List V) (ps : List (List Str)) (vp : V) (qs : List (List Str)), vs = [.ref r, .ref tc, .ref tt, vp] ∧ H r = some (.ins C dx []) ∧
  (H tc = some (.lst (cs.map V.str)) ∧ (∀ x ∈ cs, IsVr x) ∧ cs.length ≤ 300) ∧ (H tt = some (.lst us) ∧ PaL H us ps ∧ (∀ x ∈ ps, PatOk x) ∧ ps.length ≤ 300) ∧ (Opt H vp qs ∧ ∀ x ∈ qs, PairOk x) ∧ (hasMore cs ps = false ∧ hasMore qs.flatten ps = false) ∧
  ∀ (l1 l2 l3 : Addr) (us2 : List V) (H' : Hp), H l1 = none → H l2 = none → H l3 = none → Sb r H H' → H' r = some (.ins C dx (qF l1 l2 l3)) → H' l1 = some (.lst (cs.map V.str)) → H' l2 = some (.lst us) → PaL H' us ps → H' l3 = some (.lst us2) → PaL H' us2 qs → Q .non H'
theorem scQInit : FnScope ["self", "columns", "told", "pairs", "part"] ["self", "columns", "told", "pairs"] (defScope sQInit) := ⟨rfl, rfl, rfl, by decide +kernel, rfl, by decide +kernel, by decide +kernel⟩
theorem ok_qInit {f C : Addr} {fd : FuncData} (F : FunD K "__init__" "Question.__init__" (defArgs sQInit) (defBody sQInit) (defScope sQInit) [.non] [] f fd) (B : Bp mg) (R : QC K C) (T : Ct P w K mg base) :
    FnOk P w K mg base CX0 5 f fd ["self", "columns", "told", "pairs"] (spQInit C) := by
  obtain ⟨fN, dN, GN, kN, gN, bN⟩ := T.vr
  obtain ⟨fS, dS, GS, kS, gS, bS⟩ := T.ps
  obtain ⟨fR, dR, GR, kR, gR, bR⟩ := T.pr
  obtain ⟨fD, dD, GD, kD, gD, bD⟩ := T.sd
  obtain ⟨fM, dM, GM, kM, gM, bM⟩ := T.hm
  refine F.ok scQInit (fun vs H Q E h => ?_) (fun cdv A outer s H vs Q E hr h => ?_)
  · obtain ⟨r, dx, tc, tt, cs, us, ps, vp, qs, rfl, _⟩ := h
    rfl
  · obtain ⟨r, dx, tc, tt, cs, us, ps, vp, qs, rfl, er, ⟨ec, hc, hcl⟩, ⟨et, hp, hok, hpl⟩, ⟨oq, hq⟩, ⟨m1, m2⟩, q⟩ := h
    have hr1 : Room 1 _ := hr.mono (by decide)
    refine ⟨_, pss_cons (ps_if (PW.pt (pw_or (pt_not (pt_val (pe_callB call_isi (by rfl) B.isi bootIsi (pa_cons (pv 1) (pa_cons (pe_bltn (v := V.ty "list") (by rfl) B.lst PyProof.Rows.boot_list rfl) pa_nil)))))
        (pw_or1 (pt_not (pt_val (pe_callB (cr_all rfl) (by rfl) B.all bootAll (pa_cons (by exact (pe_lc (own := [("part", 4)]) (g := gName 4) (tt := tYes) (te := tCall (spTxt K fun z => decide (IsVr z)) [] E0 (tCons (tVar 4) tNil)) rfl scQInit.nd (pi_list (pv 1))
          (blkOk_by (own := [("part", 4)]) (N := ["self", "columns", "told", "pairs", "part"]) (sc := defScope sQInit) (by decide +kernel))
          (fun _ _ _ _ _ => pg_name (i := 4) scQInit.nd rfl (Or.inl rfl)) (fun _ _ _ _ _ => pts_nil)
          (fun _ _ _ _ _ => by exact (pe_call GN hr1 (by rfl) gN kN bN .nil pass0 (pa_cons (pv 4) pa_nil))))) pa_nil))))))) (pss_one ps_never) pss_nil)
      (pss_cons (ps_if (pt_not (pt_val (by exact (pe_call GS hr (by rfl) gS kS bS .nil pass0 (pa_cons (pv 2) pa_nil))))) (pss_one ps_never) pss_nil)
      (pss_cons (ps_if (PW.pt (pw_and (pt_cmpR op_notN (pv 3) pe_non (nomark _)) (pw_and1 (pt_not (pt_val (by exact (pe_call GR hr (by rfl) gR kR bR .nil pass0 (pa_cons (pv 3) pa_nil)))))))) (pss_one ps_never) pss_nil)
      (pss_cons (ps_if (pt_val (by exact (pe_call GM hr (by rfl) gM kM bM .nil pass0 (pa_cons (pv 1) (pa_cons (pv 2) pa_nil))))) (pss_one ps_never) pss_nil)
      (pss_cons (ps_if (pt_val (by exact (pe_call GM hr (by rfl) gM kM bM .nil pass0 (pa_cons (by exact (pe_call GD hr1 (by rfl) gD kD bD .nil pass0 (pa_cons (pe_orT (pv 3) (pe_one (pe_lst pa_nil))) pa_nil))) (pa_cons (pv 2) pa_nil))))) (pss_one ps_never) pss_nil)
      (pss_cons (ps_fld (pv 0) (pe_callTy call_list_of (by rfl) B.lst PyProof.Rows.boot_list (pa_cons (pv 1) pa_nil)) rfl)
      (pss_cons (ps_fld (pv 0) (pe_callTy call_list_of (by rfl) B.lst PyProof.Rows.boot_list (pa_cons (pv 2) pa_nil)) rfl)
      (pss_one (ps_fld (pv 0) (pe_callTy call_list_of (by rfl) B.lst PyProof.Rows.boot_list (pa_cons (pe_orT (pv 3) (pe_one (pe_lst pa_nil))) pa_nil)) rfl)))))))), ?_⟩
    refine ⟨_, rfl, _, _, _, _, true, rfl, .ty _, tyx_lst ec, kit_ty (by decide +kernel), true, rfl, iteF ?_⟩
    refine ⟨_, rfl, tc, rfl, ⟨_, SqL.of ec⟩, fun D nD => ?_⟩
    refine lc_list (K := K) (a := tc) (xs := cs.map V.str) (fun i H' => Same H H' ∧ H' D = some (.lst ((cs.take i).map fun _ => V.bl true))) ⟨same_new nD, upd_same⟩ (fun i H' _ y => SqL.of (y.1 _ _ ec)) ?_ ?_
    · rintro i v H1 hi ⟨s1, e1⟩
      obtain ⟨z, hz, rfl⟩ := at_map hi
      have hv := hc z (List.mem_of_getElem? hz)
      refine ⟨rfl, _, rfl, ?_⟩
      dsimp only [tNil]
      refine spTxt.yes (by have := hv.2.1; omega) fun H2 s2 => ?_
      show ∃ acc, H2 D = some (.lst acc) ∧ acc.length < sizeLine ∧ _
      rw [decide_eq_true hv]
      refine ⟨_, s2 _ _ e1, ?_, same_put (s1.trans s2) nD, ?_⟩
      · rw [List.length_map, List.length_take]
        exact Nat.lt_of_le_of_lt (by omega : _ ≤ 300) (by decide)
      · rw [upd_same, take_one hz, List.map_append] <;> rfl
    · rintro H1 ⟨s1, e1⟩
      rw [List.length_map, List.take_length] at e1
      refine ⟨D, cs.map fun _ => true, rfl, SqL.of (by rw [e1, List.map_map] <;> rfl), _, rfl, ?_⟩
      have eall : (cs.map fun _ => true).all id = true := by simp
      rw [eall]
      refine iteF ?_
      have tq : Tps K H1 (.ref tt) (some (ps.map fun q => some (q.map some))) := ⟨tt, us, rfl, s1 _ _ et, (hp.same s1).tps fun p hpp => (hok p hpp).small, by rw [List.length_map]; omega⟩
      refine ⟨_, rfl, _, _, rfl, tq, fun H2 s2 => ⟨_, rfl, ?_⟩⟩
      rw [all_yes fun x hx => (hok x hx).yes]
      refine iteF ?_
      have s12 := s1.trans s2
      show tSeq _ _ _ _ _
      refine if_opt (v := vp) (o := oq.same s12) rfl (fun x hx => (hq x hx).small) (fun x hx => (hq x hx).yes) fun G3 s3 => ?_
      have s13 := s12.trans s3
      refine ⟨_, rfl, _, rfl, tc, tt, cs, us, ps, rfl, ⟨.inl (SqL.of (s13 _ _ ec)), fun x hx => by have := (hc x hx).2.1; omega, by omega⟩, ⟨SqL.of (s13 _ _ et), hp.same s13, hok, by omega⟩, fun G4 s4 => ⟨_, rfl, ?_⟩⟩
      rw [m1]
      refine iteF ?_
      replace s13 := s13.trans s4
      show tSeq _ _ _ _ _
      refine if_sides (K := K) (v := vp) (o := oq.same s13) rfl rfl (fun x hx => hq x hx) (s13 _ _ et) (hp.same s13) hok hpl m2 fun G9 s8 => ?_
      replace s13 := s13.trans s8
      clear s8 s4 s3
      refine ⟨_, rfl, tc, _, rfl, .inl (SqL.of (s13 _ _ ec)), fun l1 n1 => ⟨_, rfl, r, C, dx, [], rfl, same_new n1 _ _ (s13 _ _ er), R.cl, R.n1, (by show 0 < 1000; decide), ?_⟩⟩
      have l1r : l1 ≠ r := fun z => by
        rw [z, s13 _ _ er] at n1
        cases n1
      have n1H := s13.free n1
      have f1 : Sb r H (upd (upd G9 l1 (.lst (cs.map V.str))) r (.ins C dx (putF "_columns" (V.ref l1) []))) := (Sb.of (same_put s13 n1H)).trans Sb.upd
      have e2 : upd (upd G9 l1 (.lst (cs.map V.str))) r (.ins C dx (putF "_columns" (V.ref l1) [])) r = some (.ins C dx [("_columns", .ref l1)]) := upd_same
      have el1 : upd (upd G9 l1 (.lst (cs.map V.str))) r (.ins C dx (putF "_columns" (V.ref l1) [])) l1 = some (.lst (cs.map V.str)) := by rw [upd_ne l1r, upd_same]
      generalize upd (upd G9 l1 (.lst (cs.map V.str))) r (.ins C dx (putF "_columns" (V.ref l1) [])) = G at f1 e2 el1 ⊢
      have tne : tt ≠ r := fun z => by
        rw [z, er] at et
        cases et
      refine ⟨_, rfl, tt, us, rfl, .inl (SqL.of (f1 _ _ tne et)), fun l2 n2 => ⟨_, rfl, r, C, dx, _, rfl, same_new n2 _ _ e2, R.cl, R.n2, (by show 1 < 1000; decide), ?_⟩⟩
      rw [qF2]
      obtain ⟨l2r, n2H⟩ := free_sb f1 e2 n2
      have l12 : l1 ≠ l2 := fun z => by
        rw [← z, el1] at n2
        cases n2
      have f2 : Sb r H (upd (upd G l2 (.lst us)) r (.ins C dx [("_columns", V.ref l1), ("_told", V.ref l2)])) := (f1.put n2H).trans Sb.upd
      have e3 : upd (upd G l2 (.lst us)) r (.ins C dx [("_columns", V.ref l1), ("_told", V.ref l2)]) r = some (.ins C dx [("_columns", V.ref l1), ("_told", V.ref l2)]) := upd_same
      have el1' : upd (upd G l2 (.lst us)) r (.ins C dx [("_columns", V.ref l1), ("_told", V.ref l2)]) l1 = some (.lst (cs.map V.str)) := by rw [upd_ne l1r, upd_ne l12]; exact el1
      have el2 : upd (upd G l2 (.lst us)) r (.ins C dx [("_columns", V.ref l1), ("_told", V.ref l2)]) l2 = some (.lst us) := by rw [upd_ne l2r, upd_same]
      generalize upd (upd G l2 (.lst us)) r (.ins C dx [("_columns", V.ref l1), ("_told", V.ref l2)]) = G3 at f2 e3 el1' el2 ⊢
      refine fld_list (K := K) (v := vp) (oq.sbo er f2) rfl rfl e3 R.cl R.n3 (by show 2 < 1000; decide) fun l3 us2 G5 n3 s5 e5 el3 p3 => ?_
      rw [qF3] at e5
      obtain ⟨l3r, n3H⟩ := free_sb f2 e3 n3
      exact q l1 l2 l3 us2 G5 n1H n2H n3H (f2.trans s5) e5 (s5 _ _ l1r el1') (s5 _ _ l2r el2) ((hp.sbo er f2).sbo e3 s5) el3 p3
end
end Nv
set_option maxHeartbeats 4000000
namespace Nv
open PySem PySem.Spec PyProof.Rows L2 PySem.SeqAt
open AutoSeq1 (wpAny_loadPart')
open MeetsSeq MeetsSeq2 MeetsSeq3 SeqRoads2
section
variable {prog : Program} {w : World} {A : Around} {R : Result → Shared → Prop}
/-- two lists of N items each are compared: at turn i the answer is ans i -/
def Turns (prog : Program) (w : World) (A : Around) (E : Value → Shared → Prop) (l b : Addr) (N : Nat) (ans : Nat → Bool) (J : Nat → Shared → Prop) : Prop :=
  ∀ i s, J i s → ∃ (xs ys : Array Value) (n m : Nat), s.heap.get? l = some { cls := .type "list", data := .seq xs n } ∧ s.heap.get? b = some { cls := .type "list", data := .seq ys m } ∧ xs.size = N ∧ ys.size = N ∧
    ∀ (h1 : i < xs.size) (h2 : i < ys.size), wpAny (model prog w) A.in1 (eqBool xs[i] ys[i]) (fun r s' => r = ans i ∧ J (i + 1) s') E s
theorem loopB (l b : Addr) (N : Nat) (ans : Nat → Bool) (J : Nat → Shared → Prop) (tn : Turns prog w A (fun e s' => R (.error e) s') l b N ans J) (yes : (∀ j, j < N → ans j = true) → ∀ s, J N s → R (.ok (.ret (.bool true))) s) (no : ∀ i s, i < N → ans i = false → J (i + 1) s → R (.ok (.ret (.bool false))) s) (k : Nat) :
    ∀ i : Nat, N - i = k → i ≤ N → (∀ j, j < i → ans j = true) → ∀ s, J i s → wpAny (model prog w) A.in1 (Builtin.«list.__eq__.loop» ⟨[.ref l, .ref b, rawInt i, rawInt 2], []⟩) (GQ.FinOf prog w A R) (fun e s' => R (.error e) s') s := by
  induction k with
  | zero =>
    intro i hk hi ht0 s h
    obtain ⟨xs, ys, n, m, g1, g2, z1, z2, _⟩ := tn _ _ h
    have e : i = N := by omega
    have done : R (.ok (.ret (.bool true))) s := yes (e ▸ ht0) s (e ▸ h)
    obtain ⟨hp, g, d, tk, os⟩ := s
    wp_walk using wpAny_loadPart' g1, wpAny_loadPart' g2
    have o1 : xs[((i : Nat) : Int).toNat]? = none := by simp; omega
    have o2 : ys[((i : Nat) : Int).toNat]? = none := by simp; omega
    rw [o1, o2]
    wp_walk using wpAny_loadPart' g1, wpAny_loadPart' g2
    show R (.ok (.ret (.bool (xs.size == ys.size)))) _
    rw [z1, z2]
    simpa using done
  | succ k ih =>
    intro i hk hi ht0 s h
    obtain ⟨xs, ys, n, m, g1, g2, z1, z2, turn⟩ := tn _ _ h
    have h1 : i < xs.size := by omega
    have h2 : i < ys.size := by omega
    have ht := turn h1 h2
    obtain ⟨hp, g, d, tk, os⟩ := s
    wp_walk using wpAny_loadPart' g1, wpAny_loadPart' g2
    have o1 : xs[((i : Nat) : Int).toNat]? = some xs[i] := by simp [h1]
    have o2 : ys[((i : Nat) : Int).toNat]? = some ys[i] := by simp [h2]
    have one : ((i : Int) + 1) = ((i + 1 : Nat) : Int) := by omega
    rw [o1, o2]
    refine wpAny_bind (wpAny_mono ht (fun r s2 q2 => ?_) fun _ _ x => x)
    obtain ⟨hr, q2⟩ := q2
    subst hr
    cases ha : ans i with
    | true =>
      have rec_ := ih (i + 1) (by omega) (by omega) (fun j hj => by
        rcases Nat.lt_or_ge j i with h | h
        · exact ht0 j h
        · have : j = i := by omega
          rw [this]
          exact ha) s2 q2
      obtain ⟨hp2, g', d2, tk2, os2⟩ := s2
      wp_walk
      rw [one]
      exact ⟨plainId_quiet plain_eq_loop _, codeAny_builtin entry_eq_loop (by
        rw [Around.under_plainId plain_eq_loop _]
        exact rec_)⟩
    | false =>
      have stop := no i s2 (by omega) ha q2
      obtain ⟨xs2, ys2, n2, m2, g3, g4, z3, z4, _⟩ := tn _ _ q2
      obtain ⟨hp2, g', d2, tk2, os2⟩ := s2
      have o3 : xs2[((i : Nat) : Int).toNat]? = some (xs2[i]'(by omega)) := by simp
      have o4 : ys2[((i : Nat) : Int).toNat]? = some (ys2[i]'(by omega)) := by simp
      wp_walk using wpAny_loadPart' g3, wpAny_loadPart' g4
      rw [o3, o4]
      wp_walk
      exact stop
theorem bodyB (l b : Addr) (N : Nat) (ans : Nat → Bool) (J : Nat → Shared → Prop) (tn : Turns prog w A (fun e s' => R (.error e) s') l b N ans J) (yes : (∀ j, j < N → ans j = true) → ∀ s, J N s → R (.ok (.ret (.bool true))) s) (no : ∀ i s, i < N → ans i = false → J (i + 1) s → R (.ok (.ret (.bool false))) s) {s : Shared} (h : J 0 s) :
    wpAny (model prog w) A.in1 (Builtin.«list.__eq__» ⟨[.ref l, .ref b], []⟩) (GQ.FinOf prog w A R) (fun e s' => R (.error e) s') s := by
  obtain ⟨xs, ys, n, m, g1, g2, z1, z2, _⟩ := tn _ _ h
  have rec_ := loopB (A := A) (R := R) l b N ans J tn yes no _ 0 rfl (Nat.zero_le _) (fun j hj => absurd hj (Nat.not_lt_zero _)) s h
  obtain ⟨hp, g, d, tk, os⟩ := s
  have sub := AutoSeq1.sub_list_list
  have same : ¬ (xs.size != ys.size) = true := by simp [z1, z2]
  wp_walk using wpAny_loadPart' g1, wpAny_loadPart' g2
  exact ⟨plainId_quiet plain_eq_loop _, codeAny_builtin entry_eq_loop (by
    rw [Around.under_plainId plain_eq_loop _]
    exact rec_)⟩
theorem bodyL (l b : Addr) {xs ys : Array Value} {n m : Nat} {s : Shared} (g1 : s.heap.get? l = some { cls := .type "list", data := .seq xs n }) (g2 : s.heap.get? b = some { cls := .type "list", data := .seq ys m }) (ne : xs.size ≠ ys.size) (q : R (.ok (.ret (.bool false))) s) :
    wpAny (model prog w) A.in1 (Builtin.«list.__eq__» ⟨[.ref l, .ref b], []⟩) (GQ.FinOf prog w A R) (fun e s' => R (.error e) s') s := by
  obtain ⟨hp, g, d, tk, os⟩ := s
  have sub := AutoSeq1.sub_list_list
  have unlike : (xs.size != ys.size) = true := by simp [ne]
  wp_walk using wpAny_loadPart' g1, wpAny_loadPart' g2
  exact q
end
section
variable {prog : Program} {w : World} {A : Around} {E : Value → Shared → Prop} {s : Shared}
theorem rcB {l b : Addr} {N : Nat} {ans : Nat → Bool} {Q : Value → Shared → Prop} (hu : A.units < cLine) (J : Nat → Shared → Prop) (tn : Turns prog w A E l b N ans J) (yes : (∀ j, j < N → ans j = true) → ∀ s, J N s → Q (.bool true) s) (no : ∀ i s, i < N → ans i = false → J (i + 1) s → Q (.bool false) s) (h : J 0 s) :
    wpAny (model prog w) A (richCompare .Eq (.ref l) (.ref b)) Q E s := by
  obtain ⟨xs, ys, n, m, g1, g2, _⟩ := tn _ _ h
  refine wpAny_richCompare_same_room (op := .Eq) ⟨_, g1, rfl⟩ ⟨_, g2, rfl⟩ F.slot_list_eq (GQ.call_here F.slot_list_eq ⟨_, g1, rfl⟩ F.entry_list_eq (F.args_list_eq_2 _ _) ?_) hu
  exact bodyB (R := wants (fun v s' => v ≠ .notImplemented ∧ Q v s') E) l b N ans J tn (fun ht s' q => ⟨(fun x => nomatch x), yes ht s' q⟩) (fun i s' hi ha q => ⟨(fun x => nomatch x), no i s' hi ha q⟩) h
theorem rcL {l b : Addr} {xs ys : Array Value} {n m : Nat} {Q : Value → Shared → Prop} (hu : A.units < cLine) (g1 : s.heap.get? l = some { cls := .type "list", data := .seq xs n }) (g2 : s.heap.get? b = some { cls := .type "list", data := .seq ys m }) (ne : xs.size ≠ ys.size) (q : Q (.bool false) s) :
    wpAny (model prog w) A (richCompare .Eq (.ref l) (.ref b)) Q E s := by
  refine wpAny_richCompare_same_room (op := .Eq) ⟨_, g1, rfl⟩ ⟨_, g2, rfl⟩ F.slot_list_eq (GQ.call_here F.slot_list_eq ⟨_, g1, rfl⟩ F.entry_list_eq (F.args_list_eq_2 _ _) ?_) hu
  exact bodyL (R := wants (fun v s' => v ≠ .notImplemented ∧ Q v s') E) l b g1 g2 ne ⟨(fun x => nomatch x), q⟩
end
/-- how two values compare, by the heap -/
abbrev EqD := V → V → Hp → Bool → Prop
def MonD (D : EqD) : Prop := ∀ x y H H' b, Same H H' → D x y H b → D x y H' b
/-- == inside a list gives what D says, and only makes objects -/
def EqB (X : Cx) (n : Nat) (D : EqD) : Prop :=
  ∀ (A : Around) (pins : List (Addr × Obj)) (s : Shared) (σ : L2.St) (H : Hp) (x y : V) (u v : Value) (b : Bool), Sub X n A → Inv X pins σ H s → RelV x u → RelV y v → D x y H b →
    wpAny (model X.prog X.w) A (eqBool u v) (fun r s' => r = b ∧ ∃ H', Inv X pins σ H' s' ∧ Same H H') X.xe s
def RcB (X : Cx) (n : Nat) (D : EqD) : Prop :=
  ∀ (A : Around) (pins : List (Addr × Obj)) (s : Shared) (σ : L2.St) (H : Hp) (x y : V) (u v : Value) (b : Bool), Sub X n A → Inv X pins σ H s → RelV x u → RelV y v → D x y H b →
    wpAny (model X.prog X.w) A (richCompare .Eq u v) (fun r s' => r = .bool b ∧ ∃ H', Inv X pins σ H' s' ∧ Same H H') X.xe s
/-- lists, item by item -/
def DLst (D : EqD) : EqD := fun x y H b => ∃ (a c : Addr) (xs ys : List V), x = .ref a ∧ y = .ref c ∧ H a = some (.lst xs) ∧ H c = some (.lst ys) ∧
  ((xs.length ≠ ys.length ∧ b = false) ∨ ∃ bs : List Bool, xs.length = ys.length ∧ bs.length = xs.length ∧ (∀ (i : Nat) u v t, xs[i]? = some u → ys[i]? = some v → bs[i]? = some t → D u v H t) ∧ b = bs.all id)
theorem mon_lst {D : EqD} (hD : MonD D) : MonD (DLst D) := fun x y H H' b s d => by
  obtain ⟨a, c, xs, ys, e1, e2, h1, h2, d⟩ := d
  refine ⟨a, c, xs, ys, e1, e2, s _ _ h1, s _ _ h2, ?_⟩
  rcases d with d | ⟨bs, l1, l2, k, e⟩
  · exact .inl d
  · exact .inr ⟨bs, l1, l2, fun i u v t hu hv ht => hD _ _ _ _ _ s (k i u v t hu hv ht), e⟩
section
variable {X : Cx} {n : Nat} {D : EqD}
theorem rcB_list (hD : MonD D) (h : EqB X n D) : RcB X (n + 1) (DLst D) := by
  intro A pins s σ H x y u v b sb I rx ry d
  obtain ⟨a, c, xs, ys, rfl, rfl, ha, hc, d⟩ := d
  cases rx
  cases ry
  rcases d with ⟨ne, rfl⟩ | ⟨bs, l1, l2, k, rfl⟩
  · obtain ⟨z, its, k1, r, e⟩ := I.hok a _ ha
    obtain ⟨z2, its2, k2, r2, e2⟩ := I.hok c _ hc
    refine rcL sb.room.units0 e e2 ?_ ⟨rfl, H, I, Same.refl H⟩
    rw [List.size_toArray, List.size_toArray, ← r.length, ← r2.length]
    exact ne
  · have at_ : ∀ i, i < xs.length → ∃ t, bs[i]? = some t ∧ bs.getD i true = t := fun i hi => by
      refine ⟨bs[i]'(by omega), List.getElem?_eq_getElem (by omega), ?_⟩
      rw [List.getD_eq_getElem?_getD, List.getElem?_eq_getElem (by omega)] <;> rfl
    refine rcB (N := xs.length) (ans := fun i => bs.getD i true) sb.room.units0 (fun i s' => ∃ H', Inv X pins σ H' s' ∧ Same H H') ?_ ?_ ?_ ⟨H, I, Same.refl H⟩
    · rintro i s' ⟨H1, I1, s1⟩
      obtain ⟨z, its, k1, r, e⟩ := I1.hok a _ (s1 _ _ ha)
      obtain ⟨z2, its2, k2, r2, e2⟩ := I1.hok c _ (s1 _ _ hc)
      refine ⟨its.toArray, its2.toArray, k1, k2, e, e2, by rw [List.size_toArray, ← r.length], by rw [List.size_toArray, ← r2.length, ← l1], fun h1 h2 => ?_⟩
      have m1 : i < xs.length := by rw [r.length]; simpa using h1
      have m2 : i < ys.length := by omega
      obtain ⟨u, hu, ru⟩ := r.get (List.getElem?_eq_getElem m1)
      obtain ⟨v, hv, rv⟩ := r2.get (List.getElem?_eq_getElem m2)
      have g1 : its[i]? = some its.toArray[i] := by
        rw [List.getElem?_eq_getElem (by simpa using h1)] <;> simp
      have g2 : its2[i]? = some its2.toArray[i] := by
        rw [List.getElem?_eq_getElem (by simpa using h2)] <;> simp
      rw [g1] at hu
      rw [g2] at hv
      rw [Option.some.inj hu, Option.some.inj hv]
      obtain ⟨t, ht, et⟩ := at_ i m1
      have dd := hD _ _ _ _ _ s1 (k i _ _ t (List.getElem?_eq_getElem m1) (List.getElem?_eq_getElem m2) ht)
      refine wpAny_mono (h A.in1 pins s' σ H1 _ _ u v t sb.in1 I1 ru rv dd) (fun q s2 w => ?_) fun _ _ w => w
      obtain ⟨e3, H2, I2, s2'⟩ := w
      exact ⟨e3.trans et.symm, H2, I2, s1.trans s2'⟩
    · rintro ht s' ⟨H1, I1, s1⟩
      refine ⟨?_, H1, I1, s1⟩
      refine congrArg Value.bool (Eq.symm ?_)
      rw [List.all_eq_true]
      intro t htm
      obtain ⟨i, hi⟩ := List.mem_iff_getElem?.mp htm
      have hil : i < xs.length := by
        rw [← l2]
        exact (List.getElem?_eq_some_iff.mp hi).1
      obtain ⟨t', h1, h2⟩ := at_ i hil
      rw [hi] at h1
      have := ht i hil
      rw [h2] at this
      rw [Option.some.inj h1, this] <;> rfl
    · rintro i s' hi ha2 ⟨H1, I1, s1⟩
      refine ⟨?_, H1, I1, s1⟩
      refine congrArg Value.bool (Eq.symm ?_)
      obtain ⟨t, h1, h2⟩ := at_ i hi
      have ha3 : bs.getD i true = false := ha2
      rw [h2] at ha3
      cases g : bs.all id with
      | false => rfl
      | true =>
        have := List.all_eq_true.mp g t (List.mem_of_getElem? h1)
        rw [ha3] at this
        cases this
end
end Nv
set_option maxHeartbeats 4000000
namespace Nv
open PySem PySem.Spec PyProof.Rows L2
/-- call_own, from anywhere below -/
theorem call_ownS {X : Cx} {f : Addr} {k : Nat} {fd : FuncData} {ps : List Str} {sp : Sp} {A : Around} {pins : List (Addr × Obj)} {σ : L2.St} {H : Hp} {s : Shared} {vs : List V} {us : List Value} {Q : VK} {E2 : Value → Shared → Prop} (F : FnOk X.prog X.w X.K X.mg X.base CX0 k f fd ps sp) (sb : Sub X k A) (hb : Binds X.K fd ps [])
    (I : Inv X pins σ H s) (r : Vals vs us) (h : sp vs H Q E0) : wpAny (model X.prog X.w) A (call (.ref f) us) (EP X pins σ Q) E2 s := call_own F sb.room sb.fr hb I r h
/-- two rules -/
def DRule (C : Addr) : EqD := fun u v H b => ∃ (a c : Addr) (x y : Rl), u = .ref a ∧ v = .ref c ∧ RA C H a x ∧ RA C H c y ∧ x.Ok ∧ y.Ok ∧ b = decide (x = y) ∧ (a = c → b = true)
theorem mon_rule {C : Addr} : MonD (DRule C) := fun u v H H' b s d => by
  obtain ⟨a, c, x, y, e1, e2, h1, h2, d⟩ := d
  exact ⟨a, c, x, y, e1, e2, h1.same s, h2.same s, d⟩
section
variable {X : Cx} {n : Nat} {D : EqD}
/-- from a rich comparison of references to == inside a list -/
theorem RcB.eqB (h : RcB X n D) (hr : ∀ x y H b, D x y H b → ∃ a c, x = .ref a ∧ y = .ref c ∧ (a = c → b = true)) : EqB X n D := by
  intro A pins s σ H x y u v b sb I rx ry d
  obtain ⟨a, c, rfl, rfl, hid⟩ := hr _ _ _ _ d
  cases rx
  cases ry
  by_cases hac : a = c
  · subst hac
    rw [hid rfl]
    exact SeqAt.EqAt.same (A := A) (s := s) (.ref a) X.prog X.w X.xe _ ⟨rfl, H, I, Same.refl H⟩
  · refine GQ.eqBool_refG hac (wpAny_mono (h A pins s σ H (.ref a) (.ref c) _ _ b sb I rfl rfl d) (fun r s' q => ?_) fun _ _ x => x)
    obtain ⟨hr', q⟩ := q
    exact ⟨b, hr', rfl, q⟩
theorem rcB_rule {C f : Addr} {fd : FuncData} (F : FnOk X.prog X.w X.K X.mg X.base CX0 1 f fd ["self", "other"] (spRuleEq X.K C)) (R : RC X.K C) (I0 : IC X.K C) (hs : PySem.W.findIn X.K (.ref C) "__eq__" = some (some (.ref f))) (hf : PySem.W.isFn X.K (.ref f) = true) (hb : Binds X.K fd ["self", "other"] []) : RcB X 1 (DRule C) := by
  intro A pins s σ H x y u v b sb I rx ry d
  obtain ⟨a, c, p, q, rfl, rfl, ra, rc, po, qo, rfl, _⟩ := d
  cases rx
  cases ry
  obtain ⟨dx, th, l1, l2, l3, us, us2, us3, e, _⟩ := id ra
  obtain ⟨dx', th', m1, m2, m3, ws, ws2, ws3, e', _⟩ := id rc
  obtain ⟨mA, J, _⟩ := ins_get I.hok e
  obtain ⟨od, J, _⟩ := J.look
  obtain ⟨mB, J', _⟩ := ins_get I.hok e'
  obtain ⟨od', J', _⟩ := J'.look
  obtain ⟨m, hF⟩ := I.fr
  refine PySem.W.cmp_K (op := .Eq) (tb := .ref C) sb.room.units0 hF I.ok.mod.kin J J'.type (by simp [PySem.W.notFirst]) hs hf ?_
  have hsp : spRuleEq X.K C [.ref a, .ref c] H (fun v H' => v = .bl (decide (p = q)) ∧ H' = H) E0 := ⟨a, p, .ref c, rfl, ra, po, .inl ⟨c, q, rfl, rc, qo, rfl, rfl⟩⟩
  refine wpAny_mono (call_ownS (X := X) F sb hb I (vs := [.ref a, .ref c]) (.cons rfl (.cons rfl .nil)) hsp) (fun w s1 h => ?_) fun _ _ e => e
  obtain ⟨z, H1, I1, rz, rfl, rfl⟩ := h
  cases rz
  exact ⟨rfl, H1, I1, Same.refl _⟩
theorem eqB_rule {C f : Addr} {fd : FuncData} (F : FnOk X.prog X.w X.K X.mg X.base CX0 1 f fd ["self", "other"] (spRuleEq X.K C)) (R : RC X.K C) (I0 : IC X.K C) (hs : PySem.W.findIn X.K (.ref C) "__eq__" = some (some (.ref f))) (hf : PySem.W.isFn X.K (.ref f) = true) (hb : Binds X.K fd ["self", "other"] []) : EqB X 1 (DRule C) :=
  (rcB_rule F R I0 hs hf hb).eqB fun _ _ _ _ d => by
    obtain ⟨a, c, p, q, e1, e2, _, _, _, _, _, hid⟩ := d
    exact ⟨a, c, e1, e2, hid⟩
/-- x == y of two such -/
def rEqB (D : EqD) : R2 := fun x y H Q => ∃ b, D x y H b ∧ ∀ H', Same H H' → Q (.bl b) H'
theorem op_eqB (h : RcB X n D) (hr : Room n X.A) : OpR X (compareOp .Eq) (rEqB D) := by
  intro pins s σ H x y v u Q I rx ry hq
  obtain ⟨b, d, q⟩ := hq
  show wpAny (model X.prog X.w) X.A (richCompare .Eq v u) (EP X pins σ Q) X.xe s
  refine wpAny_mono (h X.A pins s σ H x y v u b ⟨hr, rfl⟩ I rx ry d) (fun r s' z => ?_) fun _ _ x => x
  obtain ⟨hr', H', I', e⟩ := z
  subst hr'
  exact ⟨.bl b, H', I', rfl, q H' e⟩
end
/-- two lists of rules -/
theorem dlst_rules {C : Addr} {H : Hp} {a c : Addr} {rs ss : List Addr} {xs ys : List Rl} (ea : H a = some (.lst (rs.map V.ref))) (ec : H c = some (.lst (ss.map V.ref))) (hx : RAs C H rs xs) (hy : RAs C H ss ys) (ox : ∀ x ∈ xs, x.Ok) (oy : ∀ y ∈ ys, y.Ok)
    (same : ∀ (i : Nat) (r : Addr) (x y : Rl), rs[i]? = some r → ss[i]? = some r → xs[i]? = some x → ys[i]? = some y → x = y) : DLst (DRule C) (.ref a) (.ref c) H (decide (xs = ys)) := by
  refine ⟨a, c, _, _, rfl, rfl, ea, ec, ?_⟩
  have l1 := hx.len
  have l2 := hy.len
  by_cases hl : xs.length = ys.length
  · refine .inr ⟨(List.range xs.length).map fun i => decide (xs[i]? = ys[i]?), by rw [List.length_map, List.length_map]; omega, by rw [List.length_map, List.length_map, List.length_range]; omega, fun i u v t hu hv ht => ?_, ?_⟩
    · obtain ⟨r, hr, rfl⟩ := at_ref hu
      obtain ⟨s, hs, rfl⟩ := at_ref hv
      obtain ⟨x, hxi, rx⟩ := hx.at_ hr
      obtain ⟨y, hyi, ry⟩ := hy.at_ hs
      have hil : i < xs.length := (List.getElem?_eq_some_iff.mp hxi).1
      rw [List.getElem?_map, List.getElem?_range hil] at ht
      have ht2 : t = decide (x = y) := by
        have hd : decide (xs[i]? = ys[i]?) = t := Option.some.inj ht
        rw [← hd, hxi, hyi]
        exact decide_eq_decide.mpr ⟨fun e => Option.some.inj e, fun e => by rw [e]⟩
      exact ⟨r, s, x, y, rfl, rfl, rx, ry, ox x (List.mem_of_getElem? hxi), oy y (List.mem_of_getElem? hyi), ht2, fun e => by
        subst e
        rw [ht2]
        exact decide_eq_true (same i r x y hr hs hxi hyi)⟩
    · rw [List.all_map]
      by_cases e : xs = ys
      · subst e
        rw [decide_eq_true rfl]
        symm
        rw [List.all_eq_true]
        intro i _
        exact decide_eq_true rfl
      · rw [decide_eq_false e]
        cases g : (List.range xs.length).all (id ∘ fun i => decide (xs[i]? = ys[i]?)) with
        | false => rfl
        | true =>
          refine absurd (List.ext_getElem? fun i => ?_) e
          rcases Nat.lt_or_ge i xs.length with h | h
          · exact of_decide_eq_true (List.all_eq_true.mp g i (List.mem_range.mpr h))
          · rw [List.getElem?_eq_none h, List.getElem?_eq_none (by omega)]
  · exact .inl ⟨by rw [List.length_map, List.length_map]; omega, decide_eq_false fun e => hl (by rw [e])⟩
end Nv
set_option maxHeartbeats 4000000
namespace Nv
open PySem PySem.Spec PyProof.Rows L2
section
variable {P : Program} {w : World} {K : PySem.W.Frag} {mg : Str → Option Value} {base : Heap}
/-- one rule, one making -/
def One (rs ss : List Addr) (xs ys : List Rl) : Prop := ∀ (i : Nat) (r : Addr) (x y : Rl), rs[i]? = some r → ss[i]? = some r → xs[i]? = some x → ys[i]? = some y → x = y
def spBookEq (K : PySem.W.Frag) (CR C : Addr) : Sp := fun vs H Q _ => ∃ (a : Addr) (rs : List Addr) (xs : List Rl) (v : V), vs = [.ref a, v] ∧ BA C H a rs ∧ RAs CR H rs xs ∧ (∀ x ∈ xs, x.Ok) ∧
  ((∃ (b : Addr) (ss : List Addr) (ys : List Rl), v = .ref b ∧ BA C H b ss ∧ RAs CR H ss ys ∧ (∀ y ∈ ys, y.Ok) ∧ One rs ss xs ys ∧ ∀ H', Same H H' → Q (.bl (decide (xs = ys))) H') ∨ (∃ t : Value, TyX K H v t ∧ PySem.W.kitOne K t (.ref C) = some false ∧ Q (.bl false) H))
theorem scBookEq : FnScope ["self", "other"] ["self", "other"] (defScope sBookEq) := ⟨rfl, rfl, rfl, by decide +kernel, rfl, by decide +kernel, by decide +kernel⟩
theorem ok_bookEq {f C CR fE : Addr} {fd dE : FuncData} (F : Fun K "__eq__" "Book.__eq__" sBookEq f fd) (B : Bp mg) (cl : Cls K C) (na : NoAttr K C "_rules") (I : IC K C) (gB : mg "Book" = some (.ref C)) (R : RC K CR) (IR : IC K CR)
    (FE : FnOk P w K mg base CX0 1 fE dE ["self", "other"] (spRuleEq K CR)) (hs : PySem.W.findIn K (.ref CR) "__eq__" = some (some (.ref fE))) (hf : PySem.W.isFn K (.ref fE) = true) (hb : Binds K dE ["self", "other"] []) : FnOk P w K mg base CX0 3 f fd ["self", "other"] (spBookEq K CR C) := by
  refine F.ok scBookEq (fun vs H Q E h => ?_) (fun cdv A outer s H vs Q E hr h => ?_)
  · obtain ⟨a, rs, xs, v, rfl, _⟩ := h
    rfl
  · obtain ⟨a, rs, xs, v, rfl, ⟨dx, l, eb, el⟩, hx, ox, h⟩ := h
    refine ⟨_, pss_one (ps_ret (pe_and (pe_callB call_isi (by rfl) B.isi bootIsi (pa_cons (pv 1) (pa_cons (pe_glob (v := V.ref C) (by rfl) gB rfl) pa_nil)))
      (pe_one (pe_cmpR (op_eqB (rcB_list mon_rule (eqB_rule FE R IR hs hf hb)) hr) (pe_fld (pv 0) rfl) (pe_fld (pv 1) rfl) (nomark _))))), ?_⟩
    rcases h with ⟨b, ss, ys, rfl, ⟨dy, m, eb2, el2⟩, hy, oy, one, q⟩ | ⟨t, ht, hk, q⟩
    · refine ⟨_, rfl, _, _, _, _, true, rfl, .own _, .base (.ins eb2 cl I.ha I.hn I.ht I.hm), I.me, true, rfl, iteT ?_⟩
      refine ⟨_, rfl, a, C, dx, _, _, rfl, eb, cl, na, lkR, _, rfl, b, C, dy, _, _, rfl, eb2, cl, na, lkR, _, dlst_rules el el2 hx hy ox oy one, fun H' s => q H' s⟩
    · refine ⟨_, rfl, _, _, _, _, false, rfl, .own _, ht, hk, false, rfl, iteF ?_⟩
      exact q
/-- Book.__len__ -/
def spBookLen (C : Addr) : Sp := fun vs H Q _ => ∃ (a : Addr) (rs : List Addr), vs = [.ref a] ∧ BA C H a rs ∧ Q (.int (rs.length : Nat)) H
theorem scBookLen : FnScope ["self"] ["self"] (defScope sBookLen) := ⟨rfl, rfl, rfl, by decide +kernel, rfl, by decide +kernel, by decide +kernel⟩
theorem ok_bookLen {f C : Addr} {fd : FuncData} (F : Fun K "__len__" "Book.__len__" sBookLen f fd) (B : Bp mg) (cl : Cls K C) (na : NoAttr K C "_rules") : FnOk P w K mg base CX0 1 f fd ["self"] (spBookLen C) := by
  refine F.ok scBookLen (fun vs H Q E h => ?_) (fun cdv A outer s H vs Q E hr h => ?_)
  · obtain ⟨a, rs, rfl, _⟩ := h
    rfl
  · obtain ⟨a, rs, rfl, ⟨dx, l, eb, el⟩, q⟩ := h
    refine ⟨_, pss_one (ps_ret (pe_callB call_len_seq (by rfl) B.len PySem.boot_len (pa_cons (pe_fld (pv 0) rfl) pa_nil))), ?_⟩
    refine ⟨_, rfl, a, C, dx, _, _, rfl, eb, cl, na, lkR, l, _, rfl, .inl (SqL.of el), ?_⟩
    rw [List.length_map]
    exact q
/-- Book.__add__ of two books without a label in common -/
def spBookAdd (CR C : Addr) : Sp := fun vs H Q _ => ∃ (a b : Addr) (rs ss : List Addr) (xs ys : List Rl), vs = [.ref a, .ref b] ∧ BA C H a rs ∧ RAs CR H rs xs ∧ BA C H b ss ∧ RAs CR H ss ys ∧ ((xs ++ ys).map Rl.l).Nodup ∧ xs.length + ys.length ≤ 100 ∧
  ∀ (b2 : Addr) (H' : Hp), H b2 = none → BA C H' b2 (rs ++ ss) → Same H H' → Q (.ref b2) H'
theorem scBookAdd : FnScope ["self", "other"] ["self", "other"] (defScope sBookAdd) := ⟨rfl, rfl, rfl, by decide +kernel, rfl, by decide +kernel, by decide +kernel⟩
theorem ok_bookAdd {f C CR fL fI fH fR : Addr} {fd dL dI dH dR : FuncData} (F : Fun K "__add__" "Book.__add__" sBookAdd f fd) (B : Bp mg) (cl : Cls K C) (na : NoAttr K C "_rules") (I : IC K C) (gB : mg "Book" = some (.ref C))
    (GL : FnOk P w K mg base CX0 3 fL dL ["self"] (spBookLabels CR C)) (mL : Meth K C "labels" fL) (bL : Binds K dL ["self"] [])
    (GR : FnOk P w K mg base CX0 1 fR dR ["self"] (spGetL C "_rules")) (mR : Meth K C "rules" fR) (bR : Binds K dR ["self"] [])
    (GH : FnOk P w K mg base CX0 1 fH dH ["labels"] (spHasDouble K)) (kH : PySem.W.keepIn K (.ref fH) = true) (gH : mg "_has_double" = some (.ref fH)) (bH : Binds K dH ["labels"] [])
    (GI : FnOk P w K mg base CX0 3 fI dI ["self", "rules"] (spBookInit CR C)) (MI : Mk K C fI) (bI : Binds K dI ["self", "rules"] []) : FnOk P w K mg base CX0 5 f fd ["self", "other"] (spBookAdd CR C) := by
  refine F.ok scBookAdd (fun vs H Q E h => ?_) (fun cdv A outer s H vs Q E hr h => ?_)
  · obtain ⟨a, b, rs, ss, xs, ys, rfl, _⟩ := h
    rfl
  · obtain ⟨a, b, rs, ss, xs, ys, rfl, ba, hx, bb, hy, nd, hl, q⟩ := h
    obtain ⟨dx, l, eb, el⟩ := id ba
    obtain ⟨dy, m, eb2, el2⟩ := id bb
    have hr1 : Room 1 _ := hr.mono (by decide)
    have hr3 : Room 3 _ := hr.mono (by decide)
    have lx := hx.len
    have ly := hy.len
    refine ⟨_, pss_cons (ps_if (PW.pt (pw_or (pt_not (pt_val (pe_callB call_isi (by rfl) B.isi bootIsi (pa_cons (pv 1) (pa_cons (pe_glob (v := V.ref C) (by rfl) gB rfl) pa_nil)))))
        (pw_or1 (pt_val (by exact (pe_call GH hr1 (by rfl) gH kH bH .nil pass0 (pa_cons (pe_op op_cat (by exact (pe_meth0 (pv 0) cl mL GL hr3 bL .nil pass0)) (by exact (pe_meth0 (pv 1) cl mL GL hr3 bL .nil pass0))) pa_nil))))))) (pss_one ps_never) pss_nil)
      (pss_one (ps_ret (by exact (pe_make MI GI hr (by rfl) gB bI .nil pass0 (pa_cons (pe_op op_cat (by exact (pe_meth0 (pv 0) cl mR GR hr1 bR .nil pass0)) (by exact (pe_meth0 (pv 1) cl mR GR hr1 bR .nil pass0))) pa_nil))))), ?_⟩
    refine ⟨_, rfl, _, _, _, _, true, rfl, .own _, .base (.ins eb2 cl I.ha I.hn I.ht I.hm), I.me, true, rfl, iteF ?_⟩
    refine ⟨_, rfl, a, dx, _, rfl, eb, (lk_no (by decide +kernel)), a, rs, xs, rfl, ba, hx, by omega, fun p1 H1 n1 s1 e1 => ?_⟩
    refine ⟨_, rfl, b, dy, _, rfl, s1 _ _ eb2, (lk_no (by decide +kernel)), b, ss, ys, rfl, bb.same s1, hy.same s1, by omega, fun p2 H2 n2 s2 e2 => ?_⟩
    refine ⟨_, _, _, _, rfl, rfl, s2 _ _ e1, e2, ?_, fun p3 n3 => ?_⟩
    · rw [List.length_map, List.length_map, List.length_map, List.length_map]
      exact Nat.le_trans (by omega : _ ≤ 1000) (by decide)
    · have s12 := s1.trans s2
      have s3 : Same H (upd H2 p3 (.lst ((xs.map Rl.l).map V.str ++ (ys.map Rl.l).map V.str))) := same_put s12 (s12.free n3)
      have e3 : upd H2 p3 (.lst ((xs.map Rl.l).map V.str ++ (ys.map Rl.l).map V.str)) p3 = some (.lst (((xs ++ ys).map Rl.l).map V.str)) := by rw [upd_same, List.map_append, List.map_append]
      generalize upd H2 p3 (.lst ((xs.map Rl.l).map V.str ++ (ys.map Rl.l).map V.str)) = G at s3 e3 ⊢
      refine ⟨p3, (xs ++ ys).map Rl.l, rfl, SqL.of e3, by rw [List.length_map, List.length_append]; omega, _, rfl, ?_⟩
      rw [decide_eq_true nd]
      refine iteF ?_
      refine ⟨_, rfl, a, dx, _, rfl, s3 _ _ eb, (lk_no (by decide +kernel)), a, dx, l, _, _, rfl, s3 _ _ eb, lkR, s3 _ _ el, fun p4 n4 => ?_⟩
      have s4 : Same H (upd G p4 (.lst (rs.map V.ref))) := same_put s3 (s3.free n4)
      have e4 : upd G p4 (.lst (rs.map V.ref)) p4 = some (.lst (rs.map V.ref)) := upd_same
      generalize upd G p4 (.lst (rs.map V.ref)) = G4 at s4 e4 ⊢
      refine ⟨_, rfl, b, dy, _, rfl, s4 _ _ eb2, (lk_no (by decide +kernel)), b, dy, m, _, _, rfl, s4 _ _ eb2, lkR, s4 _ _ el2, fun p5 n5 => ?_⟩
      have s5 : Same H (upd G4 p5 (.lst (ss.map V.ref))) := same_put s4 (s4.free n5)
      have e5 : upd G4 p5 (.lst (ss.map V.ref)) p5 = some (.lst (ss.map V.ref)) := upd_same
      have e45 : upd G4 p5 (.lst (ss.map V.ref)) p4 = some (.lst (rs.map V.ref)) := same_new n5 _ _ e4
      generalize upd G4 p5 (.lst (ss.map V.ref)) = G5 at s5 e5 e45 ⊢
      refine ⟨_, _, _, _, rfl, rfl, e45, e5, ?_, fun p6 n6 => ?_⟩
      · rw [List.length_map, List.length_map]
        exact Nat.le_trans (by omega : _ ≤ 1000) (by decide)
      · rw [← List.map_append]
        have s6 : Same H (upd G5 p6 (.lst ((rs ++ ss).map V.ref))) := same_put s5 (s5.free n6)
        have e6 : upd G5 p6 (.lst ((rs ++ ss).map V.ref)) p6 = some (.lst ((rs ++ ss).map V.ref)) := upd_same
        generalize upd G5 p6 (.lst ((rs ++ ss).map V.ref)) = G6 at s6 e6 ⊢
        intro x dx2 nx ndx ne
        have s7 : Same G6 (upd (upd G6 dx2 (.own x)) x (.ins C dx2 [])) := fun b o e => by
          rw [upd_ne (ne_of_none e nx), upd_ne (ne_of_none e ndx)]
          exact e
        refine ⟨x, dx2, p6, rs ++ ss, xs ++ ys, rfl, upd_same, s7 _ _ e6, RAs.same (RAs.same (hx.app hy) s6) s7, nd, by rw [List.length_append]; omega, fun l1 H8 n8 sb e8 e9 => ⟨rfl, ?_⟩⟩
        exact q x H8 (s6.free nx) ⟨dx2, l1, e8, e9⟩ (made_same s6 nx ndx sb)
end
end Nv
set_option maxHeartbeats 4000000
namespace Nv
open PySem PySem.Spec PyProof.Rows L2
section
variable {P : Program} {w : World} {K : PySem.W.Frag} {mg : Str → Option Value} {base : Heap}
def spQEq (K : PySem.W.Frag) (C : Addr) : Sp := fun vs H Q _ => ∃ (a : Addr) (x : Ql) (v : V), vs = [.ref a, v] ∧ QA C H a x ∧ x.Ok ∧
  ((∃ (b : Addr) (y : Ql), v = .ref b ∧ QA C H b y ∧ y.Ok ∧ Q (.bl (decide (x = y))) H) ∨ (∃ t : Value, TyX K H v t ∧ PySem.W.kitOne K t (.ref C) = some false ∧ Q (.bl false) H))
theorem scQEq : FnScope ["self", "other"] ["self", "other"] (defScope sQEq) := ⟨rfl, rfl, rfl, by decide +kernel, rfl, by decide +kernel, by decide +kernel⟩
theorem ok_qEq {f C : Addr} {fd : FuncData} (F : Fun K "__eq__" "Question.__eq__" sQEq f fd) (B : Bp mg) (R : QC K C) (I : IC K C) (gC : mg "Question" = some (.ref C)) : FnOk P w K mg base CX0 1 f fd ["self", "other"] (spQEq K C) := by
  refine F.ok scQEq (fun vs H Q E h => ?_) (fun cdv A outer s H vs Q E hr h => ?_)
  · obtain ⟨a, x, v, rfl, _⟩ := h
    rfl
  · obtain ⟨a, x, v, rfl, ra, xo, h⟩ := h
    refine ⟨_, pss_cons (ps_if (pt_not (pt_val (pe_callB call_isi (by rfl) B.isi bootIsi (pa_cons (pv 1) (pa_cons (pe_glob (v := V.ref C) (by rfl) gC rfl) pa_nil))))) (pss_one (ps_ret pe_bl)) pss_nil)
      (pss_one (ps_ret (pe_and (pe_cmpR (op_eqD hr.units) (pe_fld (pv 0) rfl) (pe_fld (pv 1) rfl) (nomark _)) (pe_and (pe_cmpR (op_eqD hr.units) (pe_fld (pv 0) rfl) (pe_fld (pv 1) rfl) (nomark _)) (pe_one (pe_cmpR (op_eqD hr.units) (pe_fld (pv 0) rfl) (pe_fld (pv 1) rfl) (nomark _))))))), ?_⟩
    rcases h with ⟨b, y, rfl, rb, yo, q⟩ | ⟨t, ht, hk, q⟩
    · obtain ⟨dx, l1, l2, l3, us, us2, e, e1, ⟨e2, p2⟩, e3, p3⟩ := ra
      obtain ⟨dx', m1, m2, m3, ws, ws2, g, g1, ⟨g2, r2⟩, g3, r3⟩ := rb
      refine ⟨_, rfl, _, _, _, _, true, rfl, .own _, .base (.ins g R.cl I.ha I.hn I.ht I.hm), I.me, true, rfl, iteF ?_⟩
      obtain ⟨xc, xp, xq⟩ := x
      obtain ⟨yc, yp, yq⟩ := y
      have no : (⟨xc, xp, xq⟩ : Ql) ≠ ⟨yc, yp, yq⟩ → Q (.bl false) H := fun z => by
        rw [decide_eq_false z] at q
        exact q
      refine ⟨_, rfl, a, C, dx, _, _, rfl, e, R.cl, R.n1, qk1, _, rfl, b, C, dx', _, _, rfl, g, R.cl, R.n1, qk1, dS xc, dS yc, dp_S (SqL.of e1), dp_S (SqL.of g1), (lay_dS fun p hp => (xo.cs p hp).asc).shaped (by decide), (lay_dS fun p hp => (yo.cs p hp).asc).shaped (by decide), ?_⟩
      rw [eqv_S]
      refine ⟨_, rfl, ?_⟩
      by_cases z1 : xc = yc
      · rw [decide_eq_true z1]
        refine iteT ?_
        refine ⟨_, rfl, a, C, dx, _, _, rfl, e, R.cl, R.n2, qk2, _, rfl, b, C, dx', _, _, rfl, g, R.cl, R.n2, qk2, dL xp, dL yp, dp_L (SqL.of e2) p2, dp_L (SqL.of g2) r2, (lay_dL fun p hp => (xo.ps p hp).asc).shaped (by decide), (lay_dL fun p hp => (yo.ps p hp).asc).shaped (by decide), ?_⟩
        rw [eqv_L]
        refine ⟨_, rfl, ?_⟩
        by_cases z2 : xp = yp
        · rw [decide_eq_true z2]
          refine iteT ?_
          refine ⟨_, rfl, a, C, dx, _, _, rfl, e, R.cl, R.n3, qk3, _, rfl, b, C, dx', _, _, rfl, g, R.cl, R.n3, qk3, dL xq, dL yq, dp_L (SqL.of e3) p3, dp_L (SqL.of g3) r3, (lay_dL fun p hp => (xo.qs p hp).asc).shaped (by decide), (lay_dL fun p hp => (yo.qs p hp).asc).shaped (by decide), ?_⟩
          rw [eqv_L]
          have e5 : decide ((⟨xc, xp, xq⟩ : Ql) = ⟨yc, yp, yq⟩) = decide (xq = yq) := decide_eq_decide.mpr ⟨fun w => by injection w, fun w => by rw [z1, z2, w]⟩
          rw [e5] at q
          exact q
        · rw [decide_eq_false z2]
          exact iteF (no fun w => z2 (by injection w))
      · rw [decide_eq_false z1]
        exact iteF (no fun w => z1 (by injection w))
    · refine ⟨_, rfl, _, _, _, _, false, rfl, .own _, ht, hk, false, rfl, iteT ?_⟩
      exact q
end
end Nv
set_option maxHeartbeats 4000000
namespace Nv
open PySem PySem.Spec PyProof.Rows L2
theorem cutA (ks : List V) (h : 1 ≤ ks.length) : cutV ks none (some 1) = ks.take 1 := by
  unfold cutV
  have e : HT.sIx ks.length ks.length (some (1 : Int)) = min 1 ks.length := HT.sIx_nat ks.length ks.length 1
  rw [e, HT.sIx_none, List.drop_zero, Nat.sub_zero, Nat.min_eq_left h]
theorem cutB (ks : List V) (h : 2 ≤ ks.length) : cutV ks (some 1) (some 2) = (ks.drop 1).take 1 := by
  unfold cutV
  have e : HT.sIx ks.length ks.length (some (2 : Int)) = min 2 ks.length := HT.sIx_nat ks.length ks.length 2
  have e2 : HT.sIx ks.length 0 (some (1 : Int)) = min 1 ks.length := HT.sIx_nat ks.length 0 1
  rw [e, e2, Nat.min_eq_left h, Nat.min_eq_left (by omega)]
theorem rep_mem {l : List V} {v : V} (h : v ∈ (List.replicate (4 : Int).toNat l).flatten) : v ∈ l := by
  obtain ⟨m, hm, hv⟩ := List.mem_flatten.mp h
  rw [List.eq_of_mem_replicate hm] at hv
  exact hv
theorem rep_len {l : List V} : (List.replicate (4 : Int).toNat l).flatten.length = 4 * l.length := by
  show (List.replicate 4 l).flatten.length = _
  simp [List.replicate]
  omega
theorem take_names {zs : List Str} : cutV (zs.map V.str) none (some 1) = (zs.take 1).map V.str := by
  unfold cutV
  have hx : HT.sIx (zs.map V.str).length (zs.map V.str).length (some (1 : Int)) = min 1 (zs.map V.str).length := HT.sIx_nat _ _ 1
  rw [HT.sIx_none, hx, List.drop_zero, Nat.sub_zero, List.length_map, List.map_take]
  cases zs with
  | nil => rfl
  | cons z zs =>
    rw [List.length_cons, Nat.min_eq_left (by omega)]
theorem lst_ne {H : Hp} {a p : Addr} {n : Nat} {o : HO} (pu : Pu H a n) (h : ∀ s d t k : Int, o ≠ .lst [.int s, .int d, .int t, .int k]) (e : H p = some o) : p ≠ a := fun z => by
  obtain ⟨s, d, t, k, e2, _⟩ := pu.ex
  rw [z, e2] at e
  exact h s d t k (Option.some.inj e).symm
theorem hasMore_no {ts : List Str} {ps : List (List Str)} (h : ∀ x ∈ ts, x ∈ varsIn (tails ps) ∨ IsNm x) : hasMore ts ps = false := by
  unfold hasMore
  rw [List.any_eq_false]
  intro x hx
  obtain ⟨h1, h2⟩ := varsIn_mem.mp hx
  rcases h x h1 with h3 | h3
  · rw [decide_eq_true h3]
    decide
  · exact absurd h2 (nm_not_vr h3)
theorem PrOk.pair {vs q : List Str} (h : PrOk vs q) (hv : ∀ x ∈ vs, IsVr x) : PairOk q := by
  obtain ⟨x, y, rfl, ne, h1, h2, h3⟩ := h
  have tm : ∀ z, z ∈ vs ∨ IsNm z → IsTm z := fun z h => h.elim (fun h => .inr (hv z h)) .inl
  exact ⟨x, y, rfl, ne, tm x h1, tm y h2, h3.elim (fun h => .inl (hv x h)) fun h => .inr (hv y h)⟩
/-- the rule y, made since H -/
def RAn (C : Addr) (H H' : Hp) (r : Addr) (x : Rl) : Prop := ∃ (dx th l1 l2 l3 : Addr) (us us2 us3 : List V), (H r = none ∧ H l1 = none ∧ H l2 = none ∧ H l3 = none) ∧ (H' r = some (.ins C dx (ruleF x.l th l1 l2 l3)) ∧ H' th = some (.tup (x.h.map V.str)) ∧ (H' l1 = some (.lst us) ∧ PaL H' us x.ps) ∧ (H' l2 = some (.lst us2) ∧ PaL H' us2 x.qs) ∧ H' l3 = some (.lst us3) ∧ PaL H' us3 x.ds)
/-- no variable stands elsewhere that doesn't stand in the told patterns -/
structure Clo (y : Rl) : Prop where
  h : hasMore y.h.tail y.ps = false
  q : hasMore y.qs.flatten y.ps = false
  d : hasMore (tails y.ds) y.ps = false
section
variable {P : Program} {w : World} {K : PySem.W.Frag} {mg : Str → Option Value} {base : Heap}
/-- _law_rule(purse, label, kinds, names, denied) -/
def spRule (CR : Addr) : Sp := fun vs H Q _ => ∃ (a b c : Addr) (z : Str) (d : Bool) (n : Nat) (ks : List V) (zs : List Str), vs = [.ref a, .str z, .ref b, .ref c, .bl d] ∧ Pu H a (n + 30) ∧ IsNm z ∧ (H b = some (.lst ks) ∧ b ≠ a ∧ 2 ≤ ks.length ∧ ks.length ≤ 100 ∧ ∀ v ∈ ks, Kd H v) ∧
  (H c = some (.lst (zs.map V.str)) ∧ c ≠ a ∧ 1 ≤ zs.length ∧ zs.length ≤ 100 ∧ ∀ y ∈ zs, IsNm y) ∧
  ∀ (r : Addr) (x : Rl) (H' : Hp), x.Ok → Clo x → x.h ≠ (["never", "a"] : List Str) → x.l = z → RAn CR H H' r x → Pu H' a n → Sb a H H' → Q (.ref r) H'
theorem scRule : FnScope ["_law_purse_here", "_law_label", "_law_kinds_here", "_law_names_here", "_law_denied", "_law_told_here", "_law_some", "_law_none", "_law_head"] ["_law_purse_here", "_law_label", "_law_kinds_here", "_law_names_here", "_law_denied"] (defScope sRule) := ⟨rfl, rfl, rfl, by decide +kernel, rfl, by decide +kernel, by decide +kernel⟩
theorem if_den {a b p6 p7 c pt : Addr} {z : Str} {d : Bool} {n : Nat} {ks : List V} {so : List Str} {D : Ends} {G : Hp} (pu : Pu G a (n + 5)) (hb : SqL K G b ks ∧ b ≠ a ∧ 1 ≤ ks.length ∧ ks.length ≤ 1000 ∧ ∀ v ∈ ks, Kd G v) (hc : SqL K G p6 (so.map V.str) ∧ p6 ≠ a ∧ 1 ≤ so.length ∧ so.length ≤ 1000) (tm : ∀ y ∈ so, IsVr y ∨ IsNm y)
    (e7 : G p7 = some (.lst [])) (k : ∀ (pd : Addr) (us3 : List V) (ds : List (List Str)) (G' : Hp), Pu G' a n → Sb a G G' → G' pd = some (.lst us3) → PaL G' us3 ds → (∀ x ∈ ds, PatOk x) → ds.length ≤ 1 → (∀ y ∈ tails ds, y ∈ so) →
      D.nx [some (.ref a), some (.str z), some (.ref b), some (.ref c), some (.bl d), some (.ref pt), some (.ref p6), some (.ref pd), none] G') :
    tIfS (tAnd (tB (tVar 4)) (tTest (tOp rEq (tCall spDraw [] E0 (tCons (tVar 0) (tCons (tC (V.int 2)) tNil))) (tC (V.int 0))))) (tAsg (tLst (tCons (tCall (spPattern K) [] E0 (tCons (tVar 0) (tCons (tVar 2) (tCons (tVar 6) tNil)))) tNil)) (gName 7)) tNext D
      [some (.ref a), some (.str z), some (.ref b), some (.ref c), some (.bl d), some (.ref pt), some (.ref p6), some (.ref p7), none] G := by
  have nil : ∀ G', Pu G' a n → Sb a G G' → D.nx [some (.ref a), some (.str z), some (.ref b), some (.ref c), some (.bl d), some (.ref pt), some (.ref p6), some (.ref p7), none] G' := fun G' p' s' =>
    k p7 [] [] G' p' s' (s' _ _ (lst_ne pu (fun _ _ _ _ e => by cases e) e7) e7) .nil (fun x hx => nomatch hx) (Nat.zero_le _) (fun y hy => nomatch hy)
  refine ⟨_, rfl, d, rfl, ?_⟩
  cases d with
  | false => exact iteF (iteF (nil G (pu.le (by omega)) (Sb.refl a G)))
  | true =>
    refine iteT ⟨_, rfl, a, n + 4, 2, rfl, pu, ⟨by decide, by decide⟩, fun r H1 r0 r1 pu1 sb1 => ⟨rfl, _, rfl, ?_⟩⟩
    by_cases hr0 : r = 0
    · rw [decide_eq_true (by rw [hr0] : V.int r = V.int 0)]
      refine iteT ?_
      refine ⟨_, rfl, _, rfl, _, rfl, a, b, p6, n, ks, so, rfl, pu1, ⟨sb1.seq hb.2.1 hb.1, hb.2.1, hb.2.2.1, hb.2.2.2.1, fun v hv => (hb.2.2.2.2 v hv).sb pu sb1⟩, ⟨sb1.seq hc.2.1 hc.1, hc.2⟩, fun t wd ts H2 hw h3 hts nt pu2 sb2 et => ?_⟩
      refine ⟨(by show 1 ≤ sizeLine; decide), fun pd nd => ?_⟩
      have tne : t ≠ pd := fun z => by
        rw [z, nd] at et
        cases et
      refine k pd [.ref t] [wd :: ts] _ (pu2.put (pu2.ne nd)) ((sb1.trans sb2).put ((sb1.trans sb2).free pu2 nd)) upd_same (.cons (by rw [upd_ne tne]; exact et) .nil) (fun x hx => ?_) (by show 1 ≤ 1; decide) (fun y hy => ?_)
      · rw [List.mem_singleton.mp hx]
        exact ⟨wd, ts, rfl, hw.1, h3, fun y hy => tm y (hts y hy)⟩
      · have : y ∈ ts := by simpa [tails] using hy
        exact hts y this
    · rw [decide_eq_false (fun e => hr0 (by injection e) : ¬ V.int r = V.int 0)]
      exact iteF (nil H1 (pu1.le (by omega)) sb1)
theorem ok_rule {f fD fT fV fP fQ fI CR : Addr} {fd dD dT dV dP dQ dI : FuncData} (F : Fun K "_law_rule" "_law_rule" sRule f fd)
    (GD : FnOk P w K mg base CX0 2 fD dD ["_law_purse_here", "_law_many"] spDraw) (kD : PySem.W.keepIn K (.ref fD) = true) (gD : mg "_law_draw" = some (.ref fD)) (bD : Binds K dD ["_law_purse_here", "_law_many"] [])
    (GT : FnOk P w K mg base CX0 5 fT dT ["_law_purse_here", "_law_kinds_here", "_law_names_here", "_law_most", "_law_few"] (spTold K)) (kT : PySem.W.keepIn K (.ref fT) = true) (gT : mg "_law_told" = some (.ref fT)) (bT : Binds K dT ["_law_purse_here", "_law_kinds_here", "_law_names_here", "_law_most", "_law_few"] [])
    (GV : FnOk P w K mg base CX0 1 fV dV ["_law_told_here"] (spVariables K)) (kV : PySem.W.keepIn K (.ref fV) = true) (gV : mg "_law_variables" = some (.ref fV)) (bV : Binds K dV ["_law_told_here"] [])
    (GP : FnOk P w K mg base CX0 4 fP dP ["_law_purse_here", "_law_kinds_here", "_law_terms"] (spPattern K)) (kP : PySem.W.keepIn K (.ref fP) = true) (gP : mg "_law_pattern" = some (.ref fP)) (bP : Binds K dP ["_law_purse_here", "_law_kinds_here", "_law_terms"] [])
    (GQ : FnOk P w K mg base CX0 4 fQ dQ ["_law_purse_here", "_law_told_here", "_law_names_here"] (spPairs K)) (kQ : PySem.W.keepIn K (.ref fQ) = true) (gQ : mg "_law_pairs" = some (.ref fQ)) (bQ : Binds K dQ ["_law_purse_here", "_law_told_here", "_law_names_here"] [])
    (GI : FnOk P w K mg base CX0 5 fI dI ["self", "label", "head", "told", "pairs", "denied"] (spRuleInit CR)) (MI : Mk K CR fI) (gR : mg "Rule" = some (.ref CR)) (bI : Binds K dI ["self", "label", "head", "told", "pairs", "denied"] []) :
    FnOk P w K mg base CX0 7 f fd ["_law_purse_here", "_law_label", "_law_kinds_here", "_law_names_here", "_law_denied"] (spRule CR) := by
  refine F.ok scRule (fun vs H Q E h => ?_) (fun cdv A outer s H vs Q E hr h => ?_)
  · obtain ⟨a, b, c, z, d, n, ks, zs, rfl, _⟩ := h
    rfl
  · obtain ⟨a, b, c, z, d, n, ks, zs, rfl, pu, hz, ⟨eb, hba, k2, kl, kd⟩, ⟨ec, hca, z1, zl, zn⟩, q⟩ := h
    have hr1 : Room 1 _ := hr.mono (by decide)
    have hr2 : Room 2 _ := hr.mono (by decide)
    have hr4 : Room 4 _ := hr.mono (by decide)
    have hr5 : Room 5 _ := hr.mono (by decide)
    refine ⟨_, pss_cons (ps_set (i := 5) scRule.nd rfl (Or.inl rfl) (by exact (pe_call GT hr5 (by rfl) gT kT bT .nil pass0 (pa_cons (pv 0) (pa_cons (pe_op op_cat (pe_op op_rep (pe_slice sl_list (pv 2) po_none (po_some pe_int)) pe_int) (pv 2)) (pa_cons (pv 3) (pa_cons pe_int (pa_cons (pe_op op_add pe_int (by exact (pe_call GD hr2 (by rfl) gD kD bD .nil pass0 (pa_cons (pv 0) (pa_cons pe_int pa_nil))))) pa_nil))))))))
      (pss_cons (ps_par (i := 6) (j := 7) (by rfl) scRule.nd rfl rfl (by decide) rfl rfl (pa_cons (pe_op op_cat (by exact (pe_call GV hr1 (by rfl) gV kV bV .nil pass0 (pa_cons (pv 5) pa_nil))) (pe_slice sl_list (pv 3) po_none (po_some pe_int))) (pa_cons (pe_lst pa_nil) pa_nil)) (by rfl))
      (pss_cons (ps_if (PW.pt (pw_and (pt_val (pv 4)) (pw_and1 (pt_cmpR op_eq (by exact (pe_call GD hr2 (by rfl) gD kD bD .nil pass0 (pa_cons (pv 0) (pa_cons pe_int pa_nil)))) pe_int (nomark _)))))
        (pss_one (ps_set (i := 7) scRule.nd rfl (Or.inl rfl) (pe_lst (pa_cons (by exact (pe_call GP hr4 (by rfl) gP kP bP .nil pass0 (pa_cons (pv 0) (pa_cons (pv 2) (pa_cons (pv 6) pa_nil))))) pa_nil)))) pss_nil)
      (pss_cons (ps_set (i := 8) scRule.nd rfl (Or.inl rfl) (by exact (pe_call GP hr4 (by rfl) gP kP bP .nil pass0 (pa_cons (pv 0) (pa_cons (pe_op op_cat (pe_op op_rep (pe_slice sl_list (pv 2) (po_some pe_int) (po_some pe_int)) pe_int) (pv 2)) (pa_cons (pv 6) pa_nil))))))
      (pss_one (ps_ret (by exact (pe_make MI GI hr (by rfl) gR bI .nil pass0 (pa_cons (pv 1) (pa_cons (pv 8) (pa_cons (pv 5) (pa_cons (by exact (pe_call GQ hr4 (by rfl) gQ kQ bQ .nil pass0 (pa_cons (pv 0) (pa_cons (pv 5) (pa_cons (pv 3) pa_nil))))) (pa_cons (pv 7) pa_nil)))))))))))), ?_⟩
    -- told
    refine ⟨_, rfl, _, rfl, 1, rfl, b, ks, rfl, SqL.of eb, fun p1 n1 => ?_⟩
    rw [cutA ks (by omega)]
    have s1 : Same H (upd H p1 (.lst (ks.take 1))) := same_new n1
    have e1 : upd H p1 (.lst (ks.take 1)) p1 = some (.lst (ks.take 1)) := upd_same
    generalize upd H p1 (.lst (ks.take 1)) = G1 at s1 e1 ⊢
    refine ⟨p1, 4, _, rfl, rfl, e1, by decide, by decide, ?_, fun p2 n2 => ?_⟩
    · rw [List.length_take]
      exact Nat.le_trans (by show min 1 ks.length * 4 ≤ 1000; omega) (by decide)
    have s2 : Same H (upd G1 p2 (.lst (List.replicate (4 : Int).toNat (ks.take 1)).flatten)) := same_put s1 (s1.free n2)
    have e2 : upd G1 p2 (.lst (List.replicate (4 : Int).toNat (ks.take 1)).flatten) p2 = some (.lst (List.replicate (4 : Int).toNat (ks.take 1)).flatten) := upd_same
    have hm1 : ∀ v ∈ (List.replicate (4 : Int).toNat (ks.take 1)).flatten, v ∈ ks := fun v hv => List.mem_of_mem_take (rep_mem hv)
    have hl1 : (List.replicate (4 : Int).toNat (ks.take 1)).flatten.length ≤ 400 := by
      rw [rep_len, List.length_take]
      omega
    generalize (List.replicate (4 : Int).toNat (ks.take 1)).flatten = k4 at s2 e2 hm1 hl1 ⊢
    generalize upd G1 p2 (.lst k4) = G2 at s2 e2 ⊢
    refine ⟨_, rfl, _, _, _, _, rfl, rfl, e2, s2 _ _ eb, Nat.le_trans (by omega : _ ≤ 1000) (by decide), fun p3 n3 => ?_⟩
    have s3 : Same H (upd G2 p3 (.lst (k4 ++ ks))) := same_put s2 (s2.free n3)
    have e3 : upd G2 p3 (.lst (k4 ++ ks)) p3 = some (.lst (k4 ++ ks)) := upd_same
    have n3H := s2.free n3
    generalize upd G2 p3 (.lst (k4 ++ ks)) = G3 at s3 e3 ⊢
    have hk3 : ∀ v ∈ k4 ++ ks, v ∈ ks := fun v hv => (List.mem_append.mp hv).elim (hm1 v) id
    have hl3 : 1 ≤ (k4 ++ ks).length ∧ (k4 ++ ks).length ≤ 1000 := by
      rw [List.length_append]
      omega
    generalize k4 ++ ks = kk at e3 hk3 hl3
    have pu3 := pu.same s3
    have p3a : p3 ≠ a := pu.ne n3H
    refine ⟨_, rfl, _, rfl, a, n + 29, 2, rfl, pu3, ⟨by decide, by decide⟩, fun r H4 r0 r1 pu4 sb4 => ⟨_, _, rfl, rfl, ?_⟩⟩
    obtain ⟨j, rfl⟩ : ∃ j : Nat, r = (j : Int) := ⟨r.toNat, by omega⟩
    have sbA : Sb a H H4 := (Sb.of s3).trans sb4
    refine ⟨a, p3, c, n + 15, 3, 2 + j, kk, zs, by rw [show ((2 + j : Nat) : Int) = 2 + (j : Int) by omega]; rfl, pu4.le (by omega), ⟨by omega, by omega, by decide⟩, ⟨SqL.of (sb4 _ _ p3a e3), p3a, hl3.1, hl3.2, fun v hv => (kd v (hk3 v hv)).sb pu sbA⟩, ⟨SqL.of (sbA _ _ hca ec), hca, by omega, zn⟩, fun pt us ps H5 hps hok hpl npt pu5 sb5 ept => ?_⟩
    have sbB := sbA.trans sb5
    have nptH : H pt = none := sbA.free pu4 npt
    have pta : pt ≠ a := pu4.ne npt
    clear sb5 pu4 sb4 pu3
    refine (show ∀ G : Hp, G = H5 → tSeq _ _ { nx := fun _ H' => Q .non H', rt := Q } [some (.ref a), some (.str z), some (.ref b), some (.ref c), some (.bl d), some (.ref pt), none, none, none] G from fun G hG => ?_) _ rfl
    subst hG
    have ec5 := sbB _ _ hca ec
    refine ⟨_, rfl, pt, us, ps, rfl, SqL.of ept, hps, hok, by omega, fun p6 H6 n6 s6 e6 => ?_⟩
    have sb6 := sbB.then s6
    have pu6 := pu5.same s6
    refine ⟨_, rfl, 1, rfl, c, _, rfl, SqL.of (s6 _ _ ec5), fun p7 n7 => ?_⟩
    rw [take_names]
    have s7 : Same G (upd H6 p7 (.lst ((zs.take 1).map V.str))) := same_put s6 (s6.free n7)
    have e7 : upd H6 p7 (.lst ((zs.take 1).map V.str)) p7 = some (.lst ((zs.take 1).map V.str)) := upd_same
    have e67 : upd H6 p7 (.lst ((zs.take 1).map V.str)) p6 = some (.lst ((varsIn (tails ps)).map V.str)) := same_new n7 _ _ e6
    generalize upd H6 p7 (.lst ((zs.take 1).map V.str)) = H7 at s7 e7 e67 ⊢
    have hvl : (varsIn (tails ps)).length ≤ 9 := by
      have h1 := varsIn_len (tails ps)
      have h2 := tails_len hok
      omega
    refine ⟨_, _, _, _, rfl, rfl, e67, e7, ?_, fun p8 n8 => ?_⟩
    · rw [List.length_map, List.length_map, List.length_take]
      exact Nat.le_trans (by omega : _ ≤ 1000) (by decide)
    rw [← List.map_append]
    have hso : ∀ y ∈ varsIn (tails ps) ++ zs.take 1, y ∈ varsIn (tails ps) ∨ IsNm y := fun y hy => (List.mem_append.mp hy).elim .inl fun h => .inr (zn y (List.mem_of_mem_take h))
    have hsl : 1 ≤ (varsIn (tails ps) ++ zs.take 1).length ∧ (varsIn (tails ps) ++ zs.take 1).length ≤ 1000 := by
      rw [List.length_append, List.length_take]
      omega
    generalize varsIn (tails ps) ++ zs.take 1 = so at hso hsl ⊢
    have s8 : Same G (upd H7 p8 (.lst (so.map V.str))) := same_put s7 (s7.free n8)
    have e8 : upd H7 p8 (.lst (so.map V.str)) p8 = some (.lst (so.map V.str)) := upd_same
    have n8G := s7.free n8
    generalize upd H7 p8 (.lst (so.map V.str)) = H8 at s8 e8 ⊢
    refine ⟨by decide, fun p9 n9 => ?_⟩
    have s9 : Same G (upd H8 p9 (.lst [])) := same_put s8 (s8.free n9)
    have e89 : upd H8 p9 (.lst []) p8 = some (.lst (so.map V.str)) := same_new n9 _ _ e8
    have e9 : upd H8 p9 (.lst []) p9 = some (.lst []) := upd_same
    generalize upd H8 p9 (.lst []) = H9 at s9 e89 e9 ⊢
    refine ⟨_, _, rfl, ?_⟩
    have pu9 := pu5.same s9
    have sb9 := sbB.then s9
    have p8a : p8 ≠ a := pu5.ne n8G
    have vt : ∀ y ∈ so, IsVr y ∨ IsNm y := fun y hy => (hso y hy).elim (fun h => .inl (varsIn_mem.mp h).2) .inr
    show tSeq _ _ _ _ _
    refine if_den (K := K) (n := n + 10) (ks := ks) (so := so) pu9 ⟨SqL.of (sb9 _ _ hba eb), hba, by omega, by omega, fun v hv => (kd v hv).sb pu sb9⟩ ⟨SqL.of e89, p8a, hsl.1, hsl.2⟩ vt e9 fun pd us3 ds H10 pu10 sb10 ed pds dok dl dso => ?_
    have sbC := sb9.trans sb10
    have ept10 : H10 pt = some (.lst us) := sb10 _ _ pta (s9 _ _ ept)
    have pps10 : PaL H10 us ps := (hps.same s9).sb pu9 sb10
    have e8x := sb10 _ _ p8a e89
    have eb10 := sbC _ _ hba eb
    refine (show ∀ G : Hp, G = H10 → tSeq _ _ { nx := fun _ H' => Q .non H', rt := Q } [some (.ref a), some (.str z), some (.ref b), some (.ref c), some (.bl d), some (.ref pt), some (.ref p8), some (.ref pd), none] G from fun G hG => ?_) _ rfl
    subst hG
    refine ⟨_, rfl, _, rfl, 1, rfl, 2, rfl, b, ks, rfl, SqL.of eb10, fun q1 m1 => ?_⟩
    rw [cutB ks k2]
    have t1 : Same G (upd G q1 (.lst ((ks.drop 1).take 1))) := same_new m1
    have g1 : upd G q1 (.lst ((ks.drop 1).take 1)) q1 = some (.lst ((ks.drop 1).take 1)) := upd_same
    generalize upd G q1 (.lst ((ks.drop 1).take 1)) = F1 at t1 g1 ⊢
    refine ⟨q1, 4, _, rfl, rfl, g1, by decide, by decide, ?_, fun q2 m2 => ?_⟩
    · rw [List.length_take]
      exact Nat.le_trans (by show min 1 (ks.drop 1).length * 4 ≤ 1000; omega) (by decide)
    have t2 : Same G (upd F1 q2 (.lst (List.replicate (4 : Int).toNat ((ks.drop 1).take 1)).flatten)) := same_put t1 (t1.free m2)
    have g2 : upd F1 q2 (.lst (List.replicate (4 : Int).toNat ((ks.drop 1).take 1)).flatten) q2 = some (.lst (List.replicate (4 : Int).toNat ((ks.drop 1).take 1)).flatten) := upd_same
    have hm2 : ∀ v ∈ (List.replicate (4 : Int).toNat ((ks.drop 1).take 1)).flatten, v ∈ ks := fun v hv => List.mem_of_mem_drop (List.mem_of_mem_take (rep_mem hv))
    have hl2 : (List.replicate (4 : Int).toNat ((ks.drop 1).take 1)).flatten.length ≤ 400 := by
      rw [rep_len, List.length_take]
      omega
    generalize (List.replicate (4 : Int).toNat ((ks.drop 1).take 1)).flatten = k5 at t2 g2 hm2 hl2 ⊢
    generalize upd F1 q2 (.lst k5) = F2 at t2 g2 ⊢
    refine ⟨_, rfl, _, _, _, _, rfl, rfl, g2, t2 _ _ eb10, Nat.le_trans (by omega : _ ≤ 1000) (by decide), fun q3 m3 => ?_⟩
    have t3 : Same G (upd F2 q3 (.lst (k5 ++ ks))) := same_put t2 (t2.free m3)
    have g3 : upd F2 q3 (.lst (k5 ++ ks)) q3 = some (.lst (k5 ++ ks)) := upd_same
    have q3a : q3 ≠ a := pu10.ne (t2.free m3)
    generalize upd F2 q3 (.lst (k5 ++ ks)) = F3 at t3 g3 ⊢
    have hk4 : ∀ v ∈ k5 ++ ks, v ∈ ks := fun v hv => (List.mem_append.mp hv).elim (hm2 v) id
    have hl4 : 1 ≤ (k5 ++ ks).length ∧ (k5 ++ ks).length ≤ 1000 := by
      rw [List.length_append]
      omega
    generalize k5 ++ ks = kk2 at g3 hk4 hl4
    have sbD := sbC.then t3
    refine ⟨_, rfl, a, q3, p8, n + 6, kk2, so, rfl, (pu10.same t3).le (by omega), ⟨SqL.of g3, q3a, hl4.1, hl4.2, fun v hv => (kd v (hk4 v hv)).sb pu sbD⟩, ⟨SqL.of (t3 _ _ e8x), p8a, hsl.1, hsl.2⟩, fun th wd tms J1 hw h3 hts nth puJ sbJ eth => ?_⟩
    have sbE := sbD.trans sbJ
    have sGJ : Sb a G J1 := (Sb.of t3).trans sbJ
    have puF3 := pu10.same t3
    have eptJ := sGJ _ _ pta ept10
    have ppsJ := pps10.sb pu10 sGJ
    have pda : pd ≠ a := lst_ne pu10 (fun s1 d1 t1 k1 e => by
      injection e with e
      cases pds with
      | nil => cases e
      | cons e1 h1 =>
        injection e with e _
        cases e) ed
    have edJ := sGJ _ _ pda ed
    have pdsJ := pds.sb pu10 sGJ
    clear sbJ t1 t2 t3 g1 g2 g3
    refine (show ∀ G : Hp, G = J1 → tSeq _ _ { nx := fun _ H' => Q .non H', rt := Q } [some (.ref a), some (.str z), some (.ref b), some (.ref c), some (.bl d), some (.ref pt), some (.ref p8), some (.ref pd), some (.ref th)] G from fun G hG => ?_) _ rfl
    subst hG
    have ecJ := sbE _ _ hca ec
    refine ⟨_, rfl, _, rfl, _, rfl, _, rfl, _, rfl, _, rfl, a, pt, c, n + 1, us, ps, zs, rfl, puJ, ⟨SqL.of eptJ, ppsJ, hok, by omega⟩, ⟨SqL.of ecJ, hca, zl, zn⟩, fun pq ws qs K1 hqs hql hqok npq puq sbq epq => ?_⟩
    refine ⟨_, rfl, fun x dx nx ndx ne => ?_⟩
    have sK : Same K1 (upd (upd K1 dx (.own x)) x (.ins CR dx [])) := fun b o e => by
      rw [upd_ne (ne_of_none e nx), upd_ne (ne_of_none e ndx)]
      exact e
    have ex : upd (upd K1 dx (.own x)) x (.ins CR dx []) x = some (.ins CR dx []) := upd_same
    have mk : ∀ {H2 : Hp}, Sb x (upd (upd K1 dx (.own x)) x (.ins CR dx [])) H2 → Same K1 H2 := fun sb => made_same (Same.refl K1) nx ndx sb
    generalize upd (upd K1 dx (.own x)) x (.ins CR dx []) = K2 at sK ex mk ⊢
    have tha : th ≠ a := tup_ne puJ eth
    have eth2 := sK _ _ (sbq _ _ tha eth)
    have ept2 := sK _ _ (sbq _ _ pta eptJ)
    have pps2 := (ppsJ.sb puJ sbq).same sK
    have ed2 := sK _ _ (sbq _ _ pda edJ)
    have pds2 := (pdsJ.sb puJ sbq).same sK
    have hvv : ∀ y ∈ varsIn (tails ps), IsVr y := fun y hy => (varsIn_mem.mp hy).2
    have hpat : PatOk (wd :: tms) := ⟨wd, tms, rfl, hw.1, h3, fun y hy => vt y (hts y hy)⟩
    have hpr : ∀ y ∈ qs, PairOk y := fun y hy => (hqok y hy).pair hvv
    have m1 : hasMore (wd :: tms).tail ps = false := hasMore_no fun y hy => hso y (hts y hy)
    have m2 : hasMore qs.flatten ps = false := by
      refine hasMore_no fun y hy => ?_
      obtain ⟨l, hl, hy⟩ := List.mem_flatten.mp hy
      obtain ⟨u, v, rfl, _, h1, h2, _⟩ := hqok l hl
      simp only [List.mem_cons, List.not_mem_nil, or_false] at hy
      rcases hy with rfl | rfl
      · exact h1
      · exact h2
    have m3 : hasMore (tails ds) ps = false := hasMore_no fun y hy => hso y (dso y hy)
    refine ⟨x, dx, z, th, pt, wd :: tms, us, ps, .ref pq, qs, .ref pd, ds, rfl, ex, hz, ⟨eth2, hpat⟩, ⟨ept2, pps2, hok, by omega⟩, ⟨.inr ⟨pq, ws, rfl, sK _ _ epq, hqs.same sK, by omega⟩, hpr⟩, ⟨.inr ⟨pd, us3, rfl, ed2, pds2, by omega⟩, dok⟩, ⟨m1, m2, m3⟩, ?_⟩
    intro l1 l2 l3 us2 us4 H' f1 f2 f3 sb er el1 el2 pl2 el3 pl3
    have sm := mk sb
    have thx : th ≠ x := fun y => by
      rw [y, ex] at eth2
      cases eth2
    refine ⟨rfl, q x ⟨z, wd :: tms, ps, qs, ds⟩ H' ⟨hz, hpat, hok, by show ps.length ≤ 300; omega, hpr, by show qs.length ≤ 300; omega, dok, by show ds.length ≤ 300; omega⟩ ⟨m1, m2, m3⟩ (fun z => hw.2 (by injection z)) rfl ?_ ((puq.same sm).le (by omega)) ((sbE.trans sbq).then sm)⟩
    exact ⟨dx, th, l1, l2, l3, us, us2, us4, ⟨(sbE.trans sbq).free puq nx, (sbE.trans sbq).free puq (sK.free f1), (sbE.trans sbq).free puq (sK.free f2), (sbE.trans sbq).free puq (sK.free f3)⟩, er, sb _ _ thx eth2, ⟨el1, pps2.sbo ex sb⟩, ⟨el2, pl2⟩, el3, pl3⟩
end
end Nv
set_option maxHeartbeats 4000000
namespace Nv
open PySem PySem.Spec PyProof.Rows L2
abbrev sSpoils : Stmt := top 39
/-- all that was tracked is as it was, but the objects at ls -/
def Sbs (ls : List Addr) (H H' : Hp) : Prop := ∀ b o, b ∉ ls → H b = some o → H' b = some o
theorem Sbs.seq {K : PySem.W.Frag} {ls : List Addr} {H H1 : Hp} {b : Addr} {xs : List V} (x : Sbs ls H H1) (n : b ∉ ls) (h : SqL K H b xs) : SqL K H1 b xs := by
  rcases h with (h | ⟨o, h⟩) | h
  · exact .inl (.inl (x _ _ n h))
  · exact .inl (.inr ⟨o, x _ _ n h⟩)
  · exact .inr h
section
variable {P : Program} {w : World} {K : PySem.W.Frag} {mg : Str → Option Value} {base : Heap}
/-- _law_spoils(lists) -/
def spSpoils (K : PySem.W.Frag) : Sp := fun vs H Q _ => ∃ (a : Addr) (ls : List Addr), vs = [.ref a] ∧ SqL K H a (ls.map V.ref) ∧ a ∉ ls ∧ ls.length ≤ 1000 ∧ (∀ l ∈ ls, ∃ xs : List V, H l = some (.lst xs) ∧ xs.length ≤ 1000) ∧
  ∀ H', Sbs ls H H' → (∀ l ∈ ls, ∃ xs : List V, H' l = some (.lst xs)) → Q .non H'
theorem scSpoils : FnScope ["_law_lists", "_law_some"] ["_law_lists"] (defScope sSpoils) := ⟨rfl, rfl, rfl, by decide +kernel, rfl, by decide +kernel, by decide +kernel⟩
theorem ok_spoils {f : Addr} {fd : FuncData} (F : Fun K "_law_spoils" "_law_spoils" sSpoils f fd) : FnOk P w K mg base CX0 1 f fd ["_law_lists"] (spSpoils K) := by
  refine F.ok scSpoils (fun vs H Q E h => ?_) (fun cdv A outer s H vs Q E hr h => ?_)
  · obtain ⟨a, ls, rfl, _⟩ := h
    rfl
  · obtain ⟨a, ls, rfl, ha, hn, hl, hs, q⟩ := h
    refine ⟨_, pss_one (ps_for PassesOwn.never rfl (pi_list (pv 0)) (pg_name (i := 1) scSpoils.nd rfl (Or.inl rfl))
      (pss_one (ps_expr (pe_bm PySem.F.plainAttrs_list PySem.F.slot_list_append PySem.F.type_list_append mt_append (pv 1) (pa_cons pe_str pa_nil))))), ?_⟩
    refine ⟨_, rfl, a, rfl, ⟨_, ha⟩, for_list (K := K) (a := a) (xs := ls.map V.ref) (fun i σ H' => ∃ o : Option V, σ = [some (.ref a), o] ∧ Sbs ls H H' ∧ ∀ l ∈ ls, ∃ xs : List V, H' l = some (.lst xs) ∧ xs.length ≤ 1000 + i) ⟨none, rfl, fun b o _ e => e, hs⟩ (fun i σ H' _ z => ?_) ?_ ?_⟩
    · obtain ⟨_, _, sb, _⟩ := z
      exact sb.seq hn ha
    · rintro i v σ H1 hi ⟨o, rfl, sb, hall⟩
      obtain ⟨l, hli, rfl⟩ := at_ref hi
      have hlm := List.mem_of_getElem? hli
      have hil : i < ls.length := (List.getElem?_eq_some_iff.mp hli).1
      obtain ⟨xs, el, hx⟩ := hall l hlm
      refine ⟨_, rfl, .inl ⟨rfl, _, SqL.of el⟩, l, xs, _, rfl, rfl, el, Nat.lt_of_le_of_lt (by omega : _ ≤ 2000) (by decide), ?_⟩
      refine ⟨_, rfl, fun b o hb e => ?_, fun m hm => ?_⟩
      · rw [upd_ne (fun z => hb (by rw [z]; exact hlm))]
        exact sb b o hb e
      · by_cases hml : m = l
        · subst hml
          exact ⟨_, upd_same, by rw [List.length_append, List.length_singleton]; omega⟩
        · obtain ⟨ys, em, hy⟩ := hall m hm
          exact ⟨ys, by rw [upd_ne hml]; exact em, by omega⟩
    · rintro σ H1 ⟨o, rfl, sb, hall⟩
      exact q H1 sb fun l hl => by
        obtain ⟨xs, e, _⟩ := hall l hl
        exact ⟨xs, e⟩
end
end Nv
set_option maxHeartbeats 4000000
namespace Nv
open PySem PySem.Spec PyProof.Rows L2 PySem.SeqAt
open AutoSeq1 (wpAny_loadPart')
open MeetsSeq MeetsSeq2 MeetsSeq3 SeqRoads2
section
variable {prog : Program} {w : World} {A : Around} {R : Result → Shared → Prop}
theorem loopN (l b : Addr) (N : Nat) (ans : Nat → Bool) (J : Nat → Shared → Prop) (tn : Turns prog w A (fun e s' => R (.error e) s') l b N ans J) (yes : (∀ j, j < N → ans j = true) → ∀ s, J N s → R (.ok (.ret (.bool false))) s) (no : ∀ i s, i < N → ans i = false → J (i + 1) s → R (.ok (.ret (.bool true))) s) (k : Nat) :
    ∀ i : Nat, N - i = k → i ≤ N → (∀ j, j < i → ans j = true) → ∀ s, J i s → wpAny (model prog w) A.in1 (Builtin.«list.__eq__.loop» ⟨[.ref l, .ref b, rawInt i, rawInt 3], []⟩) (GQ.FinOf prog w A R) (fun e s' => R (.error e) s') s := by
  induction k with
  | zero =>
    intro i hk hi ht0 s h
    obtain ⟨xs, ys, n, m, g1, g2, z1, z2, _⟩ := tn _ _ h
    have e : i = N := by omega
    have done : R (.ok (.ret (.bool false))) s := yes (e ▸ ht0) s (e ▸ h)
    obtain ⟨hp, g, d, tk, os⟩ := s
    wp_walk using wpAny_loadPart' g1, wpAny_loadPart' g2
    have o1 : xs[((i : Nat) : Int).toNat]? = none := by simp; omega
    have o2 : ys[((i : Nat) : Int).toNat]? = none := by simp; omega
    rw [o1, o2]
    wp_walk using wpAny_loadPart' g1, wpAny_loadPart' g2
    show R (.ok (.ret (.bool (xs.size != ys.size)))) _
    rw [z1, z2]
    simpa using done
  | succ k ih =>
    intro i hk hi ht0 s h
    obtain ⟨xs, ys, n, m, g1, g2, z1, z2, turn⟩ := tn _ _ h
    have h1 : i < xs.size := by omega
    have h2 : i < ys.size := by omega
    have ht := turn h1 h2
    obtain ⟨hp, g, d, tk, os⟩ := s
    wp_walk using wpAny_loadPart' g1, wpAny_loadPart' g2
    have o1 : xs[((i : Nat) : Int).toNat]? = some xs[i] := by simp [h1]
    have o2 : ys[((i : Nat) : Int).toNat]? = some ys[i] := by simp [h2]
    have one : ((i : Int) + 1) = ((i + 1 : Nat) : Int) := by omega
    rw [o1, o2]
    refine wpAny_bind (wpAny_mono ht (fun r s2 q2 => ?_) fun _ _ x => x)
    obtain ⟨hr, q2⟩ := q2
    subst hr
    cases ha : ans i with
    | true =>
      have rec_ := ih (i + 1) (by omega) (by omega) (fun j hj => by
        rcases Nat.lt_or_ge j i with h | h
        · exact ht0 j h
        · have : j = i := by omega
          rw [this]
          exact ha) s2 q2
      obtain ⟨hp2, g', d2, tk2, os2⟩ := s2
      wp_walk
      rw [one]
      exact ⟨plainId_quiet plain_eq_loop _, codeAny_builtin entry_eq_loop (by
        rw [Around.under_plainId plain_eq_loop _]
        exact rec_)⟩
    | false =>
      have stop := no i s2 (by omega) ha q2
      obtain ⟨xs2, ys2, n2, m2, g3, g4, z3, z4, _⟩ := tn _ _ q2
      obtain ⟨hp2, g', d2, tk2, os2⟩ := s2
      have o3 : xs2[((i : Nat) : Int).toNat]? = some (xs2[i]'(by omega)) := by simp
      have o4 : ys2[((i : Nat) : Int).toNat]? = some (ys2[i]'(by omega)) := by simp
      wp_walk using wpAny_loadPart' g3, wpAny_loadPart' g4
      rw [o3, o4]
      wp_walk
      exact stop
theorem bodyN (l b : Addr) (N : Nat) (ans : Nat → Bool) (J : Nat → Shared → Prop) (tn : Turns prog w A (fun e s' => R (.error e) s') l b N ans J) (yes : (∀ j, j < N → ans j = true) → ∀ s, J N s → R (.ok (.ret (.bool false))) s) (no : ∀ i s, i < N → ans i = false → J (i + 1) s → R (.ok (.ret (.bool true))) s) {s : Shared} (h : J 0 s) :
    wpAny (model prog w) A.in1 (Builtin.«list.__ne__» ⟨[.ref l, .ref b], []⟩) (GQ.FinOf prog w A R) (fun e s' => R (.error e) s') s := by
  obtain ⟨xs, ys, n, m, g1, g2, z1, z2, _⟩ := tn _ _ h
  have rec_ := loopN (A := A) (R := R) l b N ans J tn yes no _ 0 rfl (Nat.zero_le _) (fun j hj => absurd hj (Nat.not_lt_zero _)) s h
  obtain ⟨hp, g, d, tk, os⟩ := s
  have sub := AutoSeq1.sub_list_list
  have same : ¬ (xs.size != ys.size) = true := by simp [z1, z2]
  wp_walk using wpAny_loadPart' g1, wpAny_loadPart' g2
  exact ⟨plainId_quiet plain_eq_loop _, codeAny_builtin entry_eq_loop (by
    rw [Around.under_plainId plain_eq_loop _]
    exact rec_)⟩
theorem bodyM (l b : Addr) {xs ys : Array Value} {n m : Nat} {s : Shared} (g1 : s.heap.get? l = some { cls := .type "list", data := .seq xs n }) (g2 : s.heap.get? b = some { cls := .type "list", data := .seq ys m }) (ne : xs.size ≠ ys.size) (q : R (.ok (.ret (.bool true))) s) :
    wpAny (model prog w) A.in1 (Builtin.«list.__ne__» ⟨[.ref l, .ref b], []⟩) (GQ.FinOf prog w A R) (fun e s' => R (.error e) s') s := by
  obtain ⟨hp, g, d, tk, os⟩ := s
  have sub := AutoSeq1.sub_list_list
  have unlike : (xs.size != ys.size) = true := by simp [ne]
  wp_walk using wpAny_loadPart' g1, wpAny_loadPart' g2
  exact q
end
section
variable {prog : Program} {w : World} {A : Around} {E : Value → Shared → Prop} {s : Shared}
theorem rcN {l b : Addr} {N : Nat} {ans : Nat → Bool} {Q : Value → Shared → Prop} (hu : A.units < cLine) (J : Nat → Shared → Prop) (tn : Turns prog w A E l b N ans J) (yes : (∀ j, j < N → ans j = true) → ∀ s, J N s → Q (.bool false) s) (no : ∀ i s, i < N → ans i = false → J (i + 1) s → Q (.bool true) s) (h : J 0 s) :
    wpAny (model prog w) A (richCompare .NotEq (.ref l) (.ref b)) Q E s := by
  obtain ⟨xs, ys, n, m, g1, g2, _⟩ := tn _ _ h
  refine wpAny_richCompare_same_room (op := .NotEq) ⟨_, g1, rfl⟩ ⟨_, g2, rfl⟩ F.slot_list_ne (GQ.call_here F.slot_list_ne ⟨_, g1, rfl⟩ F.entry_list_ne (F.args_list_ne_2 _ _) ?_) hu
  exact bodyN (R := wants (fun v s' => v ≠ .notImplemented ∧ Q v s') E) l b N ans J tn (fun ht s' q => ⟨(fun x => nomatch x), yes ht s' q⟩) (fun i s' hi ha q => ⟨(fun x => nomatch x), no i s' hi ha q⟩) h
theorem rcM {l b : Addr} {xs ys : Array Value} {n m : Nat} {Q : Value → Shared → Prop} (hu : A.units < cLine) (g1 : s.heap.get? l = some { cls := .type "list", data := .seq xs n }) (g2 : s.heap.get? b = some { cls := .type "list", data := .seq ys m }) (ne : xs.size ≠ ys.size) (q : Q (.bool true) s) :
    wpAny (model prog w) A (richCompare .NotEq (.ref l) (.ref b)) Q E s := by
  refine wpAny_richCompare_same_room (op := .NotEq) ⟨_, g1, rfl⟩ ⟨_, g2, rfl⟩ F.slot_list_ne (GQ.call_here F.slot_list_ne ⟨_, g1, rfl⟩ F.entry_list_ne (F.args_list_ne_2 _ _) ?_) hu
  exact bodyM (R := wants (fun v s' => v ≠ .notImplemented ∧ Q v s') E) l b g1 g2 ne ⟨(fun x => nomatch x), q⟩
end
def RcN (X : Cx) (n : Nat) (D : EqD) : Prop :=
  ∀ (A : Around) (pins : List (Addr × Obj)) (s : Shared) (σ : L2.St) (H : Hp) (x y : V) (u v : Value) (b : Bool), Sub X n A → Inv X pins σ H s → RelV x u → RelV y v → D x y H b →
    wpAny (model X.prog X.w) A (richCompare .NotEq u v) (fun r s' => r = .bool (!b) ∧ ∃ H', Inv X pins σ H' s' ∧ Same H H') X.xe s
section
variable {X : Cx} {n : Nat} {D : EqD}
theorem rcN_list (hD : MonD D) (h : EqB X n D) : RcN X (n + 1) (DLst D) := by
  intro A pins s σ H x y u v b sb I rx ry d
  obtain ⟨a, c, xs, ys, rfl, rfl, ha, hc, d⟩ := d
  cases rx
  cases ry
  rcases d with ⟨ne, rfl⟩ | ⟨bs, l1, l2, k, rfl⟩
  · obtain ⟨z, its, k1, r, e⟩ := I.hok a _ ha
    obtain ⟨z2, its2, k2, r2, e2⟩ := I.hok c _ hc
    refine rcM sb.room.units0 e e2 ?_ ⟨rfl, H, I, Same.refl H⟩
    rw [List.size_toArray, List.size_toArray, ← r.length, ← r2.length]
    exact ne
  · have at_ : ∀ i, i < xs.length → ∃ t, bs[i]? = some t ∧ bs.getD i true = t := fun i hi => by
      refine ⟨bs[i]'(by omega), List.getElem?_eq_getElem (by omega), ?_⟩
      rw [List.getD_eq_getElem?_getD, List.getElem?_eq_getElem (by omega)] <;> rfl
    refine rcN (N := xs.length) (ans := fun i => bs.getD i true) sb.room.units0 (fun i s' => ∃ H', Inv X pins σ H' s' ∧ Same H H') ?_ ?_ ?_ ⟨H, I, Same.refl H⟩
    · rintro i s' ⟨H1, I1, s1⟩
      obtain ⟨z, its, k1, r, e⟩ := I1.hok a _ (s1 _ _ ha)
      obtain ⟨z2, its2, k2, r2, e2⟩ := I1.hok c _ (s1 _ _ hc)
      refine ⟨its.toArray, its2.toArray, k1, k2, e, e2, by rw [List.size_toArray, ← r.length], by rw [List.size_toArray, ← r2.length, ← l1], fun h1 h2 => ?_⟩
      have m1 : i < xs.length := by rw [r.length]; simpa using h1
      have m2 : i < ys.length := by omega
      obtain ⟨u, hu, ru⟩ := r.get (List.getElem?_eq_getElem m1)
      obtain ⟨v, hv, rv⟩ := r2.get (List.getElem?_eq_getElem m2)
      have g1 : its[i]? = some its.toArray[i] := by
        rw [List.getElem?_eq_getElem (by simpa using h1)] <;> simp
      have g2 : its2[i]? = some its2.toArray[i] := by
        rw [List.getElem?_eq_getElem (by simpa using h2)] <;> simp
      rw [g1] at hu
      rw [g2] at hv
      rw [Option.some.inj hu, Option.some.inj hv]
      obtain ⟨t, ht, et⟩ := at_ i m1
      have dd := hD _ _ _ _ _ s1 (k i _ _ t (List.getElem?_eq_getElem m1) (List.getElem?_eq_getElem m2) ht)
      refine wpAny_mono (h A.in1 pins s' σ H1 _ _ u v t sb.in1 I1 ru rv dd) (fun q s2 w => ?_) fun _ _ w => w
      obtain ⟨e3, H2, I2, s2'⟩ := w
      exact ⟨e3.trans et.symm, H2, I2, s1.trans s2'⟩
    · rintro ht s' ⟨H1, I1, s1⟩
      refine ⟨?_, H1, I1, s1⟩
      refine (fun e : bs.all id = true => by rw [e] <;> rfl) ?_
      rw [List.all_eq_true]
      intro t htm
      obtain ⟨i, hi⟩ := List.mem_iff_getElem?.mp htm
      have hil : i < xs.length := by
        rw [← l2]
        exact (List.getElem?_eq_some_iff.mp hi).1
      obtain ⟨t', h1, h2⟩ := at_ i hil
      rw [hi] at h1
      have := ht i hil
      rw [h2] at this
      rw [Option.some.inj h1, this] <;> rfl
    · rintro i s' hi ha2 ⟨H1, I1, s1⟩
      refine ⟨?_, H1, I1, s1⟩
      refine (fun e : bs.all id = false => by rw [e] <;> rfl) ?_
      obtain ⟨t, h1, h2⟩ := at_ i hi
      have ha3 : bs.getD i true = false := ha2
      rw [h2] at ha3
      cases g : bs.all id with
      | false => rfl
      | true =>
        have := List.all_eq_true.mp g t (List.mem_of_getElem? h1)
        rw [ha3] at this
        cases this
/-- x != y of two such -/
def rNeB (D : EqD) : R2 := fun x y H Q => ∃ b, D x y H b ∧ ∀ H', Same H H' → Q (.bl (!b)) H'
theorem op_neB (h : RcN X n D) (hr : Room n X.A) : OpR X (compareOp .NotEq) (rNeB D) := by
  intro pins s σ H x y v u Q I rx ry hq
  obtain ⟨b, d, q⟩ := hq
  show wpAny (model X.prog X.w) X.A (richCompare .NotEq v u) (EP X pins σ Q) X.xe s
  refine wpAny_mono (h X.A pins s σ H x y v u b ⟨hr, rfl⟩ I rx ry d) (fun r s' z => ?_) fun _ _ x => x
  obtain ⟨e1, H', I', e⟩ := z
  subst e1
  exact ⟨.bl (!b), H', I', rfl, q H' e⟩
end
end Nv
set_option maxHeartbeats 4000000
namespace Nv
open PySem PySem.Spec PyProof.Rows L2
/-- flat values -/
def DFl : EqD := fun x y _ b => flatV x = true ∧ flatV y = true ∧ eqV x y = b
theorem mon_fl : MonD DFl := fun _ _ _ _ _ _ d => d
section
variable {X : Cx} {n m : Nat} {D D' : EqD}
theorem eqB_fl : EqB X 0 DFl := by
  intro A pins s σ H x y u v b sb I rx ry d
  obtain ⟨fx, fy, rfl⟩ := d
  exact eqAt_V (A := A) (s := s) rx ry fx fy X.prog X.w X.xe _ ⟨rfl, H, I, Same.refl H⟩
theorem EqB.mono (h : EqB X n D) (hn : n ≤ m) : EqB X m D := fun A pins s σ H x y u v b sb => h A pins s σ H x y u v b (sb.mono hn)
theorem EqB.or (h : EqB X n D) (h' : EqB X n D') : EqB X n (fun x y H b => D x y H b ∨ D' x y H b) := fun A pins s σ H x y u v b sb I rx ry d =>
  d.elim (fun d => h A pins s σ H x y u v b sb I rx ry d) fun d => h' A pins s σ H x y u v b sb I rx ry d
theorem MonD.or (h : MonD D) (h' : MonD D') : MonD (fun x y H b => D x y H b ∨ D' x y H b) := fun x y H H' b s d => d.elim (fun d => .inl (h x y H H' b s d)) fun d => .inr (h' x y H H' b s d)
/-- two lists that are not one -/
def DLs2 (D : EqD) : EqD := fun x y H b => DLst D x y H b ∧ x ≠ y
theorem mon_ls2 (hD : MonD D) : MonD (DLs2 D) := fun x y H H' b s d => ⟨mon_lst hD x y H H' b s d.1, d.2⟩
theorem eqB_ls2 (hD : MonD D) (h : EqB X n D) : EqB X (n + 1) (DLs2 D) := by
  have k : RcB X (n + 1) (DLs2 D) := fun A pins s σ H x y u v b sb I rx ry d => rcB_list hD h A pins s σ H x y u v b sb I rx ry d.1
  refine k.eqB fun x y H b d => ?_
  obtain ⟨⟨a, c, xs, ys, rfl, rfl, _⟩, ne⟩ := d
  exact ⟨a, c, rfl, rfl, fun e => absurd (by rw [e]) ne⟩
/-- two lists of texts -/
theorem dlst_strs {H : Hp} {a c : Addr} {xs ys : List Str} (ea : H a = some (.lst (xs.map V.str))) (ec : H c = some (.lst (ys.map V.str))) : DLst DFl (.ref a) (.ref c) H (decide (xs = ys)) := by
  refine ⟨a, c, _, _, rfl, rfl, ea, ec, ?_⟩
  by_cases hl : xs.length = ys.length
  · refine .inr ⟨(List.range xs.length).map fun i => decide (xs[i]? = ys[i]?), by rw [List.length_map, List.length_map]; omega, by rw [List.length_map, List.length_map, List.length_range], fun i u v t hu hv ht => ?_, ?_⟩
    · obtain ⟨x, hx, rfl⟩ := at_map hu
      obtain ⟨y, hy, rfl⟩ := at_map hv
      have hil : i < xs.length := (List.getElem?_eq_some_iff.mp hx).1
      rw [List.getElem?_map, List.getElem?_range hil] at ht
      have hd : decide (xs[i]? = ys[i]?) = t := Option.some.inj ht
      refine ⟨rfl, rfl, ?_⟩
      show (x == y) = t
      rw [← hd, hx, hy]
      by_cases e : x = y
      · subst e
        simp
      · have e2 : (x == y) = false := beq_eq_false_iff_ne.mpr e
        rw [e2, decide_eq_false fun z => e (Option.some.inj z)]
    · rw [List.all_map]
      by_cases e : xs = ys
      · subst e
        rw [decide_eq_true rfl]
        symm
        rw [List.all_eq_true]
        intro i _
        exact decide_eq_true rfl
      · rw [decide_eq_false e]
        cases g : (List.range xs.length).all (id ∘ fun i => decide (xs[i]? = ys[i]?)) with
        | false => rfl
        | true =>
          refine absurd (List.ext_getElem? fun i => ?_) e
          rcases Nat.lt_or_ge i xs.length with h | h
          · exact of_decide_eq_true (List.all_eq_true.mp g i (List.mem_range.mpr h))
          · rw [List.getElem?_eq_none h, List.getElem?_eq_none (by omega)]
  · exact .inl ⟨by rw [List.length_map, List.length_map]; exact hl, decide_eq_false fun e => hl (by rw [e])⟩
end
end Nv
set_option maxHeartbeats 4000000
namespace Nv
open PySem PySem.Spec PyProof.Rows L2
/-! ### defs that ask for repr: run where no repr is under way -/
abbrev RunG (P : Program) (w : World) (K : PySem.W.Frag) (mg : Str → Option Value) (base : Heap) (k : Nat) (f : Addr) (fd : FuncData) (ps : List Str) (sp : Sp) : Prop :=
  ∀ (A : Around) (outer : List Env) (s : Shared) (H : Hp) (args : Args) (us : List Value) (vs : List V) (Q : VK), A.guards = some [] → Room k A → Env0 P w K mg base A outer s H →
    BindsTo s fd args (ps.zip us) → Vals vs us → sp vs H Q E0 → codeAny (model P w) A (.call (.ref f) args) (CR CX0 outer P w H s Q E0) s
section
variable {P : Program} {w : World} {K : PySem.W.Frag} {mg : Str → Option Value} {base : Heap}
theorem run_ofG {k : Nat} {f : Addr} {qual : Str} {st : Stmt} {fd : FuncData} {N ps : List Str} {sp : Sp} (F : Fun K qual qual st f fd) (S : FnScope N ps (defScope st)) (len : ∀ vs H Q E, sp vs H Q E → vs.length = ps.length)
    (body : ∀ (cdv : Value) (A : Around) (outer : List Env) (s : Shared) (H : Hp) (vs : List V) (Q : VK), A.guards = some [] → Room k (A.deeper (envOfC qual (defScope st) s.heap.objs.size f cdv)) → sp vs H Q E0 →
      ∃ t, PSs (cxOf CX0 P w K mg base N qual (defScope st) f cdv A outer s H E0).nox (defBody st) t ∧ t { nx := fun _ H' => Q .non H', rt := Q } (start N vs) H) : RunG P w K mg base (k + 1) f fd ps sp := by
  obtain ⟨oc, od, kV, doc, pm, an, cdv, ct, osl, rfl, lk, hcd⟩ := F.ex
  intro A outer s H args us vs Q hg hr e0 hb r hsp
  have hl := len _ _ _ _ hsp
  have KX : K.In s.heap := e0.mod.kin.keeps fun b o e => (e0.bs b o e).1
  have lim : s.heap.NoLimit := e0.mod.nolimit.keeps fun b o e => (e0.bs b o e).1
  refine codeAny_call_function hr.depth (KX _ _ lk) rfl S.co S.gen rfl (PySem.W.codeRec_of KX hcd) (hb _ _ _ _ ?_)
  refine wpAny_newFunctionEnv_cells S.kind (fun ⟨n, v⟩ hy => ?_) fun env he s1 x => ?_
  · rcases S.par n (List.of_mem_zip hy).1 with z | z
    · exact .inl z
    · exact .inr ⟨z, PySem.W.cellsFrom_some _ _ _ (.inl z)⟩
  · subst he
    refine ⟨lim.keeps x.toInCall.keep, codeAny_func ?_⟩
    obtain ⟨t, ht, hq⟩ := body cdv A outer s H vs Q hg (hr.deeper _) hsp
    have I := inv_start (CX := CX0) (E := E0) S hr.hd e0 hl r x
    refine wpAny_mono (ht.nox.run [] s1 (start N vs) H _ I hq) (fun fl s' hs => ?_) fun e s' hs => hs
    cases fl with
    | ret u =>
      obtain ⟨v, σ', H', J, rv, q⟩ := hs
      exact ⟨v, H', J.os, J.bare, J.base, J.hok, rv, q⟩
    | next =>
      obtain ⟨σ', H', J, q⟩ := hs
      exact ⟨V.non, H', J.os, J.bare, J.base, J.hok, rfl, q⟩
    | brk =>
      obtain ⟨_, _, _, q⟩ := hs
      exact False.elim q
    | cont =>
      obtain ⟨_, _, _, q⟩ := hs
      exact False.elim q
end
section
variable {X : Cx} {k : Nat} {f : Addr} {fd : FuncData} {ps : List Str} {sp : Sp} {x : Str} {p pos : Pos} {e : Expr} {es : List Expr} {t : TA}
/-- f(e, ..) of such a def -/
theorem pe_callG (F : RunG X.prog X.w X.K X.mg X.base k f fd ps sp) (len : ∀ vs H Q E, sp vs H Q E → vs.length = ps.length) (hgd : X.A.guards = some []) (hr : Room k X.A) (hg : Gl X x) (hm : X.mg x = some (.ref f)) (hk : PySem.W.keepIn X.K (.ref f) = true) (hb : Binds X.K fd ps [])
    (ha : PA X (e :: es) t) (hdb : (x == ("__debug__" : Str)) = false := by decide) (he : starEach (e :: es) X.env = (false, eval e X.env) :: starEach es X.env := by rfl) (hpl : (backTo pos (starEach es X.env)).any (·.1) = false := by rfl) :
    PE X (.Call (.Name x p) (e :: es) [] pos) (tCall sp [] E0 t) := by
  refine ⟨fun pins s σ H Q I h => wpAny_Call_Name_kw (ld_glob I hg hm (PySem.W.callWith_K (h₀ := X.base) I.ok.mod.kin hk (thn (ha.run pos pins s σ H _ I h) fun us s1 ⟨vs, H1, I1, r, q⟩ => ⟨I1.kIn, ?_⟩) he hpl) hdb)⟩
  have q : sp vs H1 Q E0 := by simpa using q
  have hl : us.length = ps.length := by rw [← len _ _ _ _ q, r.length]
  refine wpAny_call (codeAny_mono (F X.A X.stack s1 H1 ⟨us, []⟩ us vs Q hgd hr I1.env0 (by simpa using hb s1 us I1.kIn (by simpa using hl)) r q) fun z s2 hq => ?_)
  rcases z with er | fl
  · exact hq.elim
  cases fl with
  | ret u => exact I1.after hq
  | _ => exact hq.elim
end
end Nv
set_option maxHeartbeats 4000000
namespace Nv
open PySem PySem.Spec PyProof.Rows L2
section
variable {P : Program} {w : World} {K : PySem.W.Frag} {H : Hp}
theorem rddAll_strs : ∀ xs : List Str, RddAll P w K H (xs.map V.str) (xs.map PyData.str)
  | [] => rddAll_nil
  | x :: xs => rddAll_cons (rdd_str x) (rddAll_strs xs)
theorem rdd_T {t : Addr} {p : List Str} (e : H t = some (.tup (p.map V.str))) : Rdd P w K H (.ref t) (dT p) := rdd_tup e (rddAll_strs p)
theorem rdd_S {t : Addr} {p : List Str} (e : H t = some (.lst (p.map V.str))) : Rdd P w K H (.ref t) (dS p) := rdd_lst e (rddAll_strs p)
theorem PaL.rdd {vs : List V} {ps : List (List Str)} (h : PaL H vs ps) : RddAll P w K H vs (ps.map dT) := by
  induction h with
  | nil => exact rddAll_nil
  | cons e _ ih => exact rddAll_cons (rdd_T e) ih
theorem rdd_L {t : Addr} {vs : List V} {ps : List (List Str)} (e : H t = some (.lst vs)) (h : PaL H vs ps) : Rdd P w K H (.ref t) (dL ps) := rdd_lst e h.rdd
end
end Nv
set_option maxHeartbeats 4000000
namespace Nv
open PySem PySem.Spec PyProof.Rows L2
/-! ### how long what repr shows may be -/
def Shw (k n : Nat) (d : PyData) : Prop := d.showable = true ∧ d.shown.length ≤ n ∧ d.depth ≤ k
theorem textFrom_le : ∀ (ts : List Str) (k : Nat) (acc : Str), (textFrom k acc ts).length ≤ acc.length + piled ts
  | [], _, acc => Nat.le_add_right _ _
  | t :: r, k, acc => by
    have ih := textFrom_le r (k + 1) (acc ++ (if k > 0 then ", " else "" : String) ++ t)
    have e : (acc ++ (if k > 0 then ", " else "" : String) ++ t).length = acc.length + (if k > 0 then 2 else 0) + t.length := by
      rw [strLen_append, strLen_append]
      split <;> rfl
    rw [e] at ih
    rw [piled_cons]
    show (textFrom (k + 1) _ r).length ≤ _
    have le2 : (if k > 0 then 2 else 0 : Nat) ≤ 2 := by split <;> omega
    omega
theorem listText_le (ts : List Str) : (listText ts).length ≤ 2 + piled ts := by
  have h := textFrom_le ts 0 "["
  have e1 : (("[" : String) : Str).length = 1 := rfl
  have e2 : (("]" : String) : Str).length = 1 := rfl
  unfold listText
  rw [strLen_append, e2]
  rw [e1] at h
  omega
theorem tupleText_le (ts : List Str) : (tupleText ts).length ≤ 3 + piled ts := by
  unfold tupleText
  rw [strLen_append, strLen_append]
  have e1 : ((("(" : String) : Str)).length = 1 := rfl
  have e3 : (((if ts.length == 1 then ",)" else ")" : String) : Str)).length ≤ 2 := by split <;> decide
  rw [e1]
  cases ts with
  | nil =>
    have e4 : (Str.join ", " []).length = 0 := by decide
    rw [e4]
    omega
  | cons t r =>
    have e4 := join_length_add (t :: r) (by simp)
    omega
theorem Shw.le {k n k' n' : Nat} {d : PyData} (h : Shw k n d) (hk : k ≤ k') (hn : n ≤ n') : Shw k' n' d := ⟨h.1, Nat.le_trans h.2.1 hn, Nat.le_trans h.2.2 hk⟩
theorem shw_all {k m : Nat} : ∀ {ds : List PyData}, (∀ d ∈ ds, Shw k m d) → PyData.showableAll ds = true ∧ piled (PyData.shownAll ds) ≤ ds.length * (m + 2) ∧ PyData.depthAll ds ≤ k
  | [], _ => ⟨by simp [PyData.showableAll], by simp [PyData.shownAll, piled_nil], by simp [PyData.depthAll]⟩
  | d :: ds, h => by
    obtain ⟨a, b, c⟩ := h d List.mem_cons_self
    obtain ⟨h1, h2, h3⟩ := shw_all (ds := ds) fun x hx => h x (List.mem_cons_of_mem _ hx)
    refine ⟨by simp [PyData.showableAll, a, h1], ?_, ?_⟩
    · simp only [PyData.shownAll, piled_cons, List.length_cons, Nat.add_mul, Nat.one_mul]
      omega
    · simp only [PyData.depthAll]
      omega
theorem shw_list {k m n : Nat} {ds : List PyData} (h : ∀ d ∈ ds, Shw k m d) (hn : 2 + ds.length * (m + 2) ≤ n) : Shw (k + 1) n (.list ds) := by
  obtain ⟨h1, h2, h3⟩ := shw_all h
  refine ⟨by simpa [PyData.showable] using h1, ?_, ?_⟩
  · simp only [PyData.shown]
    exact Nat.le_trans (listText_le _) (by omega)
  · simp only [PyData.depth]
    omega
theorem shw_tup {k m n : Nat} {ds : List PyData} (h : ∀ d ∈ ds, Shw k m d) (hn : 3 + ds.length * (m + 2) ≤ n) : Shw (k + 1) n (.tuple ds) := by
  obtain ⟨h1, h2, h3⟩ := shw_all h
  refine ⟨by simpa [PyData.showable] using h1, ?_, ?_⟩
  · simp only [PyData.shown]
    exact Nat.le_trans (tupleText_le _) (by omega)
  · simp only [PyData.depth]
    omega
theorem shw_str {z : Str} (h : Asc z) (l : z.length ≤ 10) : Shw 0 102 (.str z) := by
  refine ⟨by simp [PyData.showable], ?_, by simp [PyData.depth]⟩
  simp only [PyData.shown]
  have := StrLaws.reprText_len z fun c hc => Nat.lt_trans (h c hc) (by decide)
  omega
/-- a text of at most ten signs -/
def Sht (z : Str) : Prop := Asc z ∧ z.length ≤ 10
theorem IsNm.sht {z : Str} (h : IsNm z) : Sht z := ⟨h.asc, h.2.1⟩
theorem IsVr.sht {z : Str} (h : IsVr z) : Sht z := ⟨h.asc, Nat.le_trans h.2.1 (by decide)⟩
theorem PatOk.sht {p : List Str} (h : PatOk p) : p.length ≤ 4 ∧ ∀ x ∈ p, Sht x := by
  obtain ⟨w, ts, rfl, hw, h3, ht⟩ := h
  refine ⟨by rw [List.length_cons]; omega, fun x hx => ?_⟩
  rcases List.mem_cons.mp hx with rfl | hx
  · exact hw.sht
  · exact (ht x hx).elim IsVr.sht IsNm.sht
theorem PairOk.sht {p : List Str} (h : PairOk p) : p.length ≤ 4 ∧ ∀ x ∈ p, Sht x := by
  obtain ⟨x, y, rfl, _, h1, h2, _⟩ := h
  refine ⟨by show 2 ≤ 4; decide, fun z hz => ?_⟩
  simp only [List.mem_cons, List.not_mem_nil, or_false] at hz
  rcases hz with rfl | rfl
  · exact h1.elim IsNm.sht IsVr.sht
  · exact h2.elim IsNm.sht IsVr.sht
theorem shw_strs {p : List Str} (h : ∀ x ∈ p, Sht x) : ∀ d ∈ p.map PyData.str, Shw 0 102 d := fun d hd => by
  obtain ⟨x, hx, rfl⟩ := List.mem_map.mp hd
  exact shw_str (h x hx).1 (h x hx).2
theorem shw_T {p : List Str} (l : p.length ≤ 4) (h : ∀ x ∈ p, Sht x) : Shw 1 419 (dT p) := shw_tup (shw_strs h) (by rw [List.length_map]; omega)
theorem shw_S {p : List Str} (l : p.length ≤ 300) (h : ∀ x ∈ p, Sht x) : Shw 1 31202 (dS p) := shw_list (shw_strs h) (by rw [List.length_map]; omega)
theorem shw_L {ps : List (List Str)} (l : ps.length ≤ 300) (h : ∀ p ∈ ps, p.length ≤ 4 ∧ ∀ x ∈ p, Sht x) : Shw 2 126302 (dL ps) := by
  refine shw_list (k := 1) (m := 419) (fun d hd => ?_) (by rw [List.length_map]; omega)
  obtain ⟨p, hp, rfl⟩ := List.mem_map.mp hd
  exact shw_T (h p hp).1 (h p hp).2
/-- what a rule is made of, as data -/
def dR (x : Rl) : PyData := .list [.str x.l, dT x.h, dL x.ps, dL x.qs, dL x.ds]
theorem shw_R {x : Rl} (h : x.Ok) : Shw 3 700000 (dR x) := by
  refine shw_list (k := 2) (m := 126302) (fun d hd => ?_) (by show 2 + 5 * 126304 ≤ 700000; decide)
  simp only [List.mem_cons, List.not_mem_nil, or_false] at hd
  rcases hd with rfl | rfl | rfl | rfl | rfl
  · exact (shw_str h.l.asc h.l.2.1).le (by decide) (by decide)
  · exact (shw_T h.h.sht.1 h.h.sht.2).le (by decide) (by decide)
  · exact shw_L h.pl fun p hp => (h.ps p hp).sht
  · exact shw_L h.ql fun p hp => (h.qs p hp).sht
  · exact shw_L h.dl fun p hp => (h.ds p hp).sht
/-- what a question is made of, as data -/
def dQ (x : Ql) : PyData := .list [dS x.cs, dL x.ps, dL x.qs]
theorem Shw.fits {k n : Nat} {d : PyData} (h : Shw k n d) (hk : k ≤ 60) (hn : n ≤ 1000000) : d.showable = true ∧ d.shown.length ≤ sizeLine ∧ d.depth ≤ 60 :=
  ⟨h.1, Nat.le_trans h.2.1 (Nat.le_trans hn (by decide)), Nat.le_trans h.2.2 hk⟩
section
variable {X : Cx}
/-- repr(flag) -/
def rReprB : List V → Hp → VK → Prop := fun xs H Q => ∃ b : Bool, xs = [.bl b] ∧ Q (.str (if b = true then Str.ofString "True" else Str.ofString "False")) H
theorem call_reprB : CallR X (.builtin "repr") rReprB := by
  intro pins s σ H xs us Q I r h
  obtain ⟨b, rfl, q⟩ := h
  obtain ⟨u, rfl, ru⟩ := vals1 r
  obtain rfl : u = Value.bool b := ru
  exact P.repr_of_bool ⟨.str _, H, I.tok _, ⟨_, rfl⟩, q⟩
end
end Nv
set_option maxHeartbeats 4000000
namespace Nv
open PySem PySem.Spec PyProof.Rows L2
theorem RAn.ra {C : Addr} {H H' : Hp} {r : Addr} {x : Rl} (h : RAn C H H' r x) : RA C H' r x := by
  obtain ⟨dx, th, l1, l2, l3, us, us2, us3, _, h⟩ := h
  exact ⟨dx, th, l1, l2, l3, us, us2, us3, h⟩
theorem Same.back {H H' : Hp} {a : Addr} (s : Same H H') (n : H' a = none) : H a = none := s.free n
theorem mk_rule {H : Hp} {C x dx th tt : Addr} {y : Rl} {us : List V} {vp vd : V} {Q : VK} (ok : y.Ok) (cl : Clo y) (nx : H x = none) (ndx : H dx = none) (eth : H th = some (.tup (y.h.map V.str))) (ett : H tt = some (.lst us)) (pp : PaL H us y.ps) (op : Opt H vp y.qs) (od : Opt H vd y.ds)
    (q : ∀ H', Same H H' → RAn C H H' x y → Q .non H') : spRuleInit C [.ref x, .str y.l, .ref th, .ref tt, vp, vd] (upd (upd H dx (.own x)) x (.ins C dx [])) Q E0 := by
  have sK : Same H (upd (upd H dx (.own x)) x (.ins C dx [])) := fun b o e => by
    rw [upd_ne (ne_of_none e nx), upd_ne (ne_of_none e ndx)]
    exact e
  have ex : upd (upd H dx (.own x)) x (.ins C dx []) x = some (.ins C dx []) := upd_same
  have mk : ∀ {H2 : Hp}, Sb x (upd (upd H dx (.own x)) x (.ins C dx [])) H2 → Same H H2 := fun sb => made_same (Same.refl H) nx ndx sb
  generalize upd (upd H dx (.own x)) x (.ins C dx []) = K2 at sK ex mk ⊢
  refine ⟨x, dx, y.l, th, tt, y.h, us, y.ps, vp, y.qs, vd, y.ds, rfl, ex, ok.l, ⟨sK _ _ eth, ok.h⟩, ⟨sK _ _ ett, pp.same sK, ok.ps, ok.pl⟩, ⟨op.same sK, ok.qs⟩, ⟨od.same sK, ok.ds⟩, ⟨cl.h, cl.q, cl.d⟩, ?_⟩
  intro l1 l2 l3 us2 us4 H' f1 f2 f3 sb er el1 el2 pl2 el3 pl3
  have thx : th ≠ x := fun z => by
    rw [z, nx] at eth
    cases eth
  refine q H' (mk sb) ⟨dx, th, l1, l2, l3, us, us2, us4, ⟨nx, sK.free f1, sK.free f2, sK.free f3⟩, er, sb _ _ thx (sK _ _ eth), ⟨el1, (pp.same sK).sbo ex sb⟩, ⟨el2, pl2⟩, el3, pl3⟩
theorem PaL.sbs {ls : List Addr} {H H' : Hp} {vs : List V} {ps : List (List Str)} (h : PaL H vs ps) (hl : ∀ l ∈ ls, ∃ xs, H l = some (.lst xs)) (s : Sbs ls H H') : PaL H' vs ps := by
  induction h with
  | nil => exact .nil
  | cons e1 _ ih =>
    refine .cons (s _ _ (fun z => ?_) e1) ih
    obtain ⟨xs, e⟩ := hl _ z
    rw [e1] at e
    cases e
/-- what was made since stays as it is, whatever becomes of lists that stood before -/
theorem RAn.sbs {C : Addr} {ls : List Addr} {H H1 H2 : Hp} {r : Addr} {x : Rl} (h : RAn C H H1 r x) (s1 : Same H H1) (hl : ∀ l ∈ ls, ∃ xs, H l = some (.lst xs)) (s : Sbs ls H1 H2) : RA C H2 r x := by
  obtain ⟨dx, th, l1, l2, l3, us, us2, us3, ⟨n1, n2, n3, n4⟩, e, et, ⟨e1, p1⟩, ⟨e2, p2⟩, e3, p3⟩ := h
  have no : ∀ {a : Addr}, H a = none → a ∉ ls := fun n z => by
    obtain ⟨xs, e⟩ := hl _ z
    rw [n] at e
    cases e
  have hl1 : ∀ l ∈ ls, ∃ xs, H1 l = some (.lst xs) := fun l hm => by
    obtain ⟨xs, e⟩ := hl l hm
    exact ⟨xs, s1 _ _ e⟩
  refine ⟨dx, th, l1, l2, l3, us, us2, us3, s _ _ (no n1) e, s _ _ (fun z => ?_) et, ⟨s _ _ (no n2) e1, p1.sbs hl1 s⟩, ⟨s _ _ (no n3) e2, p2.sbs hl1 s⟩, s _ _ (no n4) e3, p3.sbs hl1 s⟩
  obtain ⟨xs, e⟩ := hl1 _ z
  rw [et] at e
  cases e
/-- lists that were made since are changed: what stood before stays -/
theorem Sbs.same {ls : List Addr} {H H1 H2 : Hp} (s1 : Same H H1) (n : ∀ l ∈ ls, H l = none) (s : Sbs ls H1 H2) : Same H H2 := fun b o e => s b o (fun z => by
  rw [n b z] at e
  cases e) (s1 b o e)
/-- the row that a rule is made of: a list of its label, its head's tuple, and three lists -/
structure Row (H : Hp) (ar th tt tq td : Addr) (us uq ud : List V) (x : Rl) : Prop where
  ar : H ar = some (.lst [.str x.l, .ref th, .ref tt, .ref tq, .ref td])
  th : H th = some (.tup (x.h.map V.str))
  tt : H tt = some (.lst us)
  ps : PaL H us x.ps
  tq : H tq = some (.lst uq)
  qs : PaL H uq x.qs
  td : H td = some (.lst ud)
  ds : PaL H ud x.ds
theorem Row.same {H H1 : Hp} {ar th tt tq td : Addr} {us uq ud : List V} {x : Rl} (h : Row H ar th tt tq td us uq ud x) (s : Same H H1) : Row H1 ar th tt tq td us uq ud x :=
  ⟨s _ _ h.ar, s _ _ h.th, s _ _ h.tt, h.ps.same s, s _ _ h.tq, h.qs.same s, s _ _ h.td, h.ds.same s⟩
theorem Row.rdd {P : Program} {w : World} {K : PySem.W.Frag} {H : Hp} {ar th tt tq td : Addr} {us uq ud : List V} {x : Rl} (h : Row H ar th tt tq td us uq ud x) : Rdd P w K H (.ref ar) (dR x) :=
  rdd_lst h.ar (rddAll_cons (rdd_str _) (rddAll_cons (rdd_T h.th) (rddAll_cons (rdd_L h.tt h.ps) (rddAll_cons (rdd_L h.tq h.qs) (rddAll_cons (rdd_L h.td h.ds) rddAll_nil)))))
theorem opt_of {H : Hp} {a : Addr} {us : List V} {ps : List (List Str)} (e : H a = some (.lst us)) (h : PaL H us ps) (l : ps.length ≤ 300) : Opt H (.ref a) ps := .inr ⟨a, us, rfl, e, h, l⟩
/-- no rule: what == of a rule finds unlike at once -/
def NoR (K : PySem.W.Frag) (C : Addr) (t : Value) : Prop := PySem.W.kitOne K t (.ref C) = some false ∧ PySem.W.notFirst K C t = true
/-- another value than the rule x -/
def Oth (K : PySem.W.Frag) (C : Addr) (x : Rl) (H : Hp) (v : V) : Prop := (∃ (r : Addr) (y : Rl), v = .ref r ∧ RA C H r y ∧ y.Ok ∧ x ≠ y) ∨ ∃ t : Value, TyX K H v t ∧ NoR K C t
end Nv
set_option maxHeartbeats 4000000
namespace Nv
open PySem PySem.Spec PyProof.Rows L2
/-! ### what the top gives, by name -/
section
variable (P : Program) (w : World) (K : PySem.W.Frag) (mg : Str → Option Value) (base : Heap)
structure CallOk (x : Str) (k : Nat) (ps : List Str) (sp : Sp) : Prop where
  ex : ∃ f fd, FnOk P w K mg base CX0 k f fd ps sp ∧ PySem.W.keepIn K (.ref f) = true ∧ mg x = some (.ref f) ∧ Binds K fd ps []
structure PropOk (C : Addr) (x : Str) (sp : Sp) : Prop where
  ex : ∃ p g fd, PropOf K C x p g ∧ FnOk P w K mg base CX0 1 g fd ["self"] sp ∧ Binds K fd ["self"] []
structure OwnOk (C : Addr) (x : Str) (k : Nat) (ps : List Str) (sp : Sp) : Prop where
  ex : ∃ f fd, FnOk P w K mg base CX0 k f fd ps sp ∧ PySem.W.findIn K (.ref C) x = some (some (.ref f)) ∧ PySem.W.isFn K (.ref f) = true ∧ Binds K fd ps []
structure MakeOk (C : Addr) (x : Str) (k : Nat) (ps : List Str) (sp : Sp) (ds : List Value) : Prop where
  ex : ∃ f fd, FnOk P w K mg base CX0 k f fd ps sp ∧ Mk K C f ∧ mg x = some (.ref C) ∧ ∀ n, n ≤ ds.length → Binds K fd ps (ds.drop n)
end
/-- the class Rule, whole -/
structure RuleOk (P : Program) (w : World) (K : PySem.W.Frag) (mg : Str → Option Value) (base : Heap) (CR : Addr) : Prop where
  R : RC K CR
  I : IC K CR
  mkr : MakeOk P w K mg base CR "Rule" 5 ["self", "label", "head", "told", "pairs", "denied"] (spRuleInit CR) [.none, .none]
  eq : OwnOk P w K mg base CR "__eq__" 1 ["self", "other"] (spRuleEq K CR)
  ne : PySem.W.findIn K (.ref CR) "__ne__" = some (some (.builtin "object.__ne__"))
  label : PropOk P w K mg base CR "label" (getSp CR "_label")
  head : PropOk P w K mg base CR "head" (getSp CR "_head")
  told : PropOk P w K mg base CR "told" (spGetL CR "_told")
  pairs : PropOk P w K mg base CR "pairs" (spGetL CR "_pairs")
  denied : PropOk P w K mg base CR "denied" (spGetL CR "_denied")
  nNon : NoR K CR (.type "NoneType")
  nStr : NoR K CR (.type "str")
  nLst : NoR K CR (.type "list")
  nTup : NoR K CR (.type "tuple")
section
variable {K : PySem.W.Frag} {C : Addr} {H : Hp} {a c : Addr} {x y : Rl} {v : V} {Q : VK}
theorem eq_rules (R : RC K C) (I : IC K C) (ra : RA C H a x) (xo : x.Ok) (rc : RA C H c y) (yo : y.Ok) (q : Q (.bl (decide (x = y))) H) : rOwnEq K C (spRuleEq K C) (.ref a) (.ref c) H Q := by
  obtain ⟨dx, th, l1, l2, l3, us, us2, us3, e, _⟩ := id ra
  obtain ⟨dx', th', m1, m2, m3, ws, ws2, ws3, e', _⟩ := id rc
  exact ⟨a, dx, _, _, rfl, e, .base (.ins e' R.cl I.ha I.hn I.ht I.hm), by simp [PySem.W.notFirst], a, x, _, rfl, ra, xo, .inl ⟨c, y, rfl, rc, yo, _, rfl, q⟩⟩
theorem ne_rules (R : RC K C) (I : IC K C) (ra : RA C H a x) (xo : x.Ok) (rc : RA C H c y) (yo : y.Ok) (q : Q (.bl (!decide (x = y))) H) : rOwnNe K C (spRuleEq K C) (.ref a) (.ref c) H Q := by
  obtain ⟨dx, th, l1, l2, l3, us, us2, us3, e, _⟩ := id ra
  obtain ⟨dx', th', m1, m2, m3, ws, ws2, ws3, e', _⟩ := id rc
  exact ⟨a, dx, _, _, rfl, e, .base (.ins e' R.cl I.ha I.hn I.ht I.hm), by simp [PySem.W.notFirst], a, x, _, rfl, ra, xo, .inl ⟨c, y, rfl, rc, yo, _, rfl, q⟩⟩
theorem eq_oth (R : RC K C) (I : IC K C) (ra : RA C H a x) (xo : x.Ok) (o : Oth K C x H v) (q : Q (.bl false) H) : rOwnEq K C (spRuleEq K C) (.ref a) v H Q := by
  rcases o with ⟨r, y, rfl, ry, yo, ne⟩ | ⟨t, ht, hk, hn⟩
  · refine eq_rules R I ra xo ry yo ?_
    rw [decide_eq_false ne]
    exact q
  · obtain ⟨dx, th, l1, l2, l3, us, us2, us3, e, _⟩ := id ra
    exact ⟨a, dx, _, t, rfl, e, ht, hn, a, x, _, rfl, ra, xo, .inr ⟨t, ht, hk, _, rfl, q⟩⟩
theorem ne_oth (R : RC K C) (I : IC K C) (ra : RA C H a x) (xo : x.Ok) (o : Oth K C x H v) (q : Q (.bl true) H) : rOwnNe K C (spRuleEq K C) (.ref a) v H Q := by
  rcases o with ⟨r, y, rfl, ry, yo, ne⟩ | ⟨t, ht, hk, hn⟩
  · refine ne_rules R I ra xo ry yo ?_
    rw [decide_eq_false ne]
    exact q
  · obtain ⟨dx, th, l1, l2, l3, us, us2, us3, e, _⟩ := id ra
    exact ⟨a, dx, _, t, rfl, e, ht, hn, a, x, _, rfl, ra, xo, .inr ⟨t, ht, hk, _, rfl, q⟩⟩
theorem Oth.same {H' : Hp} (o : Oth K C x H v) (s : Same H H') : Oth K C x H' v := by
  rcases o with ⟨r, y, rfl, ry, yo, ne⟩ | ⟨t, ht, hn⟩
  · exact .inl ⟨r, y, rfl, ry.same s, yo, ne⟩
  · exact .inr ⟨t, tyx_same s ht, hn⟩
theorem RAn.oth {H0 : Hp} (h : RAn C H0 H c y) (yo : y.Ok) (ne : x ≠ y) : Oth K C x H (.ref c) := .inl ⟨c, y, rfl, h.ra, yo, ne⟩
end
end Nv
set_option maxHeartbeats 4000000
namespace Nv
open PySem PySem.Spec PyProof.Rows L2
theorem at5_0 {a b c d e : V} : atI [a, b, c, d, e] 0 = some a := rfl
theorem at5_1 {a b c d e : V} : atI [a, b, c, d, e] 1 = some b := rfl
theorem at5_2 {a b c d e : V} : atI [a, b, c, d, e] 2 = some c := rfl
theorem at5_3 {a b c d e : V} : atI [a, b, c, d, e] 3 = some d := rfl
theorem at5_4 {a b c d e : V} : atI [a, b, c, d, e] 4 = some e := rfl
theorem cut5_2 {a b c d e : V} : cutV [a, b, c, d, e] (some 2) none = [c, d, e] := rfl
/-- a part of the row and what stands for it in the copy -/
def Cop (H : Hp) (D : Addr) (H' : Hp) (a b : V) : Prop := (a = b ∧ ∀ p xs, a = .ref p → H p ≠ some (.lst xs)) ∨ ∃ p q xs, a = .ref p ∧ b = .ref q ∧ H p = some (.lst xs) ∧ H q = none ∧ q ≠ D ∧ H' q = some (.lst xs)
theorem Cop.put {H H1 H2 : Hp} {D : Addr} {a b : V} (h : Cop H D H1 a b) (s : ∀ q o, q ≠ D → H1 q = some o → H2 q = some o) : Cop H D H2 a b := by
  rcases h with h | ⟨p, q, xs, e1, e2, e3, e4, e5, e6⟩
  · exact .inl h
  · exact .inr ⟨p, q, xs, e1, e2, e3, e4, e5, s _ _ e5 e6⟩
theorem all2_imp {α β : Type} {R S : α → β → Prop} {xs : List α} {ys : List β} (h : All2 R xs ys) (k : ∀ a b, R a b → S a b) : All2 S xs ys := h.imp k
theorem copied {H H' : Hp} {D ar th tt tq td : Addr} {us uq ud : List V} {x : Rl} (row : Row H ar th tt tq td us uq ud x) {gs : List V} (h : All2 (Cop H D H') [.str x.l, .ref th, .ref tt, .ref tq, .ref td] gs) :
    ∃ q1 q2 q3, gs = [.str x.l, .ref th, .ref q1, .ref q2, .ref q3] ∧ (H q1 = none ∧ H' q1 = some (.lst us)) ∧ (H q2 = none ∧ H' q2 = some (.lst uq)) ∧ (H q3 = none ∧ H' q3 = some (.lst ud)) := by
  have lst : ∀ {p : Addr} {xs : List V} {b : V}, H p = some (.lst xs) → Cop H D H' (.ref p) b → ∃ q, b = .ref q ∧ H q = none ∧ H' q = some (.lst xs) := fun e c => by
    rcases c with ⟨_, h⟩ | ⟨p, q, ys, e1, e2, e3, e4, e5, e6⟩
    · exact absurd e (h _ _ rfl)
    · injection e1 with e1
      subst e1
      rw [e] at e3
      injection e3 with e3
      injection e3 with e3
      subst e3
      exact ⟨q, e2, e4, e6⟩
  cases h with
  | cons h0 h =>
  cases h with
  | cons h1 h =>
  cases h with
  | cons h2 h =>
  cases h with
  | cons h3 h =>
  cases h with
  | cons h4 h =>
  cases h with
  | nil =>
  obtain ⟨q1, rfl, n1, e1⟩ := lst row.tt h2
  obtain ⟨q2, rfl, n2, e2⟩ := lst row.tq h3
  obtain ⟨q3, rfl, n3, e3⟩ := lst row.td h4
  rcases h0 with ⟨rfl, _⟩ | ⟨p, q, xs, z, _⟩
  · rcases h1 with ⟨rfl, _⟩ | ⟨p, q, xs, z, _, z2, _⟩
    · exact ⟨q1, q2, q3, rfl, ⟨n1, e1⟩, ⟨n2, e2⟩, n3, e3⟩
    · injection z with z
      rw [← z, row.th] at z2
      cases z2
  · cases z
/-- a rule none of whose own objects is o -/
def RAo (o : Addr) (C : Addr) (H : Hp) (r : Addr) (x : Rl) : Prop := ∃ (dx th l1 l2 l3 : Addr) (us us2 us3 : List V), (r ≠ o ∧ l1 ≠ o ∧ l2 ≠ o ∧ l3 ≠ o) ∧ (H r = some (.ins C dx (ruleF x.l th l1 l2 l3)) ∧ H th = some (.tup (x.h.map V.str)) ∧ (H l1 = some (.lst us) ∧ PaL H us x.ps) ∧ (H l2 = some (.lst us2) ∧ PaL H us2 x.qs) ∧ H l3 = some (.lst us3) ∧ PaL H us3 x.ds)
section
variable {C o r : Addr} {H H1 : Hp} {x : Rl}
theorem RAo.ra (h : RAo o C H r x) : RA C H r x := by
  obtain ⟨dx, th, l1, l2, l3, us, us2, us3, _, h⟩ := h
  exact ⟨dx, th, l1, l2, l3, us, us2, us3, h⟩
theorem RAo.same (h : RAo o C H r x) (s : Same H H1) : RAo o C H1 r x := by
  obtain ⟨dx, th, l1, l2, l3, us, us2, us3, n, e, et, ⟨e1, p1⟩, ⟨e2, p2⟩, e3, p3⟩ := h
  exact ⟨dx, th, l1, l2, l3, us, us2, us3, n, s _ _ e, s _ _ et, ⟨s _ _ e1, p1.same s⟩, ⟨s _ _ e2, p2.same s⟩, s _ _ e3, p3.same s⟩
theorem RAn.at_ {u : HO} (h : RAn C H H1 r x) (e : H o = some u) : RAo o C H1 r x := by
  obtain ⟨dx, th, l1, l2, l3, us, us2, us3, ⟨n1, n2, n3, n4⟩, h⟩ := h
  have no : ∀ {a : Addr}, H a = none → a ≠ o := fun n z => by
    rw [z, e] at n
    cases n
  exact ⟨dx, th, l1, l2, l3, us, us2, us3, ⟨no n1, no n2, no n3, no n4⟩, h⟩
theorem RA.new_ (h : RA C H r x) (n : H o = none) : RAo o C H r x := by
  obtain ⟨dx, th, l1, l2, l3, us, us2, us3, e, et, ⟨e1, p1⟩, ⟨e2, p2⟩, e3, p3⟩ := h
  have no : ∀ {a : Addr} {u : HO}, H a = some u → a ≠ o := fun e z => by
    rw [z, n] at e
    cases e
  exact ⟨dx, th, l1, l2, l3, us, us2, us3, ⟨no e, no e1, no e2, no e3⟩, e, et, ⟨e1, p1⟩, ⟨e2, p2⟩, e3, p3⟩
theorem PaL.putl {vs os os' : List V} {ps : List (List Str)} (h : PaL H vs ps) (e : H o = some (.lst os)) : PaL (upd H o (.lst os')) vs ps := by
  induction h with
  | nil => exact .nil
  | cons e1 _ ih =>
    refine .cons ?_ ih
    rw [upd_ne (fun z => by rw [z, e] at e1; cases e1)]
    exact e1
theorem RAo.putl {os os' : List V} (h : RAo o C H r x) (e : H o = some (.lst os)) : RAo o C (upd H o (.lst os')) r x := by
  obtain ⟨dx, th, l1, l2, l3, us, us2, us3, ⟨n1, n2, n3, n4⟩, e0, et, ⟨e1, p1⟩, ⟨e2, p2⟩, e3, p3⟩ := h
  refine ⟨dx, th, l1, l2, l3, us, us2, us3, ⟨n1, n2, n3, n4⟩, ?_, ?_, ⟨?_, p1.putl e⟩, ⟨?_, p2.putl e⟩, ?_, p3.putl e⟩
  · rw [upd_ne n1]
    exact e0
  · rw [upd_ne (fun z => by rw [z, e] at et; cases et)]
    exact et
  · rw [upd_ne n2]
    exact e1
  · rw [upd_ne n3]
    exact e2
  · rw [upd_ne n4]
    exact e3
end
/-- a list at o of rules other than x -/
def Ots (o C : Addr) (x : Rl) (G H : Hp) (os : List V) : Prop := Same G H ∧ G o = none ∧ H o = some (.lst os) ∧ ∀ v ∈ os, ∃ (r : Addr) (y : Rl), v = .ref r ∧ RAo o C H r y ∧ y.Ok ∧ x ≠ y
section
variable {o C r : Addr} {x y : Rl} {G H H1 H2 : Hp} {os : List V}
theorem Ots.same (h : Ots o C x G H os) (s : Same H H1) : Ots o C x G H1 os := by
  obtain ⟨s0, n, e, k⟩ := h
  refine ⟨s0.trans s, n, s _ _ e, fun v hv => ?_⟩
  obtain ⟨r, y, e1, e2, e3⟩ := k v hv
  exact ⟨r, y, e1, e2.same s, e3⟩
/-- one more is put behind it -/
theorem Ots.more (h : Ots o C x G H os) (s : Same H H1) (rn : RAn C H1 H2 r y) (s2 : Same H1 H2) (yo : y.Ok) (ne : x ≠ y) : Ots o C x G (upd H2 o (.lst (os ++ [.ref r]))) (os ++ [.ref r]) := by
  have e0 := (h.same s).2.2.1
  obtain ⟨s0, n, e, k⟩ := (h.same s).same s2
  refine ⟨fun b u eb => ?_, n, upd_same, fun v hv => ?_⟩
  · rw [upd_ne (fun z => by rw [z, n] at eb; cases eb)]
    exact s0 _ _ eb
  · rcases List.mem_append.mp hv with hv | hv
    · obtain ⟨r, y, e1, e2, e3⟩ := k v hv
      exact ⟨r, y, e1, e2.putl e, e3⟩
    · rw [List.mem_singleton.mp hv]
      exact ⟨r, y, rfl, (rn.at_ e0).putl e, yo, ne⟩
theorem Ots.oth {K : PySem.W.Frag} (h : Ots o C x G H os) : ∀ v ∈ os, Oth K C x H v := fun v hv => by
  obtain ⟨r, y, e1, e2, e3, e4⟩ := h.2.2.2 v hv
  exact .inl ⟨r, y, e1, e2.ra, e3, e4⟩
end
theorem both {A : Prop} {Qf : Hp → Prop} {I : Hp → Prop} (h : (∀ G, I G → Qf G) → A) (k : ∀ G, I G → Qf G) : A := h k
/-- fewer patterns: more variables stand elsewhere -/
theorem hm_iff {ts : List Str} {ps : List (List Str)} : hasMore ts ps = false ↔ ∀ y ∈ ts, IsVr y → y ∈ tails ps := by
  unfold hasMore
  rw [List.any_eq_false]
  constructor
  · intro h y hy v
    have h1 := h y (varsIn_mem.mpr ⟨hy, v⟩)
    by_cases h2 : y ∈ varsIn (tails ps)
    · exact (varsIn_mem.mp h2).1
    · rw [decide_eq_false h2] at h1
      exact absurd rfl h1
  · intro h y hy
    obtain ⟨h1, h2⟩ := varsIn_mem.mp hy
    rw [decide_eq_true (varsIn_mem.mpr ⟨h y h1 h2, h2⟩)]
    exact fun z => nomatch z
/-- fewer patterns: more variables stand elsewhere -/
theorem hm_mono {ts : List Str} {ps qs : List (List Str)} (h : hasMore ts ps = false) (k : ∀ y ∈ tails ps, y ∈ tails qs) : hasMore ts qs = false := hm_iff.mpr fun y hy v => k y (hm_iff.mp h y hy v)
theorem hm_sub {ts ss : List Str} {ps : List (List Str)} (h : hasMore ts ps = false) (k : ∀ y ∈ ss, y ∈ ts ∨ y ∈ tails ps ∨ IsNm y) : hasMore ss ps = false := hm_iff.mpr fun y hy v => by
  rcases k y hy with h1 | h1 | h1
  · exact hm_iff.mp h y h1 v
  · exact h1
  · exact absurd v (nm_not_vr h1)
end Nv
set_option maxHeartbeats 4000000
namespace Nv
open PySem PySem.Spec PyProof.Rows L2
theorem any_dT {qs : List (List Str)} {p : List Str} : ((qs.map dT).any fun z => PyData.eqv z (dT p)) = decide (p ∈ qs) := by
  rw [List.any_map]
  by_cases h : p ∈ qs
  · rw [decide_eq_true h, List.any_eq_true]
    exact ⟨p, h, by
      show PyData.eqv (dT p) (dT p) = true
      rw [eqv_T]
      exact decide_eq_true rfl⟩
  · rw [decide_eq_false h, List.any_eq_false]
    intro q hq z
    have z2 : PyData.eqv (dT q) (dT p) = true := z
    rw [eqv_T] at z2
    exact h (of_decide_eq_true z2 ▸ hq)
def threeW : List Str := ["zz", "yy", "ww"]
theorem threeW_nm : ∀ w ∈ threeW, IsNm w := by decide +kernel
/-- the pairs of a term and a word that are not there yet -/
def freshP (qs : List (List Str)) (t : Str) (ws : List Str) : List (List Str) := (ws.filter fun w => decide ([t, w] ∉ qs)).map fun w => [t, w]
theorem freshP_app {qs : List (List Str)} {t w : Str} {ws : List Str} : freshP qs t (ws ++ [w]) = freshP qs t ws ++ (if [t, w] ∈ qs then [] else [[t, w]]) := by
  unfold freshP
  rw [List.filter_append, List.map_append]
  by_cases h : [t, w] ∈ qs
  · rw [if_pos h]
    simp [h]
  · rw [if_neg h]
    simp [h]
theorem pair_inj {t u v : Str} (h : ([t, u] : List Str) = [t, v]) : u = v := by
  injection h with _ h
  injection h
theorem freshP_some {qs : List (List Str)} {t : Str} (h : qs.length ≤ 2) : ∃ w rest, freshP qs t threeW = [t, w] :: rest ∧ IsNm w ∧ [t, w] ∉ qs := by
  have n1 : ("zz" : Str) ≠ "yy" := by decide +kernel
  have n2 : ("zz" : Str) ≠ "ww" := by decide +kernel
  have n3 : ("yy" : Str) ≠ "ww" := by decide +kernel
  cases g : threeW.filter fun w => decide ([t, w] ∉ qs) with
  | cons w rest =>
    have hw : w ∈ threeW.filter fun w => decide ([t, w] ∉ qs) := by rw [g]; exact List.mem_cons_self
    obtain ⟨h1, h2⟩ := List.mem_filter.mp hw
    exact ⟨w, rest.map fun w => [t, w], by unfold freshP; rw [g]; rfl, threeW_nm w h1, of_decide_eq_true h2⟩
  | nil =>
    exfalso
    have all : ∀ w ∈ threeW, [t, w] ∈ qs := fun w hw => by
      by_cases z : [t, w] ∈ qs
      · exact z
      · have : w ∈ threeW.filter fun w => decide ([t, w] ∉ qs) := List.mem_filter.mpr ⟨hw, decide_eq_true z⟩
        rw [g] at this
        cases this
    have a1 := all "zz" (by decide +kernel)
    have a2 := all "yy" (by decide +kernel)
    have a3 := all "ww" (by decide +kernel)
    match qs, h with
    | [], _ => cases a1
    | [a], _ =>
      have b1 := List.mem_singleton.mp a1
      have b2 := List.mem_singleton.mp a2
      exact n1 (pair_inj (b1.trans b2.symm))
    | [a, b], _ =>
      simp only [List.mem_cons, List.not_mem_nil, or_false] at a1 a2 a3
      rcases a1 with a1 | a1
      · rcases a2 with a2 | a2
        · exact n1 (pair_inj (a1.trans a2.symm))
        · rcases a3 with a3 | a3
          · exact n2 (pair_inj (a1.trans a3.symm))
          · exact n3 (pair_inj (a2.trans a3.symm))
      · rcases a2 with a2 | a2
        · rcases a3 with a3 | a3
          · exact n3 (pair_inj (a2.trans a3.symm))
          · exact n2 (pair_inj (a1.trans a3.symm))
        · exact n1 (pair_inj (a1.trans a2.symm))
    | _ :: _ :: _ :: _, h =>
      exact absurd h (by simp only [List.length_cons]; omega)
theorem cutN {ks : List V} : cutV ks none (some 1) = ks.take 1 := by
  cases ks with
  | nil => rfl
  | cons k ks => exact cutA _ (by rw [List.length_cons]; omega)
theorem PaL.take1 {H : Hp} {vs : List V} {ps : List (List Str)} (h : PaL H vs ps) : PaL H (vs.take 1) (ps.take 1) := by
  cases h with
  | nil => exact .nil
  | cons e h => exact .cons e .nil
theorem PaL.rev {H : Hp} {vs : List V} {ps : List (List Str)} (h : PaL H vs ps) : PaL H vs.reverse ps.reverse := by
  induction h with
  | nil => exact .nil
  | cons e _ ih =>
    rw [List.reverse_cons, List.reverse_cons]
    exact ih.app (.cons e .nil)
theorem tails_mem {ps : List (List Str)} {y : Str} : y ∈ tails ps ↔ ∃ p ∈ ps, y ∈ p.tail := by
  unfold tails
  rw [List.mem_flatten]
  constructor
  · rintro ⟨l, hl, hy⟩
    obtain ⟨p, hp, rfl⟩ := List.mem_map.mp hl
    exact ⟨p, hp, hy⟩
  · rintro ⟨p, hp, hy⟩
    exact ⟨_, List.mem_map.mpr ⟨p, hp, rfl⟩, hy⟩
/-- a pair more -/
theorem Rl.Ok.pair {x : Rl} (h : x.Ok) {qs : List (List Str)} (l : qs.length ≤ 300) (k : ∀ q ∈ qs, PairOk q) : (⟨x.l, x.h, x.ps, qs, x.ds⟩ : Rl).Ok := ⟨h.l, h.h, h.ps, h.pl, k, l, h.ds, h.dl⟩
theorem PairOk.term {t w : Str} (ht : IsVr t) (hw : IsNm w) : PairOk [t, w] := ⟨t, w, rfl, fun z => nm_not_vr hw (z ▸ ht), .inr ht, .inl hw, .inl ht⟩
end Nv
set_option maxHeartbeats 4000000
namespace Nv
open PySem PySem.Spec PyProof.Rows L2
structure QstOk (P : Program) (w : World) (K : PySem.W.Frag) (mg : Str → Option Value) (base : Heap) (CQ : Addr) : Prop where
  R : QC K CQ
  I : IC K CQ
  mkr : MakeOk P w K mg base CQ "Question" 5 ["self", "columns", "told", "pairs"] (spQInit CQ) [.none]
  eq : OwnOk P w K mg base CQ "__eq__" 1 ["self", "other"] (spQEq K CQ)
  ne : PySem.W.findIn K (.ref CQ) "__ne__" = some (some (.builtin "object.__ne__"))
  columns : PropOk P w K mg base CQ "columns" (spGetL CQ "_columns")
  told : PropOk P w K mg base CQ "told" (spGetL CQ "_told")
  pairs : PropOk P w K mg base CQ "pairs" (spGetL CQ "_pairs")
structure QClo (y : Ql) : Prop where
  c : hasMore y.cs y.ps = false
  q : hasMore y.qs.flatten y.ps = false
/-- the question y, made since H -/
def QAn (C : Addr) (H H' : Hp) (r : Addr) (x : Ql) : Prop := ∃ (dx l1 l2 l3 : Addr) (us us2 : List V), (H r = none ∧ H l1 = none ∧ H l2 = none ∧ H l3 = none) ∧ H' r = some (.ins C dx (qF l1 l2 l3)) ∧ H' l1 = some (.lst (x.cs.map V.str)) ∧ (H' l2 = some (.lst us) ∧ PaL H' us x.ps) ∧ H' l3 = some (.lst us2) ∧ PaL H' us2 x.qs
theorem QAn.ra {C : Addr} {H H' : Hp} {r : Addr} {x : Ql} (h : QAn C H H' r x) : QA C H' r x := by
  obtain ⟨dx, l1, l2, l3, us, us2, _, h⟩ := h
  exact ⟨dx, l1, l2, l3, us, us2, h⟩
theorem QAn.same {C : Addr} {H H' H1 : Hp} {r : Addr} {x : Ql} (h : QAn C H H' r x) (s : Same H' H1) : QAn C H H1 r x := by
  obtain ⟨dx, l1, l2, l3, us, us2, n, e, e1, ⟨e2, p2⟩, e3, p3⟩ := h
  exact ⟨dx, l1, l2, l3, us, us2, n, s _ _ e, s _ _ e1, ⟨s _ _ e2, p2.same s⟩, s _ _ e3, p3.same s⟩
theorem mk_q {H : Hp} {C x dx tc tt : Addr} {y : Ql} {us : List V} {vp : V} {Q : VK} (ok : y.Ok) (cl : QClo y) (nx : H x = none) (ndx : H dx = none) (etc : H tc = some (.lst (y.cs.map V.str))) (ett : H tt = some (.lst us)) (pp : PaL H us y.ps) (op : Opt H vp y.qs)
    (q : ∀ H', Same H H' → QAn C H H' x y → Q .non H') : spQInit C [.ref x, .ref tc, .ref tt, vp] (upd (upd H dx (.own x)) x (.ins C dx [])) Q E0 := by
  have sK : Same H (upd (upd H dx (.own x)) x (.ins C dx [])) := fun b o e => by
    rw [upd_ne (ne_of_none e nx), upd_ne (ne_of_none e ndx)]
    exact e
  have ex : upd (upd H dx (.own x)) x (.ins C dx []) x = some (.ins C dx []) := upd_same
  have mk : ∀ {H2 : Hp}, Sb x (upd (upd H dx (.own x)) x (.ins C dx [])) H2 → Same H H2 := fun sb => made_same (Same.refl H) nx ndx sb
  generalize upd (upd H dx (.own x)) x (.ins C dx []) = K2 at sK ex mk ⊢
  refine ⟨x, dx, tc, tt, y.cs, us, y.ps, vp, y.qs, rfl, ex, ⟨sK _ _ etc, ok.cs, ok.cl⟩, ⟨sK _ _ ett, pp.same sK, ok.ps, ok.pl⟩, ⟨op.same sK, ok.qs⟩, ⟨cl.c, cl.q⟩, ?_⟩
  intro l1 l2 l3 us2 H' f1 f2 f3 sb er el1 el2 pl2 el3 pl3
  exact q H' (mk sb) ⟨dx, l1, l2, l3, us, us2, ⟨nx, sK.free f1, sK.free f2, sK.free f3⟩, er, el1, ⟨el2, pl2⟩, el3, pl3⟩
theorem QAn.sbs {C : Addr} {ls : List Addr} {H H1 H2 : Hp} {r : Addr} {x : Ql} (h : QAn C H H1 r x) (s1 : Same H H1) (hl : ∀ l ∈ ls, ∃ xs, H l = some (.lst xs)) (s : Sbs ls H1 H2) : QA C H2 r x := by
  obtain ⟨dx, l1, l2, l3, us, us2, ⟨n1, n2, n3, n4⟩, e, e1, ⟨e2, p2⟩, e3, p3⟩ := h
  have no : ∀ {a : Addr}, H a = none → a ∉ ls := fun n z => by
    obtain ⟨xs, e⟩ := hl _ z
    rw [n] at e
    cases e
  have hl1 : ∀ l ∈ ls, ∃ xs, H1 l = some (.lst xs) := fun l hm => by
    obtain ⟨xs, e⟩ := hl l hm
    exact ⟨xs, s1 _ _ e⟩
  exact ⟨dx, l1, l2, l3, us, us2, s _ _ (no n1) e, s _ _ (no n2) e1, ⟨s _ _ (no n3) e2, p2.sbs hl1 s⟩, s _ _ (no n4) e3, p3.sbs hl1 s⟩
section
variable {K : PySem.W.Frag} {C : Addr} {H : Hp} {a c : Addr} {x y : Ql} {v : V} {Q : VK}
theorem eq_qs (R : QC K C) (I : IC K C) (ra : QA C H a x) (xo : x.Ok) (rc : QA C H c y) (yo : y.Ok) (q : Q (.bl (decide (x = y))) H) : rOwnEq K C (spQEq K C) (.ref a) (.ref c) H Q := by
  obtain ⟨dx, l1, l2, l3, us, us2, e, _⟩ := id ra
  obtain ⟨dx', m1, m2, m3, ws, ws2, e', _⟩ := id rc
  exact ⟨a, dx, _, _, rfl, e, .base (.ins e' R.cl I.ha I.hn I.ht I.hm), by simp [PySem.W.notFirst], a, x, _, rfl, ra, xo, .inl ⟨c, y, rfl, rc, yo, _, rfl, q⟩⟩
theorem ne_qs (R : QC K C) (I : IC K C) (ra : QA C H a x) (xo : x.Ok) (rc : QA C H c y) (yo : y.Ok) (q : Q (.bl (!decide (x = y))) H) : rOwnNe K C (spQEq K C) (.ref a) (.ref c) H Q := by
  obtain ⟨dx, l1, l2, l3, us, us2, e, _⟩ := id ra
  obtain ⟨dx', m1, m2, m3, ws, ws2, e', _⟩ := id rc
  exact ⟨a, dx, _, _, rfl, e, .base (.ins e' R.cl I.ha I.hn I.ht I.hm), by simp [PySem.W.notFirst], a, x, _, rfl, ra, xo, .inl ⟨c, y, rfl, rc, yo, _, rfl, q⟩⟩
end
theorem shw_Q {x : Ql} (h : x.Ok) : Shw 3 700000 (dQ x) := by
  refine shw_list (k := 2) (m := 126302) (fun d hd => ?_) (by show 2 + 3 * 126304 ≤ 700000; decide)
  simp only [List.mem_cons, List.not_mem_nil, or_false] at hd
  rcases hd with rfl | rfl | rfl
  · exact (shw_S h.cl fun p hp => (h.cs p hp).sht).le (by decide) (by decide)
  · exact shw_L h.pl fun p hp => (h.ps p hp).sht
  · exact shw_L h.ql fun p hp => (h.qs p hp).sht
/-- three lists that a question is made of -/
structure Tri (H : Hp) (ac at_ aq : Addr) (us uq : List V) (x : Ql) : Prop where
  c : H ac = some (.lst (x.cs.map V.str))
  t : H at_ = some (.lst us)
  ps : PaL H us x.ps
  q : H aq = some (.lst uq)
  qs : PaL H uq x.qs
theorem Tri.same {H H1 : Hp} {ac at_ aq : Addr} {us uq : List V} {x : Ql} (h : Tri H ac at_ aq us uq x) (s : Same H H1) : Tri H1 ac at_ aq us uq x := ⟨s _ _ h.c, s _ _ h.t, h.ps.same s, s _ _ h.q, h.qs.same s⟩
theorem Tri.rdd {P : Program} {w : World} {K : PySem.W.Frag} {H : Hp} {l ac at_ aq : Addr} {us uq : List V} {x : Ql} (h : Tri H ac at_ aq us uq x) (e : H l = some (.lst [.ref ac, .ref at_, .ref aq])) : Rdd P w K H (.ref l) (dQ x) :=
  rdd_lst e (rddAll_cons (rdd_S h.c) (rddAll_cons (rdd_L h.t h.ps) (rddAll_cons (rdd_L h.q h.qs) rddAll_nil)))
theorem at3_0 {a b c : V} : atI [a, b, c] 0 = some a := rfl
theorem at3_1 {a b c : V} : atI [a, b, c] 1 = some b := rfl
theorem at3_2 {a b c : V} : atI [a, b, c] 2 = some c := rfl
/-- the very same object -/
def DId : EqD := fun x y _ b => x = y ∧ (∃ a, x = .ref a) ∧ b = true
theorem mon_id : MonD DId := fun _ _ _ _ _ _ d => d
theorem eqB_id {X : Cx} : EqB X 0 DId := by
  intro A pins s σ H x y u v b sb I rx ry d
  obtain ⟨rfl, ⟨a, rfl⟩, rfl⟩ := d
  cases rx
  cases ry
  exact SeqAt.EqAt.same (A := A) (s := s) (.ref a) X.prog X.w X.xe _ ⟨rfl, H, I, Same.refl H⟩
/-- two lists of the very same objects -/
theorem dlst_id {H : Hp} {a c : Addr} {rs : List Addr} (ea : H a = some (.lst (rs.map V.ref))) (ec : H c = some (.lst (rs.map V.ref))) : DLst DId (.ref a) (.ref c) H true := by
  refine ⟨a, c, _, _, rfl, rfl, ea, ec, .inr ⟨rs.map fun _ => true, rfl, by rw [List.length_map, List.length_map], fun i u v t hu hv ht => ?_, ?_⟩⟩
  · rw [hu] at hv
    obtain ⟨r, _, rfl⟩ := at_ref hu
    refine ⟨Option.some.inj hv, ⟨r, rfl⟩, ?_⟩
    rw [List.getElem?_map] at ht
    cases g : rs[i]? with
    | none =>
      rw [g] at ht
      cases ht
    | some z =>
      rw [g] at ht
      exact (Option.some.inj ht).symm
  · rw [List.all_map]
    symm
    rw [List.all_eq_true]
    intro i _
    rfl
end Nv
set_option maxHeartbeats 4000000
namespace Nv
open PySem PySem.Spec PyProof.Rows L2
section
variable (P : Program) (w : World) (K : PySem.W.Frag) (mg : Str → Option Value) (base : Heap)
structure MethOk (C : Addr) (x : Str) (k : Nat) (ps : List Str) (sp : Sp) : Prop where
  ex : ∃ f fd, FnOk P w K mg base CX0 k f fd ps sp ∧ Meth K C x f ∧ Binds K fd ps []
structure PropOkN (C : Addr) (x : Str) (k : Nat) (sp : Sp) : Prop where
  ex : ∃ p g fd, PropOf K C x p g ∧ FnOk P w K mg base CX0 k g fd ["self"] sp ∧ Binds K fd ["self"] []
end
structure BookOk (P : Program) (w : World) (K : PySem.W.Frag) (mg : Str → Option Value) (base : Heap) (CR CB : Addr) : Prop where
  cl : Cls K CB
  na : NoAttr K CB "_rules"
  I : IC K CB
  mkr : MakeOk P w K mg base CB "Book" 3 ["self", "rules"] (spBookInit CR CB) []
  eq : OwnOk P w K mg base CB "__eq__" 3 ["self", "other"] (spBookEq K CR CB)
  ne : PySem.W.findIn K (.ref CB) "__ne__" = some (some (.builtin "object.__ne__"))
  len : OwnOk P w K mg base CB "__len__" 1 ["self"] (spBookLen CB)
  add : OwnOk P w K mg base CB "__add__" 5 ["self", "other"] (spBookAdd CR CB)
  sf : PySem.W.selfFirst K CB = true
  rules : MethOk P w K mg base CB "rules" 1 ["self"] (spGetL CB "_rules")
  labels : MethOk P w K mg base CB "labels" 3 ["self"] (spBookLabels CR CB)
  rule : MethOk P w K mg base CB "rule" 4 ["self", "label"] (spBookRule CR CB)
  without : MethOk P w K mg base CB "without" 5 ["self", "label"] (spBookWithout CR CB)
  plain : PropOkN P w K mg base CB "plain" 3 (spBookPlain CR CB)
  nLst : NoR K CB (.type "list")
theorem map_str_inj : ∀ {xs ys : List Str}, xs.map V.str = ys.map V.str → xs = ys
  | [], [], _ => rfl
  | [], _ :: _, h => nomatch h
  | _ :: _, [], h => nomatch h
  | x :: xs, y :: ys, h => by
    injection h with h1 h2
    injection h1 with h1
    rw [h1, map_str_inj h2]
theorem PaL.fn {H : Hp} {vs : List V} {ps qs : List (List Str)} (h : PaL H vs ps) (k : PaL H vs qs) : ps = qs := by
  induction h generalizing qs with
  | nil =>
    cases k
    rfl
  | cons e _ ih =>
    cases k with
    | cons e2 k2 =>
      rw [e] at e2
      injection e2 with e2
      injection e2 with e2
      rw [map_str_inj e2, ih k2]
theorem RA.fn {C : Addr} {H : Hp} {r : Addr} {x y : Rl} (h : RA C H r x) (k : RA C H r y) : x = y := by
  obtain ⟨dx, th, l1, l2, l3, us, us2, us3, e, et, ⟨e1, p1⟩, ⟨e2, p2⟩, e3, p3⟩ := h
  obtain ⟨dx', th', m1, m2, m3, ws, ws2, ws3, g, gt, ⟨g1, r1⟩, ⟨g2, r2⟩, g3, r3⟩ := k
  rw [e] at g
  injection g with g
  injection g with _ _ g
  injection g with ga g
  injection g with gb g
  injection g with gc g
  injection g with gd g
  injection g with ge g
  injection ga with _ ga
  injection ga with ga
  injection gb with _ gb
  injection gb with gb
  injection gc with _ gc
  injection gc with gc
  injection gd with _ gd
  injection gd with gd
  injection ge with _ ge
  injection ge with ge
  subst gb gc gd ge
  rw [et] at gt
  injection gt with gt
  injection gt with gt
  rw [e1] at g1
  injection g1 with g1
  injection g1 with g1
  subst g1
  rw [e2] at g2
  injection g2 with g2
  injection g2 with g2
  subst g2
  rw [e3] at g3
  injection g3 with g3
  injection g3 with g3
  subst g3
  obtain ⟨a, b, c, d, f⟩ := x
  obtain ⟨a', b', c', d', f'⟩ := y
  dsimp only at *
  rw [ga, map_str_inj gt, p1.fn r1, p2.fn r2, p3.fn r3]
theorem one_of {C : Addr} {H : Hp} {rs ss : List Addr} {xs ys : List Rl} (hx : RAs C H rs xs) (hy : RAs C H ss ys) : One rs ss xs ys := fun i r x y h1 h2 h3 h4 => by
  obtain ⟨x', e1, r1⟩ := hx.at_ h1
  obtain ⟨y', e2, r2⟩ := hy.at_ h2
  rw [h3] at e1
  rw [h4] at e2
  injection e1 with e1
  injection e2 with e2
  subst e1 e2
  exact r1.fn r2
/-- the book of rs, made since H -/
def BAn (C : Addr) (H H' : Hp) (b : Addr) (rs : List Addr) : Prop := ∃ dx l : Addr, (H b = none ∧ H l = none) ∧ H' b = some (.ins C dx [("_rules", .ref l)]) ∧ H' l = some (.lst (rs.map V.ref))
section
variable {C CR : Addr} {H H1 : Hp} {b c x dx a : Addr} {rs ss : List Addr} {xs ys : List Rl} {Q : VK} {K : PySem.W.Frag}
theorem BAn.ba (h : BAn C H H1 b rs) : BA C H1 b rs := by
  obtain ⟨dx, l, _, h⟩ := h
  exact ⟨dx, l, h⟩
theorem mk_book (nx : H x = none) (ndx : H dx = none) (ea : H a = some (.lst (rs.map V.ref))) (hx : RAs CR H rs xs) (nd : (xs.map Rl.l).Nodup) (le : xs.length ≤ 100)
    (q : ∀ H', Same H H' → BAn C H H' x rs → Q .non H') : spBookInit CR C [.ref x, .ref a] (upd (upd H dx (.own x)) x (.ins C dx [])) Q E0 := by
  have sK : Same H (upd (upd H dx (.own x)) x (.ins C dx [])) := fun b o e => by
    rw [upd_ne (ne_of_none e nx), upd_ne (ne_of_none e ndx)]
    exact e
  have ex : upd (upd H dx (.own x)) x (.ins C dx []) x = some (.ins C dx []) := upd_same
  have mk : ∀ {H2 : Hp}, Sb x (upd (upd H dx (.own x)) x (.ins C dx [])) H2 → Same H H2 := fun sb => made_same (Same.refl H) nx ndx sb
  generalize upd (upd H dx (.own x)) x (.ins C dx []) = K2 at sK ex mk ⊢
  exact ⟨x, dx, a, rs, xs, rfl, ex, sK _ _ ea, hx.same sK, nd, le, fun l1 H' n1 sb e1 e2 => q H' (mk sb) ⟨dx, l1, ⟨nx, sK.free n1⟩, e1, e2⟩⟩
theorem eq_books (cl : Cls K C) (I : IC K C) (ba : BA C H b rs) (hx : RAs CR H rs xs) (ox : ∀ x ∈ xs, x.Ok) (bc : BA C H c ss) (hy : RAs CR H ss ys) (oy : ∀ y ∈ ys, y.Ok) (q : ∀ H', Same H H' → Q (.bl (decide (xs = ys))) H') : rOwnEq K C (spBookEq K CR C) (.ref b) (.ref c) H Q := by
  obtain ⟨dx, l, e, _⟩ := id ba
  obtain ⟨dy, m, e', _⟩ := id bc
  exact ⟨b, dx, _, _, rfl, e, .base (.ins e' cl I.ha I.hn I.ht I.hm), by simp [PySem.W.notFirst], b, rs, xs, _, rfl, ba, hx, ox, .inl ⟨c, ss, ys, rfl, bc, hy, oy, one_of hx hy, fun H' s => ⟨_, rfl, q H' s⟩⟩⟩
theorem ne_books (cl : Cls K C) (I : IC K C) (ba : BA C H b rs) (hx : RAs CR H rs xs) (ox : ∀ x ∈ xs, x.Ok) (bc : BA C H c ss) (hy : RAs CR H ss ys) (oy : ∀ y ∈ ys, y.Ok) (q : ∀ H', Same H H' → Q (.bl (!decide (xs = ys))) H') : rOwnNe K C (spBookEq K CR C) (.ref b) (.ref c) H Q := by
  obtain ⟨dx, l, e, _⟩ := id ba
  obtain ⟨dy, m, e', _⟩ := id bc
  exact ⟨b, dx, _, _, rfl, e, .base (.ins e' cl I.ha I.hn I.ht I.hm), by simp [PySem.W.notFirst], b, rs, xs, _, rfl, ba, hx, ox, .inl ⟨c, ss, ys, rfl, bc, hy, oy, one_of hx hy, fun H' s => ⟨_, rfl, q H' s⟩⟩⟩
/-- book == list -/
theorem eq_no (cl : Cls K C) (ba : BA C H b rs) (hx : RAs CR H rs xs) (ox : ∀ x ∈ xs, x.Ok) {v : V} {t : Value} (ht : TyX K H v t) (n : NoR K C t) (q : Q (.bl false) H) : rOwnEq K C (spBookEq K CR C) (.ref b) v H Q := by
  obtain ⟨dx, l, e, _⟩ := id ba
  exact ⟨b, dx, _, t, rfl, e, ht, n.2, b, rs, xs, _, rfl, ba, hx, ox, .inr ⟨t, ht, n.1, _, rfl, q⟩⟩
end
theorem cut_to {rs : List Addr} {j : Nat} (h : j ≤ rs.length) : cutV (rs.map V.ref) none (some (j : Int)) = (rs.take j).map V.ref := by
  unfold cutV
  rw [HT.sIx_none, HT.sIx_nat, List.drop_zero, Nat.sub_zero, List.length_map, Nat.min_eq_left h, List.map_take]
theorem cut_from {rs : List Addr} {j : Nat} (h : j ≤ rs.length) : cutV (rs.map V.ref) (some (j : Int)) none = (rs.drop j).map V.ref := by
  unfold cutV
  rw [HT.sIx_none, HT.sIx_nat, List.length_map, Nat.min_eq_left h, List.map_drop, List.take_of_length_le (by rw [List.length_drop, List.length_map]; exact Nat.le_refl _)]
/-- lists of rules, or of texts, that are not one -/
def DRT (CR : Addr) : EqD := fun x y H b => DLs2 (DRule CR) x y H b ∨ DLs2 DFl x y H b
theorem mon_rt {CR : Addr} : MonD (DRT CR) := (mon_ls2 mon_rule).or (mon_ls2 mon_fl)
theorem eqB_rt {X : Cx} {C f : Addr} {fd : FuncData} (F : FnOk X.prog X.w X.K X.mg X.base CX0 1 f fd ["self", "other"] (spRuleEq X.K C)) (R : RC X.K C) (I0 : IC X.K C) (hs : PySem.W.findIn X.K (.ref C) "__eq__" = some (some (.ref f))) (hf : PySem.W.isFn X.K (.ref f) = true) (hb : Binds X.K fd ["self", "other"] []) : EqB X 2 (DRT C) :=
  (eqB_ls2 mon_rule (eqB_rule F R I0 hs hf hb)).or ((eqB_ls2 mon_fl eqB_fl).mono (by decide))
/-- an empty list and any -/
theorem dlst_nil {D : EqD} {H : Hp} {a c : Addr} {xs : List V} (ea : H a = some (.lst xs)) (ec : H c = some (.lst [])) : DLst D (.ref a) (.ref c) H (decide (xs = [])) := by
  refine ⟨a, c, _, _, rfl, rfl, ea, ec, ?_⟩
  cases xs with
  | nil => exact .inr ⟨[], rfl, rfl, fun i u v t hu => (nomatch hu), rfl⟩
  | cons x xs => exact .inl ⟨(by simp), (by simp)⟩
/-- the rule at a place exchanged for one with the same label -/
theorem exch_map {xs : List Rl} {i : Nat} {x y : Rl} (h : xs[i]? = some x) (e : y.l = x.l) : (xs.take i ++ [y] ++ xs.drop (i + 1)).map Rl.l = xs.map Rl.l := by
  have hi := (List.getElem?_eq_some_iff.mp h)
  obtain ⟨hl, hx⟩ := hi
  have hd : xs.drop i = x :: xs.drop (i + 1) := by rw [List.drop_eq_getElem_cons hl, hx]
  calc (xs.take i ++ [y] ++ xs.drop (i + 1)).map Rl.l = (xs.take i).map Rl.l ++ (y.l :: (xs.drop (i + 1)).map Rl.l) := by simp
    _ = (xs.take i).map Rl.l ++ (x :: xs.drop (i + 1)).map Rl.l := by rw [e] <;> rfl
    _ = xs.map Rl.l := by rw [← hd, ← List.map_append, List.take_append_drop]
theorem exch_ne {xs : List Rl} {i : Nat} {x y : Rl} (h : xs[i]? = some x) (e : y ≠ x) : xs.take i ++ [y] ++ xs.drop (i + 1) ≠ xs := fun z => by
  have hl := (List.getElem?_eq_some_iff.mp h).1
  have h2 : (xs.take i ++ [y] ++ xs.drop (i + 1))[i]? = some y := by
    rw [List.append_assoc, List.getElem?_append_right (by rw [List.length_take]; omega), List.length_take, Nat.min_eq_left (by omega), Nat.sub_self] <;> rfl
  rw [z, h] at h2
  exact e (Option.some.inj h2).symm
theorem All2.rev {α β : Type} {R : α → β → Prop} {xs : List α} {ys : List β} (h : All2 R xs ys) : All2 R xs.reverse ys.reverse := by
  induction h with
  | nil => exact .nil
  | cons e _ ih =>
    rw [List.reverse_cons, List.reverse_cons]
    exact ih.app (.cons e .nil)
theorem rev_ne {xs : List Rl} (nd : (xs.map Rl.l).Nodup) (h : 1 < xs.length) : xs.reverse ≠ xs := fun z => by
  have h0 : xs[0]? = xs.reverse[0]? := by rw [z]
  rw [List.getElem?_reverse (by omega)] at h0
  have e1 : (xs.map Rl.l)[0]? = (xs.map Rl.l)[xs.length - 1 - 0]? := by rw [List.getElem?_map, List.getElem?_map, h0]
  have l0 : 0 < (xs.map Rl.l).length := by rw [List.length_map]; omega
  have l1 : xs.length - 1 - 0 < (xs.map Rl.l).length := by rw [List.length_map]; omega
  rw [List.getElem?_eq_getElem l0, List.getElem?_eq_getElem l1] at e1
  exact List.pairwise_iff_getElem.mp nd 0 (xs.length - 1 - 0) l0 l1 (by omega) (Option.some.inj e1)
end Nv
set_option maxHeartbeats 4000000
namespace Nv
open PySem PySem.Spec PyProof.Rows L2
abbrev sRuleRight : Stmt := top 40
abbrev nRR : List Str := ["_law_rule_here", "_law_row", "_law_given", "_law_part", "_law_noted", "_law_same", "_law_turn", "_law_told_here", "_law_others", "_law_term", "_law_word", "_law_new", "_law_other"]
theorem scRuleRight : FnScope nRR ["_law_rule_here", "_law_row"] (defScope sRuleRight) := ⟨rfl, rfl, rfl, by decide +kernel, rfl, by decide +kernel, by decide +kernel⟩
/-- what the law's judging knows of its rule beside -/
structure RRx (x : Rl) : Prop where
  ok : x.Ok
  clo : Clo x
  l : x.l ≠ "other"
  pl : x.ps.length ≤ 10
  ql : x.qs.length ≤ 2
  dl : x.ds.length ≤ 2
  h : x.h ≠ (["never", "a"] : List Str)
  d : (["never", "a"] : List Str) ∉ x.ds
section
variable {P : Program} {w : World} {K : PySem.W.Frag} {mg : Str → Option Value} {base : Heap}
def spRuleRight (CR : Addr) : Sp := fun vs H Q _ => ∃ (r ar th tt tq td : Addr) (us uq ud : List V) (x : Rl), vs = [.ref r, .ref ar] ∧ RA CR H r x ∧ Row H ar th tt tq td us uq ud x ∧ RRx x ∧ ∀ H', Same H H' → Q (.bl true) H'
set_option maxHeartbeats 8000000
theorem ok_ruleRight {f CR : Addr} {fd : FuncData} (F : Fun K "_law_rule_right" "_law_rule_right" sRuleRight f fd) (T : RuleOk P w K mg base CR) (B : Bp mg) (B2 : Bl mg)
    (SP : CallOk P w K mg base "_law_spoils" 1 ["_law_lists"] (spSpoils K)) (VS : CallOk P w K mg base "_law_variables" 1 ["_law_told_here"] (spVariables K)) (rp : mg "repr" = none) (sy : ∃ o, base.get? sysModules = some o) :
    RunG P w K mg base 7 f fd ["_law_rule_here", "_law_row"] (spRuleRight CR) := by
  obtain ⟨fI, dI, GI, MI, gR, bI'⟩ := T.mkr.ex
  have bI5 : Binds K dI _ [] := bI' 2 (by decide)
  have bI4 : Binds K dI _ [.none] := bI' 1 (by decide)
  obtain ⟨fE, dE, GE, hs, hf, bE⟩ := T.eq.ex
  obtain ⟨fS, dS', GS, kS, gS, bS⟩ := SP.ex
  obtain ⟨fV, dV, GV, kV, gV, bV⟩ := VS.ex
  obtain ⟨p1, g1, d1, PO1, PF1, PB1⟩ := T.label.ex
  obtain ⟨p2, g2, d2, PO2, PF2, PB2⟩ := T.head.ex
  obtain ⟨p3, g3, d3, PO3, PF3, PB3⟩ := T.told.ex
  obtain ⟨p4, g4, d4, PO4, PF4, PB4⟩ := T.pairs.ex
  obtain ⟨p5, g5, d5, PO5, PF5, PB5⟩ := T.denied.ex
  have hne := T.ne
  have hmo := T.I.hm
  refine run_ofG F scRuleRight (fun vs H Q E h => ?_) (fun cdv A outer s H vs Q hg hr h => ?_)
  · obtain ⟨r, ar, th, tt, tq, td, us, uq, ud, x, rfl, _⟩ := h
    rfl
  · obtain ⟨r, ar, th, tt, tq, td, us, uq, ud, x, rfl, ra, row, rx, q⟩ := h
    have hr1 : Room 1 _ := hr.mono (by decide)
    have hr2 : Room 2 _ := hr.mono (by decide)
    have hu65 : (A.deeper (envOfC "_law_rule_right" (defScope sRuleRight) s.heap.objs.size f cdv)).units + 65 < cLine := by have := hr.un; omega
    refine ⟨_, pss_cons (ps_setLc (i := 2) (own := [("_law_part", 3)]) (g := gName 3) (tt := tYes) (te := tIf (tB (tCB (rIsi K) (tCons (tVar 3) (tCons (tC (V.ty "list")) tNil)))) (tCB (fun xs H Q => ∃ p ys, xs = [V.ref p] ∧ (SqL K H p ys ∨ SqT K H p ys) ∧ ∀ l, H l = none → Q (.ref l) (upd H l (.lst ys))) (tCons (tVar 3) tNil)) (tVar 3)) rfl scRuleRight.nd rfl rfl (sw_true rfl rfl rfl (by decide +kernel))
        (pi_list (pv 1)) (blkOk_by (own := [("_law_part", 3)]) (N := nRR) (sc := defScope sRuleRight) (by decide +kernel))
        (fun _ _ _ _ _ => pg_name (i := 3) scRuleRight.nd rfl (Or.inl rfl)) (fun _ _ _ _ _ => pts_nil)
        (fun _ _ _ _ _ => by exact (pe_ifExp (pt_val (pe_callB call_isi (by rfl) B.isi bootIsi (pa_cons (pv 3) (pa_cons (pe_bltn (v := V.ty "list") (by rfl) B.lst PyProof.Rows.boot_list rfl) pa_nil)))) (pe_callTy call_list_of (by rfl) B.lst PyProof.Rows.boot_list (pa_cons (pv 3) pa_nil)) (pv 3))))
      (pss_cons (ps_set (i := 4) scRuleRight.nd rfl (Or.inl rfl) (by exact (pe_callB (call_repr hg sy hr1.units) (by rfl) rp (by decide +kernel) (pa_cons (pv 2) pa_nil))))
      (pss_cons (ps_set (i := 5) scRuleRight.nd rfl (Or.inl rfl) (by exact (pe_make MI GI hr (by rfl) gR bI5 .nil pass0 (pa_cons (pe_ix ix_list (pv 2) pe_int (fun _ _ => rfl)) (pa_cons (pe_ix ix_list (pv 2) pe_int (fun _ _ => rfl)) (pa_cons (pe_ix ix_list (pv 2) pe_int (fun _ _ => rfl)) (pa_cons (pe_ix ix_list (pv 2) pe_int (fun _ _ => rfl)) (pa_cons (pe_ix ix_list (pv 2) pe_int (fun _ _ => rfl)) pa_nil))))))))
      (pss_cons (ps_if (PW.pt (pw_or (pt_cmpR op_ne (by exact (pe_callB (call_repr hg sy hr1.units) (by rfl) rp (by decide +kernel) (pa_cons (pv 2) pa_nil))) (pv 4) (nomark _)) (pw_or (pt_not (pt_cmpR (op_ownEq GE hr1 hs hf bE) (pv 0) (pv 5) (nomark _))) (pw_or1 (pt_cmpR (op_ownNe GE hr2 hs hne hmo hf bE) (pv 0) (pv 5) (nomark _)))))) (pss_one (ps_ret pe_bl)) pss_nil)
      (pss_cons (ps_expr (by exact (pe_call GS hr1 (by rfl) gS kS bS .nil pass0 (pa_cons (pe_slice sl_list (pv 2) (po_some pe_int) po_none) pa_nil))))
      (pss_cons (ps_for PassesOwn.never rfl (pi_range1 rfl B2.rg (pa_cons pe_int pa_nil)) (pg_name (i := 6) scRuleRight.nd rfl (Or.inl rfl))
        (pss_cons (ps_set (i := 7) scRuleRight.nd rfl (Or.inl rfl) (pe_lst (pa_cons (pe_prop (pv 5) T.R.cl PO1 PF1 hr2 PB1 .nil pass0 rfl) (pa_cons (pe_prop (pv 5) T.R.cl PO2 PF2 hr2 PB2 .nil pass0 rfl) (pa_cons (pe_prop (pv 5) T.R.cl PO3 PF3 hr2 PB3 .nil pass0 rfl) (pa_cons (pe_prop (pv 5) T.R.cl PO4 PF4 hr2 PB4 .nil pass0 rfl) (pa_cons (pe_prop (pv 5) T.R.cl PO5 PF5 hr2 PB5 .nil pass0 rfl) pa_nil)))))))
        (pss_cons (ps_if (PW.pt (pw_or (pt_cmpR op_ne (by exact (pe_callB (call_repr hg sy hr1.units) (by rfl) rp (by decide +kernel) (pa_cons (pv 7) pa_nil))) (by exact (pe_callB (call_repr hg sy hr1.units) (by rfl) rp (by decide +kernel) (pa_cons (pv 1) pa_nil))) (nomark _)) (pw_or1 (pt_not (pt_cmpR (op_ownEq GE hr1 hs hf bE) (pv 0) (pv 5) (nomark _)))))) (pss_one (ps_ret pe_bl)) pss_nil)
        (pss_one (ps_expr (by exact (pe_call GS hr1 (by rfl) gS kS bS .nil pass0 (pa_cons (pe_slice sl_list (pv 7) (po_some pe_int) po_none) pa_nil)))))))) 
      (pss_cons (ps_set (i := 8) scRuleRight.nd rfl (Or.inl rfl) (pe_lst (pa_cons (by exact (pe_make MI GI hr (by rfl) gR bI5 .nil pass0 (pa_cons pe_str (pa_cons (pe_ix ix_list (pv 1) (pe_int) (fun _ _ => rfl)) (pa_cons (pe_ix ix_list (pv 1) (pe_int) (fun _ _ => rfl)) (pa_cons (pe_ix ix_list (pv 1) (pe_int) (fun _ _ => rfl)) (pa_cons (pe_ix ix_list (pv 1) (pe_int) (fun _ _ => rfl)) pa_nil))))))) pa_nil)))
      (pss_cons (ps_expr (pe_bm PySem.F.plainAttrs_list PySem.F.slot_list_append PySem.F.type_list_append mt_append (pv 8) (pa_cons (by exact (pe_make MI GI hr (by rfl) gR bI5 .nil pass0 (pa_cons (pe_ix ix_list (pv 1) (pe_int) (fun _ _ => rfl)) (pa_cons (pe_ix ix_list (pv 1) (pe_int) (fun _ _ => rfl)) (pa_cons (pe_op op_cat (pe_ix ix_list (pv 1) (pe_int) (fun _ _ => rfl)) (pe_lst (pa_cons (pe_tup (pa_cons pe_str (pa_cons pe_str pa_nil))) pa_nil))) (pa_cons (pe_ix ix_list (pv 1) (pe_int) (fun _ _ => rfl)) (pa_cons (pe_ix ix_list (pv 1) (pe_int) (fun _ _ => rfl)) pa_nil))))))) pa_nil)))
      (pss_cons (ps_for PassesOwn.never rfl (pi_list (pe_slice sl_list (by exact (pe_call GV hr1 (by rfl) gV kV bV .nil pass0 (pa_cons (pe_ix ix_list (pv 1) (pe_int) (fun _ _ => rfl)) pa_nil))) po_none (po_some pe_int))) (pg_name (i := 9) scRuleRight.nd rfl (Or.inr rfl))
        (pss_cons (ps_set (i := 11) scRuleRight.nd rfl (Or.inl rfl) (pe_slice sl_list (by exact (pe_lc (own := [("_law_word", 10)]) (g := gName 10) (tt := tTest (tOp (rNotInD K) (tTup (tCons (tVar 9) (tCons (tVar 10) tNil))) (tOp (rIxL K) (tVar 1) (tC (V.int 3))))) (te := tTup (tCons (tVar 9) (tCons (tVar 10) tNil))) rfl scRuleRight.nd (pi_tup (pe_tup (pa_cons pe_str (pa_cons pe_str (pa_cons pe_str pa_nil)))))
          (blkOk_by (own := [("_law_word", 10)]) (N := nRR) (sc := defScope sRuleRight) (by decide +kernel))
          (fun _ _ _ _ _ => pg_name (i := 10) scRuleRight.nd rfl (Or.inl rfl)) (fun _ _ _ _ _ => pts_one (by exact (pt_cmpR (op_notInD hu65) (pe_tup (pa_cons (pv 9) (pa_cons (pv 10) pa_nil))) (pe_ix ix_list (pv 1) (pe_int) (fun _ _ => rfl)) (by rfl)))) (fun _ _ _ _ _ => by exact (pe_tup (pa_cons (pv 9) (pa_cons (pv 10) pa_nil)))))) po_none (po_some pe_int)))
        (pss_one (ps_expr (pe_bm PySem.F.plainAttrs_list PySem.F.slot_list_append PySem.F.type_list_append mt_append (pv 8) (pa_cons (by exact (pe_make MI GI hr (by rfl) gR bI5 .nil pass0 (pa_cons (pe_ix ix_list (pv 1) (pe_int) (fun _ _ => rfl)) (pa_cons (pe_ix ix_list (pv 1) (pe_int) (fun _ _ => rfl)) (pa_cons (pe_ix ix_list (pv 1) (pe_int) (fun _ _ => rfl)) (pa_cons (pe_op op_cat (pe_slice sl_list (pe_ix ix_list (pv 1) (pe_int) (fun _ _ => rfl)) po_none (po_some pe_int)) (pv 11)) (pa_cons (pe_ix ix_list (pv 1) (pe_int) (fun _ _ => rfl)) pa_nil))))))) pa_nil))))))
      (pss_cons (ps_if (pt_cmpR (op_neD hr1.units) (pe_revL (pe_ix ix_list (pv 1) (pe_int) (fun _ _ => rfl))) (pe_ix ix_list (pv 1) (pe_int) (fun _ _ => rfl)) (nomark _))
        (pss_one (ps_expr (pe_bm PySem.F.plainAttrs_list PySem.F.slot_list_append PySem.F.type_list_append mt_append (pv 8) (pa_cons (by exact (pe_make MI GI hr (by rfl) gR bI5 .nil pass0 (pa_cons (pe_ix ix_list (pv 1) (pe_int) (fun _ _ => rfl)) (pa_cons (pe_ix ix_list (pv 1) (pe_int) (fun _ _ => rfl)) (pa_cons (pe_revL (pe_ix ix_list (pv 1) (pe_int) (fun _ _ => rfl))) (pa_cons (pe_ix ix_list (pv 1) (pe_int) (fun _ _ => rfl)) (pa_cons (pe_ix ix_list (pv 1) (pe_int) (fun _ _ => rfl)) pa_nil))))))) pa_nil)))) pss_nil)
      (pss_cons (ps_set (i := 8) scRuleRight.nd rfl (Or.inl rfl) (pe_op op_cat (pv 8) (pe_lst (pa_cons (by exact (pe_make MI GI hr (by rfl) gR bI5 .nil pass0 (pa_cons (pe_ix ix_list (pv 1) (pe_int) (fun _ _ => rfl)) (pa_cons (pe_ix ix_list (pv 1) (pe_int) (fun _ _ => rfl)) (pa_cons (pe_ix ix_list (pv 1) (pe_int) (fun _ _ => rfl)) (pa_cons (pe_ix ix_list (pv 1) (pe_int) (fun _ _ => rfl)) (pa_cons (pe_op op_cat (pe_slice sl_list (pe_ix ix_list (pv 1) (pe_int) (fun _ _ => rfl)) po_none (po_some pe_int)) (pe_lst (pa_cons (pe_tup (pa_cons pe_str (pa_cons pe_str pa_nil))) pa_nil))) pa_nil))))))) pa_nil))))
      (pss_cons (ps_set (i := 8) scRuleRight.nd rfl (Or.inl rfl) (pe_op op_cat (pv 8) (pe_lst (pa_cons (by exact (pe_make MI GI hr (by rfl) gR bI5 .nil pass0 (pa_cons (pe_ix ix_list (pv 1) (pe_int) (fun _ _ => rfl)) (pa_cons (pe_tup (pa_cons pe_str (pa_cons pe_str pa_nil))) (pa_cons (pe_ix ix_list (pv 1) (pe_int) (fun _ _ => rfl)) (pa_cons (pe_ix ix_list (pv 1) (pe_int) (fun _ _ => rfl)) (pa_cons (pe_ix ix_list (pv 1) (pe_int) (fun _ _ => rfl)) pa_nil))))))) (pa_cons pe_non (pa_cons pe_str (pa_cons (pe_callTy call_tuple_of (by rfl) B2.tup PyProof.Rows.boot_tuple (pa_cons (pv 1) pa_nil)) (pa_cons (pe_callTy call_list_of (by rfl) B.lst PyProof.Rows.boot_list (pa_cons (pv 1) pa_nil)) pa_nil))))))))
      (pss_cons (ps_if (PW.pt (pw_and (pt_cmpR (op_eqD hr1.units) (pe_ix ix_list (pv 1) (pe_int) (fun _ _ => rfl)) (pe_lst pa_nil) (nomark _)) (pw_and1 (pt_not (pt_cmpR (op_ownEq GE hr1 hs hf bE) (pv 0) (by exact (pe_make MI GI hr (by rfl) gR bI5 .nil pass0 (pa_cons (pe_ix ix_list (pv 1) (pe_int) (fun _ _ => rfl)) (pa_cons (pe_ix ix_list (pv 1) (pe_int) (fun _ _ => rfl)) (pa_cons (pe_ix ix_list (pv 1) (pe_int) (fun _ _ => rfl)) (pa_cons pe_non (pa_cons (pe_ix ix_list (pv 1) (pe_int) (fun _ _ => rfl)) pa_nil))))))) (nomark _)))))) (pss_one (ps_ret pe_bl)) pss_nil)
      (pss_cons (ps_if (PW.pt (pw_and (pt_cmpR (op_eqD hr1.units) (pe_ix ix_list (pv 1) (pe_int) (fun _ _ => rfl)) (pe_lst pa_nil) (nomark _)) (pw_and1 (pt_not (pt_cmpR (op_ownEq GE hr1 hs hf bE) (pv 0) (by exact (pe_make MI GI hr (by rfl) gR bI4 (show Vals [V.non] [Value.none] from .cons rfl .nil) pass0 (pa_cons (pe_ix ix_list (pv 1) (pe_int) (fun _ _ => rfl)) (pa_cons (pe_ix ix_list (pv 1) (pe_int) (fun _ _ => rfl)) (pa_cons (pe_ix ix_list (pv 1) (pe_int) (fun _ _ => rfl)) (pa_cons (pe_ix ix_list (pv 1) (pe_int) (fun _ _ => rfl)) pa_nil)))))) (nomark _)))))) (pss_one (ps_ret pe_bl)) pss_nil)
      (pss_cons (ps_for PassesOwn.never rfl (pi_list (pv 8)) (pg_name (i := 12) scRuleRight.nd rfl (Or.inl rfl))
        (pss_one (ps_if (PW.pt (pw_or (pt_cmpR (op_ownEq GE hr1 hs hf bE) (pv 0) (pv 12) (nomark _)) (pw_or1 (pt_not (pt_cmpR (op_ownNe GE hr2 hs hne hmo hf bE) (pv 0) (pv 12) (nomark _)))))) (pss_one (ps_ret pe_bl)) pss_nil)))
      (pss_one (ps_ret (pe_cmpR (op_ownEq GE hr1 hs hf bE) (pv 0) (by exact (pe_make MI GI hr (by rfl) gR bI5 .nil pass0 (pa_cons (pe_ix ix_list (pv 1) (pe_int) (fun _ _ => rfl)) (pa_cons (pe_ix ix_list (pv 1) (pe_int) (fun _ _ => rfl)) (pa_cons (pe_callTy call_list_of (by rfl) B.lst PyProof.Rows.boot_list (pa_cons (pe_ix ix_list (pv 1) (pe_int) (fun _ _ => rfl)) pa_nil)) (pa_cons (pe_callTy call_list_of (by rfl) B.lst PyProof.Rows.boot_list (pa_cons (pe_ix ix_list (pv 1) (pe_int) (fun _ _ => rfl)) pa_nil)) (pa_cons (pe_callTy call_list_of (by rfl) B.lst PyProof.Rows.boot_list (pa_cons (pe_ix ix_list (pv 1) (pe_int) (fun _ _ => rfl)) pa_nil)) pa_nil))))))) (nomark _)))))))))))))))))), ?_⟩
    have ft := (shw_R rx.ok).fits (by decide) (by decide)
    have ql : x.qs.length ≤ 300 := rx.ok.ql
    have dl : x.ds.length ≤ 300 := rx.ok.dl
    -- given
    refine ⟨_, rfl, ar, rfl, ⟨_, SqL.of row.ar⟩, fun D nD => ?_⟩
    refine lc_list (K := K) (a := ar) (xs := [.str x.l, .ref th, .ref tt, .ref tq, .ref td]) (fun i H' => Same H H' ∧ ∃ gs, H' D = some (.lst gs) ∧ gs.length ≤ i ∧ All2 (Cop H D H') (([.str x.l, .ref th, .ref tt, .ref tq, .ref td] : List V).take i) gs) ⟨same_new nD, [], upd_same, Nat.le_refl _, .nil⟩ (fun i H' _ y => SqL.of (y.1 _ _ row.ar)) ?_ ?_
    · rintro i v H1 hi ⟨s1, gs, e1, hl, hc⟩
      have hvk : (∃ z, v = .str z) ∨ (∃ t ys, v = .ref t ∧ H t = some (.tup ys)) ∨ (∃ t ys, v = .ref t ∧ H t = some (.lst ys)) := by
        have hm := List.mem_of_getElem? hi
        simp only [List.mem_cons, List.not_mem_nil, or_false] at hm
        rcases hm with rfl | rfl | rfl | rfl | rfl
        · exact .inl ⟨_, rfl⟩
        · exact .inr (.inl ⟨_, _, rfl, row.th⟩)
        · exact .inr (.inr ⟨_, _, rfl, row.tt⟩)
        · exact .inr (.inr ⟨_, _, rfl, row.tq⟩)
        · exact .inr (.inr ⟨_, _, rfl, row.td⟩)
      have hi5 : i < 5 := (List.getElem?_eq_some_iff.mp hi).1
      have hll : gs.length < sizeLine := Nat.lt_of_le_of_lt (by omega : _ ≤ 1000) (by decide)
      have pD : ∀ {o : HO} (q : Addr) (u : HO), q ≠ D → H1 q = some u → upd H1 D o q = some u := fun q u n e => by
        rw [upd_ne n]
        exact e
      have lg : ∀ v : V, (gs ++ [v]).length ≤ i + 1 := fun v => by
        rw [List.length_append, List.length_singleton]
        omega
      rcases hvk with ⟨z, rfl⟩ | ⟨t, ys, rfl, et⟩ | ⟨t, ys, rfl, et⟩
      · refine ⟨rfl, _, rfl, _, _, _, _, false, rfl, .ty _, .base (.str _), kit_ty (by decide +kernel), false, rfl, iteF ⟨_, rfl, gs, e1, hll, ⟨same_put s1 nD, _, upd_same, lg _, ?_⟩⟩⟩
        rw [take_one hi]
        exact (hc.imp fun _ _ h => h.put pD).app (.cons (.inl ⟨rfl, fun p xs e => by cases e⟩) .nil)
      · refine ⟨rfl, _, rfl, _, _, _, _, false, rfl, .ty _, tyx_tup (s1 _ _ et), kit_ty (by decide +kernel), false, rfl, iteF ⟨_, rfl, gs, e1, hll, ⟨same_put s1 nD, _, upd_same, lg _, ?_⟩⟩⟩
        rw [take_one hi]
        exact (hc.imp fun _ _ h => h.put pD).app (.cons (.inl ⟨rfl, fun p xs e z => by
          injection e with e
          rw [← e, et] at z
          cases z⟩) .nil)
      · refine ⟨rfl, _, rfl, _, _, _, _, true, rfl, .ty _, tyx_lst (s1 _ _ et), kit_ty (by decide +kernel), true, rfl, iteT ⟨_, rfl, t, ys, rfl, .inl (SqL.of (s1 _ _ et)), fun l nl => ⟨gs, same_new nl _ _ e1, hll, ⟨same_put (same_put s1 (s1.free nl)) nD, _, upd_same, lg _, ?_⟩⟩⟩⟩
        have lD : l ≠ D := fun z => by
          rw [z, e1] at nl
          cases nl
        rw [take_one hi]
        refine (hc.imp fun _ _ h => h.put fun q u n e => ?_).app (.cons (.inr ⟨t, l, ys, rfl, rfl, et, s1.free nl, lD, ?_⟩) .nil)
        · rw [upd_ne n]
          exact same_new nl _ _ e
        · rw [upd_ne lD, upd_same]
    rintro H1 ⟨s1, gs, e1, _, hc⟩
    obtain ⟨q1, q2, q3, rfl, ⟨m1, g1⟩, ⟨m2, g2⟩, ⟨m3, g3⟩⟩ := copied (gs := gs) row hc
    have rg : Row H1 D th q1 q2 q3 us uq ud x := ⟨e1, s1 _ _ row.th, g1, row.ps.same s1, g2, row.qs.same s1, g3, row.ds.same s1⟩
    clear hc e1
    refine (show ∀ G : Hp, H1 = G → tSeq _ _ { nx := fun _ H' => Q .non H', rt := Q } [some (.ref r), some (.ref ar), some (.ref D), none, none, none, none, none, none, none, none, none, none] G from fun G hG => ?_) _ rfl
    subst hG

    -- noted
    refine ⟨_, rfl, D, dR x, rfl, rg.rdd, ft.1, ft.2.1, ft.2.2, ?_⟩
    -- same
    refine ⟨_, rfl, D, _, _, _, rfl, rfl, SqL.of rg.ar, at5_0, _, rfl, D, _, _, _, rfl, rfl, SqL.of rg.ar, at5_1, _, rfl, D, _, _, _, rfl, rfl, SqL.of rg.ar, at5_2, _, rfl, D, _, _, _, rfl, rfl, SqL.of rg.ar, at5_3, _, rfl, D, _, _, _, rfl, rfl, SqL.of rg.ar, at5_4, fun sx dx nsx ndx _ => mk_rule (y := x) rx.ok rx.clo nsx ndx rg.th rg.tt rg.ps (opt_of rg.tq rg.qs ql) (opt_of rg.td rg.ds dl) fun H2 s2 rn => ⟨rfl, ?_⟩⟩
    have rg2 := rg.same s2
    refine (show ∀ G : Hp, H2 = G → tSeq _ _ { nx := fun _ H' => Q .non H', rt := Q } [some (.ref r), some (.ref ar), some (.ref D), none, some (.str (dR x).shown), some (.ref sx), none, none, none, none, none, none, none] G from fun G hG => ?_) _ rfl
    subst hG

    -- repr, ==, !=
    refine ⟨_, rfl, D, dR x, rfl, rg2.rdd, ft.1, ft.2.1, ft.2.2, _, rfl, rfl, _, rfl, ?_⟩
    rw [decide_eq_true (rfl : V.str (dR x).shown = V.str (dR x).shown)]
    refine iteF ⟨_, rfl, _, rfl, eq_rules T.R T.I (ra.same (s1.trans s2)) rx.ok rn.ra rx.ok ⟨_, rfl, ?_⟩⟩
    rw [decide_eq_true (rfl : x = x)]
    refine iteF ⟨_, rfl, _, rfl, ne_rules T.R T.I (ra.same (s1.trans s2)) rx.ok rn.ra rx.ok ⟨_, rfl, ?_⟩⟩
    rw [decide_eq_true (rfl : x = x)]
    refine iteF ?_
    refine (show ∀ G : Hp, H2 = G → tSeq _ _ { nx := fun _ H' => Q .non H', rt := Q } [some (.ref r), some (.ref ar), some (.ref D), none, some (.str (dR x).shown), some (.ref sx), none, none, none, none, none, none, none] G from fun G hG => ?_) _ rfl
    subst hG

    -- spoils
    refine ⟨_, rfl, 2, rfl, D, _, rfl, SqL.of rg2.ar, fun pp np => ?_⟩
    rw [cut5_2]
    have hq : ∀ l ∈ [q1, q2, q3], (∃ xs : List V, H2 l = some (.lst xs) ∧ xs.length ≤ 1000) ∧ H l = none := fun l hl => by
      have u1 := rx.ok.pl
      simp only [List.mem_cons, List.not_mem_nil, or_false] at hl
      rcases hl with rfl | rfl | rfl
      · exact ⟨⟨_, rg2.tt, by rw [rg2.ps.len]; omega⟩, m1⟩
      · exact ⟨⟨_, rg2.tq, by rw [rg2.qs.len]; omega⟩, m2⟩
      · exact ⟨⟨_, rg2.td, by rw [rg2.ds.len]; omega⟩, m3⟩
    have npq : pp ∉ [q1, q2, q3] := fun z => by
      obtain ⟨⟨xs, e, _⟩, _⟩ := hq pp z
      rw [np] at e
      cases e
    refine ⟨pp, [q1, q2, q3], rfl, SqL.of upd_same, npq, by show 3 ≤ 1000; decide, fun l hl => ?_, fun H3 sb _ => ?_⟩
    · obtain ⟨⟨xs, e, k⟩, _⟩ := hq l hl
      exact ⟨xs, same_new np _ _ e, k⟩
    have s3 : Same H H3 := Sbs.same (same_put (s1.trans s2) ((s1.trans s2).free np)) (fun l hl => (hq l hl).2) sb
    have rs : RA CR H3 sx x := by
      refine RAn.sbs (H1 := upd H2 pp (.lst [.ref q1, .ref q2, .ref q3])) ?_ (s2.trans (same_new np)) (fun l hl => ?_) sb
      · obtain ⟨dx', th', l1, l2, l3, us', us2, us3, nn, e, et, ⟨e1, p1⟩, ⟨e2, p2⟩, e3, p3⟩ := rn
        have sp : Same H2 (upd H2 pp (.lst [.ref q1, .ref q2, .ref q3])) := same_new np
        exact ⟨dx', th', l1, l2, l3, us', us2, us3, nn, sp _ _ e, sp _ _ et, ⟨sp _ _ e1, p1.same sp⟩, ⟨sp _ _ e2, p2.same sp⟩, sp _ _ e3, p3.same sp⟩
      · simp only [List.mem_cons, List.not_mem_nil, or_false] at hl
        rcases hl with rfl | rfl | rfl
        · exact ⟨_, rg.tt⟩
        · exact ⟨_, rg.tq⟩
        · exact ⟨_, rg.td⟩
    have ra3 := ra.same s3
    have row3 := row.same s3
    clear rn rg2 rg sb
    refine (show ∀ G : Hp, H3 = G → tSeq _ _ { nx := fun _ H' => Q .non H', rt := Q } [some (.ref r), some (.ref ar), some (.ref D), none, some (.str (dR x).shown), some (.ref sx), none, none, none, none, none, none, none] G from fun G hG => ?_) _ rfl
    subst hG

    -- shown twice
    refine ⟨2, rfl, by decide, by decide, for_range (n := 2) (fun _ σ H' => ∃ o t, σ = [some (.ref r), some (.ref ar), some (.ref D), none, some (.str (dR x).shown), some (.ref sx), o, t, none, none, none, none, none] ∧ Same H3 H') ⟨_, _, rfl, Same.refl _⟩ ?_ ?_⟩
    · rintro i σ H4 hi ⟨o, t, rfl, s4⟩
      obtain ⟨dx', th', l1, l2, l3, us', us2, us3, e, et, ⟨e1, p1⟩, ⟨e2, p2⟩, e3, p3⟩ := rs.same s4
      refine ⟨_, rfl, sx, dx', _, rfl, e, sx, dx', _, _, rfl, e, lk1, _, rfl, sx, dx', _, rfl, e, sx, dx', _, _, rfl, e, lk2, _, rfl, sx, dx', _, rfl, e, sx, dx', l1, _, _, rfl, e, lk3, e1, fun r1 n1 => ?_⟩
      have t1 : Same H4 (upd H4 r1 (.lst us')) := same_new n1
      have f1 : upd H4 r1 (.lst us') r1 = some (.lst us') := upd_same
      generalize upd H4 r1 (.lst us') = F1 at t1 f1 ⊢
      refine ⟨_, rfl, sx, dx', _, rfl, t1 _ _ e, sx, dx', l2, _, _, rfl, t1 _ _ e, lk4, t1 _ _ e2, fun r2 n2 => ?_⟩
      have u2 : Same F1 (upd F1 r2 (.lst us2)) := same_new n2
      have t2 : Same H4 (upd F1 r2 (.lst us2)) := t1.trans u2
      have f2 : upd F1 r2 (.lst us2) r2 = some (.lst us2) := upd_same
      have f12 := u2 _ _ f1
      generalize upd F1 r2 (.lst us2) = F2 at t2 f2 f12 u2 ⊢
      refine ⟨_, rfl, sx, dx', _, rfl, t2 _ _ e, sx, dx', l3, _, _, rfl, t2 _ _ e, lk5, t2 _ _ e3, fun r3 n3 => ?_⟩
      have u3 : Same F2 (upd F2 r3 (.lst us3)) := same_new n3
      have t3 : Same H4 (upd F2 r3 (.lst us3)) := t2.trans u3
      have f3 : upd F2 r3 (.lst us3) r3 = some (.lst us3) := upd_same
      have f13 := u3 _ _ f12
      have f23 := u3 _ _ f2
      have v1 : H4 r1 = none := n1
      have v2 : H4 r2 = none := t1.free n2
      have v3 : H4 r3 = none := t2.free n3
      generalize upd F2 r3 (.lst us3) = F3 at t3 f3 f13 f23 u3 ⊢
      refine ⟨(by show 5 ≤ sizeLine; decide), fun pl npl => ?_⟩
      have u4 : Same F3 (upd F3 pl (.lst [.str x.l, .ref th', .ref r1, .ref r2, .ref r3])) := same_new npl
      have t4 := t3.trans u4
      have rw4 : Row (upd F3 pl (.lst [.str x.l, .ref th', .ref r1, .ref r2, .ref r3])) pl th' r1 r2 r3 us' us2 us3 x := ⟨upd_same, t4 _ _ et, u4 _ _ f13, p1.same t4, u4 _ _ f23, p2.same t4, u4 _ _ f3, p3.same t4⟩
      have v4 : H4 pl = none := t3.free npl
      generalize upd F3 pl (.lst [.str x.l, .ref th', .ref r1, .ref r2, .ref r3]) = F4 at t4 rw4 ⊢
      have s5 : Same H3 F4 := s4.trans t4
      refine ⟨_, rfl, pl, dR x, rfl, rw4.rdd, ft.1, ft.2.1, ft.2.2, _, rfl, ar, dR x, rfl, (row3.same s5).rdd, ft.1, ft.2.1, ft.2.2, rfl, _, rfl, ?_⟩
      rw [decide_eq_true (rfl : V.str (dR x).shown = V.str (dR x).shown)]
      refine iteF ⟨_, rfl, _, rfl, eq_rules T.R T.I (ra3.same s5) rx.ok (rs.same s5) rx.ok ⟨_, rfl, ?_⟩⟩
      rw [decide_eq_true (rfl : x = x)]
      refine iteF ?_
      refine ⟨_, rfl, 2, rfl, pl, _, rfl, SqL.of rw4.ar, fun pp np => ?_⟩
      rw [cut5_2]
      have hq : ∀ l ∈ [r1, r2, r3], (∃ xs : List V, F4 l = some (.lst xs) ∧ xs.length ≤ 1000) ∧ H3 l = none := fun l hl => by
        have u1 := rx.ok.pl
        simp only [List.mem_cons, List.not_mem_nil, or_false] at hl
        rcases hl with rfl | rfl | rfl
        · exact ⟨⟨_, rw4.tt, by rw [rw4.ps.len]; omega⟩, s4.free v1⟩
        · exact ⟨⟨_, rw4.tq, by rw [rw4.qs.len]; omega⟩, s4.free v2⟩
        · exact ⟨⟨_, rw4.td, by rw [rw4.ds.len]; omega⟩, s4.free v3⟩
      have npq : pp ∉ [r1, r2, r3] := fun z => by
        obtain ⟨⟨xs, e, _⟩, _⟩ := hq pp z
        rw [np] at e
        cases e
      refine ⟨pp, [r1, r2, r3], rfl, SqL.of upd_same, npq, by show 3 ≤ 1000; decide, fun l hl => ?_, fun H6 sb _ => ?_⟩
      · obtain ⟨⟨xs, e, k⟩, _⟩ := hq l hl
        exact ⟨xs, same_new np _ _ e, k⟩
      exact ⟨_, _, rfl, Sbs.same (same_put s5 (s5.free np)) (fun l hl => (hq l hl).2) sb⟩
    rintro σ H4 ⟨o6, o7, rfl, s4⟩
    have ra4 := ra3.same s4
    have row4 := row3.same s4
    have sH4 := s3.trans s4
    clear rs row3 ra3
    refine (show ∀ G : Hp, H4 = G → tSeq _ _ { nx := fun _ H' => Q .non H', rt := Q } [some (.ref r), some (.ref ar), some (.ref D), none, some (.str (dR x).shown), some (.ref sx), o6, o7, none, none, none, none, none] G from fun G hG => ?_) _ rfl
    subst hG

    -- others
    have ok1 : (⟨"other", x.h, x.ps, x.qs, x.ds⟩ : Rl).Ok := ⟨(by show IsNm "other"; decide +kernel), rx.ok.h, rx.ok.ps, rx.ok.pl, rx.ok.qs, rx.ok.ql, rx.ok.ds, rx.ok.dl⟩
    refine ⟨_, rfl, ar, _, _, _, rfl, rfl, SqL.of row4.ar, at5_1, _, rfl, ar, _, _, _, rfl, rfl, SqL.of row4.ar, at5_2, _, rfl, ar, _, _, _, rfl, rfl, SqL.of row4.ar, at5_3, _, rfl, ar, _, _, _, rfl, rfl, SqL.of row4.ar, at5_4, fun y1 dy1 ny1 ndy1 _ => mk_rule (y := ⟨"other", x.h, x.ps, x.qs, x.ds⟩) ok1 ⟨rx.clo.h, rx.clo.q, rx.clo.d⟩ ny1 ndy1 row4.th row4.tt row4.ps (opt_of row4.tq row4.qs ql) (opt_of row4.td row4.ds dl) fun H5 s5 rn5 => ⟨rfl, (by show 1 ≤ sizeLine; decide), fun o no => ?_⟩⟩
    have ots : Ots o CR x H4 (upd H5 o (.lst [.ref y1])) [.ref y1] := ⟨s5.trans (same_new no), s5.free no, upd_same, fun v hv => by
      rw [List.mem_singleton.mp hv]
      exact ⟨y1, _, rfl, (rn5.ra.new_ no).same (same_new no), ok1, fun z => rx.l (congrArg Rl.l z)⟩⟩
    generalize upd H5 o (.lst [.ref y1]) = H6 at ots ⊢
    clear rn5 s5 no
    refine (show ∀ G : Hp, H6 = G → tSeq _ _ { nx := fun _ H' => Q .non H', rt := Q } [some (.ref r), some (.ref ar), some (.ref D), none, some (.str (dR x).shown), some (.ref sx), o6, o7, some (.ref o), none, none, none, none] G from fun G hG => ?_) _ rfl
    subst hG

    -- a told pattern more
    have row6 := row4.same ots.1
    refine ⟨_, rfl, .inl ⟨rfl, _, SqL.of ots.2.2.1⟩, _, rfl, ar, _, _, _, rfl, rfl, SqL.of row6.ar, at5_0, _, rfl, ar, _, _, _, rfl, rfl, SqL.of row6.ar, at5_1, _, rfl, ar, _, _, _, rfl, rfl, SqL.of row6.ar, at5_2, (by show 2 ≤ sizeLine; decide), fun t nt => ⟨(by show 1 ≤ sizeLine; decide), fun l nl => ?_⟩⟩
    have t1 : Same H6 (upd H6 t (.tup [.str "p", .str "a"])) := same_new nt
    have f1 : upd H6 t (.tup [.str "p", .str "a"]) t = some (.tup [.str "p", .str "a"]) := upd_same
    generalize upd H6 t (.tup [.str "p", .str "a"]) = K1 at t1 f1 nl ⊢
    have u2 : Same K1 (upd K1 l (.lst [.ref t])) := same_new nl
    have f2 : upd K1 l (.lst [.ref t]) l = some (.lst [.ref t]) := upd_same
    generalize upd K1 l (.lst [.ref t]) = K2 at u2 f2 ⊢
    have t2 := t1.trans u2
    refine ⟨_, _, _, _, rfl, rfl, t2 _ _ row6.tt, f2, ?_, fun p np => ?_⟩
    · have := rx.pl
      rw [row6.ps.len]
      exact Nat.le_trans (by show x.ps.length + 1 ≤ 1000; omega) (by decide)
    have u3 : Same K2 (upd K2 p (.lst (us ++ [.ref t]))) := same_new np
    have f3 : upd K2 p (.lst (us ++ [.ref t])) p = some (.lst (us ++ [.ref t])) := upd_same
    generalize upd K2 p (.lst (us ++ [.ref t])) = K3 at u3 f3 ⊢
    have t3 := t2.trans u3
    have row7 := row6.same t3
    have pp3 : PaL K3 (us ++ [.ref t]) (x.ps ++ [(["p", "a"] : List Str)]) := row7.ps.app (.cons (u3 _ _ (u2 _ _ f1)) .nil)
    have sub3 : ∀ y ∈ tails x.ps, y ∈ tails (x.ps ++ [(["p", "a"] : List Str)]) := fun y hy => by
      unfold tails at hy ⊢
      rw [List.map_append, List.flatten_append]
      exact List.mem_append_left _ hy
    have pao : PatOk (["p", "a"] : List Str) := ⟨"p", ["a"], rfl, by decide +kernel, by decide, fun y hy => .inr (by rw [List.mem_singleton.mp hy]; decide +kernel)⟩
    have ok2 : (⟨x.l, x.h, x.ps ++ [(["p", "a"] : List Str)], x.qs, x.ds⟩ : Rl).Ok := ⟨rx.ok.l, rx.ok.h, fun y hy => (List.mem_append.mp hy).elim (rx.ok.ps y) fun z => by rw [List.mem_singleton.mp z]; exact pao, by have := rx.pl; show (x.ps ++ [(["p", "a"] : List Str)]).length ≤ 300; rw [List.length_append, List.length_singleton]; omega, rx.ok.qs, rx.ok.ql, rx.ok.ds, rx.ok.dl⟩
    refine ⟨_, rfl, ar, _, _, _, rfl, rfl, SqL.of row7.ar, at5_3, _, rfl, ar, _, _, _, rfl, rfl, SqL.of row7.ar, at5_4, fun y2 dy2 ny2 ndy2 _ => mk_rule (y := ⟨x.l, x.h, x.ps ++ [(["p", "a"] : List Str)], x.qs, x.ds⟩) ok2 ⟨hm_mono rx.clo.h sub3, hm_mono rx.clo.q sub3, hm_mono rx.clo.d sub3⟩ ny2 ndy2 row7.th f3 pp3 (opt_of row7.tq row7.qs ql) (opt_of row7.td row7.ds dl) fun H8 s8 rn8 => ⟨rfl, o, _, _, rfl, rfl, ((ots.same t3).same s8).2.2.1, (by show 1 < sizeLine; decide), ?_⟩⟩
    have ots2 := ots.more t3 rn8 s8 ok2 fun z => by
      have z2 := congrArg (fun r : Rl => r.ps.length) z
      dsimp only at z2
      rw [List.length_append, List.length_singleton] at z2
      omega
    generalize upd H8 o (.lst ([.ref y1] ++ [.ref y2])) = H9 at ots2 ⊢
    clear ots rn8 s8 pp3 row7 row6 t3 t2 t1 u2 u3 f1 f2 f3
    -- a pair more
    have row9 := row4.same ots2.1
    refine ⟨_, rfl, ar, _, _, _, rfl, rfl, SqL.of row9.ar, at5_2, tt, us, x.ps, rfl, SqL.of row9.tt, row9.ps, rx.ok.ps, (by have := rx.pl; omega), fun pv Hv nv sv ev => ⟨1, rfl, pv, _, rfl, SqL.of ev, fun p np => ?_⟩⟩
    rw [take_names]
    have potsv := (ots2.same sv).same (same_new (o := .lst (((varsIn (tails x.ps)).take 1).map V.str)) np)
    have epv : upd Hv p (.lst (((varsIn (tails x.ps)).take 1).map V.str)) p = some (.lst (((varsIn (tails x.ps)).take 1).map V.str)) := upd_same
    have po : p ≠ o := fun z => by
      rw [z, (ots2.same sv).2.2.1] at np
      cases np
    generalize upd Hv p (.lst (((varsIn (tails x.ps)).take 1).map V.str)) = Hw at potsv epv ⊢
    clear sv nv ev row9 np
    refine ⟨p, rfl, ⟨_, SqL.of epv⟩, for_list (K := K) (a := p) (xs := ((varsIn (tails x.ps)).take 1).map V.str) (fun i σ H' => ∃ o9 o11 os, σ = [some (.ref r), some (.ref ar), some (.ref D), none, some (.str (dR x).shown), some (.ref sx), o6, o7, some (.ref o), o9, none, o11, none] ∧ Ots o CR x H4 H' os ∧ os.length ≤ 2 + i ∧ H' p = some (.lst (((varsIn (tails x.ps)).take 1).map V.str))) ⟨_, _, _, rfl, potsv, by show 2 ≤ 2; decide, epv⟩ (fun i σ H' _ z => ?_) ?_ ?_⟩
    · obtain ⟨_, _, _, _, _, _, e⟩ := z
      exact SqL.of e
    · rintro i v σ H' hi ⟨o9, o11, os, rfl, ots, hl, ep⟩
      obtain ⟨tm, hti, rfl⟩ := at_map hi
      have hi1 : i < 1 := by
        have := (List.getElem?_eq_some_iff.mp hti).1
        rw [List.length_take] at this
        omega
      have htm := varsIn_mem.mp (List.mem_of_mem_take (List.mem_of_getElem? hti))
      have rw' := row4.same ots.1
      refine ⟨(by show 3 ≤ sizeLine; decide), fun t3 nt3 => ?_⟩
      have u1 : Same H' (upd H' t3 (.tup [.str "zz", .str "yy", .str "ww"])) := same_new nt3
      have e3 : upd H' t3 (.tup [.str "zz", .str "yy", .str "ww"]) t3 = some (.tup [.str "zz", .str "yy", .str "ww"]) := upd_same
      generalize upd H' t3 (.tup [.str "zz", .str "yy", .str "ww"]) = F0 at u1 e3 ⊢
      have rw0 := rw'.same u1
      refine ⟨t3, rfl, ⟨_, SqT.of e3⟩, fun E nE => ?_⟩
      refine lc_tup (K := K) (a := t3) (xs := threeW.map V.str) (fun i G => Same F0 G ∧ ∃ ws, G E = some (.lst ws) ∧ ws.length ≤ i ∧ PaL G ws (freshP x.qs tm (threeW.take i))) ⟨same_new nE, [], upd_same, Nat.le_refl _, .nil⟩ (fun i G _ y => SqT.of (y.1 _ _ e3)) ?_ ?_
      · rintro j v G hj ⟨s0, ws, ew, lw, pw⟩
        obtain ⟨wd, hwd, rfl⟩ := at_map hj
        have hj3 : j < 3 := (List.getElem?_eq_some_iff.mp hwd).1
        refine ⟨rfl, _, rfl, _, rfl, (by show 2 ≤ sizeLine; decide), fun t2 nt2 => ?_⟩
        have w1 : Same G (upd G t2 (.tup [.str tm, .str wd])) := same_new nt2
        have e2 : upd G t2 (.tup [.str tm, .str wd]) t2 = some (.tup ([tm, wd].map V.str)) := upd_same
        generalize upd G t2 (.tup [.str tm, .str wd]) = G1 at w1 e2 ⊢
        have rw1 := (rw0.same s0).same w1
        have pok : PairOk [tm, wd] := .term htm.2 (threeW_nm wd (List.mem_of_getElem? hwd))
        refine ⟨_, rfl, ar, _, _, _, rfl, rfl, SqL.of rw1.ar, at5_3, dT [tm, wd], x.qs.map dT, dp_T e2, dp_L (SqL.of rw1.tq) rw1.qs, (lay_dT pok.asc).shaped (by decide), (lay_dL fun p hp => (rx.ok.qs p hp).asc).shaped (by decide), _, rfl, ?_⟩
        rw [any_dT]
        by_cases hm : [tm, wd] ∈ x.qs
        · rw [decide_eq_true hm]
          refine iteF ⟨s0.trans w1, ws, w1 _ _ ew, by omega, ?_⟩
          rw [take_one hwd, freshP_app, if_pos hm, List.append_nil]
          exact pw.same w1
        · rw [decide_eq_false hm]
          refine iteT ⟨_, rfl, _, rfl, (by show 2 ≤ sizeLine; decide), fun t4 nt4 => ⟨ws, same_new nt4 _ _ (w1 _ _ ew), Nat.lt_of_le_of_lt (by omega : _ ≤ 1000) (by decide), ⟨same_put (same_put (s0.trans w1) ((s0.trans w1).free nt4)) nE, _, upd_same, by rw [List.length_append, List.length_singleton]; omega, ?_⟩⟩⟩
          rw [take_one hwd, freshP_app, if_neg hm]
          have eE := same_new (o := .tup [.str tm, .str wd]) nt4 _ _ (w1 _ _ ew)
          have t4E : t4 ≠ E := fun z => by
            rw [z, w1 _ _ ew] at nt4
            cases nt4
          exact ((pw.same w1).same (same_new nt4)).putl eE |>.app (.cons (by rw [upd_ne t4E, upd_same] <;> rfl) .nil)
      · rintro G ⟨s0, ws, ew, _, pw⟩
        rw [List.length_map, List.take_length] at pw
        obtain ⟨wd, rest, hf, hwn, hnew⟩ := freshP_some (qs := x.qs) (t := tm) rx.ql
        rw [hf] at pw
        obtain ⟨t0, vs0, rfl, et, pw'⟩ : ∃ t0 vs0, ws = .ref t0 :: vs0 ∧ G t0 = some (.tup ([tm, wd].map V.str)) ∧ PaL G vs0 rest := by
          cases pw with
          | cons et pw' => exact ⟨_, _, rfl, et, pw'⟩
        refine ⟨1, rfl, E, _, rfl, SqL.of ew, fun pn npn => ?_⟩
        rw [cutN]
        have y0 : Same F0 (upd G pn (.lst ((V.ref t0 :: vs0).take 1))) := same_put s0 (s0.free npn)
        have epn : upd G pn (.lst ((V.ref t0 :: vs0).take 1)) pn = some (.lst [.ref t0]) := upd_same
        have et2 := same_new (o := .lst ((V.ref t0 :: vs0).take 1)) npn _ _ et
        generalize upd G pn (.lst ((V.ref t0 :: vs0).take 1)) = G2 at y0 epn et2 ⊢
        have y1 := u1.trans y0
        have otsG := ots.same y1
        have rw2 := rw'.same y1
        refine ⟨_, rfl, .inl ⟨rfl, _, SqL.of otsG.2.2.1⟩, _, rfl, ar, _, _, _, rfl, rfl, SqL.of rw2.ar, at5_0, _, rfl, ar, _, _, _, rfl, rfl, SqL.of rw2.ar, at5_1, _, rfl, ar, _, _, _, rfl, rfl, SqL.of rw2.ar, at5_2, _, rfl, ar, _, _, _, rfl, rfl, SqL.of rw2.ar, at5_3, 1, rfl, tq, _, rfl, SqL.of rw2.tq, fun c1 nc1 => ?_⟩
        rw [cutN]
        have z1 : Same G2 (upd G2 c1 (.lst (uq.take 1))) := same_new nc1
        have ec1 : upd G2 c1 (.lst (uq.take 1)) c1 = some (.lst (uq.take 1)) := upd_same
        generalize upd G2 c1 (.lst (uq.take 1)) = G3 at z1 ec1 ⊢
        refine ⟨_, rfl, _, _, _, _, rfl, rfl, ec1, z1 _ _ epn, ?_, fun c2 nc2 => ?_⟩
        · rw [List.length_take]
          exact Nat.le_trans (by show min 1 uq.length + 1 ≤ 1000; omega) (by decide)
        have z2 : Same G3 (upd G3 c2 (.lst (uq.take 1 ++ [.ref t0]))) := same_new nc2
        have ec2 : upd G3 c2 (.lst (uq.take 1 ++ [.ref t0])) c2 = some (.lst (uq.take 1 ++ [.ref t0])) := upd_same
        generalize upd G3 c2 (.lst (uq.take 1 ++ [.ref t0])) = G4 at z2 ec2 ⊢
        have z3 := z1.trans z2
        have rw3 := rw2.same z3
        have pp4 : PaL G4 (uq.take 1 ++ [.ref t0]) (x.qs.take 1 ++ [[tm, wd]]) := rw3.qs.take1.app (.cons (z3 _ _ et2) .nil)
        have qok : ∀ q ∈ x.qs.take 1 ++ [[tm, wd]], PairOk q := fun q hq => (List.mem_append.mp hq).elim (fun z => rx.ok.qs q (List.mem_of_mem_take z)) fun z => by
          rw [List.mem_singleton.mp z]
          exact .term htm.2 hwn
        have qle : (x.qs.take 1 ++ [[tm, wd]]).length ≤ 300 := by
          rw [List.length_append, List.length_take, List.length_singleton]
          omega
        have qcl : hasMore (x.qs.take 1 ++ [[tm, wd]]).flatten x.ps = false := hm_sub rx.clo.q fun y hy => by
          obtain ⟨q, hq, hy⟩ := List.mem_flatten.mp hy
          rcases List.mem_append.mp hq with z | z
          · exact .inl (List.mem_flatten.mpr ⟨q, List.mem_of_mem_take z, hy⟩)
          · rw [List.mem_singleton.mp z] at hy
            simp only [List.mem_cons, List.not_mem_nil, or_false] at hy
            rcases hy with rfl | rfl
            · exact .inr (.inl htm.1)
            · exact .inr (.inr hwn)
        refine ⟨_, rfl, ar, _, _, _, rfl, rfl, SqL.of rw3.ar, at5_4, fun y3 dy3 ny3 ndy3 _ => mk_rule (y := ⟨x.l, x.h, x.ps, x.qs.take 1 ++ [[tm, wd]], x.ds⟩) (rx.ok.pair qle qok) ⟨rx.clo.h, qcl, rx.clo.d⟩ ny3 ndy3 rw3.th rw3.tt rw3.ps (opt_of ec2 pp4 qle) (opt_of rw3.td rw3.ds dl) fun H8 s8 rn8 => ⟨rfl, o, os, _, rfl, rfl, ((otsG.same z3).same s8).2.2.1, Nat.lt_of_le_of_lt (by omega : _ ≤ 1000) (by decide), ?_⟩⟩
        refine ⟨_, _, _, rfl, otsG.more z3 rn8 s8 (rx.ok.pair qle qok) fun z => ?_, by rw [List.length_append, List.length_singleton]; omega, ?_⟩
        · have z2 := congrArg Rl.qs z
          dsimp only at z2
          refine hnew (z2 ▸ List.mem_append_right _ List.mem_cons_self)
        · rw [upd_ne po]
          exact s8 _ _ (z3 _ _ (y1 _ _ ep))
    rintro σ H5 ⟨o9, o11, os, rfl, ots, hl, _⟩
    clear potsv epv po ots2
    have hl : os.length ≤ 10 := by
      rw [List.length_map, List.length_take] at hl
      omega
    refine (show ∀ G : Hp, H5 = G → tSeq _ _ { nx := fun _ H' => Q .non H', rt := Q } [some (.ref r), some (.ref ar), some (.ref D), none, some (.str (dR x).shown), some (.ref sx), o6, o7, some (.ref o), o9, none, o11, none] G from fun G hG => ?_) _ rfl
    subst hG

    -- the told patterns the other way round
    have hrev : ∀ y, y ∈ x.ps.reverse → PatOk y := fun y hy => rx.ok.ps y (List.mem_reverse.mp hy)
    have subr : ∀ y ∈ tails x.ps, y ∈ tails x.ps.reverse := fun y hy => by
      obtain ⟨p, hp, hy⟩ := tails_mem.mp hy
      exact tails_mem.mpr ⟨p, List.mem_reverse.mpr hp, hy⟩
    have lrev : x.ps.reverse.length ≤ 300 := by
      rw [List.length_reverse]
      exact rx.ok.pl
    apply both (I := fun G => ∃ os, Ots o CR x H4 G os ∧ os.length ≤ 11)
    case h =>
      intro rest
      have row5 := row4.same ots.1
      refine ⟨_, rfl, ar, _, _, _, rfl, rfl, SqL.of row5.ar, at5_2, tt, us, rfl, SqL.of row5.tt, fun pr npr => ?_⟩
      have u1 : Same H5 (upd H5 pr (.lst us.reverse)) := same_new npr
      have er : upd H5 pr (.lst us.reverse) pr = some (.lst us.reverse) := upd_same
      generalize upd H5 pr (.lst us.reverse) = F1 at u1 er ⊢
      have row6 := row5.same u1
      refine ⟨_, rfl, ar, _, _, _, rfl, rfl, SqL.of row6.ar, at5_2, dL x.ps.reverse, dL x.ps, dp_L (SqL.of er) row6.ps.rev, dp_L (SqL.of row6.tt) row6.ps, (lay_dL fun p hp => (hrev p hp).asc).shaped (by decide), (lay_dL fun p hp => (rx.ok.ps p hp).asc).shaped (by decide), _, rfl, ?_⟩
      rw [eqv_L]
      by_cases hr0 : x.ps.reverse = x.ps
      · rw [decide_eq_true hr0]
        refine iteF ?_
        exact rest F1 ⟨os, ots.same u1, by omega⟩
      · rw [decide_eq_false hr0]
        refine iteT ?_
        have ots1 := ots.same u1
        refine ⟨_, rfl, .inl ⟨rfl, _, SqL.of ots1.2.2.1⟩, _, rfl, ar, _, _, _, rfl, rfl, SqL.of row6.ar, at5_0, _, rfl, ar, _, _, _, rfl, rfl, SqL.of row6.ar, at5_1, _, rfl, ar, _, _, _, rfl, rfl, SqL.of row6.ar, at5_2, tt, us, rfl, SqL.of row6.tt, fun pr2 npr2 => ?_⟩
        have u2 : Same F1 (upd F1 pr2 (.lst us.reverse)) := same_new npr2
        have er2 : upd F1 pr2 (.lst us.reverse) pr2 = some (.lst us.reverse) := upd_same
        generalize upd F1 pr2 (.lst us.reverse) = F2 at u2 er2 ⊢
        have row7 := row6.same u2
        have okr : (⟨x.l, x.h, x.ps.reverse, x.qs, x.ds⟩ : Rl).Ok := ⟨rx.ok.l, rx.ok.h, hrev, lrev, rx.ok.qs, rx.ok.ql, rx.ok.ds, rx.ok.dl⟩
        refine ⟨_, rfl, ar, _, _, _, rfl, rfl, SqL.of row7.ar, at5_3, _, rfl, ar, _, _, _, rfl, rfl, SqL.of row7.ar, at5_4, fun y4 dy4 ny4 ndy4 _ => mk_rule (y := ⟨x.l, x.h, x.ps.reverse, x.qs, x.ds⟩) okr ⟨hm_mono rx.clo.h subr, hm_mono rx.clo.q subr, hm_mono rx.clo.d subr⟩ ny4 ndy4 row7.th er2 row7.ps.rev (opt_of row7.tq row7.qs ql) (opt_of row7.td row7.ds dl) fun H8 s8 rn8 => ⟨rfl, o, os, _, rfl, rfl, ((ots1.same u2).same s8).2.2.1, Nat.lt_of_le_of_lt (by omega : _ ≤ 1000) (by decide), ?_⟩⟩
        have ots3 := ots1.more u2 rn8 s8 okr fun z => hr0 (congrArg Rl.ps z).symm
        generalize upd H8 o (.lst (os ++ [.ref y4])) = F3 at ots3 ⊢
        exact rest F3 ⟨_, ots3, by rw [List.length_append, List.length_singleton]; omega⟩
    clear ots hl
    rintro H6 ⟨os, ots, hl⟩
    refine (show ∀ G : Hp, H6 = G → tSeq _ _ { nx := fun _ H' => Q .non H', rt := Q } [some (.ref r), some (.ref ar), some (.ref D), none, some (.str (dR x).shown), some (.ref sx), o6, o7, some (.ref o), o9, none, o11, none] G from fun G hG => ?_) _ rfl
    subst hG

    -- a denied pattern more
    have row6 := row4.same ots.1
    have nva : PatOk (["never", "a"] : List Str) := ⟨"never", ["a"], rfl, by decide +kernel, by decide, fun y hy => .inr (by rw [List.mem_singleton.mp hy]; decide +kernel)⟩
    have nma : IsNm "a" := by decide +kernel
    refine ⟨_, rfl, _, rfl, ar, _, _, _, rfl, rfl, SqL.of row6.ar, at5_0, _, rfl, ar, _, _, _, rfl, rfl, SqL.of row6.ar, at5_1, _, rfl, ar, _, _, _, rfl, rfl, SqL.of row6.ar, at5_2, _, rfl, ar, _, _, _, rfl, rfl, SqL.of row6.ar, at5_3, _, rfl, ar, _, _, _, rfl, rfl, SqL.of row6.ar, at5_4, 1, rfl, td, _, rfl, SqL.of row6.td, fun c1 nc1 => ?_⟩
    rw [cutN]
    have u1 : Same H6 (upd H6 c1 (.lst (ud.take 1))) := same_new nc1
    have e1 : upd H6 c1 (.lst (ud.take 1)) c1 = some (.lst (ud.take 1)) := upd_same
    generalize upd H6 c1 (.lst (ud.take 1)) = F1 at u1 e1 ⊢
    refine ⟨(by show 2 ≤ sizeLine; decide), fun t nt => ?_⟩
    have u2 : Same F1 (upd F1 t (.tup [.str "never", .str "a"])) := same_new nt
    have e2 : upd F1 t (.tup [.str "never", .str "a"]) t = some (.tup [.str "never", .str "a"]) := upd_same
    generalize upd F1 t (.tup [.str "never", .str "a"]) = F2 at u2 e2 ⊢
    refine ⟨(by show 1 ≤ sizeLine; decide), fun l nl => ?_⟩
    have u3 : Same F2 (upd F2 l (.lst [.ref t])) := same_new nl
    have e3 : upd F2 l (.lst [.ref t]) l = some (.lst [.ref t]) := upd_same
    generalize upd F2 l (.lst [.ref t]) = F3 at u3 e3 ⊢
    refine ⟨_, _, _, _, rfl, rfl, u3 _ _ (u2 _ _ e1), e3, ?_, fun c2 nc2 => ?_⟩
    · rw [List.length_take]
      exact Nat.le_trans (by show min 1 ud.length + 1 ≤ 1000; omega) (by decide)
    have u4 : Same F3 (upd F3 c2 (.lst (ud.take 1 ++ [.ref t]))) := same_new nc2
    have e4 : upd F3 c2 (.lst (ud.take 1 ++ [.ref t])) c2 = some (.lst (ud.take 1 ++ [.ref t])) := upd_same
    generalize upd F3 c2 (.lst (ud.take 1 ++ [.ref t])) = F4 at u4 e4 ⊢
    have u14 := ((u1.trans u2).trans u3).trans u4
    have row7 := row6.same u14
    have pd7 : PaL F4 (ud.take 1 ++ [.ref t]) (x.ds.take 1 ++ [(["never", "a"] : List Str)]) := row7.ds.take1.app (.cons (u4 _ _ (u3 _ _ e2)) .nil)
    have dle : (x.ds.take 1 ++ [(["never", "a"] : List Str)]).length ≤ 300 := by
      rw [List.length_append, List.length_take, List.length_singleton]
      omega
    have ok5 : (⟨x.l, x.h, x.ps, x.qs, x.ds.take 1 ++ [(["never", "a"] : List Str)]⟩ : Rl).Ok := ⟨rx.ok.l, rx.ok.h, rx.ok.ps, rx.ok.pl, rx.ok.qs, rx.ok.ql, fun y hy => (List.mem_append.mp hy).elim (fun z => rx.ok.ds y (List.mem_of_mem_take z)) fun z => by rw [List.mem_singleton.mp z]; exact nva, dle⟩
    have dcl : hasMore (tails (x.ds.take 1 ++ [(["never", "a"] : List Str)])) x.ps = false := hm_sub rx.clo.d fun y hy => by
      obtain ⟨p, hp, hy⟩ := tails_mem.mp hy
      rcases List.mem_append.mp hp with z | z
      · exact .inl (tails_mem.mpr ⟨p, List.mem_of_mem_take z, hy⟩)
      · rw [List.mem_singleton.mp z] at hy
        refine .inr (.inr ?_)
        rw [List.mem_singleton.mp hy]
        exact nma
    refine fun y5 dy5 ny5 ndy5 _ => mk_rule (y := ⟨x.l, x.h, x.ps, x.qs, x.ds.take 1 ++ [(["never", "a"] : List Str)]⟩) ok5 ⟨rx.clo.h, rx.clo.q, dcl⟩ ny5 ndy5 row7.th row7.tt row7.ps (opt_of row7.tq row7.qs ql) (opt_of e4 pd7 dle) fun H8 s8 rn8 => ⟨rfl, (by show 1 ≤ sizeLine; decide), fun l2 nl2 => ?_⟩
    have ots8 := (ots.same u14).same s8
    have v1 : Same H8 (upd H8 l2 (.lst [.ref y5])) := same_new nl2
    have f1 : upd H8 l2 (.lst [.ref y5]) l2 = some (.lst [.ref y5]) := upd_same
    generalize upd H8 l2 (.lst [.ref y5]) = F5 at v1 f1 ⊢
    have ots9 := ots8.same v1
    refine ⟨_, _, _, _, rfl, rfl, ots9.2.2.1, f1, Nat.le_trans (by show os.length + 1 ≤ 1000; omega) (by decide), fun o2 no2 => ?_⟩
    have v2 : Same F5 (upd F5 o2 (.lst (os ++ [.ref y5]))) := same_new no2
    have eo2 : upd F5 o2 (.lst (os ++ [.ref y5])) o2 = some (.lst (os ++ [.ref y5])) := upd_same
    generalize upd F5 o2 (.lst (os ++ [.ref y5])) = H9 at v2 eo2 ⊢
    have oth : ∀ v ∈ os ++ [.ref y5], Oth K CR x H9 v := fun v hv => by
      rcases List.mem_append.mp hv with hv | hv
      · exact ((ots9.same v2).oth v hv)
      · rw [List.mem_singleton.mp hv]
        exact .inl ⟨y5, _, rfl, (rn8.ra.same v1).same v2, ok5, fun z => rx.d ((congrArg Rl.ds z) ▸ List.mem_append_right _ List.mem_cons_self)⟩
    have hl2 : (os ++ [V.ref y5]).length ≤ 12 := by
      rw [List.length_append, List.length_singleton]
      omega
    have s9 : Same H4 H9 := (ots9.same v2).1
    generalize os ++ [V.ref y5] = os2 at eo2 oth hl2
    clear ots ots8 ots9 rn8 row6 row7 pd7 e1 e2 e3 e4 u14 u1 u2 u3 u4 v1 v2 f1
    refine (show ∀ G : Hp, H9 = G → tSeq _ _ { nx := fun _ H' => Q .non H', rt := Q } [some (.ref r), some (.ref ar), some (.ref D), none, some (.str (dR x).shown), some (.ref sx), o6, o7, some (.ref o2), o9, none, o11, none] G from fun G hG => ?_) _ rfl
    subst hG

    -- another head, and no rules
    have row9 := row4.same s9
    refine ⟨_, rfl, _, rfl, ar, _, _, _, rfl, rfl, SqL.of row9.ar, at5_0, (by show 2 ≤ sizeLine; decide), fun t nt => ?_⟩
    have u1 : Same H9 (upd H9 t (.tup [.str "never", .str "a"])) := same_new nt
    have e1 : upd H9 t (.tup [.str "never", .str "a"]) t = some (.tup ((["never", "a"] : List Str).map V.str)) := upd_same
    generalize upd H9 t (.tup [.str "never", .str "a"]) = F1 at u1 e1 ⊢
    have row10 := row9.same u1
    have ok6 : (⟨x.l, (["never", "a"] : List Str), x.ps, x.qs, x.ds⟩ : Rl).Ok := ⟨rx.ok.l, nva, rx.ok.ps, rx.ok.pl, rx.ok.qs, rx.ok.ql, rx.ok.ds, rx.ok.dl⟩
    have hcl : hasMore (["never", "a"] : List Str).tail x.ps = false := hm_iff.mpr fun y hy v => by
      rw [List.mem_singleton.mp hy] at v
      exact absurd v (nm_not_vr nma)
    refine ⟨_, rfl, ar, _, _, _, rfl, rfl, SqL.of row10.ar, at5_2, _, rfl, ar, _, _, _, rfl, rfl, SqL.of row10.ar, at5_3, _, rfl, ar, _, _, _, rfl, rfl, SqL.of row10.ar, at5_4, fun y6 dy6 ny6 ndy6 _ => mk_rule (y := ⟨x.l, (["never", "a"] : List Str), x.ps, x.qs, x.ds⟩) ok6 ⟨hcl, rx.clo.q, rx.clo.d⟩ ny6 ndy6 e1 row10.tt row10.ps (opt_of row10.tq row10.qs ql) (opt_of row10.td row10.ds dl) fun H10 s10 rn10 => ⟨rfl, ?_⟩⟩
    have row11 := row10.same s10
    have oth10 : ∀ v ∈ os2, Oth K CR x H10 v := fun v hv => ((oth v hv).same u1).same s10
    have eo10 := s10 _ _ (u1 _ _ eo2)
    have s11 : Same H4 H10 := (s9.trans u1).trans s10
    refine ⟨_, rfl, ar, _, rfl, .inl ⟨SqL.of row11.ar, fun tr ntr => ?_⟩⟩
    have w1 : Same H10 (upd H10 tr (.tup [.str x.l, .ref th, .ref tt, .ref tq, .ref td])) := same_new ntr
    have g1 : upd H10 tr (.tup [.str x.l, .ref th, .ref tt, .ref tq, .ref td]) tr = some (.tup [.str x.l, .ref th, .ref tt, .ref tq, .ref td]) := upd_same
    generalize upd H10 tr (.tup [.str x.l, .ref th, .ref tt, .ref tq, .ref td]) = F2 at w1 g1 ⊢
    refine ⟨_, rfl, ar, _, rfl, .inl (SqL.of (w1 _ _ row11.ar)), fun lr nlr => ?_⟩
    have w2 : Same F2 (upd F2 lr (.lst [.str x.l, .ref th, .ref tt, .ref tq, .ref td])) := same_new nlr
    have g2 : upd F2 lr (.lst [.str x.l, .ref th, .ref tt, .ref tq, .ref td]) lr = some (.lst [.str x.l, .ref th, .ref tt, .ref tq, .ref td]) := upd_same
    generalize upd F2 lr (.lst [.str x.l, .ref th, .ref tt, .ref tq, .ref td]) = F3 at w2 g2 ⊢
    refine ⟨(by show 5 ≤ sizeLine; decide), fun l nl => ?_⟩
    have w3 : Same F3 (upd F3 l (.lst [.ref y6, .non, .str "r", .ref tr, .ref lr])) := same_new nl
    have g3 : upd F3 l (.lst [.ref y6, .non, .str "r", .ref tr, .ref lr]) l = some (.lst [.ref y6, .non, .str "r", .ref tr, .ref lr]) := upd_same
    generalize upd F3 l (.lst [.ref y6, .non, .str "r", .ref tr, .ref lr]) = F4 at w3 g3 ⊢
    have w13 := (w1.trans w2).trans w3
    refine ⟨_, _, _, _, rfl, rfl, w13 _ _ eo10, g3, Nat.le_trans (by show os2.length + 5 ≤ 1000; omega) (by decide), fun o3 no3 => ?_⟩
    have w4 : Same F4 (upd F4 o3 (.lst (os2 ++ [.ref y6, .non, .str "r", .ref tr, .ref lr]))) := same_new no3
    have eo3 : upd F4 o3 (.lst (os2 ++ [.ref y6, .non, .str "r", .ref tr, .ref lr])) o3 = some (.lst (os2 ++ [.ref y6, .non, .str "r", .ref tr, .ref lr])) := upd_same
    generalize upd F4 o3 (.lst (os2 ++ [.ref y6, .non, .str "r", .ref tr, .ref lr])) = H11 at w4 eo3 ⊢
    have w14 := w13.trans w4
    have oth3 : ∀ v ∈ os2 ++ [.ref y6, .non, .str "r", .ref tr, .ref lr], Oth K CR x H11 v := fun v hv => by
      rcases List.mem_append.mp hv with hv | hv
      · exact (oth10 v hv).same w14
      · simp only [List.mem_cons, List.not_mem_nil, or_false] at hv
        rcases hv with rfl | rfl | rfl | rfl | rfl
        · exact .inl ⟨y6, _, rfl, rn10.ra.same w14, ok6, fun z => rx.h (congrArg Rl.h z)⟩
        · exact .inr ⟨_, .base .non, T.nNon⟩
        · exact .inr ⟨_, .base (.str _), T.nStr⟩
        · exact .inr ⟨_, tyx_tup (w4 _ _ (w3 _ _ (w2 _ _ g1))), T.nTup⟩
        · exact .inr ⟨_, tyx_lst (w4 _ _ (w3 _ _ g2)), T.nLst⟩
    have s12 : Same H4 H11 := s11.trans w14
    generalize os2 ++ [V.ref y6, .non, .str "r", .ref tr, .ref lr] = os3 at eo3 oth3
    clear oth oth10 rn10 row9 row10 row11 eo2 eo10 w1 w2 w3 w4 w13 w14 g1 g2 g3 u1 e1 s9 s11 s10
    have SqLe : ∀ G, Same H11 G → Row G ar th tt tq td us uq ud x ∧ RA CR G r x := fun G s => ⟨row4.same (s12.trans s), ra4.same (s12.trans s)⟩
    refine (show ∀ G : Hp, H11 = G → tSeq _ _ { nx := fun _ H' => Q .non H', rt := Q } [some (.ref r), some (.ref ar), some (.ref D), none, some (.str (dR x).shown), some (.ref sx), o6, o7, some (.ref o3), o9, none, o11, none] G from fun G hG => ?_) _ rfl
    subst hG

    -- None for no pairs
    apply both (I := fun G => Same H11 G)
    case h =>
      intro rest
      obtain ⟨rw1, ra1⟩ := SqLe H11 (Same.refl _)
      refine ⟨_, rfl, ar, _, _, _, rfl, rfl, SqL.of rw1.ar, at5_3, Nat.zero_le _, fun l nl => ?_⟩
      have u1 : Same H11 (upd H11 l (.lst [])) := same_new nl
      have e1 : upd H11 l (.lst []) l = some (.lst []) := upd_same
      generalize upd H11 l (.lst []) = F1 at u1 e1 ⊢
      obtain ⟨rw2, ra2⟩ := SqLe F1 u1
      refine ⟨dL x.qs, dL [], dp_L (SqL.of rw2.tq) rw2.qs, .lst (SqL.of e1) .nil, (lay_dL fun p hp => (rx.ok.qs p hp).asc).shaped (by decide), (lay_dL (ps := []) (fun p hp => nomatch hp)).shaped (by decide), _, rfl, ?_⟩
      rw [eqv_L]
      by_cases hq0 : x.qs = []
      · rw [decide_eq_true hq0]
        refine iteT ⟨_, rfl, _, rfl, ar, _, _, _, rfl, rfl, SqL.of rw2.ar, at5_0, _, rfl, ar, _, _, _, rfl, rfl, SqL.of rw2.ar, at5_1, _, rfl, ar, _, _, _, rfl, rfl, SqL.of rw2.ar, at5_2, _, rfl, ar, _, _, _, rfl, rfl, SqL.of rw2.ar, at5_4, fun y7 dy7 ny7 ndy7 _ => mk_rule (y := x) rx.ok rx.clo ny7 ndy7 rw2.th rw2.tt rw2.ps (.inl ⟨rfl, hq0⟩) (opt_of rw2.td rw2.ds dl) fun H12 s13 rn13 => ⟨rfl, eq_rules T.R T.I (ra2.same s13) rx.ok rn13.ra rx.ok ⟨_, rfl, ?_⟩⟩⟩
        rw [decide_eq_true (rfl : x = x)]
        refine iteF ?_
        exact rest H12 (u1.trans s13)
      · rw [decide_eq_false hq0]
        refine iteF ?_
        exact rest F1 u1
    intro H12 s13
    refine (show ∀ G : Hp, H12 = G → tSeq _ _ { nx := fun _ H' => Q .non H', rt := Q } [some (.ref r), some (.ref ar), some (.ref D), none, some (.str (dR x).shown), some (.ref sx), o6, o7, some (.ref o3), o9, none, o11, none] G from fun G hG => ?_) _ rfl
    subst hG

    -- no denied ones
    apply both (I := fun G => Same H11 G)
    case h =>
      intro rest
      obtain ⟨rw1, ra1⟩ := SqLe H12 s13
      refine ⟨_, rfl, ar, _, _, _, rfl, rfl, SqL.of rw1.ar, at5_4, Nat.zero_le _, fun l nl => ?_⟩
      have u1 : Same H12 (upd H12 l (.lst [])) := same_new nl
      have e1 : upd H12 l (.lst []) l = some (.lst []) := upd_same
      generalize upd H12 l (.lst []) = F1 at u1 e1 ⊢
      obtain ⟨rw2, ra2⟩ := SqLe F1 (s13.trans u1)
      refine ⟨dL x.ds, dL [], dp_L (SqL.of rw2.td) rw2.ds, .lst (SqL.of e1) .nil, (lay_dL fun p hp => (rx.ok.ds p hp).asc).shaped (by decide), (lay_dL (ps := []) (fun p hp => nomatch hp)).shaped (by decide), _, rfl, ?_⟩
      rw [eqv_L]
      by_cases hq0 : x.ds = []
      · rw [decide_eq_true hq0]
        refine iteT ⟨_, rfl, _, rfl, ar, _, _, _, rfl, rfl, SqL.of rw2.ar, at5_0, _, rfl, ar, _, _, _, rfl, rfl, SqL.of rw2.ar, at5_1, _, rfl, ar, _, _, _, rfl, rfl, SqL.of rw2.ar, at5_2, _, rfl, ar, _, _, _, rfl, rfl, SqL.of rw2.ar, at5_3, fun y7 dy7 ny7 ndy7 _ => mk_rule (y := x) rx.ok rx.clo ny7 ndy7 rw2.th rw2.tt rw2.ps (opt_of rw2.tq rw2.qs ql) (.inl ⟨rfl, hq0⟩) fun H13 s14 rn13 => ⟨rfl, eq_rules T.R T.I (ra2.same s14) rx.ok rn13.ra rx.ok ⟨_, rfl, ?_⟩⟩⟩
        rw [decide_eq_true (rfl : x = x)]
        refine iteF ?_
        exact rest H13 ((s13.trans u1).trans s14)
      · rw [decide_eq_false hq0]
        refine iteF ?_
        exact rest F1 (s13.trans u1)
    intro H13 s14
    refine (show ∀ G : Hp, H13 = G → tSeq _ _ { nx := fun _ H' => Q .non H', rt := Q } [some (.ref r), some (.ref ar), some (.ref D), none, some (.str (dR x).shown), some (.ref sx), o6, o7, some (.ref o3), o9, none, o11, none] G from fun G hG => ?_) _ rfl
    subst hG

    -- unlike all others
    refine ⟨_, rfl, o3, rfl, ⟨_, SqL.of (s14 _ _ eo3)⟩, for_list (K := K) (a := o3) (xs := os3) (fun i σ H' => ∃ o12, σ = [some (.ref r), some (.ref ar), some (.ref D), none, some (.str (dR x).shown), some (.ref sx), o6, o7, some (.ref o3), o9, none, o11, o12] ∧ Same H11 H') ⟨_, rfl, s14⟩ (fun i σ H' _ z => ?_) ?_ ?_⟩
    · obtain ⟨_, _, s⟩ := z
      exact SqL.of (s _ _ eo3)
    · rintro i v σ H' hi ⟨o12, rfl, s⟩
      obtain ⟨rw1, ra1⟩ := SqLe H' s
      have ov := (oth3 v (List.mem_of_getElem? hi)).same s
      refine ⟨_, rfl, _, rfl, eq_oth T.R T.I ra1 rx.ok ov ⟨_, rfl, iteF ⟨_, rfl, _, rfl, ne_oth T.R T.I ra1 rx.ok ov ⟨_, rfl, iteF ?_⟩⟩⟩⟩
      exact ⟨_, rfl, s⟩
    rintro σ H14 ⟨o12, rfl, s15⟩
    refine (show ∀ G : Hp, H14 = G → tSeq _ _ { nx := fun _ H' => Q .non H', rt := Q } [some (.ref r), some (.ref ar), some (.ref D), none, some (.str (dR x).shown), some (.ref sx), o6, o7, some (.ref o3), o9, none, o11, o12] G from fun G hG => ?_) _ rfl
    subst hG

    obtain ⟨rw1, ra1⟩ := SqLe H14 s15
    refine ⟨_, rfl, _, rfl, ar, _, _, _, rfl, rfl, SqL.of rw1.ar, at5_0, _, rfl, ar, _, _, _, rfl, rfl, SqL.of rw1.ar, at5_1, _, rfl, ar, _, _, _, rfl, rfl, SqL.of rw1.ar, at5_2, tt, us, rfl, .inl (SqL.of rw1.tt), fun c1 n1 => ?_⟩
    have u1 : Same H14 (upd H14 c1 (.lst us)) := same_new n1
    have e1 : upd H14 c1 (.lst us) c1 = some (.lst us) := upd_same
    generalize upd H14 c1 (.lst us) = F1 at u1 e1 ⊢
    have rw2 := rw1.same u1
    refine ⟨_, rfl, ar, _, _, _, rfl, rfl, SqL.of rw2.ar, at5_3, tq, uq, rfl, .inl (SqL.of rw2.tq), fun c2 n2 => ?_⟩
    have u2 : Same F1 (upd F1 c2 (.lst uq)) := same_new n2
    have e2 : upd F1 c2 (.lst uq) c2 = some (.lst uq) := upd_same
    generalize upd F1 c2 (.lst uq) = F2 at u2 e2 ⊢
    have rw3 := rw2.same u2
    refine ⟨_, rfl, ar, _, _, _, rfl, rfl, SqL.of rw3.ar, at5_4, td, ud, rfl, .inl (SqL.of rw3.td), fun c3 n3 => ?_⟩
    have u3 : Same F2 (upd F2 c3 (.lst ud)) := same_new n3
    have e3 : upd F2 c3 (.lst ud) c3 = some (.lst ud) := upd_same
    generalize upd F2 c3 (.lst ud) = F3 at u3 e3 ⊢
    have rw4 := rw3.same u3
    have u13 := (u1.trans u2).trans u3
    refine fun y8 dy8 ny8 ndy8 _ => mk_rule (y := x) rx.ok rx.clo ny8 ndy8 rw4.th (u3 _ _ (u2 _ _ e1)) rw4.ps (opt_of (u3 _ _ e2) rw4.qs ql) (opt_of e3 rw4.ds dl) fun H15 s16 rn16 => ⟨rfl, eq_rules T.R T.I ((ra1.same u13).same s16) rx.ok rn16.ra rx.ok ?_⟩
    rw [decide_eq_true (rfl : x = x)]
    exact q _ ((((sH4.trans s12).trans s15).trans u13).trans s16)
end
end Nv
set_option maxHeartbeats 8000000
namespace Nv
open PySem PySem.Spec PyProof.Rows L2
abbrev sQuestionRight : Stmt := top 41
abbrev nQR : List Str := ["_law_columns", "_law_told_here", "_law_pairs_here", "_law_given", "_law_query", "_law_turn", "_law_shown", "_law_others", "_law_term", "_law_word", "_law_new", "_law_other"]
theorem scQR : FnScope nQR ["_law_columns", "_law_told_here", "_law_pairs_here"] (defScope sQuestionRight) := ⟨rfl, rfl, rfl, by decide +kernel, rfl, by decide +kernel, by decide +kernel⟩
structure QRx (x : Ql) : Prop where
  ok : x.Ok
  clo : QClo x
  cl : x.cs.length ≤ 10
  pl : x.ps.length ≤ 10
  ql : x.qs.length ≤ 2
section
variable {P : Program} {w : World} {K : PySem.W.Frag} {mg : Str → Option Value} {base : Heap}
def spQuestionRight : Sp := fun vs H Q _ => ∃ (ac at_ aq : Addr) (us uq : List V) (x : Ql), vs = [.ref ac, .ref at_, .ref aq] ∧ Tri H ac at_ aq us uq x ∧ QRx x ∧ ∀ H', Same H H' → Q (.bl true) H'
theorem ok_questionRight {f CQ : Addr} {fd : FuncData} (F : Fun K "_law_question_right" "_law_question_right" sQuestionRight f fd) (T : QstOk P w K mg base CQ) (B : Bp mg) (B2 : Bl mg)
    (SP : CallOk P w K mg base "_law_spoils" 1 ["_law_lists"] (spSpoils K)) (rp : mg "repr" = none) (sy : ∃ o, base.get? sysModules = some o) :
    RunG P w K mg base 7 f fd ["_law_columns", "_law_told_here", "_law_pairs_here"] spQuestionRight := by
  obtain ⟨fI, dI, GI, MI, gQ, bI'⟩ := T.mkr.ex
  have bI3 : Binds K dI _ [] := bI' 1 (by decide)
  have bI2 : Binds K dI _ [.none] := bI' 0 (by decide)
  obtain ⟨fE, dE, GE, hs, hf, bE⟩ := T.eq.ex
  obtain ⟨fS, dS', GS, kS, gS, bS⟩ := SP.ex
  obtain ⟨p1, g1, d1, PO1, PF1, PB1⟩ := T.columns.ex
  obtain ⟨p2, g2, d2, PO2, PF2, PB2⟩ := T.told.ex
  obtain ⟨p3, g3, d3, PO3, PF3, PB3⟩ := T.pairs.ex
  have hne := T.ne
  have hmo := T.I.hm
  refine run_ofG F scQR (fun vs H Q E h => ?_) (fun cdv A outer s H vs Q hg hr h => ?_)
  · obtain ⟨ac, at_, aq, us, uq, x, rfl, _⟩ := h
    rfl
  · obtain ⟨ac, at_, aq, us, uq, x, rfl, tri, rx, q⟩ := h
    have hr1 : Room 1 _ := hr.mono (by decide)
    have hr2 : Room 2 _ := hr.mono (by decide)
    have hu65 : (A.deeper (envOfC "_law_question_right" (defScope sQuestionRight) s.heap.objs.size f cdv)).units + 65 < cLine := by have := hr.un; omega
    refine ⟨_, pss_cons (ps_set (i := 3) scQR.nd rfl (Or.inl rfl) (pe_lst (pa_cons (pe_callTy call_list_of (by rfl) B.lst PyProof.Rows.boot_list (pa_cons (pv 0) pa_nil)) (pa_cons (pe_callTy call_list_of (by rfl) B.lst PyProof.Rows.boot_list (pa_cons (pv 1) pa_nil)) (pa_cons (pe_callTy call_list_of (by rfl) B.lst PyProof.Rows.boot_list (pa_cons (pv 2) pa_nil)) pa_nil)))))
      (pss_cons (ps_set (i := 4) scQR.nd rfl (Or.inr rfl) (by exact (pe_make MI GI hr (by rfl) gQ bI3 .nil pass0 (pa_cons (pe_ix ix_list (pv 3) pe_int (fun _ _ => rfl)) (pa_cons (pe_ix ix_list (pv 3) pe_int (fun _ _ => rfl)) (pa_cons (pe_ix ix_list (pv 3) pe_int (fun _ _ => rfl)) pa_nil))))))
      (pss_cons (ps_expr (by exact (pe_call GS hr1 (by rfl) gS kS bS .nil pass0 (pa_cons (pv 3) pa_nil))))
      (pss_cons (ps_for PassesOwn.never rfl (pi_range1 rfl B2.rg (pa_cons pe_int pa_nil)) (pg_name (i := 5) scQR.nd rfl (Or.inl rfl))
        (pss_cons (ps_set (i := 6) scQR.nd rfl (Or.inl rfl) (pe_lst (pa_cons (pe_prop (pv 4) T.R.cl PO1 PF1 hr2 PB1 .nil pass0 rfl) (pa_cons (pe_prop (pv 4) T.R.cl PO2 PF2 hr2 PB2 .nil pass0 rfl) (pa_cons (pe_prop (pv 4) T.R.cl PO3 PF3 hr2 PB3 .nil pass0 rfl) pa_nil)))))
        (pss_cons (ps_if (pt_cmpR op_ne (by exact (pe_callB (call_repr hg sy hr1.units) (by rfl) rp (by decide +kernel) (pa_cons (pv 6) pa_nil))) (by exact (pe_callB (call_repr hg sy hr1.units) (by rfl) rp (by decide +kernel) (pa_cons (pe_lst (pa_cons (pv 0) (pa_cons (pv 1) (pa_cons (pv 2) pa_nil)))) pa_nil))) (nomark _)) (pss_one (ps_ret pe_bl)) pss_nil)
        (pss_one (ps_expr (by exact (pe_call GS hr1 (by rfl) gS kS bS .nil pass0 (pa_cons (pv 6) pa_nil))))))))
      (pss_cons (ps_if (PW.pt (pw_or (pt_not (pt_cmpR (op_ownEq GE hr1 hs hf bE) (pv 4) (by exact (pe_make MI GI hr (by rfl) gQ bI3 .nil pass0 (pa_cons (pe_callTy call_list_of (by rfl) B.lst PyProof.Rows.boot_list (pa_cons (pv 0) pa_nil)) (pa_cons (pe_callTy call_list_of (by rfl) B.lst PyProof.Rows.boot_list (pa_cons (pv 1) pa_nil)) (pa_cons (pe_callTy call_list_of (by rfl) B.lst PyProof.Rows.boot_list (pa_cons (pv 2) pa_nil)) pa_nil))))) (nomark _))) (pw_or1 (pt_cmpR (op_ownNe GE hr2 hs hne hmo hf bE) (pv 4) (by exact (pe_make MI GI hr (by rfl) gQ bI3 .nil pass0 (pa_cons (pv 0) (pa_cons (pv 1) (pa_cons (pv 2) pa_nil))))) (nomark _))))) (pss_one (ps_ret pe_bl)) pss_nil)
      (pss_cons (ps_if (PW.pt (pw_and (pt_cmpR (op_eqD hr1.units) (pv 2) (pe_lst pa_nil) (nomark _)) (pw_and1 (pt_cmpR (op_ownNe GE hr2 hs hne hmo hf bE) (pv 4) (by exact (pe_make MI GI hr (by rfl) gQ bI2 (show Vals [V.non] [Value.none] from .cons rfl .nil) pass0 (pa_cons (pv 0) (pa_cons (pv 1) pa_nil)))) (nomark _))))) (pss_one (ps_ret pe_bl)) pss_nil)
      (pss_cons (ps_set (i := 7) scQR.nd rfl (Or.inl rfl) (pe_lst (pa_cons (by exact (pe_make MI GI hr (by rfl) gQ bI3 .nil pass0 (pa_cons (pe_op op_cat (pv 0) (pe_slice sl_list (pv 0) po_none (po_some pe_int))) (pa_cons (pv 1) (pa_cons (pv 2) pa_nil))))) (pa_cons (by exact (pe_make MI GI hr (by rfl) gQ bI3 .nil pass0 (pa_cons (pv 0) (pa_cons (pe_op op_cat (pv 1) (pe_lst (pa_cons (pe_tup (pa_cons pe_str (pa_cons pe_str pa_nil))) pa_nil))) (pa_cons (pv 2) pa_nil))))) pa_nil))))
      (pss_cons (ps_for PassesOwn.never rfl (pi_list (pe_slice sl_list (pv 0) po_none (po_some pe_int))) (pg_name (i := 8) scQR.nd rfl (Or.inr rfl))
        (pss_cons (ps_set (i := 10) scQR.nd rfl (Or.inl rfl) (pe_slice sl_list (by exact (pe_lc (own := [("_law_word", 9)]) (g := gName 9) (tt := tTest (tOp (rNotInD K) (tTup (tCons (tVar 8) (tCons (tVar 9) tNil))) (tVar 2))) (te := tTup (tCons (tVar 8) (tCons (tVar 9) tNil))) rfl scQR.nd (pi_tup (pe_tup (pa_cons pe_str (pa_cons pe_str (pa_cons pe_str pa_nil)))))
          (blkOk_by (own := [("_law_word", 9)]) (N := nQR) (sc := defScope sQuestionRight) (by decide +kernel))
          (fun _ _ _ _ _ => pg_name (i := 9) scQR.nd rfl (Or.inl rfl)) (fun _ _ _ _ _ => pts_one (by exact (pt_cmpR (op_notInD hu65) (pe_tup (pa_cons (pv 8) (pa_cons (pv 9) pa_nil))) (pv 2) (by rfl)))) (fun _ _ _ _ _ => by exact (pe_tup (pa_cons (pv 8) (pa_cons (pv 9) pa_nil)))))) po_none (po_some pe_int)))
        (pss_one (ps_if (pt_cmpR (op_ownEq GE hr1 hs hf bE) (pv 4) (by exact (pe_make MI GI hr (by rfl) gQ bI3 .nil pass0 (pa_cons (pv 0) (pa_cons (pv 1) (pa_cons (pe_op op_cat (pe_slice sl_list (pv 2) po_none (po_some pe_int)) (pv 10)) pa_nil))))) (nomark _)) (pss_one (ps_ret pe_bl)) pss_nil))))
      (pss_one (ps_ret (pe_cmpR (op_eqB (rcB_list mon_id eqB_id) hr1) (by exact (pe_lc (own := [("_law_other", 11)]) (g := gName 11) (tt := tTest (tOp (rOwnEq K CQ (spQEq K CQ)) (tVar 4) (tVar 11))) (te := tVar 11) rfl scQR.nd (pi_list (pv 7))
          (blkOk_by (own := [("_law_other", 11)]) (N := nQR) (sc := defScope sQuestionRight) (by decide +kernel))
          (fun _ _ _ _ _ => pg_name (i := 11) scQR.nd rfl (Or.inl rfl)) (fun _ _ _ _ _ => pts_one (by exact (pt_cmpR (op_ownEq GE hr1 hs hf bE) (pv 4) (pv 11) (nomark _)))) (fun _ _ _ _ _ => by exact (pv 11))))
        (pe_slice sl_list (pe_lst (pa_cons (pe_ix ix_list (pv 7) pe_int (fun _ _ => rfl)) pa_nil)) po_none (po_some (pe_callTy call_int1 (by rfl) B2.int boot_int (pa_cons (pe_cmpR (op_eqD hr1.units) (pv 0) (pe_lst pa_nil) (nomark _)) pa_nil)))) (nomark _))))))))))), ?_⟩
    have ft := (shw_Q rx.ok).fits (by decide) (by decide)
    have ql : x.qs.length ≤ 300 := rx.ok.ql
    have pl : x.ps.length ≤ 300 := rx.ok.pl
    have cl := rx.cl
    have pl2 := rx.pl
    -- given
    refine ⟨_, rfl, ac, _, rfl, .inl (SqL.of tri.c), fun c1 n1 => ?_⟩
    have u1 : Same H (upd H c1 (.lst (x.cs.map V.str))) := same_new n1
    have e1 : upd H c1 (.lst (x.cs.map V.str)) c1 = some (.lst (x.cs.map V.str)) := upd_same
    generalize upd H c1 (.lst (x.cs.map V.str)) = F1 at u1 e1 ⊢
    refine ⟨_, rfl, at_, _, rfl, .inl (SqL.of (u1 _ _ tri.t)), fun c2 n2 => ?_⟩
    have u2 : Same F1 (upd F1 c2 (.lst us)) := same_new n2
    have e2 : upd F1 c2 (.lst us) c2 = some (.lst us) := upd_same
    generalize upd F1 c2 (.lst us) = F2 at u2 e2 ⊢
    have u12 := u1.trans u2
    refine ⟨_, rfl, aq, _, rfl, .inl (SqL.of (u12 _ _ tri.q)), fun c3 n3 => ?_⟩
    have u3 : Same F2 (upd F2 c3 (.lst uq)) := same_new n3
    have e3 : upd F2 c3 (.lst uq) c3 = some (.lst uq) := upd_same
    have m1 : H c1 = none := n1
    have m2 : H c2 = none := u1.free n2
    have m3 : H c3 = none := u12.free n3
    generalize upd F2 c3 (.lst uq) = F3 at u3 e3 ⊢
    have u13 := u12.trans u3
    refine ⟨(by show 3 ≤ sizeLine; decide), fun D nD => ?_⟩
    have dq : D ∉ [c1, c2, c3] := fun z => by
      simp only [List.mem_cons, List.not_mem_nil, or_false] at z
      rcases z with z | z | z
      · rw [z, u3 _ _ (u2 _ _ e1)] at nD
        cases nD
      · rw [z, u3 _ _ e2] at nD
        cases nD
      · rw [z, e3] at nD
        cases nD
    have u4 : Same F3 (upd F3 D (.lst [.ref c1, .ref c2, .ref c3])) := same_new nD
    have eD : upd F3 D (.lst [.ref c1, .ref c2, .ref c3]) D = some (.lst [.ref c1, .ref c2, .ref c3]) := upd_same
    generalize upd F3 D (.lst [.ref c1, .ref c2, .ref c3]) = H1 at u4 eD ⊢
    have s1 := u13.trans u4
    have tg : Tri H1 c1 c2 c3 us uq x := ⟨u4 _ _ (u3 _ _ (u2 _ _ e1)), u4 _ _ (u3 _ _ e2), tri.ps.same s1, u4 _ _ e3, tri.qs.same s1⟩
    clear u1 u2 u3 u4 u12 u13 e1 e2 e3
    refine (show ∀ G : Hp, H1 = G → tSeq _ _ { nx := fun _ H' => Q .non H', rt := Q } [some (.ref ac), some (.ref at_), some (.ref aq), some (.ref D), none, none, none, none, none, none, none, none] G from fun G hG => ?_) _ rfl
    subst hG

    -- the question
    refine ⟨_, rfl, D, _, _, _, rfl, rfl, SqL.of eD, at3_0, _, rfl, D, _, _, _, rfl, rfl, SqL.of eD, at3_1, _, rfl, D, _, _, _, rfl, rfl, SqL.of eD, at3_2, fun sx dx nsx ndx _ => mk_q (y := x) rx.ok rx.clo nsx ndx tg.c tg.t tg.ps (opt_of tg.q tg.qs ql) fun H2 s2 rn => ⟨rfl, ?_⟩⟩
    have tg2 := tg.same s2
    have eD2 := s2 _ _ eD
    refine (show ∀ G : Hp, H2 = G → tSeq _ _ { nx := fun _ H' => Q .non H', rt := Q } [some (.ref ac), some (.ref at_), some (.ref aq), some (.ref D), some (.ref sx), none, none, none, none, none, none, none] G from fun G hG => ?_) _ rfl
    subst hG

    -- spoils
    have hq : ∀ l ∈ [c1, c2, c3], (∃ xs : List V, H2 l = some (.lst xs) ∧ xs.length ≤ 1000) ∧ H l = none := fun l hl => by
      simp only [List.mem_cons, List.not_mem_nil, or_false] at hl
      rcases hl with rfl | rfl | rfl
      · exact ⟨⟨_, tg2.c, by rw [List.length_map]; omega⟩, m1⟩
      · exact ⟨⟨_, tg2.t, by rw [tg2.ps.len]; omega⟩, m2⟩
      · exact ⟨⟨_, tg2.q, by rw [tg2.qs.len]; omega⟩, m3⟩
    refine ⟨_, rfl, D, [c1, c2, c3], rfl, SqL.of eD2, dq, by show 3 ≤ 1000; decide, fun l hl => (hq l hl).1, fun H3 sb _ => ?_⟩
    have s3 : Same H H3 := Sbs.same (s1.trans s2) (fun l hl => (hq l hl).2) sb
    have rs : QA CQ H3 sx x := by
      refine QAn.sbs rn s2 (fun l hl => ?_) sb
      simp only [List.mem_cons, List.not_mem_nil, or_false] at hl
      rcases hl with rfl | rfl | rfl
      · exact ⟨_, tg.c⟩
      · exact ⟨_, tg.t⟩
      · exact ⟨_, tg.q⟩
    have tri3 := tri.same s3
    clear rn tg2 tg sb hq dq
    refine (show ∀ G : Hp, H3 = G → tSeq _ _ { nx := fun _ H' => Q .non H', rt := Q } [some (.ref ac), some (.ref at_), some (.ref aq), some (.ref D), some (.ref sx), none, none, none, none, none, none, none] G from fun G hG => ?_) _ rfl
    subst hG

    -- shown twice
    refine ⟨2, rfl, by decide, by decide, for_range (n := 2) (fun _ σ H' => ∃ o t, σ = [some (.ref ac), some (.ref at_), some (.ref aq), some (.ref D), some (.ref sx), o, t, none, none, none, none, none] ∧ Same H3 H') ⟨_, _, rfl, Same.refl _⟩ ?_ ?_⟩
    · rintro i σ H4 hi ⟨o, t, rfl, s4⟩
      obtain ⟨dx', l1, l2, l3, us', us2, e, e1, ⟨e2, p2⟩, e3, p3⟩ := rs.same s4
      refine ⟨_, rfl, sx, dx', _, rfl, e, sx, dx', l1, _, _, rfl, e, qk1, e1, fun r1 n1 => ?_⟩
      have t1 : Same H4 (upd H4 r1 (.lst (x.cs.map V.str))) := same_new n1
      have f1 : upd H4 r1 (.lst (x.cs.map V.str)) r1 = some (.lst (x.cs.map V.str)) := upd_same
      generalize upd H4 r1 (.lst (x.cs.map V.str)) = F1 at t1 f1 ⊢
      refine ⟨_, rfl, sx, dx', _, rfl, t1 _ _ e, sx, dx', l2, _, _, rfl, t1 _ _ e, qk2, t1 _ _ e2, fun r2 n2 => ?_⟩
      have u2 : Same F1 (upd F1 r2 (.lst us')) := same_new n2
      have t2 : Same H4 (upd F1 r2 (.lst us')) := t1.trans u2
      have f2 : upd F1 r2 (.lst us') r2 = some (.lst us') := upd_same
      have f12 := u2 _ _ f1
      generalize upd F1 r2 (.lst us') = F2 at t2 f2 f12 u2 ⊢
      refine ⟨_, rfl, sx, dx', _, rfl, t2 _ _ e, sx, dx', l3, _, _, rfl, t2 _ _ e, qk3, t2 _ _ e3, fun r3 n3 => ?_⟩
      have u3 : Same F2 (upd F2 r3 (.lst us2)) := same_new n3
      have t3 : Same H4 (upd F2 r3 (.lst us2)) := t2.trans u3
      have f3 : upd F2 r3 (.lst us2) r3 = some (.lst us2) := upd_same
      have f13 := u3 _ _ f12
      have f23 := u3 _ _ f2
      have v1 : H4 r1 = none := n1
      have v2 : H4 r2 = none := t1.free n2
      have v3 : H4 r3 = none := t2.free n3
      generalize upd F2 r3 (.lst us2) = F3 at t3 f3 f13 f23 u3 ⊢
      refine ⟨(by show 3 ≤ sizeLine; decide), fun pl npl => ?_⟩
      have npq : pl ∉ [r1, r2, r3] := fun z => by
        simp only [List.mem_cons, List.not_mem_nil, or_false] at z
        rcases z with z | z | z
        · rw [z, f13] at npl
          cases npl
        · rw [z, f23] at npl
          cases npl
        · rw [z, f3] at npl
          cases npl
      have u4 : Same F3 (upd F3 pl (.lst [.ref r1, .ref r2, .ref r3])) := same_new npl
      have t4 := t3.trans u4
      have f4 : upd F3 pl (.lst [.ref r1, .ref r2, .ref r3]) pl = some (.lst [.ref r1, .ref r2, .ref r3]) := upd_same
      have tr4 : Tri (upd F3 pl (.lst [.ref r1, .ref r2, .ref r3])) r1 r2 r3 us' us2 x := ⟨u4 _ _ f13, u4 _ _ f23, p2.same t4, u4 _ _ f3, p3.same t4⟩
      generalize upd F3 pl (.lst [.ref r1, .ref r2, .ref r3]) = F4 at t4 tr4 f4 ⊢
      have s5 : Same H3 F4 := s4.trans t4
      refine ⟨_, rfl, pl, dQ x, rfl, tr4.rdd f4, ft.1, ft.2.1, ft.2.2, _, rfl, _, rfl, _, rfl, (by show 3 ≤ sizeLine; decide), fun pm npm => ?_⟩
      have w1 : Same F4 (upd F4 pm (.lst [.ref ac, .ref at_, .ref aq])) := same_new npm
      have g1 : upd F4 pm (.lst [.ref ac, .ref at_, .ref aq]) pm = some (.lst [.ref ac, .ref at_, .ref aq]) := upd_same
      generalize upd F4 pm (.lst [.ref ac, .ref at_, .ref aq]) = F5 at w1 g1 ⊢
      have s6 := s5.trans w1
      have tr5 := tr4.same w1
      refine ⟨pm, dQ x, rfl, (tri3.same s6).rdd g1, ft.1, ft.2.1, ft.2.2, rfl, _, rfl, ?_⟩
      rw [decide_eq_true (rfl : V.str (dQ x).shown = V.str (dQ x).shown)]
      refine iteF ?_
      have hq : ∀ l ∈ [r1, r2, r3], (∃ xs : List V, F5 l = some (.lst xs) ∧ xs.length ≤ 1000) ∧ H3 l = none := fun l hl => by
        simp only [List.mem_cons, List.not_mem_nil, or_false] at hl
        rcases hl with rfl | rfl | rfl
        · exact ⟨⟨_, tr5.c, by rw [List.length_map]; omega⟩, s4.free v1⟩
        · exact ⟨⟨_, tr5.t, by rw [tr5.ps.len]; omega⟩, s4.free v2⟩
        · exact ⟨⟨_, tr5.q, by rw [tr5.qs.len]; omega⟩, s4.free v3⟩
      refine ⟨_, rfl, pl, [r1, r2, r3], rfl, SqL.of (w1 _ _ f4), npq, by show 3 ≤ 1000; decide, fun l hl => (hq l hl).1, fun H6 sb _ => ?_⟩
      exact ⟨_, _, rfl, Sbs.same s6 (fun l hl => (hq l hl).2) sb⟩
    rintro σ H4 ⟨o5, o6, rfl, s4⟩
    have q4 := rs.same s4
    have tri4 := tri3.same s4
    have sH4 := s3.trans s4
    clear rs tri3
    refine (show ∀ G : Hp, H4 = G → tSeq _ _ { nx := fun _ H' => Q .non H', rt := Q } [some (.ref ac), some (.ref at_), some (.ref aq), some (.ref D), some (.ref sx), o5, o6, none, none, none, none, none] G from fun G hG => ?_) _ rfl
    subst hG

    have K4 : ∀ G, Same H4 G → Tri G ac at_ aq us uq x ∧ QA CQ G sx x := fun G s => ⟨tri4.same s, q4.same s⟩
    -- equal ones
    refine ⟨_, rfl, _, rfl, ac, _, rfl, .inl (SqL.of tri4.c), fun c1 n1 => ?_⟩
    have u1 : Same H4 (upd H4 c1 (.lst (x.cs.map V.str))) := same_new n1
    have e1 : upd H4 c1 (.lst (x.cs.map V.str)) c1 = some (.lst (x.cs.map V.str)) := upd_same
    generalize upd H4 c1 (.lst (x.cs.map V.str)) = F1 at u1 e1 ⊢
    refine ⟨_, rfl, at_, _, rfl, .inl (SqL.of (u1 _ _ tri4.t)), fun c2 n2 => ?_⟩
    have u2 : Same F1 (upd F1 c2 (.lst us)) := same_new n2
    have e2 : upd F1 c2 (.lst us) c2 = some (.lst us) := upd_same
    generalize upd F1 c2 (.lst us) = F2 at u2 e2 ⊢
    have u12 := u1.trans u2
    refine ⟨_, rfl, aq, _, rfl, .inl (SqL.of (u12 _ _ tri4.q)), fun c3 n3 => ?_⟩
    have u3 : Same F2 (upd F2 c3 (.lst uq)) := same_new n3
    have e3 : upd F2 c3 (.lst uq) c3 = some (.lst uq) := upd_same
    generalize upd F2 c3 (.lst uq) = F3 at u3 e3 ⊢
    have u13 := u12.trans u3
    refine fun y1 dy1 ny1 ndy1 _ => mk_q (y := x) rx.ok rx.clo ny1 ndy1 (u3 _ _ (u2 _ _ e1)) (u3 _ _ e2) (tri4.ps.same u13) (opt_of e3 (tri4.qs.same u13) ql) fun H5 s5 rn5 => ⟨rfl, eq_qs T.R T.I (q4.same (u13.trans s5)) rx.ok rn5.ra rx.ok ⟨_, rfl, ?_⟩⟩
    rw [decide_eq_true (rfl : x = x)]
    have s6 := u13.trans s5
    obtain ⟨tr6, q6⟩ := K4 H5 s6
    clear rn5 u1 u2 u3 u12 u13 e1 e2 e3
    refine iteF ⟨_, rfl, _, rfl, _, rfl, _, rfl, fun y2 dy2 ny2 ndy2 _ => mk_q (y := x) rx.ok rx.clo ny2 ndy2 tr6.c tr6.t tr6.ps (opt_of tr6.q tr6.qs ql) fun H6 s7 rn6 => ⟨rfl, ne_qs T.R T.I (q6.same s7) rx.ok rn6.ra rx.ok ⟨_, rfl, ?_⟩⟩⟩
    rw [decide_eq_true (rfl : x = x)]
    refine iteF ?_
    have s8 := s6.trans s7
    clear rn6
    refine (show ∀ G : Hp, H6 = G → tSeq _ _ { nx := fun _ H' => Q .non H', rt := Q } [some (.ref ac), some (.ref at_), some (.ref aq), some (.ref D), some (.ref sx), o5, o6, none, none, none, none, none] G from fun G hG => ?_) _ rfl
    subst hG

    -- None for no pairs
    apply both (I := fun G => Same H4 G)
    case h =>
      intro rest
      obtain ⟨rw1, ra1⟩ := K4 H6 s8
      refine ⟨_, rfl, Nat.zero_le _, fun l nl => ?_⟩
      have u1 : Same H6 (upd H6 l (.lst [])) := same_new nl
      have e1 : upd H6 l (.lst []) l = some (.lst []) := upd_same
      generalize upd H6 l (.lst []) = F1 at u1 e1 ⊢
      obtain ⟨rw2, ra2⟩ := K4 F1 (s8.trans u1)
      refine ⟨dL x.qs, dL [], dp_L (SqL.of rw2.q) rw2.qs, .lst (SqL.of e1) .nil, (lay_dL fun p hp => (rx.ok.qs p hp).asc).shaped (by decide), (lay_dL (ps := []) (fun p hp => nomatch hp)).shaped (by decide), _, rfl, ?_⟩
      rw [eqv_L]
      by_cases hq0 : x.qs = []
      · rw [decide_eq_true hq0]
        refine iteT ⟨_, rfl, _, rfl, _, rfl, fun y7 dy7 ny7 ndy7 _ => mk_q (y := x) rx.ok rx.clo ny7 ndy7 rw2.c rw2.t rw2.ps (.inl ⟨rfl, hq0⟩) fun H12 s13 rn13 => ⟨rfl, ne_qs T.R T.I (ra2.same s13) rx.ok rn13.ra rx.ok ⟨_, rfl, ?_⟩⟩⟩
        rw [decide_eq_true (rfl : x = x)]
        refine iteF ?_
        exact rest H12 ((s8.trans u1).trans s13)
      · rw [decide_eq_false hq0]
        refine iteF ?_
        exact rest F1 (s8.trans u1)
    clear s8 s7
    intro H7 s8
    refine (show ∀ G : Hp, H7 = G → tSeq _ _ { nx := fun _ H' => Q .non H', rt := Q } [some (.ref ac), some (.ref at_), some (.ref aq), some (.ref D), some (.ref sx), o5, o6, none, none, none, none, none] G from fun G hG => ?_) _ rfl
    subst hG

    -- others
    obtain ⟨tr1, qa1⟩ := K4 H7 s8
    refine ⟨_, rfl, _, rfl, 1, rfl, ac, _, rfl, SqL.of tr1.c, fun c1 n1 => ?_⟩
    rw [take_names]
    have u1 : Same H7 (upd H7 c1 (.lst ((x.cs.take 1).map V.str))) := same_new n1
    have e1 : upd H7 c1 (.lst ((x.cs.take 1).map V.str)) c1 = some (.lst ((x.cs.take 1).map V.str)) := upd_same
    generalize upd H7 c1 (.lst ((x.cs.take 1).map V.str)) = F1 at u1 e1 ⊢
    refine ⟨_, _, _, _, rfl, rfl, u1 _ _ tr1.c, e1, ?_, fun c2 n2 => ?_⟩
    · rw [List.length_map, List.length_map, List.length_take]
      exact Nat.le_trans (by omega : _ ≤ 1000) (by decide)
    rw [← List.map_append]
    have u2 : Same F1 (upd F1 c2 (.lst ((x.cs ++ x.cs.take 1).map V.str))) := same_new n2
    have e2 : upd F1 c2 (.lst ((x.cs ++ x.cs.take 1).map V.str)) c2 = some (.lst ((x.cs ++ x.cs.take 1).map V.str)) := upd_same
    generalize upd F1 c2 (.lst ((x.cs ++ x.cs.take 1).map V.str)) = F2 at u2 e2 ⊢
    have u12 := u1.trans u2
    have tr2 := tr1.same u12
    have csv : ∀ y ∈ x.cs ++ x.cs.take 1, y ∈ x.cs := fun y hy => (List.mem_append.mp hy).elim id List.mem_of_mem_take
    have cle : (x.cs ++ x.cs.take 1).length ≤ 300 := by
      rw [List.length_append, List.length_take]
      omega
    have ok3 : (⟨x.cs ++ x.cs.take 1, x.ps, x.qs⟩ : Ql).Ok := ⟨fun y hy => rx.ok.cs y (csv y hy), cle, rx.ok.ps, rx.ok.pl, rx.ok.qs, rx.ok.ql⟩
    refine ⟨_, rfl, _, rfl, fun y3 dy3 ny3 ndy3 _ => mk_q (y := ⟨x.cs ++ x.cs.take 1, x.ps, x.qs⟩) ok3 ⟨hm_sub rx.clo.c fun y hy => .inl (csv y hy), rx.clo.q⟩ ny3 ndy3 e2 tr2.t tr2.ps (opt_of tr2.q tr2.qs ql) fun H8 s9 rn3 => ⟨rfl, ?_⟩⟩
    have tr3 := tr2.same s9
    refine ⟨_, rfl, _, rfl, (by show 2 ≤ sizeLine; decide), fun t nt => ?_⟩
    have w1 : Same H8 (upd H8 t (.tup [.str "p", .str "a"])) := same_new nt
    have f1 : upd H8 t (.tup [.str "p", .str "a"]) t = some (.tup [.str "p", .str "a"]) := upd_same
    generalize upd H8 t (.tup [.str "p", .str "a"]) = G1 at w1 f1 ⊢
    refine ⟨(by show 1 ≤ sizeLine; decide), fun l nl => ?_⟩
    have w2 : Same G1 (upd G1 l (.lst [.ref t])) := same_new nl
    have f2 : upd G1 l (.lst [.ref t]) l = some (.lst [.ref t]) := upd_same
    generalize upd G1 l (.lst [.ref t]) = G2 at w2 f2 ⊢
    have w12 := w1.trans w2
    refine ⟨_, _, _, _, rfl, rfl, w12 _ _ tr3.t, f2, ?_, fun p np => ?_⟩
    · rw [tr3.ps.len]
      exact Nat.le_trans (by show x.ps.length + 1 ≤ 1000; omega) (by decide)
    have w3 : Same G2 (upd G2 p (.lst (us ++ [.ref t]))) := same_new np
    have f3 : upd G2 p (.lst (us ++ [.ref t])) p = some (.lst (us ++ [.ref t])) := upd_same
    generalize upd G2 p (.lst (us ++ [.ref t])) = G3 at w3 f3 ⊢
    have w13 := w12.trans w3
    have tr4 := tr3.same w13
    have pp4 : PaL G3 (us ++ [.ref t]) (x.ps ++ [(["p", "a"] : List Str)]) := tr4.ps.app (.cons (w3 _ _ (w2 _ _ f1)) .nil)
    have sub4 : ∀ y ∈ tails x.ps, y ∈ tails (x.ps ++ [(["p", "a"] : List Str)]) := fun y hy => by
      obtain ⟨p, hp, hy⟩ := tails_mem.mp hy
      exact tails_mem.mpr ⟨p, List.mem_append_left _ hp, hy⟩
    have pao : PatOk (["p", "a"] : List Str) := ⟨"p", ["a"], rfl, by decide +kernel, by decide, fun y hy => .inr (by rw [List.mem_singleton.mp hy]; decide +kernel)⟩
    have ok4 : (⟨x.cs, x.ps ++ [(["p", "a"] : List Str)], x.qs⟩ : Ql).Ok := ⟨rx.ok.cs, rx.ok.cl, fun y hy => (List.mem_append.mp hy).elim (rx.ok.ps y) fun z => by rw [List.mem_singleton.mp z]; exact pao, by show (x.ps ++ [(["p", "a"] : List Str)]).length ≤ 300; rw [List.length_append, List.length_singleton]; omega, rx.ok.qs, rx.ok.ql⟩
    refine ⟨_, rfl, fun y4 dy4 ny4 ndy4 _ => mk_q (y := ⟨x.cs, x.ps ++ [(["p", "a"] : List Str)], x.qs⟩) ok4 ⟨hm_mono rx.clo.c sub4, hm_mono rx.clo.q sub4⟩ ny4 ndy4 tr4.c f3 pp4 (opt_of tr4.q tr4.qs ql) fun H9 s10 rn4 => ⟨rfl, (by show 2 ≤ sizeLine; decide), fun o no => ?_⟩⟩
    have so : Same H9 (upd H9 o (.lst [.ref y3, .ref y4])) := same_new no
    have eo : upd H9 o (.lst [.ref y3, .ref y4]) o = some (.lst [.ref y3, .ref y4]) := upd_same
    generalize upd H9 o (.lst [.ref y3, .ref y4]) = H10 at so eo ⊢
    have q3 : QA CQ H10 y3 ⟨x.cs ++ x.cs.take 1, x.ps, x.qs⟩ := ((rn3.ra.same w13).same s10).same so
    have q4' : QA CQ H10 y4 ⟨x.cs, x.ps ++ [(["p", "a"] : List Str)], x.qs⟩ := rn4.ra.same so
    have s11 : Same H4 H10 := ((((s8.trans u12).trans s9).trans w13).trans s10).trans so
    clear rn3 rn4 tr1 tr2 tr3 tr4 u1 u2 u12 w1 w2 w3 w12 w13 e1 e2 f1 f2 f3 pp4 so qa1
    refine (show ∀ G : Hp, H10 = G → tSeq _ _ { nx := fun _ H' => Q .non H', rt := Q } [some (.ref ac), some (.ref at_), some (.ref aq), some (.ref D), some (.ref sx), o5, o6, some (.ref o), none, none, none, none] G from fun G hG => ?_) _ rfl
    subst hG

    -- another pair
    obtain ⟨tr1, qa1⟩ := K4 H10 s11
    refine ⟨_, rfl, 1, rfl, ac, _, rfl, SqL.of tr1.c, fun p np => ?_⟩
    rw [take_names]
    have u1 : Same H10 (upd H10 p (.lst ((x.cs.take 1).map V.str))) := same_new np
    have ep : upd H10 p (.lst ((x.cs.take 1).map V.str)) p = some (.lst ((x.cs.take 1).map V.str)) := upd_same
    generalize upd H10 p (.lst ((x.cs.take 1).map V.str)) = Hw at u1 ep ⊢
    refine ⟨p, rfl, ⟨_, SqL.of ep⟩, for_list (K := K) (a := p) (xs := (x.cs.take 1).map V.str) (fun i σ H' => ∃ o8 o10, σ = [some (.ref ac), some (.ref at_), some (.ref aq), some (.ref D), some (.ref sx), o5, o6, some (.ref o), o8, none, o10, none] ∧ Same Hw H') ⟨_, _, rfl, Same.refl _⟩ (fun i σ H' _ z => ?_) ?_ ?_⟩
    · obtain ⟨_, _, _, s⟩ := z
      exact SqL.of (s _ _ ep)
    · rintro i v σ H' hi ⟨o8, o10, rfl, sH⟩
      obtain ⟨tm, hti, rfl⟩ := at_map hi
      have hcs : tm ∈ x.cs := List.mem_of_mem_take (List.mem_of_getElem? hti)
      have hvr := rx.ok.cs tm hcs
      have htl := hm_iff.mp rx.clo.c tm hcs hvr
      have s12 := (s11.trans u1).trans sH
      refine ⟨(by show 3 ≤ sizeLine; decide), fun t3 nt3 => ?_⟩
      have v1 : Same H' (upd H' t3 (.tup [.str "zz", .str "yy", .str "ww"])) := same_new nt3
      have e3 : upd H' t3 (.tup [.str "zz", .str "yy", .str "ww"]) t3 = some (.tup [.str "zz", .str "yy", .str "ww"]) := upd_same
      generalize upd H' t3 (.tup [.str "zz", .str "yy", .str "ww"]) = F0 at v1 e3 ⊢
      have tr0 := (K4 F0 (s12.trans v1)).1
      refine ⟨t3, rfl, ⟨_, SqT.of e3⟩, fun E nE => ?_⟩
      refine lc_tup (K := K) (a := t3) (xs := threeW.map V.str) (fun i G => Same F0 G ∧ ∃ ws, G E = some (.lst ws) ∧ ws.length ≤ i ∧ PaL G ws (freshP x.qs tm (threeW.take i))) ⟨same_new nE, [], upd_same, Nat.le_refl _, .nil⟩ (fun i G _ y => SqT.of (y.1 _ _ e3)) ?_ ?_
      · rintro j v G hj ⟨s0, ws, ew, lw, pw⟩
        obtain ⟨wd, hwd, rfl⟩ := at_map hj
        have hj3 : j < 3 := (List.getElem?_eq_some_iff.mp hwd).1
        refine ⟨rfl, _, rfl, _, rfl, (by show 2 ≤ sizeLine; decide), fun t2 nt2 => ?_⟩
        have w1 : Same G (upd G t2 (.tup [.str tm, .str wd])) := same_new nt2
        have e2 : upd G t2 (.tup [.str tm, .str wd]) t2 = some (.tup ([tm, wd].map V.str)) := upd_same
        generalize upd G t2 (.tup [.str tm, .str wd]) = G1 at w1 e2 ⊢
        have rw1 := (tr0.same s0).same w1
        have pok : PairOk [tm, wd] := .term hvr (threeW_nm wd (List.mem_of_getElem? hwd))
        refine ⟨_, rfl, dT [tm, wd], x.qs.map dT, dp_T e2, dp_L (SqL.of rw1.q) rw1.qs, (lay_dT pok.asc).shaped (by decide), (lay_dL fun p hp => (rx.ok.qs p hp).asc).shaped (by decide), _, rfl, ?_⟩
        rw [any_dT]
        by_cases hm : [tm, wd] ∈ x.qs
        · rw [decide_eq_true hm]
          refine iteF ⟨s0.trans w1, ws, w1 _ _ ew, by omega, ?_⟩
          rw [take_one hwd, freshP_app, if_pos hm, List.append_nil]
          exact pw.same w1
        · rw [decide_eq_false hm]
          refine iteT ⟨_, rfl, _, rfl, (by show 2 ≤ sizeLine; decide), fun t4 nt4 => ⟨ws, same_new nt4 _ _ (w1 _ _ ew), Nat.lt_of_le_of_lt (by omega : _ ≤ 1000) (by decide), ⟨same_put (same_put (s0.trans w1) ((s0.trans w1).free nt4)) nE, _, upd_same, by rw [List.length_append, List.length_singleton]; omega, ?_⟩⟩⟩
          rw [take_one hwd, freshP_app, if_neg hm]
          have eE := same_new (o := .tup [.str tm, .str wd]) nt4 _ _ (w1 _ _ ew)
          have t4E : t4 ≠ E := fun z => by
            rw [z, w1 _ _ ew] at nt4
            cases nt4
          exact ((pw.same w1).same (same_new nt4)).putl eE |>.app (.cons (by rw [upd_ne t4E, upd_same] <;> rfl) .nil)
      · rintro G ⟨s0, ws, ew, _, pw⟩
        rw [List.length_map, List.take_length] at pw
        obtain ⟨wd, rest, hf, hwn, hnew⟩ := freshP_some (qs := x.qs) (t := tm) rx.ql
        rw [hf] at pw
        obtain ⟨t0, vs0, rfl, et, pw'⟩ : ∃ t0 vs0, ws = .ref t0 :: vs0 ∧ G t0 = some (.tup ([tm, wd].map V.str)) ∧ PaL G vs0 rest := by
          cases pw with
          | cons et pw' => exact ⟨_, _, rfl, et, pw'⟩
        refine ⟨1, rfl, E, _, rfl, SqL.of ew, fun pn npn => ?_⟩
        rw [cutN]
        have y0 : Same F0 (upd G pn (.lst ((V.ref t0 :: vs0).take 1))) := same_put s0 (s0.free npn)
        have epn : upd G pn (.lst ((V.ref t0 :: vs0).take 1)) pn = some (.lst [.ref t0]) := upd_same
        have et2 := same_new (o := .lst ((V.ref t0 :: vs0).take 1)) npn _ _ et
        generalize upd G pn (.lst ((V.ref t0 :: vs0).take 1)) = G2 at y0 epn et2 ⊢
        have y1 := s12.trans (v1.trans y0)
        obtain ⟨rw2, qa2⟩ := K4 G2 y1
        refine ⟨_, rfl, _, rfl, _, rfl, _, rfl, 1, rfl, aq, _, rfl, SqL.of rw2.q, fun c1 nc1 => ?_⟩
        rw [cutN]
        have z1 : Same G2 (upd G2 c1 (.lst (uq.take 1))) := same_new nc1
        have ec1 : upd G2 c1 (.lst (uq.take 1)) c1 = some (.lst (uq.take 1)) := upd_same
        generalize upd G2 c1 (.lst (uq.take 1)) = G3 at z1 ec1 ⊢
        refine ⟨_, rfl, _, _, _, _, rfl, rfl, ec1, z1 _ _ epn, ?_, fun c2 nc2 => ?_⟩
        · rw [List.length_take]
          exact Nat.le_trans (by show min 1 uq.length + 1 ≤ 1000; omega) (by decide)
        have z2 : Same G3 (upd G3 c2 (.lst (uq.take 1 ++ [.ref t0]))) := same_new nc2
        have ec2 : upd G3 c2 (.lst (uq.take 1 ++ [.ref t0])) c2 = some (.lst (uq.take 1 ++ [.ref t0])) := upd_same
        generalize upd G3 c2 (.lst (uq.take 1 ++ [.ref t0])) = G4 at z2 ec2 ⊢
        have z3 := z1.trans z2
        have rw3 := rw2.same z3
        have pp4 : PaL G4 (uq.take 1 ++ [.ref t0]) (x.qs.take 1 ++ [[tm, wd]]) := rw3.qs.take1.app (.cons (z3 _ _ et2) .nil)
        have qok : ∀ q ∈ x.qs.take 1 ++ [[tm, wd]], PairOk q := fun q hq => (List.mem_append.mp hq).elim (fun z => rx.ok.qs q (List.mem_of_mem_take z)) fun z => by
          rw [List.mem_singleton.mp z]
          exact .term hvr hwn
        have qle : (x.qs.take 1 ++ [[tm, wd]]).length ≤ 300 := by
          rw [List.length_append, List.length_take, List.length_singleton]
          omega
        have qcl : hasMore (x.qs.take 1 ++ [[tm, wd]]).flatten x.ps = false := hm_sub rx.clo.q fun y hy => by
          obtain ⟨q, hq, hy⟩ := List.mem_flatten.mp hy
          rcases List.mem_append.mp hq with z | z
          · exact .inl (List.mem_flatten.mpr ⟨q, List.mem_of_mem_take z, hy⟩)
          · rw [List.mem_singleton.mp z] at hy
            simp only [List.mem_cons, List.not_mem_nil, or_false] at hy
            rcases hy with rfl | rfl
            · exact .inr (.inl htl)
            · exact .inr (.inr hwn)
        have ok5 : (⟨x.cs, x.ps, x.qs.take 1 ++ [[tm, wd]]⟩ : Ql).Ok := ⟨rx.ok.cs, rx.ok.cl, rx.ok.ps, rx.ok.pl, qok, qle⟩
        refine fun y5 dy5 ny5 ndy5 _ => mk_q (y := ⟨x.cs, x.ps, x.qs.take 1 ++ [[tm, wd]]⟩) ok5 ⟨rx.clo.c, qcl⟩ ny5 ndy5 rw3.c rw3.t rw3.ps (opt_of ec2 pp4 qle) fun H12 s13 rn5 => ⟨rfl, eq_qs T.R T.I ((qa2.same z3).same s13) rx.ok rn5.ra ok5 ⟨_, rfl, ?_⟩⟩
        rw [decide_eq_false (fun z => hnew (by
          have z2 := congrArg Ql.qs z
          dsimp only at z2
          exact z2 ▸ List.mem_append_right _ List.mem_cons_self) : ¬ x = ⟨x.cs, x.ps, x.qs.take 1 ++ [[tm, wd]]⟩)]
        refine iteF ⟨_, _, rfl, sH.trans (v1.trans (y0.trans (z3.trans s13)))⟩
    rintro σ H11 ⟨o8, o10, rfl, sH⟩
    have s12 := (s11.trans u1).trans sH
    have eo2 := sH _ _ (u1 _ _ eo)
    have q32 := (q3.same u1).same sH
    have q42 := (q4'.same u1).same sH
    clear ep u1 sH q3 q4'
    refine (show ∀ G : Hp, H11 = G → tSeq _ _ { nx := fun _ H' => Q .non H', rt := Q } [some (.ref ac), some (.ref at_), some (.ref aq), some (.ref D), some (.ref sx), o5, o6, some (.ref o), o8, none, o10, none] G from fun G hG => ?_) _ rfl
    subst hG

    -- which are equal to it
    obtain ⟨tr1, qa1⟩ := K4 H11 s12
    refine ⟨_, rfl, o, rfl, ⟨_, SqL.of eo2⟩, fun D nD => ?_⟩
    have nec : x.cs ≠ [] → ¬ x = ⟨x.cs ++ x.cs.take 1, x.ps, x.qs⟩ := fun h z => by
      have z2 := congrArg (fun y : Ql => y.cs.length) z
      dsimp only at z2
      rw [List.length_append, List.length_take] at z2
      have : x.cs.length ≠ 0 := fun w => h (List.length_eq_zero_iff.mp w)
      omega
    have nep : ¬ x = ⟨x.cs, x.ps ++ [(["p", "a"] : List Str)], x.qs⟩ := fun z => by
      have z2 := congrArg (fun y : Ql => y.ps.length) z
      dsimp only at z2
      rw [List.length_append, List.length_singleton] at z2
      omega
    refine lc_list (K := K) (a := o) (xs := [.ref y3, .ref y4]) (fun i H' => Same H11 H' ∧ ∃ rs : List Addr, H' D = some (.lst (rs.map V.ref)) ∧ rs.length ≤ i ∧ ((i = 0 ∧ rs = []) ∨ (i ≠ 0 ∧ rs = if x.cs = [] then [y3] else []))) ⟨same_new nD, [], upd_same, Nat.le_refl _, .inl ⟨rfl, rfl⟩⟩ (fun i H' _ y => SqL.of (y.1 _ _ eo2)) ?_ ?_
    · rintro i v H' hi ⟨s0, rs, er, lr, hrs⟩
      obtain ⟨_, qa2⟩ := K4 H' (s12.trans s0)
      have hi2 : i < 2 := (List.getElem?_eq_some_iff.mp hi).1
      rcases hrs with ⟨rfl, rfl⟩ | ⟨hne0, hrs⟩
      · obtain rfl : V.ref y3 = v := Option.some.inj hi
        refine ⟨rfl, _, rfl, _, rfl, eq_qs T.R T.I qa2 rx.ok (q32.same s0) ok3 ⟨_, rfl, ?_⟩⟩
        by_cases hc : x.cs = []
        · rw [decide_eq_true (by
            obtain ⟨a, b, c⟩ := x
            dsimp only at hc ⊢
            rw [hc]
            rfl : x = ⟨x.cs ++ x.cs.take 1, x.ps, x.qs⟩)]
          refine iteT ⟨_, rfl, _, er, Nat.lt_of_le_of_lt (by show 0 ≤ 1000; decide) (by decide), same_put s0 nD, [y3], upd_same, Nat.le_refl _, .inr ⟨by decide, by rw [if_pos hc]⟩⟩
        · rw [decide_eq_false (nec hc)]
          exact iteF ⟨s0, [], er, Nat.zero_le _, .inr ⟨by decide, by rw [if_neg hc]⟩⟩
      · obtain rfl : i = 1 := by omega
        obtain rfl : V.ref y4 = v := Option.some.inj hi
        refine ⟨rfl, _, rfl, _, rfl, eq_qs T.R T.I qa2 rx.ok (q42.same s0) ok4 ⟨_, rfl, ?_⟩⟩
        rw [decide_eq_false nep]
        exact iteF ⟨s0, rs, er, by omega, .inr ⟨by decide, hrs⟩⟩
    rintro H12 ⟨s0, rs, er, _, hrs⟩
    have hrs : rs = if x.cs = [] then [y3] else [] := by
      rcases hrs with ⟨z, _⟩ | ⟨_, z⟩
      · cases z
      · exact z
    have eo3 := s0 _ _ eo2
    have s13 := s12.trans s0
    refine ⟨_, rfl, o, _, _, _, rfl, rfl, SqL.of eo3, (rfl : atI [V.ref y3, V.ref y4] 0 = some (V.ref y3)), (by show 1 ≤ sizeLine; decide), fun l nl => ?_⟩
    have v1 : Same H12 (upd H12 l (.lst [.ref y3])) := same_new nl
    have el : upd H12 l (.lst [.ref y3]) l = some (.lst [.ref y3]) := upd_same
    generalize upd H12 l (.lst [.ref y3]) = F1 at v1 el ⊢
    refine ⟨_, rfl, Nat.zero_le _, fun l0 nl0 => ?_⟩
    have v2 : Same F1 (upd F1 l0 (.lst [])) := same_new nl0
    have el0 : upd F1 l0 (.lst []) l0 = some (.lst []) := upd_same
    generalize upd F1 l0 (.lst []) = F2 at v2 el0 ⊢
    have s14 := (s13.trans v1).trans v2
    have tr2 := (K4 F2 s14).1
    refine ⟨dS x.cs, dS [], dp_S (SqL.of tr2.c), .lst (SqL.of el0) .nil, (lay_dS fun y hy => (rx.ok.cs y hy).asc).shaped (by decide), (lay_dS (xs := []) (fun y hy => nomatch hy)).shaped (by decide), ?_⟩
    rw [eqv_S]
    refine .inr ⟨_, rfl, _, rfl, l, _, rfl, SqL.of (v2 _ _ el), fun p np => ?_⟩
    have ecut : cutV [V.ref y3] none (some (if decide (x.cs = []) = true then (1 : Int) else 0)) = rs.map V.ref := by
      rw [hrs]
      by_cases hc : x.cs = []
      · rw [decide_eq_true hc, if_pos hc] <;> rfl
      · rw [decide_eq_false hc, if_neg hc] <;> rfl
    rw [ecut]
    have v3 : Same F2 (upd F2 p (.lst (rs.map V.ref))) := same_new np
    have ep : upd F2 p (.lst (rs.map V.ref)) p = some (.lst (rs.map V.ref)) := upd_same
    generalize upd F2 p (.lst (rs.map V.ref)) = F3 at v3 ep ⊢
    refine ⟨true, dlst_id (v3 _ _ (v2 _ _ (v1 _ _ er))) ep, fun H' sx => ?_⟩
    exact q H' (((sH4.trans s14).trans v3).trans sx)
end
end Nv
set_option maxHeartbeats 8000000
namespace Nv
open PySem PySem.Spec PyProof.Rows L2
abbrev sBookRight : Stmt := top 42
abbrev nBR : List Str := ["_law_rules", "_law_given", "_law_rule_here", "_law_book", "_law_labels", "_law_turn", "_law_told_here", "_law_plain", "_law_at", "_law_label", "_law_less", "_law_new", "_law_more"]
theorem scBR : FnScope nBR ["_law_rules"] (defScope sBookRight) := ⟨rfl, rfl, rfl, by decide +kernel, rfl, by decide +kernel, by decide +kernel⟩
structure BRx (x : Rl) : Prop where
  ok : x.Ok
  clo : Clo x
  h : x.h ≠ (["never", "a"] : List Str)
section
variable {P : Program} {w : World} {K : PySem.W.Frag} {mg : Str → Option Value} {base : Heap}
def spBookRight (CR : Addr) : Sp := fun vs H Q _ => ∃ (al : Addr) (rs : List Addr) (xs : List Rl), vs = [.ref al] ∧ H al = some (.lst (rs.map V.ref)) ∧ RAs CR H rs xs ∧ (∀ x ∈ xs, BRx x) ∧ (xs.map Rl.l).Nodup ∧ xs.length ≤ 50 ∧ ∀ H', Same H H' → Q (.bl true) H'
theorem ok_bookRight {f CR CB : Addr} {fd : FuncData} (F : Fun K "_law_book_right" "_law_book_right" sBookRight f fd) (T : RuleOk P w K mg base CR) (TB : BookOk P w K mg base CR CB) (B : Bp mg) (B2 : Bl mg) (en : mg "enumerate" = none)
    (SP : CallOk P w K mg base "_law_spoils" 1 ["_law_lists"] (spSpoils K)) (rp : mg "repr" = none) (sy : ∃ o, base.get? sysModules = some o) :
    RunG P w K mg base 7 f fd ["_law_rules"] (spBookRight CR) := by
  obtain ⟨fI, dI, GI, MI, gR, bI'⟩ := T.mkr.ex
  have bI5 : Binds K dI _ [] := bI' 2 (by decide)
  obtain ⟨fB, dB, GB, MB, gB, bB'⟩ := TB.mkr.ex
  have bB : Binds K dB _ [] := bB' 0 (by decide)
  obtain ⟨fE, dE, GE, hs, hf, bE⟩ := T.eq.ex
  obtain ⟨fEB, dEB, GEB, hsB, hfB, bEB⟩ := TB.eq.ex
  obtain ⟨fN, dN, GN, hsN, hfN, bN⟩ := TB.len.ex
  obtain ⟨fA, dA, GA, hsA, hfA, bA⟩ := TB.add.ex
  obtain ⟨fRs, dRs, GRs, mRs, bRs⟩ := TB.rules.ex
  obtain ⟨fL, dL', GL, mL, bL⟩ := TB.labels.ex
  obtain ⟨fRu, dRu, GRu, mRu, bRu⟩ := TB.rule.ex
  obtain ⟨fW, dW, GW, mW, bW⟩ := TB.without.ex
  obtain ⟨pp, gp, dp, POp, PFp, PBp⟩ := TB.plain.ex
  obtain ⟨fS, dS', GS, kS, gS, bS⟩ := SP.ex
  obtain ⟨p1, g1, d1, PO1, PF1, PB1⟩ := T.label.ex
  obtain ⟨p3, g3, d3, PO3, PF3, PB3⟩ := T.told.ex
  obtain ⟨p4, g4, d4, PO4, PF4, PB4⟩ := T.pairs.ex
  obtain ⟨p5, g5, d5, PO5, PF5, PB5⟩ := T.denied.ex
  have hne := T.ne
  have hmo := T.I.hm
  have hneB := TB.ne
  have hmoB := TB.I.hm
  refine run_ofG F scBR (fun vs H Q E h => ?_) (fun cdv A outer s H vs Q hg hr h => ?_)
  · obtain ⟨al, rs, xs, rfl, _⟩ := h
    rfl
  · obtain ⟨al, rs, xs, rfl, eal, hx, hbr, nd, hlen, q⟩ := h
    have hr1 : Room 1 _ := hr.mono (by decide)
    have hr2 : Room 2 _ := hr.mono (by decide)
    have hr3 : Room 3 _ := hr.mono (by decide)
    have hr4 : Room 4 _ := hr.mono (by decide)
    have hr5 : Room 5 _ := hr.mono (by decide)
    refine ⟨_, pss_cons (ps_set (i := 1) scBR.nd rfl (Or.inl rfl) (pe_callTy call_list_of (by rfl) B.lst PyProof.Rows.boot_list (pa_cons (pv 0) pa_nil)))
      (pss_cons (ps_par (i := 3) (j := 4) (by rfl) scBR.nd rfl rfl (by decide) rfl rfl (pa_cons (by exact (pe_make MB GB hr4 (by rfl) gB bB .nil pass0 (pa_cons (pv 1) pa_nil))) (pa_cons (by exact (pe_lc (own := [("_law_rule_here", 2)]) (g := gName 2) (tt := tYes) (te := tProp CR (getSp CR "_label") [] E0 (tVar 2)) rfl scBR.nd (pi_list (pv 0)) (blkOk_by (own := [("_law_rule_here", 2)]) (N := nBR) (sc := defScope sBookRight) (by decide +kernel)) (fun _ _ _ _ _ => pg_name (i := 2) scBR.nd rfl (Or.inl rfl)) (fun _ _ _ _ _ => pts_nil) (fun _ _ _ _ _ => by exact (pe_prop (pv 2) T.R.cl PO1 PF1 hr2 PB1 .nil pass0 rfl)))) pa_nil)) (by rfl))
      (pss_cons (ps_expr (pe_bm PySem.F.plainAttrs_list PySem.F.slot_list_append PySem.F.type_list_append mt_append (pv 1) (pa_cons pe_non pa_nil)))
      (pss_cons (ps_for PassesOwn.never rfl (pi_range1 rfl B2.rg (pa_cons pe_int pa_nil)) (pg_name (i := 5) scBR.nd rfl (Or.inl rfl)) (pss_cons (ps_set (i := 6) scBR.nd rfl (Or.inl rfl) (pe_lst (pa_cons (by exact (pe_meth0 (pv 3) TB.cl mRs GRs hr1 bRs .nil pass0)) (pa_cons (by exact (pe_meth0 (pv 3) TB.cl mL GL hr3 bL .nil pass0)) pa_nil))))
      (pss_cons (ps_if (PW.pt (pw_or (pt_cmpR (op_neB (rcN_list mon_rt (eqB_rt GE T.R T.I hs hf bE)) hr3) (pv 6) (pe_lst (pa_cons (pv 0) (pa_cons (pv 4) pa_nil))) (nomark _)) (pw_or1 (pt_cmpR op_ne (pe_callB (call_ownLen GN hr2.in1 hsN hfN bN) (by rfl) B.len PySem.boot_len (pa_cons (pv 3) pa_nil)) (pe_callB call_len_seq (by rfl) B.len PySem.boot_len (pa_cons (pv 0) pa_nil)) (nomark _))))) (pss_one (ps_ret pe_bl)) pss_nil)
      (pss_one (ps_expr (by exact (pe_call GS hr1 (by rfl) gS kS bS .nil pass0 (pa_cons (pv 6) pa_nil))))))))
      (pss_cons (ps_set (i := 7) scBR.nd rfl (Or.inl rfl) (pe_cmpR (op_eqB (rcB_list mon_id eqB_id) hr1) (by exact (pe_lc (own := [("_law_rule_here", 2)]) (g := gName 2) (tt := tTest (tOp (rNeD K) (tProp CR (spGetL CR "_denied") [] E0 (tVar 2)) (tLst tNil))) (te := tVar 2) rfl scBR.nd (pi_list (pv 0)) (blkOk_by (own := [("_law_rule_here", 2)]) (N := nBR) (sc := defScope sBookRight) (by decide +kernel)) (fun _ _ _ _ _ => pg_name (i := 2) scBR.nd rfl (Or.inl rfl)) (fun _ _ _ _ _ => pts_one (by exact (pt_cmpR (op_neD hr1.units) (pe_prop (pv 2) T.R.cl PO5 PF5 hr2 PB5 .nil pass0 rfl) (pe_lst pa_nil) (nomark _)))) (fun _ _ _ _ _ => by exact (pv 2)))) (pe_lst pa_nil) (nomark _)))
      (pss_cons (ps_if (PW.pt (pw_or (pt_cmpR op_ne (by exact (pe_callB call_reprB (by rfl) rp (by decide +kernel) (pa_cons (pe_prop (pv 3) TB.cl POp PFp hr4 PBp .nil pass0 rfl) pa_nil))) (by exact (pe_callB call_reprB (by rfl) rp (by decide +kernel) (pa_cons (pv 7) pa_nil))) (nomark _)) (pw_or (pt_not (pt_cmpR (op_ownEq GEB hr3 hsB hfB bEB) (pv 3) (by exact (pe_make MB GB hr4 (by rfl) gB bB .nil pass0 (pa_cons (pe_callTy call_list_of (by rfl) B.lst PyProof.Rows.boot_list (pa_cons (pv 0) pa_nil)) pa_nil))) (nomark _))) (pw_or1 (pt_cmpR (op_ownNe GEB hr4 hsB hneB hmoB hfB bEB) (pv 3) (by exact (pe_make MB GB hr4 (by rfl) gB bB .nil pass0 (pa_cons (pe_callTy call_list_of (by rfl) B.lst PyProof.Rows.boot_list (pa_cons (pv 0) pa_nil)) pa_nil))) (nomark _)))))) (pss_one (ps_ret pe_bl)) pss_nil)
      (pss_cons (ps_if (PW.pt (pw_and (pt_cmpR op_gt (pe_callB call_len_seq (by rfl) B.len PySem.boot_len (pa_cons (pv 0) pa_nil)) pe_int (nomark _)) (pw_and1 (PW.pt (pw_or (pt_cmpR (op_ownEq GEB hr3 hsB hfB bEB) (pv 3) (by exact (pe_make MB GB hr4 (by rfl) gB bB .nil pass0 (pa_cons (pe_revL (pv 0)) pa_nil))) (nomark _)) (pw_or (pt_cmpR (op_ownEq GEB hr3 hsB hfB bEB) (pv 3) (by exact (pe_make MB GB hr4 (by rfl) gB bB .nil pass0 (pa_cons (pe_slice sl_list (pv 0) (po_some pe_int) po_none) pa_nil))) (nomark _)) (pw_or1 (pt_cmpR (op_ownEq GEB hr3 hsB hfB bEB) (pv 3) (pv 0) (nomark _))))))))) (pss_one (ps_ret pe_bl)) pss_nil)
      (pss_cons (ps_for PassesOwn.never rfl (pi_enum (by rfl) en (pa_cons (pv 4) pa_nil)) (pg_tup (by rfl) (pgs_cons (pg_name (i := 8) scBR.nd rfl (Or.inl rfl)) (pgs_cons (pg_name (i := 9) scBR.nd rfl (Or.inl rfl)) pgs_nil))) (pss_cons (ps_par (i := 10) (j := 2) (by rfl) scBR.nd rfl rfl (by decide) rfl rfl (pa_cons (by exact (pe_meth (pv 3) TB.cl mW GW hr5 bW .nil pass0 (pa_cons (pv 9) pa_nil))) (pa_cons (pe_ix ix_list (pv 0) (pv 8) (fun _ _ => rfl)) pa_nil)) (by rfl))
      (pss_cons (ps_set (i := 11) scBR.nd rfl (Or.inl rfl) (by exact (pe_make MI GI hr (by rfl) gR bI5 .nil pass0 (pa_cons (pv 9) (pa_cons (pe_tup (pa_cons pe_str (pa_cons pe_str pa_nil))) (pa_cons (pe_prop (pv 2) T.R.cl PO3 PF3 hr2 PB3 .nil pass0 rfl) (pa_cons (pe_prop (pv 2) T.R.cl PO4 PF4 hr2 PB4 .nil pass0 rfl) (pa_cons (pe_prop (pv 2) T.R.cl PO5 PF5 hr2 PB5 .nil pass0 rfl) pa_nil))))))))
      (pss_cons (ps_if (pt_cmpR (op_ownEq GEB hr3 hsB hfB bEB) (by exact (pe_make MB GB hr4 (by rfl) gB bB .nil pass0 (pa_cons (pe_op op_cat (pe_op op_cat (pe_slice sl_list (pv 0) po_none (po_some (pv 8))) (pe_lst (pa_cons (pv 11) pa_nil))) (pe_slice sl_list (pv 0) (po_some (pe_op op_add (pv 8) pe_int)) po_none)) pa_nil))) (pv 3) (nomark _)) (pss_one (ps_ret pe_bl)) pss_nil)
      (pss_cons (ps_if (PW.pt (pw_or (pt_cmpR (op_ownNe GE hr2 hs hne hmo hf bE) (by exact (pe_meth (pv 3) TB.cl mRu GRu hr4 bRu .nil pass0 (pa_cons (pv 9) pa_nil))) (pe_ix ix_list (pv 0) (pv 8) (fun _ _ => rfl)) (nomark _)) (pw_or1 (pt_cmpR (op_neB (rcN_list mon_rule (eqB_rule GE T.R T.I hs hf bE)) hr2) (by exact (pe_meth0 (pv 10) TB.cl mRs GRs hr1 bRs .nil pass0)) (pe_op op_cat (pe_slice sl_list (pv 0) po_none (po_some (pv 8))) (pe_slice sl_list (pv 0) (po_some (pe_op op_add (pv 8) pe_int)) po_none)) (nomark _))))) (pss_one (ps_ret pe_bl)) pss_nil)
      (pss_cons (ps_if (PW.pt (pw_or (pt_cmpR op_ne (pe_callB (call_ownLen GN hr2.in1 hsN hfN bN) (by rfl) B.len PySem.boot_len (pa_cons (pv 10) pa_nil)) (pe_op op_sub (pe_callB call_len_seq (by rfl) B.len PySem.boot_len (pa_cons (pv 0) pa_nil)) pe_int) (nomark _)) (pw_or1 (pt_cmpR (op_ownNe GEB hr4 hsB hneB hmoB hfB bEB) (pe_op (op_ownAdd GA hr5 TB.sf hsA hfA bA) (by exact (pe_make MB GB hr4 (by rfl) gB bB .nil pass0 (pa_cons (pe_slice sl_list (pv 0) po_none (po_some (pv 8))) pa_nil))) (by exact (pe_make MB GB hr4 (by rfl) gB bB .nil pass0 (pa_cons (pe_slice sl_list (pv 0) (po_some (pv 8)) po_none) pa_nil)))) (pv 3) (nomark _))))) (pss_one (ps_ret pe_bl)) pss_nil)
      (pss_cons (ps_set (i := 12) scBR.nd rfl (Or.inl rfl) (pe_op (op_ownAdd GA hr5 TB.sf hsA hfA bA) (by exact (pe_meth (pv 3) TB.cl mW GW hr5 bW .nil pass0 (pa_cons (pv 9) pa_nil))) (by exact (pe_make MB GB hr4 (by rfl) gB bB .nil pass0 (pa_cons (pe_lst (pa_cons (pe_ix ix_list (pv 0) (pv 8) (fun _ _ => rfl)) pa_nil)) pa_nil)))))
      (pss_one (ps_if (pt_cmpR (op_neD hr1.units) (by exact (pe_meth0 (pv 12) TB.cl mL GL hr3 bL .nil pass0)) (pe_op op_cat (by exact (pe_meth0 (pv 10) TB.cl mL GL hr3 bL .nil pass0)) (pe_lst (pa_cons (pv 9) pa_nil))) (nomark _)) (pss_one (ps_ret pe_bl)) pss_nil)))))))))
      (pss_one (ps_ret (pe_and (pe_cmpR op_eq (by exact (pe_callB (call_repr hg sy hr1.units) (by rfl) rp (by decide +kernel) (pa_cons (by exact (pe_meth0 (pv 3) TB.cl mL GL hr3 bL .nil pass0)) pa_nil))) (by exact (pe_callB (call_repr hg sy hr1.units) (by rfl) rp (by decide +kernel) (pa_cons (pv 4) pa_nil))) (nomark _)) (pe_and (pe_cmpR (op_ownEq GEB hr3 hsB hfB bEB) (pe_op (op_ownAdd GA hr5 TB.sf hsA hfA bA) (pv 3) (by exact (pe_make MB GB hr4 (by rfl) gB bB .nil pass0 (pa_cons (pe_lst pa_nil) pa_nil)))) (pv 3) (nomark _)) (pe_one (pe_cmpR (op_ownEq GEB hr3 hsB hfB bEB) (pe_op (op_ownAdd GA hr5 TB.sf hsA hfA bA) (by exact (pe_make MB GB hr4 (by rfl) gB bB .nil pass0 (pa_cons (pe_lst pa_nil) pa_nil))) (pv 3)) (pv 3) (nomark _)))))))))))))), ?_⟩
    have hxl := hx.len
    have hox : ∀ x ∈ xs, x.Ok := fun x h => (hbr x h).ok
    -- given
    refine ⟨_, rfl, al, _, rfl, .inl (SqL.of eal), fun gi ngi => ?_⟩
    have u1 : Same H (upd H gi (.lst (rs.map V.ref))) := same_new ngi
    have e1 : upd H gi (.lst (rs.map V.ref)) gi = some (.lst (rs.map V.ref)) := upd_same
    generalize upd H gi (.lst (rs.map V.ref)) = F1 at u1 e1 ⊢
    -- the book, the labels
    refine ⟨_, rfl, fun bk dbk nbk ndbk _ => mk_book nbk ndbk e1 (hx.same u1) nd (by omega) fun H1 s1 rb => ⟨rfl, ?_⟩⟩
    have eal1 := s1 _ _ (u1 _ _ eal)
    have hx1 := (hx.same u1).same s1
    refine ⟨_, rfl, al, rfl, ⟨_, SqL.of eal1⟩, fun la nla => ?_⟩
    refine lc_list (K := K) (a := al) (xs := rs.map V.ref) (fun i H' => Same H1 H' ∧ H' la = some (.lst (((xs.map Rl.l).take i).map V.str))) ⟨same_new nla, upd_same⟩ (fun i H' _ y => SqL.of (y.1 _ _ eal1)) ?_ ?_
    · rintro i v H2 hi ⟨s2, e2⟩
      obtain ⟨ri, hri, rfl⟩ := at_ref hi
      obtain ⟨x, hxi, ra⟩ := hx1.at_ hri
      obtain ⟨dx2, th, l1, l2, l3, us, us2, us3, g, _⟩ := ra.same s2
      have hz : (xs.map Rl.l)[i]? = some x.l := by rw [List.getElem?_map, hxi] <;> rfl
      refine ⟨rfl, _, rfl, ri, dx2, _, rfl, g, ri, dx2, _, _, rfl, g, lk1, ?_⟩
      refine ⟨_, e2, ?_, same_put s2 nla, ?_⟩
      · rw [List.length_map, List.length_take, List.length_map]
        exact Nat.lt_of_le_of_lt (by omega : _ ≤ 100) (by decide)
      · rw [upd_same, take_one hz, List.map_append] <;> rfl
    rintro H2 ⟨s2, e2⟩
    have hfull : (xs.map Rl.l).take (rs.map V.ref).length = xs.map Rl.l := List.take_of_length_le (by rw [List.length_map, List.length_map]; omega)
    rw [hfull] at e2
    refine ⟨_, _, rfl, ?_⟩
    have g1 := s1 _ _ e1
    have lag : la ≠ gi := fun z => by
      rw [z, g1] at nla
      cases nla
    have g2 := s2 _ _ g1
    have s12 : Same H H2 := (u1.trans s1).trans s2
    have ba2 : ∃ dx l : Addr, (bk ≠ gi ∧ l ≠ gi) ∧ H2 bk = some (.ins CB dx [("_rules", .ref l)]) ∧ H2 l = some (.lst (rs.map V.ref)) := by
      obtain ⟨dx, l, ⟨n1, n2⟩, h1, h2⟩ := rb
      exact ⟨dx, l, ⟨(fun z => by rw [z, e1] at n1; cases n1), (fun z => by rw [z, e1] at n2; cases n2)⟩, s2 _ _ h1, s2 _ _ h2⟩
    clear rb hfull eal1 hx1
    refine (show ∀ G : Hp, H2 = G → tSeq _ _ { nx := fun _ H' => Q .non H', rt := Q } [some (.ref al), some (.ref gi), none, some (.ref bk), some (.ref la), none, none, none, none, none, none, none, none] G from fun G hG => ?_) _ rfl
    subst hG

    -- None is put behind the given list
    refine ⟨_, rfl, .inl ⟨rfl, _, SqL.of g2⟩, gi, rs.map V.ref, _, rfl, rfl, g2, ?_, ?_⟩
    · rw [List.length_map]
      exact Nat.lt_of_le_of_lt (by omega : _ ≤ 100) (by decide)
    have s3 : Same H (upd H2 gi (.lst (rs.map V.ref ++ [.non]))) := same_put s12 ngi
    have ba : BA CB (upd H2 gi (.lst (rs.map V.ref ++ [.non]))) bk rs := by
      obtain ⟨dx, l, ⟨n1, n2⟩, h1, h2⟩ := ba2
      exact ⟨dx, l, by rw [upd_ne n1]; exact h1, by rw [upd_ne n2]; exact h2⟩
    have ela : upd H2 gi (.lst (rs.map V.ref ++ [.non])) la = some (.lst ((xs.map Rl.l).map V.str)) := by
      rw [upd_ne lag]
      exact e2
    generalize upd H2 gi (.lst (rs.map V.ref ++ [.non])) = H3 at s3 ba ela ⊢
    clear ba2 g2 g1 e2 s12 s2 s1 u1 e1 nla
    refine (show ∀ G : Hp, H3 = G → tSeq _ _ { nx := fun _ H' => Q .non H', rt := Q } [some (.ref al), some (.ref gi), none, some (.ref bk), some (.ref la), none, none, none, none, none, none, none, none] G from fun G hG => ?_) _ rfl
    subst hG

    have K3 : ∀ G, Same H3 G → G al = some (.lst (rs.map V.ref)) ∧ RAs CR G rs xs ∧ BA CB G bk rs ∧ G la = some (.lst ((xs.map Rl.l).map V.str)) := fun G s => ⟨s _ _ (s3 _ _ eal), (hx.same s3).same s, ba.same s, s _ _ ela⟩
    -- told twice
    refine ⟨2, rfl, by decide, by decide, for_range (n := 2) (fun _ σ H' => ∃ o t, σ = [some (.ref al), some (.ref gi), none, some (.ref bk), some (.ref la), o, t, none, none, none, none, none, none] ∧ Same H3 H') ⟨_, _, rfl, Same.refl _⟩ ?_ ?_⟩
    · rintro i σ H4 hi ⟨o, t, rfl, s4⟩
      obtain ⟨k1, k2, k3, k4⟩ := K3 H4 s4
      obtain ⟨dxb, lb, eb, el⟩ := id k3
      refine ⟨_, rfl, bk, dxb, _, rfl, eb, (lk_no (by decide +kernel)), bk, dxb, lb, _, _, rfl, eb, lkR, el, fun p1 np1 => ?_⟩
      have t1 : Same H4 (upd H4 p1 (.lst (rs.map V.ref))) := same_new np1
      have f1 : upd H4 p1 (.lst (rs.map V.ref)) p1 = some (.lst (rs.map V.ref)) := upd_same
      have p1al : p1 ≠ al := fun z => by
        rw [z, k1] at np1
        cases np1
      generalize upd H4 p1 (.lst (rs.map V.ref)) = F1 at t1 f1 ⊢
      refine ⟨_, rfl, bk, dxb, _, rfl, t1 _ _ eb, (lk_no (by decide +kernel)), bk, rs, xs, rfl, k3.same t1, k2.same t1, by omega, fun p2 F2 np2 t2 f2 => ?_⟩
      have p2la : p2 ≠ la := fun z => by
        rw [z, t1 _ _ k4] at np2
        cases np2
      have v1 : H3 p1 = none := s4.free np1
      have v2 : H3 p2 = none := (s4.trans t1).free np2
      have f12 := t2 _ _ f1
      refine ⟨(by show 2 ≤ sizeLine; decide), fun pl npl => ?_⟩
      have npq : pl ∉ [p1, p2] := fun z => by
        simp only [List.mem_cons, List.not_mem_nil, or_false] at z
        rcases z with z | z
        · rw [z, f12] at npl
          cases npl
        · rw [z, f2] at npl
          cases npl
      have t3 : Same F2 (upd F2 pl (.lst [.ref p1, .ref p2])) := same_new npl
      have f3 : upd F2 pl (.lst [.ref p1, .ref p2]) pl = some (.lst [.ref p1, .ref p2]) := upd_same
      generalize upd F2 pl (.lst [.ref p1, .ref p2]) = F3 at t3 f3 ⊢
      refine ⟨_, rfl, _, rfl, _, rfl, (by show 2 ≤ sizeLine; decide), fun pm npm => ?_⟩
      have t4 : Same F3 (upd F3 pm (.lst [.ref al, .ref la])) := same_new npm
      have f4 : upd F3 pm (.lst [.ref al, .ref la]) pm = some (.lst [.ref al, .ref la]) := upd_same
      generalize upd F3 pm (.lst [.ref al, .ref la]) = F4 at t4 f4 ⊢
      have s5 : Same H3 F4 := (((s4.trans t1).trans t2).trans t3).trans t4
      have h1 := t4 _ _ (t3 _ _ f12)
      have h2 := t4 _ _ (t3 _ _ f2)
      have h3 := t4 _ _ f3
      obtain ⟨k1, k2, k3, k4⟩ := K3 F4 s5
      refine ⟨true, ⟨pl, pm, _, _, rfl, rfl, h3, f4, .inr ⟨[true, true], rfl, rfl, fun i u v t hu hv ht => ?_, rfl⟩⟩, fun F5 t5 => ⟨_, rfl, iteF ?_⟩⟩
      · match i, hu, hv, ht with
        | 0, hu, hv, ht =>
          injection hu with hu
          injection hv with hv
          injection ht with ht
          subst hu hv ht
          have d := dlst_rules h1 k1 k2 k2 hox hox (one_of k2 k2)
          rw [decide_eq_true (rfl : xs = xs)] at d
          exact .inl ⟨d, fun z => p1al (by injection z)⟩
        | 1, hu, hv, ht =>
          injection hu with hu
          injection hv with hv
          injection ht with ht
          subst hu hv ht
          have d := dlst_strs h2 k4
          rw [decide_eq_true (rfl : xs.map Rl.l = xs.map Rl.l)] at d
          exact .inr ⟨d, fun z => p2la (by injection z)⟩
        | n + 2, hu, _, _ => exact nomatch hu
      have s6 := s5.trans t5
      obtain ⟨k1, k2, k3, k4⟩ := K3 F5 s6
      obtain ⟨dxb, lb, eb, el⟩ := id k3
      refine ⟨_, rfl, bk, dxb, _, rfl, eb, bk, rs, rfl, k3, _, rfl, ⟨by omega, by omega⟩, _, rfl, al, _, rfl, .inl (SqL.of k1), rfl, _, rfl, ?_⟩
      rw [List.length_map, decide_eq_true (rfl : V.int (rs.length : Nat) = V.int (rs.length : Nat))]
      refine iteF ?_
      have hq : ∀ l ∈ [p1, p2], (∃ ys : List V, F5 l = some (.lst ys) ∧ ys.length ≤ 1000) ∧ H3 l = none := fun l hl => by
        simp only [List.mem_cons, List.not_mem_nil, or_false] at hl
        rcases hl with rfl | rfl
        · exact ⟨⟨_, t5 _ _ h1, by rw [List.length_map]; omega⟩, v1⟩
        · exact ⟨⟨_, t5 _ _ h2, by rw [List.length_map, List.length_map]; omega⟩, v2⟩
      refine ⟨_, rfl, pl, [p1, p2], rfl, SqL.of (t5 _ _ h3), npq, by show 2 ≤ 1000; decide, fun l hl => (hq l hl).1, fun H6 sb _ => ?_⟩
      exact ⟨_, _, rfl, Sbs.same s6 (fun l hl => (hq l hl).2) sb⟩
    rintro σ H4 ⟨o5, o6, rfl, s4⟩
    refine (show ∀ G : Hp, H4 = G → tSeq _ _ { nx := fun _ H' => Q .non H', rt := Q } [some (.ref al), some (.ref gi), none, some (.ref bk), some (.ref la), o5, o6, none, none, none, none, none, none] G from fun G hG => ?_) _ rfl
    subst hG

    -- plain
    obtain ⟨k1, k2, k3, k4⟩ := K3 H4 s4
    refine ⟨_, rfl, al, rfl, ⟨_, SqL.of k1⟩, fun D nD => ?_⟩
    refine lc_list (K := K) (a := al) (xs := rs.map V.ref) (fun i H' => Same H4 H' ∧ ∃ ys : List V, H' D = some (.lst ys) ∧ ys.length ≤ i ∧ decide (ys = []) = (xs.take i).all fun x => decide (x.ds = [])) ⟨same_new nD, [], upd_same, Nat.le_refl _, rfl⟩ (fun i H' _ y => SqL.of (y.1 _ _ k1)) ?_ ?_
    · rintro i v G hi ⟨s0, ys, ey, ly, hy⟩
      obtain ⟨ri, hri, rfl⟩ := at_ref hi
      obtain ⟨x, hxi, ra⟩ := k2.at_ hri
      obtain ⟨dx2, th, l1, l2, l3, us, us2, us3, g, _, _, _, g3, p3⟩ := ra.same s0
      have hil : i < rs.length := (List.getElem?_eq_some_iff.mp hri).1
      have xo := hox x (List.mem_of_getElem? hxi)
      refine ⟨rfl, _, rfl, ri, dx2, _, rfl, g, ri, dx2, l3, _, us3, rfl, g, lk5, g3, fun p np => ?_⟩
      have t1 : Same G (upd G p (.lst us3)) := same_new np
      have f1 : upd G p (.lst us3) p = some (.lst us3) := upd_same
      generalize upd G p (.lst us3) = G1 at t1 f1 ⊢
      refine ⟨Nat.zero_le _, fun l nl => ?_⟩
      have t2 : Same G1 (upd G1 l (.lst [])) := same_new nl
      have f2 : upd G1 l (.lst []) l = some (.lst []) := upd_same
      generalize upd G1 l (.lst []) = G2 at t2 f2 ⊢
      have t12 := t1.trans t2
      refine ⟨dL x.ds, dL [], dp_L (SqL.of (t2 _ _ f1)) (p3.same t12), .lst (SqL.of f2) .nil, (lay_dL fun p hp => (xo.ds p hp).asc).shaped (by decide), (lay_dL (ps := []) (fun p hp => nomatch hp)).shaped (by decide), _, rfl, ?_⟩
      rw [eqv_L]
      have hall : ((xs.take (i + 1)).all fun x => decide (x.ds = [])) = (decide (ys = []) && decide (x.ds = [])) := by
        rw [take_one hxi, List.all_append, hy]
        simp
      by_cases hd0 : x.ds = []
      · rw [decide_eq_true hd0]
        refine iteF ⟨s0.trans t12, ys, t12 _ _ ey, by omega, ?_⟩
        rw [hall, decide_eq_true hd0, Bool.and_true]
      · rw [decide_eq_false hd0]
        refine iteT ⟨_, rfl, ys, t12 _ _ ey, Nat.lt_of_le_of_lt (by omega : _ ≤ 1000) (by decide), same_put (s0.trans t12) nD, _, upd_same, by rw [List.length_append, List.length_singleton]; omega, ?_⟩
        rw [hall, decide_eq_false hd0, Bool.and_false]
        exact decide_eq_false (by simp)
    rintro H5 ⟨s5, ys, ey, _, hy⟩
    have hy : decide (ys = []) = xs.all fun x => decide (x.ds = []) := by
      have e : xs.take (rs.map V.ref).length = xs := List.take_of_length_le (by rw [List.length_map]; omega)
      rw [e] at hy
      exact hy
    refine ⟨Nat.zero_le _, fun l nl => ?_⟩
    have t1 : Same H5 (upd H5 l (.lst [])) := same_new nl
    have f1 : upd H5 l (.lst []) l = some (.lst []) := upd_same
    generalize upd H5 l (.lst []) = F1 at t1 f1 ⊢
    refine ⟨_, dlst_nil (t1 _ _ ey) f1, fun H6 t2 => ?_⟩
    rw [hy]
    have s6 : Same H3 H6 := ((s4.trans s5).trans t1).trans t2
    clear ey hy s5 t1 t2 f1 k1 k2 k3 k4
    refine (show ∀ G : Hp, H6 = G → tSeq _ _ { nx := fun _ H' => Q .non H', rt := Q } [some (.ref al), some (.ref gi), none, some (.ref bk), some (.ref la), o5, o6, some (.bl (xs.all fun x => decide (x.ds = []))), none, none, none, none, none] G from fun G hG => ?_) _ rfl
    subst hG

    -- repr, ==, !=
    obtain ⟨k1, k2, k3, k4⟩ := K3 H6 s6
    obtain ⟨dxb, lb, eb, el⟩ := id k3
    refine ⟨_, rfl, bk, dxb, _, rfl, eb, bk, rs, xs, rfl, k3, k2, hox, by omega, fun H7 s7 => ⟨_, rfl, _, rfl, _, rfl, rfl, _, rfl, ?_⟩⟩
    rw [decide_eq_true (rfl : V.str (if (xs.all fun x => decide (x.ds = [])) = true then Str.ofString "True" else Str.ofString "False") = V.str (if (xs.all fun x => decide (x.ds = [])) = true then Str.ofString "True" else Str.ofString "False"))]
    have s67 := s6.trans s7
    obtain ⟨k1, k2, k3, k4⟩ := K3 H7 s67
    refine iteF ⟨_, rfl, _, rfl, al, _, rfl, .inl (SqL.of k1), fun c1 n1 => ?_⟩
    have t1 : Same H7 (upd H7 c1 (.lst (rs.map V.ref))) := same_new n1
    have f1 : upd H7 c1 (.lst (rs.map V.ref)) c1 = some (.lst (rs.map V.ref)) := upd_same
    generalize upd H7 c1 (.lst (rs.map V.ref)) = F1 at t1 f1 ⊢
    refine fun y1 dy1 ny1 ndy1 _ => mk_book ny1 ndy1 f1 (k2.same t1) nd (by omega) fun H8 s8 rb => ⟨rfl, eq_books TB.cl TB.I (k3.same (t1.trans s8)) (k2.same (t1.trans s8)) hox rb.ba (k2.same (t1.trans s8)) hox fun H9 s9 => ⟨_, rfl, ?_⟩⟩
    rw [decide_eq_true (rfl : xs = xs)]
    have s68 := ((s67.trans t1).trans s8).trans s9
    clear rb f1
    obtain ⟨k1, k2, k3, k4⟩ := K3 H9 s68
    refine iteF ⟨_, rfl, _, rfl, al, _, rfl, .inl (SqL.of k1), fun c1 n1 => ?_⟩
    have t2 : Same H9 (upd H9 c1 (.lst (rs.map V.ref))) := same_new n1
    have f1 : upd H9 c1 (.lst (rs.map V.ref)) c1 = some (.lst (rs.map V.ref)) := upd_same
    generalize upd H9 c1 (.lst (rs.map V.ref)) = F1 at t2 f1 ⊢
    refine fun y1 dy1 ny1 ndy1 _ => mk_book ny1 ndy1 f1 (k2.same t2) nd (by omega) fun H10 s10 rb => ⟨rfl, ne_books TB.cl TB.I (k3.same (t2.trans s10)) (k2.same (t2.trans s10)) hox rb.ba (k2.same (t2.trans s10)) hox fun H11 s11 => ⟨_, rfl, ?_⟩⟩
    rw [decide_eq_true (rfl : xs = xs)]
    refine iteF ?_
    have s12 := ((s68.trans t2).trans s10).trans s11
    clear rb f1 s67 s68 t1 t2 s7 s8 s9 s10 s11 k1 k2 k3 k4
    refine (show ∀ G : Hp, H11 = G → tSeq _ _ { nx := fun _ H' => Q .non H', rt := Q } [some (.ref al), some (.ref gi), none, some (.ref bk), some (.ref la), o5, o6, some (.bl (xs.all fun x => decide (x.ds = []))), none, none, none, none, none] G from fun G hG => ?_) _ rfl
    subst hG

    -- unlike ones
    apply both (I := fun G => Same H3 G)
    case h =>
      intro rest
      obtain ⟨k1, k2, k3, k4⟩ := K3 H11 s12
      refine ⟨_, rfl, al, _, rfl, .inl (SqL.of k1), _, _, rfl, rfl, _, rfl, ?_⟩
      by_cases h1 : 1 < rs.length
      · rw [decide_eq_true (by rw [List.length_map]; omega)]
        refine iteT ⟨_, rfl, _, rfl, al, _, rfl, SqL.of k1, fun c1 n1 => ?_⟩
        rw [← List.map_reverse]
        have t1 : Same H11 (upd H11 c1 (.lst (rs.reverse.map V.ref))) := same_new n1
        have f1 : upd H11 c1 (.lst (rs.reverse.map V.ref)) c1 = some (.lst (rs.reverse.map V.ref)) := upd_same
        generalize upd H11 c1 (.lst (rs.reverse.map V.ref)) = F1 at t1 f1 ⊢
        have k2r : RAs CR F1 rs.reverse xs.reverse := (k2.same t1).rev
        have ndr : (xs.reverse.map Rl.l).Nodup := by
          rw [List.map_reverse]
          exact List.pairwise_reverse.mpr (List.Pairwise.imp Ne.symm nd)
        refine fun y1 dy1 ny1 ndy1 _ => mk_book ny1 ndy1 f1 k2r ndr (by rw [List.length_reverse]; omega) fun H12 s13 rb => ⟨rfl, eq_books TB.cl TB.I (k3.same (t1.trans s13)) (k2.same (t1.trans s13)) hox rb.ba (k2r.same s13) (fun y hy => hox y (List.mem_reverse.mp hy)) fun H13 s14 => ⟨_, rfl, ?_⟩⟩
        rw [decide_eq_false (fun z => rev_ne nd (by omega) z.symm : ¬ xs = xs.reverse)]
        have s15 := ((s12.trans t1).trans s13).trans s14
        clear rb f1 k2r
        obtain ⟨k1, k2, k3, k4⟩ := K3 H13 s15
        refine iteF ⟨_, rfl, _, rfl, 1, rfl, al, _, rfl, SqL.of k1, fun c1 n1 => ?_⟩
        have ec : cutV (rs.map V.ref) (some 1) none = (rs.drop 1).map V.ref := cut_from (j := 1) (by omega)
        rw [ec]
        have t2 : Same H13 (upd H13 c1 (.lst ((rs.drop 1).map V.ref))) := same_new n1
        have f1 : upd H13 c1 (.lst ((rs.drop 1).map V.ref)) c1 = some (.lst ((rs.drop 1).map V.ref)) := upd_same
        generalize upd H13 c1 (.lst ((rs.drop 1).map V.ref)) = F1 at t2 f1 ⊢
        have k2d : RAs CR F1 (rs.drop 1) (xs.drop 1) := ((k2.same t2).split 1).2
        have ndd : ((xs.drop 1).map Rl.l).Nodup := by
          rw [List.map_drop]
          exact List.Nodup.sublist (List.drop_sublist 1 _) nd
        refine fun y2 dy2 ny2 ndy2 _ => mk_book ny2 ndy2 f1 k2d ndd (by rw [List.length_drop]; omega) fun H14 s16 rb => ⟨rfl, eq_books TB.cl TB.I (k3.same (t2.trans s16)) (k2.same (t2.trans s16)) hox rb.ba (k2d.same s16) (fun y hy => hox y (List.mem_of_mem_drop hy)) fun H15 s17 => ⟨_, rfl, ?_⟩⟩
        rw [decide_eq_false (fun z => by
          have z2 := congrArg List.length z
          rw [List.length_drop] at z2
          omega : ¬ xs = xs.drop 1)]
        have s18 := ((s15.trans t2).trans s16).trans s17
        clear rb f1 k2d
        obtain ⟨k1, k2, k3, k4⟩ := K3 H15 s18
        refine iteF ⟨_, rfl, _, rfl, eq_no TB.cl k3 k2 hox (tyx_lst k1) TB.nLst ⟨_, rfl, iteF ?_⟩⟩
        exact rest H15 s18
      · rw [decide_eq_false (by rw [List.length_map]; omega)]
        refine iteF ?_
        exact rest H11 s12
    clear s12
    intro H12 s12
    refine (show ∀ G : Hp, H12 = G → tSeq _ _ { nx := fun _ H' => Q .non H', rt := Q } [some (.ref al), some (.ref gi), none, some (.ref bk), some (.ref la), o5, o6, some (.bl (xs.all fun x => decide (x.ds = []))), none, none, none, none, none] G from fun G hG => ?_) _ rfl
    subst hG

    -- rule by rule
    obtain ⟨k1, k2, k3, k4⟩ := K3 H12 s12
    refine ⟨_, rfl, la, (xs.map Rl.l).map V.str, rfl, SqL.of k4, for_it (walk_enum (K := K) (a := la) (xs := (xs.map Rl.l).map V.str)) (fun i σ H' => ∃ o2 o8 o9 o10 o11 o12 : Option V, σ = [some (.ref al), some (.ref gi), o2, some (.ref bk), some (.ref la), o5, o6, some (.bl (xs.all fun x => decide (x.ds = []))), o8, o9, o10, o11, o12] ∧ Same H3 H') ⟨_, _, _, _, _, _, rfl, s12⟩ (fun i σ G _ z => ?_) ?_ ?_⟩
    · obtain ⟨_, _, _, _, _, _, _, s⟩ := z
      exact SqL.of (K3 G s).2.2.2
    · rintro i v σ G G' hi ⟨o2, o8, o9, o10, o11, o12, rfl, s⟩ ⟨Tt, x1, y1, rfl, nT, rfl, hx1, hy1⟩
      obtain rfl : V.int (i : Nat) = x1 := Option.some.inj hx1
      obtain ⟨lb, hlb, rfl⟩ := at_map hy1
      have t0 : Same G (upd G Tt (.tup [.int (i : Nat), .str lb])) := same_new nT
      have f0 : upd G Tt (.tup [.int (i : Nat), .str lb]) Tt = some (.tup [.int (i : Nat), .str lb]) := upd_same
      generalize upd G Tt (.tup [.int (i : Nat), .str lb]) = G1 at t0 f0 ⊢
      refine ⟨Tt, _, rfl, SqT.of f0, rfl, _, _, rfl, _, _, rfl, rfl, ?_⟩
      have s1 := s.trans t0
      clear f0 t0 nT hx1 hy1
      refine (show ∀ D' : Ends, (∀ σ' G', (∃ o2 o8 o9 o10 o11 o12 : Option V, σ' = [some (.ref al), some (.ref gi), o2, some (.ref bk), some (.ref la), o5, o6, some (.bl (xs.all fun x => decide (x.ds = []))), o8, o9, o10, o11, o12] ∧ Same H3 G') → D'.nx σ' G') → tSeq _ _ D' [some (.ref al), some (.ref gi), o2, some (.ref bk), some (.ref la), o5, o6, some (.bl (xs.all fun x => decide (x.ds = []))), some (.int (i : Nat)), some (.str lb), o10, o11, o12] G1 from fun D' hD => ?_) _ ?hx
      case hx => exact fun σ' G' h => h
      have hil : i < xs.length := by
        have := (List.getElem?_eq_some_iff.mp hlb).1
        rw [List.length_map] at this
        exact this
      obtain ⟨x, hxi⟩ : ∃ x, xs[i]? = some x := ⟨xs[i], List.getElem?_eq_getElem hil⟩
      obtain rfl : x.l = lb := by
        rw [List.getElem?_map, hxi] at hlb
        exact Option.some.inj hlb
      obtain ⟨ri, hri⟩ : ∃ r, rs[i]? = some r := ⟨rs[i]'(by omega), List.getElem?_eq_getElem (by omega)⟩
      have bx := hbr x (List.mem_of_getElem? hxi)
      have raG : ∀ G, Same H3 G → RA CR G ri x := fun G s => by
        obtain ⟨x', hx', ra⟩ := (K3 G s).2.1.at_ hri
        rw [hxi] at hx'
        rw [Option.some.inj hx']
        exact ra
      have hat : atI (rs.map V.ref) (i : Int) = some (.ref ri) := atI_nat (by rw [List.getElem?_map, hri] <;> rfl)
      have hcf : cutV (rs.map V.ref) (some ((i : Int) + 1)) none = (rs.drop (i + 1)).map V.ref := cut_from (j := i + 1) (by omega)
      have hct : cutV (rs.map V.ref) none (some (i : Int)) = (rs.take i).map V.ref := cut_to (by omega)
      have hcf0 : cutV (rs.map V.ref) (some (i : Int)) none = (rs.drop i).map V.ref := cut_from (by omega)
      -- without, the rule
      obtain ⟨k1, k2, k3, k4⟩ := K3 G1 s1
      obtain ⟨dxb, lb, eb, el⟩ := id k3
      refine ⟨_, rfl, bk, dxb, _, rfl, eb, (lk_no (by decide +kernel)), _, rfl, bk, x.l, rs, xs, i, rfl, k3, k2, by omega, nd, hlb, fun b2 G2 nb2 ba2 t1 => ?_⟩
      refine ⟨_, rfl, _, rfl, al, _, _, _, rfl, rfl, SqL.of (t1 _ _ k1), hat, _, _, rfl, ?_⟩
      have s2 := s1.trans t1
      have lsx : RAs CR G2 (less rs i) (less xs i) := by
        have k2' := (K3 G2 s2).2.1
        exact (k2'.split i).1.app (k2'.split (i + 1)).2
      clear k1 k2 k3 k4 eb el dxb lb
      refine (show ∀ G : Hp, G2 = G → tSeq _ _ D' [some (.ref al), some (.ref gi), some (.ref ri), some (.ref bk), some (.ref la), o5, o6, some (.bl (xs.all fun x => decide (x.ds = []))), some (.int (i : Nat)), some (.str x.l), some (.ref b2), o11, o12] G from fun G hG => ?_) _ rfl
      subst hG

      -- with another head
      refine ⟨_, rfl, (by show 2 ≤ sizeLine; decide), fun t nt => ?_⟩
      have u1 : Same G2 (upd G2 t (.tup [.str "never", .str "a"])) := same_new nt
      have f1 : upd G2 t (.tup [.str "never", .str "a"]) t = some (.tup ((["never", "a"] : List Str).map V.str)) := upd_same
      generalize upd G2 t (.tup [.str "never", .str "a"]) = F1 at u1 f1 ⊢
      obtain ⟨dx, th, l1, l2, l3, us, us2, us3, g, gt, ⟨h1, p1⟩, ⟨h2, p2⟩, h3, p3⟩ := raG F1 (s2.trans u1)
      refine ⟨_, rfl, ri, dx, _, rfl, g, ri, dx, l1, _, us, rfl, g, lk3, h1, fun c1 n1 => ?_⟩
      have u2 : Same F1 (upd F1 c1 (.lst us)) := same_new n1
      have f2 : upd F1 c1 (.lst us) c1 = some (.lst us) := upd_same
      generalize upd F1 c1 (.lst us) = F2 at u2 f2 ⊢
      refine ⟨_, rfl, ri, dx, _, rfl, u2 _ _ g, ri, dx, l2, _, us2, rfl, u2 _ _ g, lk4, u2 _ _ h2, fun c2 n2 => ?_⟩
      have u3 : Same F2 (upd F2 c2 (.lst us2)) := same_new n2
      have f3 : upd F2 c2 (.lst us2) c2 = some (.lst us2) := upd_same
      generalize upd F2 c2 (.lst us2) = F3 at u3 f3 ⊢
      have u23 := u2.trans u3
      refine ⟨_, rfl, ri, dx, _, rfl, u23 _ _ g, ri, dx, l3, _, us3, rfl, u23 _ _ g, lk5, u23 _ _ h3, fun c3 n3 => ?_⟩
      have u4 : Same F3 (upd F3 c3 (.lst us3)) := same_new n3
      have f4 : upd F3 c3 (.lst us3) c3 = some (.lst us3) := upd_same
      generalize upd F3 c3 (.lst us3) = F4 at u4 f4 ⊢
      have u24 := u23.trans u4
      have nva : PatOk (["never", "a"] : List Str) := ⟨"never", ["a"], rfl, by decide +kernel, by decide, fun y hy => .inr (by rw [List.mem_singleton.mp hy]; decide +kernel)⟩
      have nma : IsNm "a" := by decide +kernel
      have ok6 : (⟨x.l, (["never", "a"] : List Str), x.ps, x.qs, x.ds⟩ : Rl).Ok := ⟨bx.ok.l, nva, bx.ok.ps, bx.ok.pl, bx.ok.qs, bx.ok.ql, bx.ok.ds, bx.ok.dl⟩
      have hcl : hasMore (["never", "a"] : List Str).tail x.ps = false := hm_iff.mpr fun y hy v => by
        rw [List.mem_singleton.mp hy] at v
        exact absurd v (nm_not_vr nma)
      refine fun nr dnr nnr ndnr _ => mk_rule (y := ⟨x.l, (["never", "a"] : List Str), x.ps, x.qs, x.ds⟩) ok6 ⟨hcl, bx.clo.q, bx.clo.d⟩ nnr ndnr (u24 _ _ f1) (u4 _ _ (u3 _ _ f2)) (p1.same u24) (opt_of (u4 _ _ f3) (p2.same u24) bx.ok.ql) (opt_of f4 (p3.same u24) bx.ok.dl) fun G5 s5 rn => ⟨rfl, ?_⟩
      have t2 : Same G2 G5 := (u1.trans u24).trans s5
      have s6 := s2.trans t2
      have rnr : RA CR G5 nr ⟨x.l, (["never", "a"] : List Str), x.ps, x.qs, x.ds⟩ := rn.ra
      have ba5 := ba2.same t2
      have lsx5 := lsx.same t2
      clear rn u1 u2 u3 u4 u23 u24 f1 f2 f3 f4 g gt h1 h2 h3 p1 p2 p3 lsx ba2 t2
      refine (show ∀ G : Hp, G5 = G → tSeq _ _ D' [some (.ref al), some (.ref gi), some (.ref ri), some (.ref bk), some (.ref la), o5, o6, some (.bl (xs.all fun x => decide (x.ds = []))), some (.int (i : Nat)), some (.str x.l), some (.ref b2), some (.ref nr), o12] G from fun G hG => ?_) _ rfl
      subst hG

      -- exchanged
      obtain ⟨k1, k2, k3, k4⟩ := K3 G5 s6
      refine ⟨_, rfl, _, rfl, _, rfl, al, _, rfl, SqL.of k1, fun q1 n1 => ?_⟩
      rw [hct]
      have u1 : Same G5 (upd G5 q1 (.lst ((rs.take i).map V.ref))) := same_new n1
      have f1 : upd G5 q1 (.lst ((rs.take i).map V.ref)) q1 = some (.lst ((rs.take i).map V.ref)) := upd_same
      generalize upd G5 q1 (.lst ((rs.take i).map V.ref)) = F1 at u1 f1 ⊢
      refine ⟨_, rfl, (by show 1 ≤ sizeLine; decide), fun q2 n2 => ?_⟩
      have u2 : Same F1 (upd F1 q2 (.lst [.ref nr])) := same_new n2
      have f2 : upd F1 q2 (.lst [.ref nr]) q2 = some (.lst [.ref nr]) := upd_same
      generalize upd F1 q2 (.lst [.ref nr]) = F2 at u2 f2 ⊢
      refine ⟨_, _, _, _, rfl, rfl, u2 _ _ f1, f2, ?_, fun q3 n3 => ?_⟩
      · rw [List.length_map, List.length_take]
        exact Nat.le_trans (by show min i rs.length + 1 ≤ 1000; omega) (by decide)
      have u3 : Same F2 (upd F2 q3 (.lst ((rs.take i).map V.ref ++ [.ref nr]))) := same_new n3
      have f3 : upd F2 q3 (.lst ((rs.take i).map V.ref ++ [.ref nr])) q3 = some (.lst ((rs.take i).map V.ref ++ [.ref nr])) := upd_same
      generalize upd F2 q3 (.lst ((rs.take i).map V.ref ++ [.ref nr])) = F3 at u3 f3 ⊢
      have u13 := (u1.trans u2).trans u3
      refine ⟨_, rfl, _, rfl, _, _, rfl, rfl, _, rfl, al, _, rfl, SqL.of (u13 _ _ k1), fun q4 n4 => ?_⟩
      rw [hcf]
      have u4 : Same F3 (upd F3 q4 (.lst ((rs.drop (i + 1)).map V.ref))) := same_new n4
      have f4 : upd F3 q4 (.lst ((rs.drop (i + 1)).map V.ref)) q4 = some (.lst ((rs.drop (i + 1)).map V.ref)) := upd_same
      generalize upd F3 q4 (.lst ((rs.drop (i + 1)).map V.ref)) = F4 at u4 f4 ⊢
      refine ⟨_, _, _, _, rfl, rfl, u4 _ _ f3, f4, ?_, fun q5 n5 => ?_⟩
      · rw [List.length_append, List.length_map, List.length_map, List.length_take, List.length_drop]
        exact Nat.le_trans (by show min i rs.length + 1 + (rs.length - (i + 1)) ≤ 1000; omega) (by decide)
      have hls : (rs.take i).map V.ref ++ [.ref nr] ++ (rs.drop (i + 1)).map V.ref = (rs.take i ++ [nr] ++ rs.drop (i + 1)).map V.ref := by
        rw [List.map_append, List.map_append] <;> rfl
      rw [hls]
      have u5 : Same F4 (upd F4 q5 (.lst ((rs.take i ++ [nr] ++ rs.drop (i + 1)).map V.ref))) := same_new n5
      have f5 : upd F4 q5 (.lst ((rs.take i ++ [nr] ++ rs.drop (i + 1)).map V.ref)) q5 = some (.lst ((rs.take i ++ [nr] ++ rs.drop (i + 1)).map V.ref)) := upd_same
      generalize upd F4 q5 (.lst ((rs.take i ++ [nr] ++ rs.drop (i + 1)).map V.ref)) = F5 at u5 f5 ⊢
      have u15 := (u13.trans u4).trans u5
      have hxn : RAs CR F5 (rs.take i ++ [nr] ++ rs.drop (i + 1)) (xs.take i ++ [⟨x.l, (["never", "a"] : List Str), x.ps, x.qs, x.ds⟩] ++ xs.drop (i + 1)) := by
        have k2' := k2.same u15
        exact ((k2'.split i).1.app (.cons (rnr.same u15) .nil)).app (k2'.split (i + 1)).2
      have oxn : ∀ y ∈ xs.take i ++ [(⟨x.l, (["never", "a"] : List Str), x.ps, x.qs, x.ds⟩ : Rl)] ++ xs.drop (i + 1), y.Ok := fun y hy => by
        rcases List.mem_append.mp hy with hy | hy
        · rcases List.mem_append.mp hy with hy | hy
          · exact hox y (List.mem_of_mem_take hy)
          · rw [List.mem_singleton.mp hy]
            exact ok6
        · exact hox y (List.mem_of_mem_drop hy)
      refine fun y1 dy1 ny1 ndy1 _ => mk_book ny1 ndy1 f5 hxn (by rw [exch_map (y := ⟨x.l, (["never", "a"] : List Str), x.ps, x.qs, x.ds⟩) hxi rfl]; exact nd) (by rw [List.length_append, List.length_append, List.length_take, List.length_drop, List.length_singleton]; omega) fun G6 s7 rb => ⟨rfl, _, rfl, eq_books TB.cl TB.I rb.ba (hxn.same s7) oxn ((k3.same u15).same s7) ((k2.same u15).same s7) hox fun G7 s8 => ⟨_, rfl, ?_⟩⟩
      rw [decide_eq_false (exch_ne hxi fun z => bx.h (congrArg Rl.h z).symm)]
      refine iteF ?_
      have t3 : Same G5 G7 := (u15.trans s7).trans s8
      have s9 := s6.trans t3
      have ba7 := ba5.same t3
      have lsx7 := lsx5.same t3
      clear rb hxn u1 u2 u3 u4 u5 u13 u15 f1 f2 f3 f4 f5 k1 k2 k3 k4 rnr ba5 lsx5 t3
      refine (show ∀ G : Hp, G7 = G → tSeq _ _ D' [some (.ref al), some (.ref gi), some (.ref ri), some (.ref bk), some (.ref la), o5, o6, some (.bl (xs.all fun x => decide (x.ds = []))), some (.int (i : Nat)), some (.str x.l), some (.ref b2), some (.ref nr), o12] G from fun G hG => ?_) _ rfl
      subst hG

      -- the rule, the others
      obtain ⟨k1, k2, k3, k4⟩ := K3 G7 s9
      obtain ⟨dxb, lb, eb, el⟩ := id k3
      refine ⟨_, rfl, bk, dxb, _, rfl, eb, (lk_no (by decide +kernel)), _, rfl, bk, x.l, rs, xs, i, ri, rfl, k3, k2, by omega, nd, hlb, hri, fun G8 t1 => ?_⟩
      have s10 := s9.trans t1
      obtain ⟨k1, k2, k3, k4⟩ := K3 G8 s10
      refine ⟨_, rfl, _, rfl, al, _, _, _, rfl, rfl, SqL.of k1, hat, ne_rules T.R T.I (raG G8 s10) bx.ok (raG G8 s10) bx.ok ⟨_, rfl, ?_⟩⟩
      rw [decide_eq_true (rfl : x = x)]
      obtain ⟨dx2, l2, e2, el2⟩ := id (ba7.same t1)
      refine iteF ⟨_, rfl, b2, dx2, _, rfl, e2, (lk_no (by decide +kernel)), b2, dx2, l2, _, _, rfl, e2, lkR, el2, fun q1 n1 => ?_⟩
      have u1 : Same G8 (upd G8 q1 (.lst ((less rs i).map V.ref))) := same_new n1
      have f1 : upd G8 q1 (.lst ((less rs i).map V.ref)) q1 = some (.lst ((less rs i).map V.ref)) := upd_same
      generalize upd G8 q1 (.lst ((less rs i).map V.ref)) = F1 at u1 f1 ⊢
      refine ⟨_, rfl, _, rfl, _, rfl, al, _, rfl, SqL.of (u1 _ _ k1), fun q2 n2 => ?_⟩
      rw [hct]
      have u2 : Same F1 (upd F1 q2 (.lst ((rs.take i).map V.ref))) := same_new n2
      have f2 : upd F1 q2 (.lst ((rs.take i).map V.ref)) q2 = some (.lst ((rs.take i).map V.ref)) := upd_same
      generalize upd F1 q2 (.lst ((rs.take i).map V.ref)) = F2 at u2 f2 ⊢
      refine ⟨_, rfl, _, rfl, _, _, rfl, rfl, _, rfl, al, _, rfl, SqL.of (u2 _ _ (u1 _ _ k1)), fun q4 n4 => ?_⟩
      rw [hcf]
      have u4 : Same F2 (upd F2 q4 (.lst ((rs.drop (i + 1)).map V.ref))) := same_new n4
      have f4 : upd F2 q4 (.lst ((rs.drop (i + 1)).map V.ref)) q4 = some (.lst ((rs.drop (i + 1)).map V.ref)) := upd_same
      generalize upd F2 q4 (.lst ((rs.drop (i + 1)).map V.ref)) = F4 at u4 f4 ⊢
      refine ⟨_, _, _, _, rfl, rfl, u4 _ _ f2, f4, ?_, fun q5 n5 => ?_⟩
      · rw [List.length_map, List.length_map, List.length_take, List.length_drop]
        exact Nat.le_trans (by omega : _ ≤ 1000) (by decide)
      have hls : (rs.take i).map V.ref ++ (rs.drop (i + 1)).map V.ref = (less rs i).map V.ref := by
        unfold less
        rw [List.map_append]
      rw [hls]
      have u5 : Same F4 (upd F4 q5 (.lst ((less rs i).map V.ref))) := same_new n5
      have f5 : upd F4 q5 (.lst ((less rs i).map V.ref)) q5 = some (.lst ((less rs i).map V.ref)) := upd_same
      generalize upd F4 q5 (.lst ((less rs i).map V.ref)) = F5 at u5 f5 ⊢
      have u15 := ((u1.trans u2).trans u4).trans u5
      have lsx9 := (lsx7.same t1).same u15
      have olx : ∀ y ∈ less xs i, y.Ok := fun y hy => hox y ((less_sub xs i).subset hy)
      have dl := dlst_rules (u5 _ _ (u4 _ _ (u2 _ _ f1))) f5 lsx9 lsx9 olx olx (one_of lsx9 lsx9)
      rw [decide_eq_true (rfl : less xs i = less xs i)] at dl
      refine ⟨true, dl, fun G9 t2 => ⟨_, rfl, iteF ?_⟩⟩
      have t3 : Same G7 G9 := (t1.trans u15).trans t2
      have s11 := s9.trans t3
      have ba9 := ba7.same t3
      have lsx9 := lsx7.same t3
      clear dl u1 u2 u4 u5 u15 f1 f2 f4 f5 k1 k2 k3 k4 eb el e2 el2 ba7 lsx7 t1 t2 t3 s10
      refine (show ∀ G : Hp, G9 = G → tSeq _ _ D' [some (.ref al), some (.ref gi), some (.ref ri), some (.ref bk), some (.ref la), o5, o6, some (.bl (xs.all fun x => decide (x.ds = []))), some (.int (i : Nat)), some (.str x.l), some (.ref b2), some (.ref nr), o12] G from fun G hG => ?_) _ rfl
      subst hG

      -- its length, two books together
      obtain ⟨k1, k2, k3, k4⟩ := K3 G9 s11
      obtain ⟨dx2, l2, e2, el2⟩ := id ba9
      have lle : (less rs i).length = rs.length - 1 := by
        unfold less
        rw [List.length_append, List.length_take, List.length_drop]
        omega
      refine ⟨_, rfl, b2, dx2, _, rfl, e2, b2, less rs i, rfl, ba9, _, rfl, ⟨by omega, by omega⟩, _, rfl, al, _, rfl, .inl (SqL.of k1), _, _, rfl, rfl, rfl, _, rfl, ?_⟩
      rw [List.length_map, decide_eq_true (by rw [lle]; congr 1; omega : V.int ((less rs i).length : Nat) = V.int ((rs.length : Nat) - 1))]
      refine iteF ⟨_, rfl, _, rfl, _, rfl, al, _, rfl, SqL.of k1, fun q1 n1 => ?_⟩
      rw [hct]
      have u1 : Same G9 (upd G9 q1 (.lst ((rs.take i).map V.ref))) := same_new n1
      have f1 : upd G9 q1 (.lst ((rs.take i).map V.ref)) q1 = some (.lst ((rs.take i).map V.ref)) := upd_same
      generalize upd G9 q1 (.lst ((rs.take i).map V.ref)) = F1 at u1 f1 ⊢
      have kt : RAs CR F1 (rs.take i) (xs.take i) := ((k2.same u1).split i).1
      refine fun y1 dy1 ny1 ndy1 _ => mk_book ny1 ndy1 f1 kt (by rw [List.map_take]; exact List.Nodup.sublist (List.take_sublist _ _) nd) (by rw [List.length_take]; omega) fun G10 s12 rb1 => ⟨rfl, ?_⟩
      have u2 := u1.trans s12
      refine ⟨_, rfl, _, rfl, _, rfl, al, _, rfl, SqL.of (u2 _ _ k1), fun q2 n2 => ?_⟩
      rw [hcf0]
      have u3 : Same G10 (upd G10 q2 (.lst ((rs.drop i).map V.ref))) := same_new n2
      have f3 : upd G10 q2 (.lst ((rs.drop i).map V.ref)) q2 = some (.lst ((rs.drop i).map V.ref)) := upd_same
      generalize upd G10 q2 (.lst ((rs.drop i).map V.ref)) = F3 at u3 f3 ⊢
      have kd : RAs CR F3 (rs.drop i) (xs.drop i) := ((k2.same (u2.trans u3)).split i).2
      refine fun y2 dy2 ny2 ndy2 _ => mk_book ny2 ndy2 f3 kd (by rw [List.map_drop]; exact List.Nodup.sublist (List.drop_sublist _ _) nd) (by rw [List.length_drop]; omega) fun G11 s13 rb2 => ⟨rfl, ?_⟩
      have u4 := (u2.trans u3).trans s13
      have rb1' := (rb1.ba.same u3).same s13
      have rb2' := rb2.ba
      obtain ⟨da, la', ea, ela'⟩ := id rb1'
      obtain ⟨db, lb', eb, elb'⟩ := id rb2'
      refine ⟨y1, y2, da, db, _, _, rfl, rfl, ea, eb, y1, y2, rs.take i, rs.drop i, xs.take i, xs.drop i, rfl, rb1', (kt.same s12 |>.same u3).same s13, rb2', kd.same s13, by rw [List.take_append_drop]; exact nd, by rw [List.length_take, List.length_drop]; omega, fun y3 G12 ny3 ba3 s14 => ⟨y3, rfl, ?_⟩⟩
      rw [List.take_append_drop] at ba3
      have u5 := u4.trans s14
      refine ⟨_, rfl, ne_books TB.cl TB.I ba3 (k2.same u5) hox (k3.same u5) (k2.same u5) hox fun G13 s15 => ⟨_, rfl, ?_⟩⟩
      rw [decide_eq_true (rfl : xs = xs)]
      refine iteF ?_
      have t3 : Same G9 G13 := u5.trans s15
      have s16 := s11.trans t3
      have ba13 := ba9.same t3
      have lsx13 := lsx9.same t3
      clear rb1 rb2 rb1' rb2' kt kd u1 u2 u3 u4 u5 f1 f3 ba3 k1 k2 k3 k4 ea eb ela' elb' e2 el2 ba9 lsx9 t3 s12 s13 s14 s15
      refine (show ∀ G : Hp, G13 = G → tSeq _ _ D' [some (.ref al), some (.ref gi), some (.ref ri), some (.ref bk), some (.ref la), o5, o6, some (.bl (xs.all fun x => decide (x.ds = []))), some (.int (i : Nat)), some (.str x.l), some (.ref b2), some (.ref nr), o12] G from fun G hG => ?_) _ rfl
      subst hG

      -- put behind the others again
      obtain ⟨k1, k2, k3, k4⟩ := K3 G13 s16
      obtain ⟨dxb, lb, eb, el⟩ := id k3
      refine ⟨_, rfl, bk, dxb, _, rfl, eb, (lk_no (by decide +kernel)), _, rfl, bk, x.l, rs, xs, i, rfl, k3, k2, by omega, nd, hlb, fun b3 G14 nb3 ba3 t1 => ?_⟩
      refine ⟨_, rfl, _, rfl, al, _, _, _, rfl, rfl, SqL.of (t1 _ _ k1), hat, (by show 1 ≤ sizeLine; decide), fun q1 n1 => ?_⟩
      have u1 : Same G14 (upd G14 q1 (.lst [.ref ri])) := same_new n1
      have f1 : upd G14 q1 (.lst [.ref ri]) q1 = some (.lst ([ri].map V.ref)) := upd_same
      generalize upd G14 q1 (.lst [.ref ri]) = F1 at u1 f1 ⊢
      have t2 : Same G13 F1 := t1.trans u1
      have k1r : RAs CR F1 [ri] [x] := .cons (raG F1 (s16.trans t2)) .nil
      refine fun y1 dy1 ny1 ndy1 _ => mk_book ny1 ndy1 f1 k1r (by simp) (by show 1 ≤ 100; decide) fun G15 s17 rb1 => ⟨rfl, ?_⟩
      have t4 := t2.trans s17
      have ba4 := (ba3.same u1).same s17
      have rb1' := rb1.ba
      obtain ⟨da, la', ea, ela'⟩ := id ba4
      obtain ⟨db, lb', eb', elb'⟩ := id rb1'
      have ndm : ((less xs i ++ [x]).map Rl.l).Nodup := by
        have pm : (less xs i ++ [x]).Perm xs := by
          have e1 : xs = xs.take i ++ (x :: xs.drop (i + 1)) := by
            have hi := List.getElem?_eq_some_iff.mp hxi
            obtain ⟨h1, h2⟩ := hi
            rw [← h2, ← List.drop_eq_getElem_cons h1, List.take_append_drop]
          have e2 : (less xs i ++ [x]).Perm (xs.take i ++ (x :: xs.drop (i + 1))) := by
            unfold less
            rw [List.append_assoc]
            exact List.Perm.append_left _ (List.perm_append_singleton _ _)
          rw [← e1] at e2
          exact e2
        exact (pm.map Rl.l).nodup_iff.mpr nd
      refine ⟨b3, y1, da, db, _, _, rfl, rfl, ea, eb', b3, y1, less rs i, [ri], less xs i, [x], rfl, ba4, lsx13.same t4, rb1', k1r.same s17, ndm, by have := (less_sub xs i).length_le; show (less xs i).length + 1 ≤ 100; omega, fun y3 G16 ny3 ba5 s18 => ⟨y3, rfl, ?_⟩⟩
      have t5 := t4.trans s18
      have s19 := s16.trans t5
      have ba16 := ba13.same t5
      have lsx16 := lsx13.same t5
      have lsm16 : RAs CR G16 (less rs i ++ [ri]) (less xs i ++ [x]) := lsx16.app (.cons (raG G16 s19) .nil)
      clear rb1 rb1' k1r u1 f1 k1 k2 k3 k4 eb el ea ela' eb' elb' ba3 ba4 ba13 lsx13 t1 t2 t4 t5 s17 s18
      refine (show ∀ G : Hp, G16 = G → tSeq _ _ D' [some (.ref al), some (.ref gi), some (.ref ri), some (.ref bk), some (.ref la), o5, o6, some (.bl (xs.all fun x => decide (x.ds = []))), some (.int (i : Nat)), some (.str x.l), some (.ref b2), some (.ref nr), some (.ref y3)] G from fun G hG => ?_) _ rfl
      subst hG

      -- its labels
      have lml : (less xs i).length ≤ 50 := by
        have := (less_sub xs i).length_le
        omega
      obtain ⟨da, la', ea, ela'⟩ := id ba5
      refine ⟨_, rfl, y3, da, _, rfl, ea, (lk_no (by decide +kernel)), y3, less rs i ++ [ri], less xs i ++ [x], rfl, ba5, lsm16, by rw [List.length_append, List.length_singleton]; omega, fun p1 G17 np1 t1 f1 => ?_⟩
      obtain ⟨db, lb', eb, elb'⟩ := id (ba16.same t1)
      refine ⟨_, rfl, b2, db, _, rfl, eb, (lk_no (by decide +kernel)), b2, less rs i, less xs i, rfl, ba16.same t1, lsx16.same t1, by omega, fun p2 G18 np2 t2 f2 => ?_⟩
      refine ⟨_, rfl, (by show 1 ≤ sizeLine; decide), fun p3 np3 => ?_⟩
      have u3 : Same G18 (upd G18 p3 (.lst [.str x.l])) := same_new np3
      have f3 : upd G18 p3 (.lst [.str x.l]) p3 = some (.lst [.str x.l]) := upd_same
      generalize upd G18 p3 (.lst [.str x.l]) = F3 at u3 f3 ⊢
      refine ⟨_, _, _, _, rfl, rfl, u3 _ _ f2, f3, ?_, fun p4 np4 => ?_⟩
      · rw [List.length_map, List.length_map]
        exact Nat.le_trans (by show (less xs i).length + 1 ≤ 1000; omega) (by decide)
      have hls : ((less xs i).map Rl.l).map V.str ++ [V.str x.l] = ((less xs i ++ [x]).map Rl.l).map V.str := by
        rw [List.map_append, List.map_append] <;> rfl
      rw [hls]
      have u4 : Same F3 (upd F3 p4 (.lst (((less xs i ++ [x]).map Rl.l).map V.str))) := same_new np4
      have f4 : upd F3 p4 (.lst (((less xs i ++ [x]).map Rl.l).map V.str)) p4 = some (.lst (((less xs i ++ [x]).map Rl.l).map V.str)) := upd_same
      generalize upd F3 p4 (.lst (((less xs i ++ [x]).map Rl.l).map V.str)) = F4 at u4 f4 ⊢
      have asc : ∀ z ∈ (less xs i ++ [x]).map Rl.l, Asc z := fun z hz => by
        obtain ⟨y, hy, rfl⟩ := List.mem_map.mp hz
        rcases List.mem_append.mp hy with hy | hy
        · exact (hox y ((less_sub xs i).subset hy)).l.asc
        · rw [List.mem_singleton.mp hy]
          exact bx.ok.l.asc
      refine ⟨dS ((less xs i ++ [x]).map Rl.l), dS ((less xs i ++ [x]).map Rl.l), dp_S (SqL.of (u4 _ _ (u3 _ _ (t2 _ _ f1)))), dp_S (SqL.of f4), (lay_dS asc).shaped (by decide), (lay_dS asc).shaped (by decide), _, rfl, ?_⟩
      rw [eqv_S, decide_eq_true rfl]
      refine iteF (hD _ _ ⟨_, _, _, _, _, _, rfl, (((s19.trans t1).trans t2).trans u3).trans u4⟩)
    rintro σ H13 ⟨o2, o8, o9, o10, o11, o12, rfl, s13⟩
    clear k1 k2 k3 k4 s12
    refine (show ∀ G : Hp, H13 = G → tSeq _ _ { nx := fun _ H' => Q .non H', rt := Q } [some (.ref al), some (.ref gi), o2, some (.ref bk), some (.ref la), o5, o6, some (.bl (xs.all fun x => decide (x.ds = []))), o8, o9, o10, o11, o12] G from fun G hG => ?_) _ rfl
    subst hG

    obtain ⟨k1, k2, k3, k4⟩ := K3 H13 s13
    obtain ⟨dxb, lb, eb, el⟩ := id k3
    have fl : (dS (xs.map Rl.l)).showable = true ∧ (dS (xs.map Rl.l)).shown.length ≤ sizeLine ∧ (dS (xs.map Rl.l)).depth ≤ 60 := by
      refine (shw_S (by rw [List.length_map]; omega) fun z hz => ?_).fits (by decide) (by decide)
      obtain ⟨y, hy, rfl⟩ := List.mem_map.mp hz
      exact (hox y hy).l.sht
    refine ⟨_, rfl, bk, dxb, _, rfl, eb, (lk_no (by decide +kernel)), bk, rs, xs, rfl, k3, k2, by omega, fun p1 H14 np1 t1 f1 => ⟨p1, dS (xs.map Rl.l), rfl, rdd_S f1, fl.1, fl.2.1, fl.2.2, _, rfl, la, dS (xs.map Rl.l), rfl, rdd_S (t1 _ _ k4), fl.1, fl.2.1, fl.2.2, rfl, _, rfl, ?_⟩⟩
    rw [decide_eq_true (rfl : V.str (dS (xs.map Rl.l)).shown = V.str (dS (xs.map Rl.l)).shown)]
    refine iteT ?_
    have s14 := s13.trans t1
    clear f1 fl k1 k2 k3 k4 eb el
    obtain ⟨k1, k2, k3, k4⟩ := K3 H14 s14
    -- a book of no rules behind it
    refine ⟨_, rfl, Nat.zero_le _, fun l nl => ?_⟩
    have u1 : Same H14 (upd H14 l (.lst [])) := same_new nl
    have f1 : upd H14 l (.lst []) l = some (.lst (([] : List Addr).map V.ref)) := upd_same
    generalize upd H14 l (.lst []) = F1 at u1 f1 ⊢
    refine fun y1 dy1 ny1 ndy1 _ => mk_book (CR := CR) (xs := []) ny1 ndy1 f1 .nil List.nodup_nil (Nat.zero_le _) fun H15 s15 rb1 => ⟨rfl, ?_⟩
    have u2 := u1.trans s15
    obtain ⟨da, la', ea, ela'⟩ := id (k3.same u2)
    obtain ⟨db, lb', eb', elb'⟩ := id rb1.ba
    refine ⟨bk, y1, da, db, _, _, rfl, rfl, ea, eb', bk, y1, rs, [], xs, [], rfl, k3.same u2, k2.same u2, rb1.ba, .nil, by rw [List.append_nil]; exact nd, by show xs.length + 0 ≤ 100; omega, fun y3 H16 ny3 ba3 s16 => ⟨y3, rfl, ?_⟩⟩
    rw [List.append_nil] at ba3
    have u3 := u2.trans s16
    refine ⟨_, rfl, eq_books TB.cl TB.I ba3 (k2.same u3) hox (k3.same u3) (k2.same u3) hox fun H17 s17 => ⟨_, rfl, ?_⟩⟩
    rw [decide_eq_true (rfl : xs = xs)]
    refine iteT ?_
    have s18 := s14.trans (u3.trans s17)
    clear rb1 ba3 u1 u2 u3 f1 k1 k2 k3 k4 ea ela' eb' elb'
    obtain ⟨k1, k2, k3, k4⟩ := K3 H17 s18
    -- ahead of it
    refine ⟨Nat.zero_le _, fun l nl => ?_⟩
    have u1 : Same H17 (upd H17 l (.lst [])) := same_new nl
    have f1 : upd H17 l (.lst []) l = some (.lst (([] : List Addr).map V.ref)) := upd_same
    generalize upd H17 l (.lst []) = F1 at u1 f1 ⊢
    refine fun y1 dy1 ny1 ndy1 _ => mk_book (CR := CR) (xs := []) ny1 ndy1 f1 .nil List.nodup_nil (Nat.zero_le _) fun H18 s19 rb1 => ⟨rfl, ?_⟩
    have u2 := u1.trans s19
    obtain ⟨da, la', ea, ela'⟩ := id (k3.same u2)
    obtain ⟨db, lb', eb', elb'⟩ := id rb1.ba
    refine ⟨_, rfl, y1, bk, db, da, _, _, rfl, rfl, eb', ea, y1, bk, [], rs, [], xs, rfl, rb1.ba, .nil, k3.same u2, k2.same u2, nd, by show 0 + xs.length ≤ 100; omega, fun y3 H19 ny3 ba3 s20 => ⟨y3, rfl, ?_⟩⟩
    have u3 := u2.trans s20
    refine ⟨_, rfl, eq_books TB.cl TB.I ba3 (k2.same u3) hox (k3.same u3) (k2.same u3) hox fun H20 s21 => ?_⟩
    rw [decide_eq_true (rfl : xs = xs)]
    exact q _ (s3.trans (s18.trans (u3.trans s21)))
end
end Nv
set_option maxHeartbeats 4000000
namespace Nv
open PySem PySem.Spec PyProof.Rows L2
abbrev sLaw : Stmt := top 43
abbrev nLaw : List Str := ["_law_script", "_law_purse_here", "_law_names_here", "_law_kinds_here", "_law_rules", "_law_label", "_law_told_here", "_law_some", "_law_pairs_here", "_law_none", "_law_row", "_law_rule_here", "_law_columns", "_law_turn", "_law_sign"]
theorem scLaw : FnScope nLaw ["_law_script"] (defScope sLaw) := ⟨rfl, rfl, rfl, by decide +kernel, rfl, by decide +kernel, by decide +kernel⟩
theorem cut_strs {zs : List Str} {k : Nat} (h : k ≤ zs.length) : cutV (zs.map V.str) none (some (k : Int)) = (zs.take k).map V.str := by
  unfold cutV
  rw [HT.sIx_none, HT.sIx_nat, List.drop_zero, Nat.sub_zero, List.length_map, Nat.min_eq_left h, List.map_take]
theorem PaL.no_int {H : Hp} {vs : List V} {ps : List (List Str)} (h : PaL H vs ps) {s d t k : Int} : HO.lst vs ≠ .lst [.int s, .int d, .int t, .int k] := fun z => by
  injection z with z
  cases h with
  | nil => cases z
  | cons e h => injection z with z _; cases z
theorem RAo.sb {o a C r : Addr} {H H1 : Hp} {x : Rl} {n : Nat} (h : RAo o C H r x) (pu : Pu H a n) (s : Sb a H H1) : RAo o C H1 r x := by
  obtain ⟨dx, th, l1, l2, l3, us, us2, us3, nn, e, et, ⟨e1, p1⟩, ⟨e2, p2⟩, e3, p3⟩ := h
  exact ⟨dx, th, l1, l2, l3, us, us2, us3, nn, s _ _ (lst_ne pu (fun _ _ _ _ z => by cases z) e) e, s _ _ (tup_ne pu et) et, ⟨s _ _ (lst_ne pu (fun _ _ _ _ => p1.no_int) e1) e1, p1.sb pu s⟩, ⟨s _ _ (lst_ne pu (fun _ _ _ _ => p2.no_int) e2) e2, p2.sb pu s⟩, s _ _ (lst_ne pu (fun _ _ _ _ => p3.no_int) e3) e3, p3.sb pu s⟩
/-- rules none of whose own objects is o -/
def RAos (o C : Addr) (H : Hp) (rs : List Addr) (xs : List Rl) : Prop := All2 (fun r x => RAo o C H r x) rs xs
theorem RAos.ras {o C : Addr} {H : Hp} {rs : List Addr} {xs : List Rl} (h : RAos o C H rs xs) : RAs C H rs xs := h.imp fun _ _ z => z.ra
theorem RAos.sb {o a C : Addr} {H H1 : Hp} {rs : List Addr} {xs : List Rl} {n : Nat} (h : RAos o C H rs xs) (pu : Pu H a n) (s : Sb a H H1) : RAos o C H1 rs xs := h.imp fun _ _ z => z.sb pu s
theorem RAos.putl {o C : Addr} {H : Hp} {rs : List Addr} {xs : List Rl} {os os' : List V} (h : RAos o C H rs xs) (e : H o = some (.lst os)) : RAos o C (upd H o (.lst os')) rs xs := h.imp fun _ _ z => z.putl e
def fourL : List Str := ["r", "if", "not", "longlabel"]
theorem fourL_nm : ∀ z ∈ fourL, IsNm z := by decide +kernel
theorem fourL_nd : fourL.Nodup := by decide +kernel
/-- how many columns are drawn -/
theorem cols_arg {K : PySem.W.Frag} {σ : L2.St} {H : Hp} {Q : VK} {a p : Addr} {n : Nat} {vs : List Str} (h1 : σ[1]? = some (some (.ref a))) (h7 : σ[7]? = some (some (.ref p))) (pu : Pu H a (n + 1)) (e : H p = some (.lst (vs.map V.str))) (asc : ∀ z ∈ vs, Asc z)
    (k : ∀ (r : Int) (G : Hp), 0 ≤ r → r < 4 → (vs = [] → r = 0) → Pu G a n → Sb a H G → Q (.int r) G) :
    tIf (tTest (tOp (rNeD K) (tVar 7) (tLst tNil))) (tCall spDraw [] E0 (tCons (tVar 1) (tCons (tC (V.int 4)) tNil))) (tC (V.int 0)) σ H Q := by
  refine ⟨_, h7, Nat.zero_le _, fun l nl => ?_⟩
  have s1 : Sb a H (upd H l (.lst [])) := Sb.new nl
  have pu1 : Pu (upd H l (.lst [])) a (n + 1) := pu.put (pu.ne nl)
  have e1 : upd H l (.lst []) p = some (.lst (vs.map V.str)) := same_new nl _ _ e
  have el : upd H l (.lst []) l = some (.lst []) := upd_same
  generalize upd H l (.lst []) = G at s1 pu1 e1 el ⊢
  refine ⟨dS vs, dS [], dp_S (SqL.of e1), .lst (SqL.of el) .nil, (lay_dS asc).shaped (by decide), (lay_dS (xs := []) (fun y hy => nomatch hy)).shaped (by decide), _, rfl, ?_⟩
  rw [eqv_S]
  by_cases hv : vs = []
  · rw [decide_eq_true hv]
    exact iteF (k 0 G (by decide) (by decide) (fun _ => rfl) (pu1.le (by omega)) s1)
  · rw [decide_eq_false hv]
    exact iteT ⟨_, h1, a, n, 4, rfl, pu1, ⟨by decide, by decide⟩, fun r G' r0 r1 pu2 s2 => k r G' r0 r1 (fun z => absurd z hv) pu2 (s1.trans s2)⟩
end Nv
namespace Nv
open PySem PySem.Spec PyProof.Rows L2
theorem Pu.other {H H1 : Hp} {a b : Addr} {n : Nat} (p : Pu H b n) (ne : b ≠ a) (s : Sb a H H1) : Pu H1 b n := by
  obtain ⟨x, d, t, k, e, h⟩ := p.ex
  exact ⟨⟨x, d, t, k, s _ _ ne e, h⟩⟩
theorem Kd.putl {H : Hp} {o : Addr} {v : V} {os os' : List V} (h : Kd H v) (e : H o = some (.lst os)) : Kd (upd H o (.lst os')) v := by
  obtain ⟨t, w, m, rfl, et, h⟩ := h
  refine ⟨t, w, m, rfl, ?_, h⟩
  rw [upd_ne (fun z => by rw [z, e] at et; cases et)]
  exact et
theorem refs_no_int {bs : List Addr} {i : Nat} {a : Addr} (h : bs[i]? = some a) {s d t k : Int} : HO.lst (bs.map V.ref) ≠ .lst [.int s, .int d, .int t, .int k] := fun z => by
  injection z with z
  cases bs with
  | nil => cases h
  | cons b bs => injection z with z _; cases z
theorem strs_no_int {zs : List Str} {s d t k : Int} : HO.lst (zs.map V.str) ≠ .lst [.int s, .int d, .int t, .int k] := fun z => by
  injection z with z
  cases zs with
  | nil => cases z
  | cons b bs => injection z with z _; cases z
end Nv
namespace Nv
open PySem PySem.Spec PyProof.Rows L2
/-- a pattern of the kinds and of these terms -/
theorem pat_arg {K : PySem.W.Frag} {σ : L2.St} {H : Hp} {Q : VK} {a pk pv pn : Addr} {n : Nat} {ks : List V} {vs zs : List Str} (h1 : σ[1]? = some (some (.ref a))) (h3 : σ[3]? = some (some (.ref pk))) (h7 : σ[7]? = some (some (.ref pv))) (h2 : σ[2]? = some (some (.ref pn))) (pu : Pu H a (n + 4))
    (ek : H pk = some (.lst ks)) (pka : pk ≠ a) (k1 : 1 ≤ ks.length) (k2 : ks.length ≤ 1000) (kd : ∀ v ∈ ks, Kd H v) (ev : H pv = some (.lst (vs.map V.str))) (vl : vs.length ≤ 100) (en : H pn = some (.lst (zs.map V.str))) (z1 : 1 ≤ zs.length) (z2 : zs.length ≤ 100)
    (k : ∀ (t : Addr) (wd : Str) (ts : List Str) (H' : Hp), IsWd wd → ts.length ≤ 3 → (∀ y ∈ ts, y ∈ vs ++ zs.take 1) → H t = none → Pu H' a n → Sb a H H' → H' t = some (.tup ((wd :: ts).map V.str)) → Q (.ref t) H') :
    tCall (spPattern K) [] E0 (tCons (tVar 1) (tCons (tVar 3) (tCons (tOp rCat (tVar 7) (tSl (rSlL K) (tVar 2) tNoPart (tPart (tC (V.int 1))))) tNil))) σ H Q := by
  refine ⟨_, h1, _, h3, _, h7, _, h2, 1, rfl, pn, _, rfl, SqL.of en, fun p7 n7 => ?_⟩
  rw [take_names]
  have u1 : Same H (upd H p7 (.lst ((zs.take 1).map V.str))) := same_new n7
  have f1 : upd H p7 (.lst ((zs.take 1).map V.str)) p7 = some (.lst ((zs.take 1).map V.str)) := upd_same
  generalize upd H p7 (.lst ((zs.take 1).map V.str)) = F1 at u1 f1 ⊢
  refine ⟨_, _, _, _, rfl, rfl, u1 _ _ ev, f1, ?_, fun p8 n8 => ?_⟩
  · rw [List.length_map, List.length_map, List.length_take]
    exact Nat.le_trans (by omega : _ ≤ 1000) (by decide)
  rw [← List.map_append]
  have u2 : Same F1 (upd F1 p8 (.lst ((vs ++ zs.take 1).map V.str))) := same_new n8
  have f2 : upd F1 p8 (.lst ((vs ++ zs.take 1).map V.str)) p8 = some (.lst ((vs ++ zs.take 1).map V.str)) := upd_same
  have p8a : p8 ≠ a := (pu.same u1).ne n8
  generalize upd F1 p8 (.lst ((vs ++ zs.take 1).map V.str)) = F2 at u2 f2 ⊢
  have u12 := u1.trans u2
  refine ⟨a, pk, p8, n, ks, vs ++ zs.take 1, rfl, pu.same u12, ⟨SqL.of (u12 _ _ ek), pka, k1, k2, fun v hv => (kd v hv).same u12⟩, ⟨SqL.of f2, p8a, ?_, ?_⟩, fun t wd ts H' hw h3 hts nt pu' sb' et => k t wd ts H' hw h3 hts (u12.free nt) pu' ((Sb.of u12).trans sb') et⟩
  · rw [List.length_append, List.length_take]
    omega
  · rw [List.length_append, List.length_take]
    omega
end Nv
namespace Nv
theorem both2 {A : Prop} {Qf : L2.V → L2.Hp → Prop} {I : L2.V → L2.Hp → Prop} (h : (∀ v G, I v G → Qf v G) → A) (k : ∀ v G, I v G → Qf v G) : A := h k
end Nv
namespace Nv
open PySem PySem.Spec PyProof.Rows L2
def eightL : List Str := ("abcdefgh" : Str).cps.toList.map fun c => (⟨#[c]⟩ : Str)
theorem eightL_nm : ∀ z ∈ eightL, IsNm z := by decide +kernel
theorem eightL_nd : eightL.Nodup := by decide +kernel
theorem eightL_len : eightL.length = 8 := by decide +kernel
theorem eight_size : ("abcdefgh" : Str).cps.size = 8 := by decide +kernel
theorem eightL_at {i c : Nat} (h : ("abcdefgh" : Str).cps[i]? = some c) : eightL[i]? = some ⟨#[c]⟩ := by
  unfold eightL
  rw [List.getElem?_map, Array.getElem?_toList, h] <;> rfl
end Nv
set_option maxHeartbeats 8000000
namespace Nv
open PySem PySem.Spec PyProof.Rows L2
section
variable {P : Program} {w : World} {K : PySem.W.Frag} {mg : Str → Option Value} {base : Heap}
structure CallOkG (P : Program) (w : World) (K : PySem.W.Frag) (mg : Str → Option Value) (base : Heap) (x : Str) (k : Nat) (ps : List Str) (sp : Sp) : Prop where
  ex : ∃ f fd, RunG P w K mg base k f fd ps sp ∧ PySem.W.keepIn K (.ref f) = true ∧ mg x = some (.ref f) ∧ Binds K fd ps []
def spLaw (K : PySem.W.Frag) : Sp := fun vs H Q _ => ∃ (al : Addr) (ns : List Int), vs = [.ref al] ∧ SqL K H al (ns.map V.int) ∧ ns.length ≤ 63 ∧ ∀ H', Q (.bl true) H'
theorem ok_law {f CR CQ CB : Addr} {fd : FuncData} (F : Fun K "law" "law" sLaw f fd) (T : RuleOk P w K mg base CR) (TB : BookOk P w K mg base CR CB) (B : Bp mg) (B2 : Bl mg)
    (cDr : CallOk P w K mg base "_law_draw" 2 ["_law_purse_here", "_law_many"] spDraw)
    (cPs : CallOk P w K mg base "_law_purses" 2 ["_law_script", "_law_few"] (spPurses K))
    (cNa : CallOk P w K mg base "_law_names" 4 ["_law_purse_here", "_law_many"] spNames)
    (cKi : CallOk P w K mg base "_law_kinds" 4 ["_law_purse_here", "_law_many"] spKinds)
    (cPa : CallOk P w K mg base "_law_pattern" 4 ["_law_purse_here", "_law_kinds_here", "_law_terms"] (spPattern K))
    (cTo : CallOk P w K mg base "_law_told" 5 ["_law_purse_here", "_law_kinds_here", "_law_names_here", "_law_most", "_law_few"] (spTold K))
    (cVa : CallOk P w K mg base "_law_variables" 1 ["_law_told_here"] (spVariables K))
    (cPr : CallOk P w K mg base "_law_pairs" 4 ["_law_purse_here", "_law_told_here", "_law_names_here"] (spPairs K))
    (cRu : CallOk P w K mg base "_law_rule" 7 ["_law_purse_here", "_law_label", "_law_kinds_here", "_law_names_here", "_law_denied"] (spRule CR))
    (cOn : CallOk P w K mg base "_law_one_of" 3 ["_law_purse_here", "_law_some"] (spOneOf K))
    (cRR : CallOkG P w K mg base "_law_rule_right" 7 ["_law_rule_here", "_law_row"] (spRuleRight CR)) (cQR : CallOkG P w K mg base "_law_question_right" 7 ["_law_columns", "_law_told_here", "_law_pairs_here"] spQuestionRight) (cBR : CallOkG P w K mg base "_law_book_right" 7 ["_law_rules"] (spBookRight CR))
    (rp : mg "repr" = none) : RunG P w K mg base 8 f fd ["_law_script"] (spLaw K) := by
  obtain ⟨fDr, dDr, GDr, kDr, gDr, bDr⟩ := cDr.ex
  obtain ⟨fPs, dPs, GPs, kPs, gPs, bPs⟩ := cPs.ex
  obtain ⟨fNa, dNa, GNa, kNa, gNa, bNa⟩ := cNa.ex
  obtain ⟨fKi, dKi, GKi, kKi, gKi, bKi⟩ := cKi.ex
  obtain ⟨fPa, dPa, GPa, kPa, gPa, bPa⟩ := cPa.ex
  obtain ⟨fTo, dTo, GTo, kTo, gTo, bTo⟩ := cTo.ex
  obtain ⟨fVa, dVa, GVa, kVa, gVa, bVa⟩ := cVa.ex
  obtain ⟨fPr, dPr, GPr, kPr, gPr, bPr⟩ := cPr.ex
  obtain ⟨fRu, dRu, GRu, kRu, gRu, bRu⟩ := cRu.ex
  obtain ⟨fOn, dOn, GOn, kOn, gOn, bOn⟩ := cOn.ex
  obtain ⟨fRR, dRR, GRR, kRR, gRR, bRR⟩ := cRR.ex
  obtain ⟨fQR, dQR, GQR, kQR, gQR, bQR⟩ := cQR.ex
  obtain ⟨fBR, dBR, GBR, kBR, gBR, bBR⟩ := cBR.ex
  have lenRR : ∀ vs H Q E, spRuleRight CR vs H Q E → vs.length = 2 := fun vs H Q E h => by
    obtain ⟨r, ar, th, tt, tq, td, us, uq, ud, x, rfl, _⟩ := h
    rfl
  have lenQR : ∀ vs H Q E, spQuestionRight vs H Q E → vs.length = 3 := fun vs H Q E h => by
    obtain ⟨ac, at_, aq, us, uq, x, rfl, _⟩ := h
    rfl
  have lenBR : ∀ vs H Q E, spBookRight CR vs H Q E → vs.length = 1 := fun vs H Q E h => by
    obtain ⟨al, rs, xs, rfl, _⟩ := h
    rfl
  obtain ⟨fI, dI, GI, MI, gR, bI'⟩ := T.mkr.ex
  have bI5 : Binds K dI _ [] := bI' 2 (by decide)
  have bI3 : Binds K dI _ [.none, .none] := bI' 0 (by decide)
  obtain ⟨fB, dB, GB, MB, gB, bB'⟩ := TB.mkr.ex
  have bB : Binds K dB _ [] := bB' 0 (by decide)
  obtain ⟨fN, dN, GN, hsN, hfN, bN⟩ := TB.len.ex
  obtain ⟨fRs, dRs, GRs, mRs, bRs⟩ := TB.rules.ex
  obtain ⟨pp, gp, dp, POp, PFp, PBp⟩ := TB.plain.ex
  obtain ⟨p1, g1, d1, PO1, PF1, PB1⟩ := T.label.ex
  refine run_ofG F scLaw (fun vs H Q E h => ?_) (fun cdv A outer s H vs Q hg hr h => ?_)
  · obtain ⟨al, ns, rfl, _⟩ := h
    rfl
  · obtain ⟨al, ns, rfl, eal, hns, q⟩ := h
    have hr1 : Room 1 _ := hr.mono (by decide)
    have hr2 : Room 2 _ := hr.mono (by decide)
    have hr4 : Room 4 _ := hr.mono (by decide)
    have hr6 : Room 6 _ := hr.mono (by decide)
    refine ⟨_, pss_cons (ps_for PassesOwn.never rfl (pi_list (by exact (pe_call GPs (hr.mono (by decide) : Room 2 _) (by rfl) gPs kPs bPs .nil pass0 (pa_cons (pv 0) (pa_cons pe_int pa_nil))))) (pg_name (i := 1) scLaw.nd rfl (Or.inr rfl)) (pss_cons (ps_asg (pe_tup (pa_cons (by exact (pe_call GNa (hr.mono (by decide) : Room 4 _) (by rfl) gNa kNa bNa .nil pass0 (pa_cons (pv 1) (pa_cons pe_int pa_nil)))) (pa_cons (by exact (pe_call GKi (hr.mono (by decide) : Room 4 _) (by rfl) gKi kKi bKi .nil pass0 (pa_cons (pv 1) (pa_cons pe_int pa_nil)))) (pa_cons (pe_lst pa_nil) pa_nil)))) (pg_tup (by rfl) (pgs_cons (pg_name (i := 2) scLaw.nd rfl (Or.inr rfl)) (pgs_cons (pg_name (i := 3) scLaw.nd rfl (Or.inr rfl)) (pgs_cons (pg_name (i := 4) scLaw.nd rfl (Or.inl rfl)) pgs_nil)))))
      (pss_cons (ps_for PassesOwn.never rfl (pi_list (pe_slice sl_list (pe_lst (pa_cons pe_str (pa_cons pe_str (pa_cons pe_str (pa_cons pe_str pa_nil))))) po_none (po_some (pe_op op_add pe_int (by exact (pe_call GDr hr2 (by rfl) gDr kDr bDr .nil pass0 (pa_cons (pv 1) (pa_cons pe_int pa_nil)))))))) (pg_name (i := 5) scLaw.nd rfl (Or.inl rfl)) (pss_one (ps_expr (pe_bm PySem.F.plainAttrs_list PySem.F.slot_list_append PySem.F.type_list_append mt_append (pv 4) (pa_cons (by exact (pe_call GRu (hr.mono (by decide) : Room 7 _) (by rfl) gRu kRu bRu .nil pass0 (pa_cons (pv 1) (pa_cons (pv 5) (pa_cons (pv 3) (pa_cons (pv 2) (pa_cons (pe_cmpR op_eq (by exact (pe_call GDr hr2 (by rfl) gDr kDr bDr .nil pass0 (pa_cons (pv 1) (pa_cons pe_int pa_nil)))) pe_int (nomark _)) pa_nil))))))) pa_nil)))))
      (pss_cons (ps_set (i := 6) scLaw.nd rfl (Or.inl rfl) (by exact (pe_call GTo (hr.mono (by decide) : Room 5 _) (by rfl) gTo kTo bTo .nil pass0 (pa_cons (pv 1) (pa_cons (pv 3) (pa_cons (pv 2) (pa_cons pe_int (pa_cons pe_int pa_nil))))))))
      (pss_cons (ps_set (i := 7) scLaw.nd rfl (Or.inr rfl) (by exact (pe_call GVa hr1 (by rfl) gVa kVa bVa .nil pass0 (pa_cons (pv 6) pa_nil))))
      (pss_cons (ps_set (i := 8) scLaw.nd rfl (Or.inl rfl) (pe_op op_cat (by exact (pe_call GPr (hr.mono (by decide) : Room 4 _) (by rfl) gPr kPr bPr .nil pass0 (pa_cons (pv 1) (pa_cons (pv 6) (pa_cons (pv 2) pa_nil))))) (by exact (pe_call GPr (hr.mono (by decide) : Room 4 _) (by rfl) gPr kPr bPr .nil pass0 (pa_cons (pv 1) (pa_cons (pv 6) (pa_cons (pv 2) pa_nil)))))))
      (pss_cons (ps_setLc (i := 9) (own := [("_law_turn", 13)]) (g := gName 13) (tt := tYes) (te := tCall (spPattern K) [] E0 (tCons (tVar 1) (tCons (tVar 3) (tCons (tOp rCat (tVar 7) (tSl (rSlL K) (tVar 2) tNoPart (tPart (tC (V.int 1))))) tNil)))) rfl scLaw.nd rfl rfl (sw_true rfl rfl rfl (by decide +kernel)) (pi_range1 (by rfl) B2.rg (pa_cons (by exact (pe_call GDr hr2 (by rfl) gDr kDr bDr .nil pass0 (pa_cons (pv 1) (pa_cons pe_int pa_nil)))) pa_nil)) (blkOk_by (own := [("_law_turn", 13)]) (N := nLaw) (sc := defScope sLaw) (by decide +kernel)) (fun _ _ _ _ _ => (pg_name (i := 13) scLaw.nd rfl (Or.inl rfl))) (fun _ _ _ _ _ => pts_nil) (fun _ _ _ _ _ => by exact (by exact (pe_call GPa hr4 (by rfl) gPa kPa bPa .nil pass0 (pa_cons (pv 1) (pa_cons (pv 3) (pa_cons (pe_op op_cat (pv 7) (pe_slice sl_list (pv 2) po_none (po_some pe_int))) pa_nil)))))))
      (pss_cons (ps_set (i := 10) scLaw.nd rfl (Or.inl rfl) (pe_lst (pa_cons (pe_prop (pe_ix ix_list (pv 4) pe_int (fun _ _ => rfl)) T.R.cl PO1 PF1 hr2 PB1 .nil pass0 rfl) (pa_cons (by exact (pe_call GPa hr4 (by rfl) gPa kPa bPa .nil pass0 (pa_cons (pv 1) (pa_cons (pv 3) (pa_cons (pe_op op_cat (pv 7) (pe_slice sl_list (pv 2) po_none (po_some pe_int))) pa_nil))))) (pa_cons (pv 6) (pa_cons (pv 8) (pa_cons (pv 9) pa_nil)))))))
      (pss_cons (ps_set (i := 11) scLaw.nd rfl (Or.inl rfl) (by exact (pe_make MI GI hr6 (by rfl) gR bI5 .nil pass0 (pa_cons (pe_ix ix_list (pv 10) pe_int (fun _ _ => rfl)) (pa_cons (pe_ix ix_list (pv 10) pe_int (fun _ _ => rfl)) (pa_cons (pe_callTy call_list_of (by rfl) B.lst PyProof.Rows.boot_list (pa_cons (pv 6) pa_nil)) (pa_cons (pe_callTy call_list_of (by rfl) B.lst PyProof.Rows.boot_list (pa_cons (pv 8) pa_nil)) (pa_cons (pe_callTy call_list_of (by rfl) B.lst PyProof.Rows.boot_list (pa_cons (pv 9) pa_nil)) pa_nil))))))))
      (pss_cons (ps_setLc (i := 12) (own := [("_law_turn", 13)]) (g := gName 13) (tt := tYes) (te := tCall (spOneOf K) [] E0 (tCons (tVar 1) (tCons (tVar 7) tNil))) rfl scLaw.nd rfl rfl (sw_true rfl rfl rfl (by decide +kernel)) (pi_range1 (by rfl) B2.rg (pa_cons (pe_ifExp (pt_cmpR (op_neD hr1.units) (pv 7) (pe_lst pa_nil) (nomark _)) (by exact (pe_call GDr hr2 (by rfl) gDr kDr bDr .nil pass0 (pa_cons (pv 1) (pa_cons pe_int pa_nil)))) pe_int) pa_nil)) (blkOk_by (own := [("_law_turn", 13)]) (N := nLaw) (sc := defScope sLaw) (by decide +kernel)) (fun _ _ _ _ _ => (pg_name (i := 13) scLaw.nd rfl (Or.inl rfl))) (fun _ _ _ _ _ => pts_nil) (fun _ _ _ _ _ => by exact (by exact (pe_call GOn (hr.mono (by decide) : Room 3 _) (by rfl) gOn kOn bOn .nil pass0 (pa_cons (pv 1) (pa_cons (pv 7) pa_nil))))))
      (pss_cons (ps_if (PW.pt (pw_or (pt_not (pt_val (by exact (pe_callG GRR lenRR hg hr (by rfl) gRR kRR bRR (pa_cons (pv 11) (pa_cons (pv 10) pa_nil)))))) (pw_or1 (pt_not (pt_val (by exact (pe_callG GQR lenQR hg hr (by rfl) gQR kQR bQR (pa_cons (pv 12) (pa_cons (pe_ix ix_list (pv 10) pe_int (fun _ _ => rfl)) (pa_cons (pe_ix ix_list (pv 10) pe_int (fun _ _ => rfl)) pa_nil)))))))))) (pss_one (ps_ret pe_bl)) pss_nil)
      (pss_one (ps_if (pt_not (pt_val (by exact (pe_callG GBR lenBR hg hr (by rfl) gBR kBR bBR (pa_cons (pv 4) pa_nil))))) (pss_one (ps_ret pe_bl)) pss_nil)))))))))))))
      (pss_cons (ps_if (pt_not (pt_val (pe_callB call_isi (by rfl) B.isi bootIsi (pa_cons (by exact (pe_make MB GB hr4 (by rfl) gB bB .nil pass0 (pa_cons (by exact (pe_lc (own := [("_law_sign", 14)]) (g := gName 14) (tt := tYes) (te := tMake CR (spRuleInit CR) [.non, .non] E0 (tCons (tVar 14) (tCons (tTup (tCons (tC (V.str "p")) tNil)) (tCons (tLst tNil) tNil)))) rfl scLaw.nd (pi_str pe_str) (blkOk_by (own := [("_law_sign", 14)]) (N := nLaw) (sc := defScope sLaw) (by decide +kernel)) (fun _ _ _ _ _ => (pg_name (i := 14) scLaw.nd rfl (Or.inl rfl))) (fun _ _ _ _ _ => pts_nil) (fun _ _ _ _ _ => by exact (pe_make MI GI hr6 (by rfl) gR bI3 (show Vals [V.non, V.non] [Value.none, Value.none] from .cons rfl (.cons rfl .nil)) pass0 (pa_cons (pv 14) (pa_cons (pe_tup (pa_cons pe_str pa_nil)) (pa_cons (pe_lst pa_nil) pa_nil)))))))  pa_nil))) (pa_cons (pe_glob (v := V.ref CB) (by rfl) gB rfl) pa_nil))))) (pss_one (ps_ret pe_bl)) pss_nil)
      (pss_one (ps_ret (pe_and (pe_cmpR op_eq (by exact (pe_callB call_reprB (by rfl) rp (by decide +kernel) (pa_cons (pe_prop (by exact (pe_make MB GB hr4 (by rfl) gB bB .nil pass0 (pa_cons (pe_lst pa_nil) pa_nil))) TB.cl POp PFp hr4 PBp .nil pass0 rfl) pa_nil))) pe_str (nomark _)) (pe_and (pe_cmpR op_eq (pe_callB (call_ownLen GN hr2.in1 hsN hfN bN) (by rfl) B.len PySem.boot_len (pa_cons (by exact (pe_make MB GB hr4 (by rfl) gB bB .nil pass0 (pa_cons (pe_lst pa_nil) pa_nil))) pa_nil)) pe_int (nomark _)) (pe_one (pe_cmpR (op_eqB (rcB_list mon_id eqB_id) hr1) (by exact (pe_meth0 (by exact (pe_make MB GB hr4 (by rfl) gB bB .nil pass0 (pa_cons (pe_lst pa_nil) pa_nil))) TB.cl mRs GRs hr1 bRs .nil pass0)) (pe_lst pa_nil) (nomark _)))))))), ?_⟩
    -- the purses
    refine ⟨_, rfl, al, ns, 4, rfl, eal, by omega, by decide, fun p bs Hq nd bl hbs np ep sp => ?_⟩
    refine ⟨p, rfl, ⟨_, SqL.of ep⟩, for_list (K := K) (a := p) (xs := bs.map V.ref) (fun i σ H' => ∃ o1 o2 o3 o4 o5 o6 o7 o8 o9 o10 o11 o12 : Option V, σ = [some (.ref al), o1, o2, o3, o4, o5, o6, o7, o8, o9, o10, o11, o12, none, none] ∧ H' p = some (.lst (bs.map V.ref)) ∧ ∀ j b, i ≤ j → bs[j]? = some b → Pu H' b 1099511627776) ⟨_, _, _, _, _, _, _, _, _, _, _, _, rfl, ep, fun j b _ h => (hbs b (List.mem_of_getElem? h)).1⟩ (fun i σ H' _ z => ?_) ?_ ?_⟩
    · obtain ⟨_, _, _, _, _, _, _, _, _, _, _, _, _, e, _⟩ := z
      exact SqL.of e
    · rintro i v σ H0 hi ⟨o1, o2, o3, o4, o5, o6, o7, o8, o9, o10, o11, o12, rfl, ep0, hpu⟩
      obtain ⟨a, hai, rfl⟩ := at_ref hi
      have pu0 := hpu i a (Nat.le_refl _) hai
      have pa : p ≠ a := lst_ne pu0 (fun _ _ _ _ => refs_no_int hai) ep0
      refine (show ∀ D' : Ends, (∀ σ' G', (∃ o1 o2 o3 o4 o5 o6 o7 o8 o9 o10 o11 o12 : Option V, σ' = [some (.ref al), o1, o2, o3, o4, o5, o6, o7, o8, o9, o10, o11, o12, none, none] ∧ G' p = some (.lst (bs.map V.ref)) ∧ ∀ j b, i + 1 ≤ j → bs[j]? = some b → Pu G' b 1099511627776) → D'.nx σ' G') → tSeq _ _ D' [some (.ref al), some (.ref a), o2, o3, o4, o5, o6, o7, o8, o9, o10, o11, o12, none, none] H0 from fun D' hD => ?_) _ ?hx
      case hx => exact fun σ' G' h => h
      have hE : ∀ G', Sb a H0 G' → G' p = some (.lst (bs.map V.ref)) ∧ ∀ j b, i + 1 ≤ j → bs[j]? = some b → Pu G' b 1099511627776 := fun G' s => ⟨s _ _ pa ep0, fun j b hj hb => (hpu j b (by omega) hb).other (fun z => by
        rw [z] at hb
        have l1 := (List.getElem?_eq_some_iff.mp hb)
        have l2 := (List.getElem?_eq_some_iff.mp hai)
        obtain ⟨h1, e1⟩ := l1
        obtain ⟨h2, e2⟩ := l2
        exact List.pairwise_iff_getElem.mp nd i j h2 h1 (by omega) (e2.trans e1.symm)) s⟩
      -- names, kinds, rules
      refine ⟨_, rfl, a, 1000000, 3, rfl, pu0.le (by omega), by decide, fun pn zs H1 zl zn znd npn pu1 sb1 en => ?_⟩
      have pna : pn ≠ a := pu0.ne npn
      refine ⟨_, rfl, a, 900000, 4, rfl, pu1.le (by omega), by decide, fun pk ks H2 kl kd npk pu2 sb2 ek => ?_⟩
      have pka : pk ≠ a := pu1.ne npk
      have en2 := sb2 _ _ pna en
      refine ⟨Nat.zero_le _, fun pr npr => ?_⟩
      have pra : pr ≠ a := pu2.ne npr
      have pnr : pn ≠ pr := fun z => by
        rw [← z, en2] at npr
        cases npr
      have pkr : pk ≠ pr := fun z => by
        rw [← z, ek] at npr
        cases npr
      have npr0 : H0 pr = none := sb1.free pu1 (sb2.free pu2 npr)
      have u1 : Same H2 (upd H2 pr (.lst [])) := same_new npr
      have epr : upd H2 pr (.lst []) pr = some (.lst []) := upd_same
      generalize upd H2 pr (.lst []) = F1 at u1 epr ⊢
      refine ⟨(by show 3 ≤ sizeLine; decide), fun pt npt => ?_⟩
      have u2 : Same F1 (upd F1 pt (.tup [.ref pn, .ref pk, .ref pr])) := same_new npt
      have f2 : upd F1 pt (.tup [.ref pn, .ref pk, .ref pr]) pt = some (.tup [.ref pn, .ref pk, .ref pr]) := upd_same
      generalize upd F1 pt (.tup [.ref pn, .ref pk, .ref pr]) = F2 at u2 f2 ⊢
      refine ⟨pt, _, rfl, SqT.of f2, rfl, _, _, rfl, _, _, rfl, _, _, rfl, rfl, ?_⟩
      have u12 := u1.trans u2
      have pu3 := pu2.same u12
      have sb3 : Sb a H0 F2 := (sb1.trans sb2).then u12
      replace en := u12 _ _ en2
      replace ek := u12 _ _ ek
      replace kd : ∀ v ∈ ks, Kd F2 v := fun v hv => (kd v hv).same u12
      replace epr := u2 _ _ epr
      clear u1 u2 u12 f2 npt npr npk npn pu1 pu2 sb1 sb2 en2
      refine (show ∀ G : Hp, F2 = G → tSeq _ _ D' [some (.ref al), some (.ref a), some (.ref pn), some (.ref pk), some (.ref pr), o5, o6, o7, o8, o9, o10, o11, o12, none, none] G from fun G hG => ?_) _ rfl
      subst hG

      -- the rules
      refine ⟨(by show 4 ≤ sizeLine; decide), fun pl npl => ?_⟩
      have v1 : Same F2 (upd F2 pl (.lst [.str "r", .str "if", .str "not", .str "longlabel"])) := same_new npl
      have g1 : upd F2 pl (.lst [.str "r", .str "if", .str "not", .str "longlabel"]) pl = some (.lst [.str "r", .str "if", .str "not", .str "longlabel"]) := upd_same
      generalize upd F2 pl (.lst [.str "r", .str "if", .str "not", .str "longlabel"]) = G1 at v1 g1 ⊢
      have pla : pl ≠ a := pu3.ne npl
      refine ⟨_, rfl, a, 800000, 4, rfl, (pu3.same v1).le (by omega), ⟨by decide, by decide⟩, fun r H4 r0 r1 pu4 sb4 => ⟨_, _, rfl, rfl, ?_⟩⟩
      obtain ⟨j, rfl⟩ : ∃ j : Nat, r = (j : Int) := ⟨r.toNat, by omega⟩
      refine ⟨_, rfl, pl, _, rfl, SqL.of (sb4 _ _ pla g1), fun pq npq => ?_⟩
      have ec : cutV [V.str "r", .str "if", .str "not", .str "longlabel"] none (some (1 + (j : Int))) = (fourL.take (1 + j)).map V.str := by
        have h := cut_strs (zs := fourL) (k := 1 + j) (by show 1 + j ≤ 4; omega)
        rw [show (1 + (j : Int)) = ((1 + j : Nat) : Int) by omega]
        exact h
      rw [ec]
      have lab1 : ∀ z ∈ fourL.take (1 + j), z ∈ fourL := fun z hz => List.mem_of_mem_take hz
      have lab2 : (fourL.take (1 + j)).Nodup := List.Nodup.sublist (List.take_sublist _ _) fourL_nd
      have lab3 : 1 ≤ (fourL.take (1 + j)).length ∧ (fourL.take (1 + j)).length ≤ 4 := by
        rw [List.length_take]
        show 1 ≤ min (1 + j) 4 ∧ min (1 + j) 4 ≤ 4
        omega
      have lab4 : (fourL.take (1 + j))[0]? = some ("r" : Str) := by
        rw [List.getElem?_take, if_pos (by omega)] <;> rfl
      generalize fourL.take (1 + j) = labs at lab1 lab2 lab3 lab4 ⊢
      have sbv : Sb a F2 H4 := (Sb.of v1).trans sb4
      have w1 : Same H4 (upd H4 pq (.lst (labs.map V.str))) := same_new npq
      have eq0 : upd H4 pq (.lst (labs.map V.str)) pq = some (.lst (labs.map V.str)) := upd_same
      have epr4 := sbv _ _ pra epr
      have pqr : pq ≠ pr := fun z => by
        rw [z, epr4] at npq
        cases npq
      have pqa : pq ≠ a := pu4.ne npq
      generalize upd H4 pq (.lst (labs.map V.str)) = G2 at w1 eq0 ⊢
      refine ⟨pq, rfl, ⟨_, SqL.of eq0⟩, for_list (K := K) (a := pq) (xs := labs.map V.str) (fun k σ H' => ∃ o5 : Option V, σ = [some (.ref al), some (.ref a), some (.ref pn), some (.ref pk), some (.ref pr), o5, o6, o7, o8, o9, o10, o11, o12, none, none] ∧ Sb a H0 H' ∧ Pu H' a (500000 - 100 * k) ∧ H' pn = some (.lst (zs.map V.str)) ∧ (H' pk = some (.lst ks) ∧ ∀ v ∈ ks, Kd H' v) ∧ H' pq = some (.lst (labs.map V.str)) ∧ ∃ rs xs, H' pr = some (.lst (rs.map V.ref)) ∧ RAos pr CR H' rs xs ∧ xs.map Rl.l = labs.take k ∧ ∀ x ∈ xs, BRx x) ?_ (fun k σ H' _ z => ?_) ?_ ?_⟩
      · exact ⟨_, rfl, (sb3.trans sbv).then w1, (pu4.same w1).le (by omega), w1 _ _ (sbv _ _ pna en), ⟨w1 _ _ (sbv _ _ pka ek), fun v hv => ((kd v hv).sb pu3 sbv).same w1⟩, eq0, [], [], w1 _ _ epr4, .nil, rfl, fun x hx => nomatch hx⟩
      · obtain ⟨_, _, _, _, _, _, e, _⟩ := z
        exact SqL.of e
      · rintro k v σ H' hk ⟨o5, rfl, sbk, puk, enk, ⟨ekk, kdk⟩, eqk, rs, xs, eprk, hxs, hlab, hbx⟩
        obtain ⟨z, hz, rfl⟩ := at_map hk
        have hkl : k < labs.length := (List.getElem?_eq_some_iff.mp hz).1
        have hxl : rs.length = xs.length := hxs.len
        have hxk : xs.length = k := by
          have := congrArg List.length hlab
          rw [List.length_map, List.length_take] at this
          omega
        refine ⟨_, rfl, .inl ⟨rfl, _, SqL.of eprk⟩, _, rfl, _, rfl, _, rfl, _, rfl, _, rfl, a, 499999 - 100 * k, 2, rfl, puk.le (by omega), ⟨by decide, by decide⟩, fun r' H5 r0' r1' pu5 sb5 => ⟨rfl, a, pk, pn, z, _, 500000 - 100 * (k + 1), ks, zs, rfl, pu5.le (by omega), fourL_nm z (lab1 z (List.mem_of_getElem? hz)), ⟨sb5 _ _ pka ekk, pka, by omega, by omega, fun v hv => (kdk v hv).sb puk sb5⟩, ⟨sb5 _ _ pna enk, pna, by omega, by omega, zn⟩, fun nr y H6 yo yc yn yl rn pu6 sb6 => ?_⟩⟩
        have epr5 := sb5 _ _ pra eprk
        have epr6 := sb6 _ _ pra epr5
        refine ⟨pr, rs.map V.ref, _, rfl, rfl, epr6, ?_, ?_⟩
        · rw [List.length_map]
          exact Nat.lt_of_le_of_lt (by omega : _ ≤ 100) (by decide)
        have sb56 := sb5.trans sb6
        have hup : ∀ {b : Addr} {o : HO} {u : HO}, b ≠ pr → H6 b = some u → upd H6 pr o b = some u := fun n e => by
          rw [upd_ne n]
          exact e
        refine ⟨_, rfl, (sbk.trans sb56).put npr0, pu6.put pra, hup pnr (sb56 _ _ pna enk), ⟨hup pkr (sb56 _ _ pka ekk), fun v hv => ((kdk v hv).sb puk sb56).putl epr6⟩, hup pqr (sb56 _ _ pqa eqk), rs ++ [nr], xs ++ [y], ?_, ?_, ?_, ?_⟩
        · rw [upd_same, List.map_append] <;> rfl
        · exact ((hxs.sb puk sb56).putl epr6).app (.cons ((rn.at_ epr5).putl epr6) .nil)
        · rw [take_one hz, List.map_append, hlab, ← yl] <;> rfl
        · intro x hx
          rcases List.mem_append.mp hx with hx | hx
          · exact hbx x hx
          · rw [List.mem_singleton.mp hx]
            exact ⟨yo, yc, yn⟩
      rintro σ H5 ⟨o5, rfl, sb5, pu5, en5, ⟨ek5, kd5⟩, _, rs, xs, epr5, hxs, hlab, hbx⟩
      rw [List.length_map, List.take_length] at hlab
      clear eq0 epr4 ec g1 v1 w1 sbv sb4 pu4 npq npl lab1 epr kd ek en sb3 pu3
      refine (show ∀ G : Hp, H5 = G → tSeq _ _ D' [some (.ref al), some (.ref a), some (.ref pn), some (.ref pk), some (.ref pr), o5, o6, o7, o8, o9, o10, o11, o12, none, none] G from fun G hG => ?_) _ rfl
      subst hG

      replace pu5 := pu5.le (by rw [List.length_map]; omega : 400000 ≤ _)
      -- told, its variables, two lists of pairs
      refine ⟨_, rfl, _, rfl, _, rfl, a, pk, pn, 300000, 3, 3, ks, zs, rfl, pu5.le (by omega), ⟨by decide, by decide, by decide⟩, ⟨SqL.of ek5, pka, by omega, by omega, kd5⟩, ⟨SqL.of en5, pna, by omega, zn⟩, fun pt us ps H6 hps hok hpl npt pu6 sb6 ept => ?_⟩
      have pta : pt ≠ a := pu5.ne npt
      refine (show ∀ G : Hp, H6 = G → tSeq _ _ D' [some (.ref al), some (.ref a), some (.ref pn), some (.ref pk), some (.ref pr), o5, some (.ref pt), o7, o8, o9, o10, o11, o12, none, none] G from fun G hG => ?_) _ rfl
      subst hG

      refine ⟨_, rfl, pt, us, ps, rfl, SqL.of ept, hps, hok, by omega, fun pv H7 npv s7 ev => ?_⟩
      have pva : pv ≠ a := pu6.ne npv
      have vsv : ∀ y ∈ varsIn (tails ps), IsVr y ∧ y ∈ tails ps := fun y hy => ⟨(varsIn_mem.mp hy).2, (varsIn_mem.mp hy).1⟩
      have vsl : (varsIn (tails ps)).length ≤ 9 := by
        have h1 := varsIn_len (tails ps)
        have h2 := tails_len hok
        omega
      have sb7 : Sb a H5 H7 := sb6.then s7
      have pu7 := pu6.same s7
      have ept7 := s7 _ _ ept
      have hps7 := hps.same s7
      clear ept hps sb6 pu6 npv s7
      refine (show ∀ G : Hp, H7 = G → tSeq _ _ D' [some (.ref al), some (.ref a), some (.ref pn), some (.ref pk), some (.ref pr), o5, some (.ref pt), some (.ref pv), o8, o9, o10, o11, o12, none, none] G from fun G hG => ?_) _ rfl
      subst hG

      refine ⟨_, rfl, _, rfl, _, rfl, a, pt, pn, 200005, us, ps, zs, rfl, pu7.le (by omega), ⟨SqL.of ept7, hps7, hok, by omega⟩, ⟨SqL.of (sb7 _ _ pna en5), pna, by omega, zn⟩, fun q1 w1 qs1 H8 hq1 l1 ok1 nq1 pu8 sb8 eq1 => ?_⟩
      have q1a : q1 ≠ a := pu7.ne nq1
      refine ⟨_, rfl, _, rfl, _, rfl, a, pt, pn, 200000, us, ps, zs, rfl, pu8.le (by omega), ⟨SqL.of (sb8 _ _ pta ept7), hps7.sb pu7 sb8, hok, by omega⟩, ⟨SqL.of ((sb7.trans sb8) _ _ pna en5), pna, by omega, zn⟩, fun q2 w2 qs2 H9 hq2 l2 ok2 nq2 pu9 sb9 eq2 => ?_⟩
      refine ⟨_, _, _, _, rfl, rfl, sb9 _ _ q1a eq1, eq2, ?_, fun pq npq => ?_⟩
      · rw [hq1.len, hq2.len]
        exact Nat.le_trans (by omega : _ ≤ 1000) (by decide)
      have pqa : pq ≠ a := pu9.ne npq
      have u1 : Same H9 (upd H9 pq (.lst (w1 ++ w2))) := same_new npq
      have epq : upd H9 pq (.lst (w1 ++ w2)) pq = some (.lst (w1 ++ w2)) := upd_same
      have hqs : PaL (upd H9 pq (.lst (w1 ++ w2))) (w1 ++ w2) (qs1 ++ qs2) := ((hq1.sb pu8 sb9).app hq2).same u1
      have hql : (qs1 ++ qs2).length ≤ 2 := by
        rw [List.length_append]
        omega
      have hqok : ∀ q ∈ qs1 ++ qs2, PrOk (varsIn (tails ps)) q := fun q hq => (List.mem_append.mp hq).elim (ok1 q) (ok2 q)
      generalize upd H9 pq (.lst (w1 ++ w2)) = F9 at u1 epq hqs ⊢
      generalize w1 ++ w2 = wq at epq hqs
      generalize qs1 ++ qs2 = qs at hqs hql hqok
      have sb79 := ((sb8.trans sb9).then u1)
      have sbF : Sb a H5 F9 := sb7.trans sb79
      have puF : Pu F9 a 200000 := pu9.same u1
      have eptF := sb79 _ _ pta ept7
      have evF := sb79 _ _ pva ev
      have hpsF := hps7.sb pu7 sb79
      clear hq1 hq2 ok1 ok2 eq1 eq2 nq1 nq2 npq u1 pu8 pu9 sb8 sb9 sb79 ept7 ev hps7
      refine (show ∀ G : Hp, F9 = G → tSeq _ _ D' [some (.ref al), some (.ref a), some (.ref pn), some (.ref pk), some (.ref pr), o5, some (.ref pt), some (.ref pv), some (.ref pq), o9, o10, o11, o12, none, none] G from fun G hG => ?_) _ rfl
      subst hG

      -- denied ones
      refine ⟨_, rfl, a, 100000, 3, rfl, puF.le (by omega), ⟨by decide, by decide⟩, fun r H10 r0 r1 pu10 sb10 => ⟨r, rfl, by omega, by omega, fun E nE => ?_⟩⟩
      have Ea : E ≠ a := pu10.ne nE
      have sbF10 : Sb a H5 H10 := sbF.trans sb10
      refine lc_range (lo := 0) (n := r.toNat) (fun i H' => ∃ (ws : List V) (ds : List (List Str)), ds.length ≤ i ∧ PaL H' ws ds ∧ (∀ d ∈ ds, PatOk d ∧ d ≠ (["never", "a"] : List Str) ∧ ∀ y ∈ d.tail, y ∈ varsIn (tails ps) ++ zs.take 1) ∧ Pu H' a (50000 - 10 * i) ∧ Sb a H10 H' ∧ H' E = some (.lst ws)) ⟨[], [], Nat.le_refl _, .nil, (fun d hd => nomatch hd), (pu10.put Ea).le (by omega), Sb.new nE, upd_same⟩ ?_ ?_
      · rintro i2 H' hi2 ⟨ws, ds, dl, hds, dok, pu', sb', eE⟩
        have hi3 : i2 < 3 := by omega
        have sbc := sbF10.trans sb'
        refine ⟨rfl, ?_⟩
        dsimp only [tYes]
        rw [if_pos rfl]
        refine pat_arg (n := 50000 - 10 * (i2 + 1)) (ks := ks) (vs := varsIn (tails ps)) (zs := zs) (pk := pk) (pv := pv) (pn := pn) rfl rfl rfl rfl (pu'.le (by omega)) (sbc _ _ pka ek5) pka (by omega) (by omega) (fun v hv => (kd5 v hv).sb pu5 sbc) ((sb10.trans sb') _ _ pva evF) (by omega) (sbc _ _ pna en5) (by omega) (by omega) fun t wd ts H'' hw h3 hts nt pu'' sb'' et => ?_
        have wsl : ws.length = ds.length := hds.len
        refine ⟨ws, sb'' _ _ Ea eE, Nat.lt_of_le_of_lt (by omega : _ ≤ 1000) (by decide), ws ++ [.ref t], ds ++ [wd :: ts], ?_, ?_, ?_, pu''.put Ea, (sb'.trans sb'').put nE, upd_same⟩
        · rw [List.length_append, List.length_singleton]
          omega
        · have eE2 := sb'' _ _ Ea eE
          have tE : t ≠ E := fun z => by
            rw [z, eE] at nt
            cases nt
          exact ((hds.sb pu' sb'').putl eE2).app (.cons (by rw [upd_ne tE]; exact et) .nil)
        · intro d hd
          rcases List.mem_append.mp hd with hd | hd
          · exact dok d hd
          · rw [List.mem_singleton.mp hd]
            refine ⟨⟨wd, ts, rfl, hw.1, h3, fun y hy => ?_⟩, fun z => hw.2 (by injection z), hts⟩
            rcases List.mem_append.mp (hts y hy) with h | h
            · exact .inl (vsv y h).1
            · exact .inr (zn y (List.mem_of_mem_take h))
      rintro H11 ⟨ud, ds, dl, hds, dok, pu11, sb11, eE⟩
      replace dl : ds.length ≤ 2 := by omega
      replace pu11 := pu11.le (by omega : 40000 ≤ _)
      have sbc : Sb a H5 H11 := sbF10.trans sb11
      have sbd : Sb a F9 H11 := sb10.trans sb11
      have ept11 := sbd _ _ pta eptF
      have ev11 := sbd _ _ pva evF
      have epq11 := sbd _ _ pqa epq
      have hps11 := hpsF.sb puF sbd
      have hqs11 := hqs.sb puF sbd
      have kd11 : ∀ v ∈ ks, Kd H11 v := fun v hv => (kd5 v hv).sb pu5 sbc
      have ek11 := sbc _ _ pka ek5
      have en11 := sbc _ _ pna en5
      have epr11 := sbc _ _ pra epr5
      have hx11 := hxs.sb pu5 sbc
      have sb011 := sb5.trans sbc
      clear evF epq hpsF hqs eptF kd5 ek5 en5 epr5 hxs sb7 pu7 sbF puF sb10 sbF10 sb11 pu10 nE sbd sbc pu5 sb5
      refine (show ∀ G : Hp, H11 = G → tSeq _ _ D' [some (.ref al), some (.ref a), some (.ref pn), some (.ref pk), some (.ref pr), o5, some (.ref pt), some (.ref pv), some (.ref pq), some (.ref E), o10, o11, o12, none, none] G from fun G hG => ?_) _ rfl
      subst hG

      -- the row
      have x0h : xs[0]? ≠ none := fun z => by
        have l1 := congrArg List.length hlab
        rw [List.length_map] at l1
        have l2 := List.getElem?_eq_none_iff.mp z
        omega
      obtain ⟨x0, hx0⟩ := Option.ne_none_iff_exists'.mp x0h
      have x0l : x0.l = "r" := by
        have e1 : (xs.map Rl.l)[0]? = some x0.l := by rw [List.getElem?_map, hx0] <;> rfl
        rw [hlab, lab4] at e1
        exact (Option.some.inj e1).symm
      have hrl : rs.length = xs.length := hx11.len
      obtain ⟨r0', hr0⟩ : ∃ r, rs[0]? = some r := by
        have := (List.getElem?_eq_some_iff.mp hx0).1
        exact ⟨rs[0]'(by omega), List.getElem?_eq_getElem (by omega)⟩
      obtain ⟨x0', hx0', ra0⟩ := hx11.ras.at_ hr0
      rw [hx0] at hx0'
      rw [← Option.some.inj hx0'] at ra0
      obtain ⟨dx0, _, _, _, _, _, _, _, g0, _⟩ := id ra0
      refine ⟨_, rfl, pr, _, _, _, rfl, rfl, SqL.of epr11, (show atI (rs.map V.ref) ((0 : Nat) : Int) = some (.ref r0') from atI_nat (by rw [List.getElem?_map, hr0] <;> rfl)), r0', dx0, _, rfl, g0, r0', dx0, _, _, rfl, g0, lk1, ?_⟩
      rw [x0l]
      refine pat_arg (n := 39000) (ks := ks) (vs := varsIn (tails ps)) (zs := zs) (pk := pk) (pv := pv) (pn := pn) rfl rfl rfl rfl (pu11.le (by omega)) ek11 pka (by omega) (by omega) kd11 ev11 (by omega) en11 (by omega) (by omega) fun th wd ts H12 hw h3 hts nth pu12 sb12 eth => ?_
      refine ⟨_, rfl, _, rfl, _, rfl, (by show 5 ≤ sizeLine; decide), fun par npar => ?_⟩
      have pra2 : par ≠ a := pu12.ne npar
      have u1 : Same H12 (upd H12 par (.lst [.str "r", .ref th, .ref pt, .ref pq, .ref E])) := same_new npar
      have epar : upd H12 par (.lst [.str "r", .ref th, .ref pt, .ref pq, .ref E]) par = some (.lst [.str "r", .ref th, .ref pt, .ref pq, .ref E]) := upd_same
      generalize upd H12 par (.lst [.str "r", .ref th, .ref pt, .ref pq, .ref E]) = H13 at u1 epar ⊢
      have sb13 : Sb a H11 H13 := sb12.then u1
      have vt : ∀ y ∈ varsIn (tails ps) ++ zs.take 1, IsVr y ∧ y ∈ tails ps ∨ IsNm y := fun y hy => (List.mem_append.mp hy).elim (fun h => .inl (vsv y h)) fun h => .inr (zn y (List.mem_of_mem_take h))
      have hpat : PatOk (wd :: ts) := ⟨wd, ts, rfl, hw.1, h3, fun y hy => (vt y (hts y hy)).elim (fun h => .inl h.1) .inr⟩
      have qpo : ∀ q ∈ qs, PairOk q := fun q hq => (hqok q hq).pair fun y hy => (vsv y hy).1
      have clo : Clo ⟨"r", wd :: ts, ps, qs, ds⟩ := ⟨hm_iff.mpr fun y hy v => (vt y (hts y hy)).elim (fun h => h.2) fun h => absurd v (nm_not_vr h), hm_iff.mpr fun y hy v => by
        obtain ⟨q, hq, hy⟩ := List.mem_flatten.mp hy
        obtain ⟨u, w', rfl, _, h1, h2, _⟩ := hqok q hq
        simp only [List.mem_cons, List.not_mem_nil, or_false] at hy
        rcases hy with rfl | rfl
        · exact h1.elim (fun h => (vsv _ h).2) fun h => absurd v (nm_not_vr h)
        · exact h2.elim (fun h => (vsv _ h).2) fun h => absurd v (nm_not_vr h), hm_iff.mpr fun y hy v => by
        obtain ⟨d, hd, hy⟩ := tails_mem.mp hy
        exact (vt y ((dok d hd).2.2 y hy)).elim (fun h => h.2) fun h => absurd v (nm_not_vr h)⟩
      have xok : (⟨"r", wd :: ts, ps, qs, ds⟩ : Rl).Ok := ⟨(by show IsNm "r"; decide +kernel), hpat, hok, (by show ps.length ≤ 300; omega), qpo, (by show qs.length ≤ 300; omega), fun d hd => (dok d hd).1, (by show ds.length ≤ 300; omega)⟩
      have rrx : RRx ⟨"r", wd :: ts, ps, qs, ds⟩ := ⟨xok, clo, (by show ("r" : Str) ≠ "other"; decide +kernel), (by show ps.length ≤ 10; omega), hql, dl, fun z => hw.2 (by injection z), fun z => (dok _ z).2.1 rfl⟩
      have rw1 : Row H13 par th pt pq E us wq ud ⟨"r", wd :: ts, ps, qs, ds⟩ := ⟨epar, u1 _ _ eth, sb13 _ _ pta ept11, hps11.sb pu11 sb13, sb13 _ _ pqa epq11, hqs11.sb pu11 sb13, sb13 _ _ Ea eE, hds.sb pu11 sb13⟩
      have ev13 := sb13 _ _ pva ev11
      have epr13 := sb13 _ _ pra epr11
      have hx13 := hx11.sb pu11 sb13
      have sb013 := sb011.trans sb13
      have pu13 := pu12.same u1
      clear ept11 epq11 hps11 hqs11 eE hds ev11 epr11 hx11 sb011 u1 pu12 sb12 sb13 pu11 kd11 ek11 en11 ra0 g0
      refine (show ∀ G : Hp, H13 = G → tSeq _ _ D' [some (.ref al), some (.ref a), some (.ref pn), some (.ref pk), some (.ref pr), o5, some (.ref pt), some (.ref pv), some (.ref pq), some (.ref E), some (.ref par), o11, o12, none, none] G from fun G hG => ?_) _ rfl
      subst hG

      -- the rule
      refine ⟨_, rfl, par, _, _, _, rfl, rfl, SqL.of rw1.ar, at5_0, _, rfl, par, _, _, _, rfl, rfl, SqL.of rw1.ar, at5_1, _, rfl, pt, us, rfl, .inl (SqL.of rw1.tt), fun c1 n1 => ?_⟩
      have u1 : Same H13 (upd H13 c1 (.lst us)) := same_new n1
      have f1 : upd H13 c1 (.lst us) c1 = some (.lst us) := upd_same
      generalize upd H13 c1 (.lst us) = F1 at u1 f1 ⊢
      refine ⟨_, rfl, pq, wq, rfl, .inl (SqL.of (u1 _ _ rw1.tq)), fun c2 n2 => ?_⟩
      have u2 : Same F1 (upd F1 c2 (.lst wq)) := same_new n2
      have f2 : upd F1 c2 (.lst wq) c2 = some (.lst wq) := upd_same
      generalize upd F1 c2 (.lst wq) = F2 at u2 f2 ⊢
      refine ⟨_, rfl, E, ud, rfl, .inl (SqL.of (u2 _ _ (u1 _ _ rw1.td))), fun c3 n3 => ?_⟩
      have u3 : Same F2 (upd F2 c3 (.lst ud)) := same_new n3
      have f3 : upd F2 c3 (.lst ud) c3 = some (.lst ud) := upd_same
      generalize upd F2 c3 (.lst ud) = F3 at u3 f3 ⊢
      have u13 := (u1.trans u2).trans u3
      have rw2 := rw1.same u13
      refine fun rh drh nrh ndrh _ => mk_rule (y := ⟨"r", wd :: ts, ps, qs, ds⟩) xok clo nrh ndrh rw2.th (u3 _ _ (u2 _ _ f1)) rw2.ps (opt_of (u3 _ _ f2) rw2.qs xok.ql) (opt_of f3 rw2.ds xok.dl) fun H14 s14 rn => ⟨rfl, ?_⟩
      have t14 := u13.trans s14
      have rah := rn.ra
      have rw14 := rw1.same t14
      have ev14 := t14 _ _ ev13
      have epr14 := t14 _ _ epr13
      have hx14 : RAs CR H14 rs xs := hx13.ras.same t14
      have sb014 := sb013.then t14
      have pu14 := pu13.same t14
      clear rn u1 u2 u3 u13 f1 f2 f3 rw2 rw1 ev13 epr13 hx13 sb013 pu13 t14 s14
      refine (show ∀ G : Hp, H14 = G → tSeq _ _ D' [some (.ref al), some (.ref a), some (.ref pn), some (.ref pk), some (.ref pr), o5, some (.ref pt), some (.ref pv), some (.ref pq), some (.ref E), some (.ref par), some (.ref rh), o12, none, none] G from fun G hG => ?_) _ rfl
      subst hG

      -- columns
      refine ⟨_, rfl, Nat.zero_le _, fun l nl => ?_⟩
      have u1 : Same H14 (upd H14 l (.lst [])) := same_new nl
      have el : upd H14 l (.lst []) l = some (.lst []) := upd_same
      generalize upd H14 l (.lst []) = F1 at u1 el ⊢
      refine ⟨dS (varsIn (tails ps)), dS [], dp_S (SqL.of (u1 _ _ ev14)), .lst (SqL.of el) .nil, (lay_dS fun z hz => (vsv z hz).1.asc).shaped (by decide), (lay_dS (xs := []) (fun y hy => nomatch hy)).shaped (by decide), _, rfl, ?_⟩
      rw [eqv_S]
      apply both2 (I := fun v G => ∃ r : Int, v = .int r ∧ 0 ≤ r ∧ r < 4 ∧ (varsIn (tails ps) = [] → r = 0) ∧ Pu G a 30000 ∧ Sb a H14 G)
      case h =>
        intro rest
        by_cases hv : varsIn (tails ps) = []
        · rw [decide_eq_true hv]
          refine iteF ?_
          generalize hz : V.int 0 = v
          exact rest v F1 ⟨0, hz.symm, by decide, by decide, fun _ => rfl, (pu14.same u1).le (by omega), Sb.of u1⟩
        · rw [decide_eq_false hv]
          exact iteT ⟨_, rfl, a, 30000, 4, rfl, (pu14.same u1).le (by omega), ⟨by decide, by decide⟩, fun r G r0 r1 pu2 s2 => rest (.int r) G ⟨r, rfl, r0, r1, fun z => absurd z hv, pu2, (Sb.of u1).trans s2⟩⟩
      rintro v H15 ⟨r2, rfl, r20, r21, r22, pu15, sb15⟩
      refine ⟨r2, rfl, by omega, by omega, fun Ec nEc => ?_⟩
      have Eca : Ec ≠ a := pu15.ne nEc
      refine lc_range (lo := 0) (n := r2.toNat) (fun i H' => ∃ cs : List Str, cs.length ≤ i ∧ (∀ z ∈ cs, z ∈ varsIn (tails ps)) ∧ Pu H' a (20000 - 10 * i) ∧ Sb a H15 H' ∧ H' Ec = some (.lst (cs.map V.str))) ⟨[], Nat.le_refl _, (fun d hd => nomatch hd), (pu15.put Eca).le (by omega), Sb.new nEc, upd_same⟩ ?_ ?_
      · rintro i2 H' hi2 ⟨cs, cl, hcs, pu', sb', eE⟩
        have hi3 : i2 < 4 := by omega
        have vne : 1 ≤ (varsIn (tails ps)).length := by
          rcases Nat.eq_zero_or_pos (varsIn (tails ps)).length with z | z
          · have := r22 (List.length_eq_zero_iff.mp z)
            omega
          · exact z
        refine ⟨rfl, _, rfl, _, rfl, a, pv, 20000 - 10 * (i2 + 1), (varsIn (tails ps)).map V.str, rfl, pu'.le (by omega), SqL.of ((sb15.trans sb') _ _ pva ev14), pva, ⟨by rw [List.length_map]; exact vne, by rw [List.length_map]; omega⟩, fun v H'' hv pu'' sb'' => ?_⟩
        obtain ⟨z, hz, rfl⟩ := List.mem_map.mp hv
        refine ⟨cs.map V.str, sb'' _ _ Eca eE, by rw [List.length_map]; exact Nat.lt_of_le_of_lt (by omega : _ ≤ 1000) (by decide), cs ++ [z], by rw [List.length_append, List.length_singleton]; omega, fun y hy => ?_, pu''.put Eca, (sb'.trans sb'').put nEc, by rw [upd_same, List.map_append] <;> rfl⟩
        rcases List.mem_append.mp hy with hy | hy
        · exact hcs y hy
        · rw [List.mem_singleton.mp hy]
          exact hz
      rintro H16 ⟨cs, cl, hcs, pu16, sb16, ecs⟩
      have sbX : Sb a H14 H16 := sb15.trans sb16
      have pta' := pta
      have tp : ∀ {b : Addr} {us : List V} {ps : List (List Str)}, PaL H14 us ps → PaL H16 us ps := fun h => h.sb pu14 sbX
      have rw16 : Row H16 par th pt pq E us wq ud ⟨"r", wd :: ts, ps, qs, ds⟩ := ⟨sbX _ _ pra2 rw14.ar, sbX _ _ (tup_ne pu14 rw14.th) rw14.th, sbX _ _ pta rw14.tt, rw14.ps.sb pu14 sbX, sbX _ _ pqa rw14.tq, rw14.qs.sb pu14 sbX, sbX _ _ Ea rw14.td, rw14.ds.sb pu14 sbX⟩
      have rah16 : RA CR H16 rh ⟨"r", wd :: ts, ps, qs, ds⟩ := by
        obtain ⟨dx, th', l1, l2, l3, us', us2, us3, e, et, ⟨e1, p1⟩, ⟨e2, p2⟩, e3, p3⟩ := rah
        exact ⟨dx, th', l1, l2, l3, us', us2, us3, sbX _ _ (lst_ne pu14 (fun _ _ _ _ z => by cases z) e) e, sbX _ _ (tup_ne pu14 et) et, ⟨sbX _ _ (lst_ne pu14 (fun _ _ _ _ => p1.no_int) e1) e1, p1.sb pu14 sbX⟩, ⟨sbX _ _ (lst_ne pu14 (fun _ _ _ _ => p2.no_int) e2) e2, p2.sb pu14 sbX⟩, sbX _ _ (lst_ne pu14 (fun _ _ _ _ => p3.no_int) e3) e3, p3.sb pu14 sbX⟩
      have hx16 : RAs CR H16 rs xs := hx14.imp fun r x h => by
        obtain ⟨dx, th', l1, l2, l3, us', us2, us3, e, et, ⟨e1, p1⟩, ⟨e2, p2⟩, e3, p3⟩ := h
        exact ⟨dx, th', l1, l2, l3, us', us2, us3, sbX _ _ (lst_ne pu14 (fun _ _ _ _ z => by cases z) e) e, sbX _ _ (tup_ne pu14 et) et, ⟨sbX _ _ (lst_ne pu14 (fun _ _ _ _ => p1.no_int) e1) e1, p1.sb pu14 sbX⟩, ⟨sbX _ _ (lst_ne pu14 (fun _ _ _ _ => p2.no_int) e2) e2, p2.sb pu14 sbX⟩, sbX _ _ (lst_ne pu14 (fun _ _ _ _ => p3.no_int) e3) e3, p3.sb pu14 sbX⟩
      have epr16 := sbX _ _ pra epr14
      have sb016 := sb014.trans sbX
      clear sbX sb014 sb15 sb16 rw14 rah hx14 epr14 ev14 pu14 pu15 u1 el nEc tp
      refine (show ∀ G : Hp, H16 = G → tSeq _ _ D' [some (.ref al), some (.ref a), some (.ref pn), some (.ref pk), some (.ref pr), o5, some (.ref pt), some (.ref pv), some (.ref pq), some (.ref E), some (.ref par), some (.ref rh), some (.ref Ec), none, none] G from fun G hG => ?_) _ rfl
      subst hG

      -- judged
      refine ⟨_, rfl, _, rfl, rh, par, th, pt, pq, E, us, wq, ud, _, rfl, rah16, rw16, rrx, fun H17 s17 => ⟨_, rfl, iteF ?_⟩⟩
      have rw17 := rw16.same s17
      have ecs17 := s17 _ _ ecs
      have qrx : QRx ⟨cs, ps, qs⟩ := ⟨⟨fun y hy => (vsv y (hcs y hy)).1, (by show cs.length ≤ 300; omega), hok, (by show ps.length ≤ 300; omega), qpo, (by show qs.length ≤ 300; omega)⟩, ⟨hm_iff.mpr fun y hy _ => (vsv y (hcs y hy)).2, clo.q⟩, (by show cs.length ≤ 10; omega), (by show ps.length ≤ 10; omega), hql⟩
      refine ⟨_, rfl, _, rfl, par, _, _, _, rfl, rfl, SqL.of rw17.ar, at5_2, _, rfl, par, _, _, _, rfl, rfl, SqL.of rw17.ar, at5_3, Ec, pt, pq, us, wq, ⟨cs, ps, qs⟩, rfl, ⟨ecs17, rw17.tt, rw17.ps, rw17.tq, rw17.qs⟩, qrx, fun H18 s18 => ⟨_, rfl, iteF ?_⟩⟩
      have t18 := s17.trans s18
      refine (show ∀ G : Hp, H18 = G → tSeq _ _ D' [some (.ref al), some (.ref a), some (.ref pn), some (.ref pk), some (.ref pr), o5, some (.ref pt), some (.ref pv), some (.ref pq), some (.ref E), some (.ref par), some (.ref rh), some (.ref Ec), none, none] G from fun G hG => ?_) _ rfl
      subst hG

      refine ⟨_, rfl, pr, rs, xs, rfl, t18 _ _ epr16, hx16.same t18, hbx, (by rw [hlab]; exact lab2), ?_, fun H19 s19 => ⟨_, rfl, iteF ?_⟩⟩
      · have l1 := congrArg List.length hlab
        rw [List.length_map] at l1
        omega
      have hfin := hE H19 ((sb016.then t18).then s19)
      exact hD _ _ ⟨_, _, _, _, _, _, _, _, _, _, _, _, rfl, hfin.1, hfin.2⟩
    rintro σ H1 ⟨o1, o2, o3, o4, o5, o6, o7, o8, o9, o10, o11, o12, rfl, _, _⟩
    refine (show ∀ G : Hp, H1 = G → tSeq _ _ { nx := fun _ H' => Q .non H', rt := Q } [some (.ref al), o1, o2, o3, o4, o5, o6, o7, o8, o9, o10, o11, o12, none, none] G from fun G hG => ?_) _ rfl
    subst hG

    -- a book of eight rules
    refine ⟨_, rfl, fun D nD => ?_⟩
    refine lc_it (walk_str (z := "abcdefgh")) (fun i H' => ∃ rs xs, H' D = some (.lst (rs.map V.ref)) ∧ RAos D CR H' rs xs ∧ xs.map Rl.l = eightL.take i) ⟨[], [], upd_same, .nil, rfl⟩ (fun _ _ _ _ => trivial) ?_ ?_
    · rintro i v G G' hi ⟨rs, xs, e, hx, hl⟩ ⟨rfl, c, hc, rfl⟩
      have hz := eightL_at hc
      have znm := eightL_nm _ (List.mem_of_getElem? hz)
      refine ⟨rfl, _, rfl, (by show 1 ≤ sizeLine; decide), fun t nt => ?_⟩
      have u1 : Same G' (upd G' t (.tup [.str "p"])) := same_new nt
      have f1 : upd G' t (.tup [.str "p"]) t = some (.tup ((["p"] : List Str).map V.str)) := upd_same
      generalize upd G' t (.tup [.str "p"]) = F1 at u1 f1 ⊢
      refine ⟨Nat.zero_le _, fun l nl => ?_⟩
      have u2 : Same F1 (upd F1 l (.lst [])) := same_new nl
      have f2 : upd F1 l (.lst []) l = some (.lst []) := upd_same
      generalize upd F1 l (.lst []) = F2 at u2 f2 ⊢
      have u12 := u1.trans u2
      have yok : (⟨⟨#[c]⟩, (["p"] : List Str), [], [], []⟩ : Rl).Ok := ⟨znm, ⟨"p", [], rfl, by decide +kernel, by decide, fun y hy => nomatch hy⟩, (fun y hy => nomatch hy), Nat.zero_le _, (fun y hy => nomatch hy), Nat.zero_le _, (fun y hy => nomatch hy), Nat.zero_le _⟩
      refine fun r dr nr ndr _ => mk_rule (y := ⟨⟨#[c]⟩, (["p"] : List Str), [], [], []⟩) yok ⟨rfl, rfl, rfl⟩ nr ndr (u2 _ _ f1) f2 .nil (.inl ⟨rfl, rfl⟩) (.inl ⟨rfl, rfl⟩) fun G3 s3 rn => ⟨rfl, rs.map V.ref, s3 _ _ (u12 _ _ e), ?_, rs ++ [r], xs ++ [⟨⟨#[c]⟩, (["p"] : List Str), [], [], []⟩], ?_, ?_, ?_⟩
      · have h1 := hx.len
        have h2 := congrArg List.length hl
        rw [List.length_map, List.length_take, eightL_len] at h2
        rw [List.length_map]
        exact Nat.lt_of_le_of_lt (by omega : _ ≤ 1000) (by decide)
      · rw [upd_same, List.map_append] <;> rfl
      · have e3 := s3 _ _ (u12 _ _ e)
        have hx3 : RAos D CR G3 rs xs := hx.imp fun _ _ h => h.same (u12.trans s3)
        exact (hx3.putl e3).app (.cons ((rn.at_ (u12 _ _ e)).putl e3) .nil)
      · rw [take_one hz, List.map_append, hl] <;> rfl
    rintro H2 ⟨rs, xs, e, hx, hl⟩
    rw [eight_size, List.take_of_length_le (by rw [eightL_len]; decide)] at hl
    have xl : xs.length = 8 := by
      have h2 := congrArg List.length hl
      rw [List.length_map, eightL_len] at h2
      exact h2
    refine fun bk dbk nbk ndbk _ => mk_book nbk ndbk e hx.ras (by rw [hl]; exact eightL_nd) (by omega) fun H3 s3 rb => ⟨rfl, ?_⟩
    obtain ⟨dx, lx, ex, _⟩ := rb.ba
    refine ⟨_, _, _, _, true, rfl, .own _, .base (.ins ex TB.cl TB.I.ha TB.I.hn TB.I.ht TB.I.hm), TB.I.me, true, rfl, iteF ?_⟩
    clear rb ex s3 e hx hl xl nD
    refine (show ∀ G : Hp, H3 = G → tSeq _ _ { nx := fun _ H' => Q .non H', rt := Q } [some (.ref al), o1, o2, o3, o4, o5, o6, o7, o8, o9, o10, o11, o12, none, none] G from fun G hG => ?_) _ rfl
    subst hG

    -- a book of none
    refine ⟨Nat.zero_le _, fun l1 nl1 => ?_⟩
    have f1 : upd H3 l1 (.lst []) l1 = some (.lst (([] : List Addr).map V.ref)) := upd_same
    generalize upd H3 l1 (.lst []) = F1 at f1 ⊢
    refine fun y1 dy1 ny1 ndy1 _ => mk_book (CR := CR) (xs := []) ny1 ndy1 f1 .nil List.nodup_nil (Nat.zero_le _) fun H4 s4 rb1 => ⟨rfl, ?_⟩
    have b1 := rb1.ba
    obtain ⟨dx1, lx1, ex1, _⟩ := id b1
    refine ⟨y1, dx1, _, rfl, ex1, y1, [], [], rfl, b1, .nil, (fun x hx => nomatch hx), Nat.zero_le _, fun H5 s5 => ⟨_, rfl, rfl, _, rfl, ?_⟩⟩
    rw [decide_eq_true (by rfl)]
    refine iteT ⟨Nat.zero_le _, fun l2 nl2 => ?_⟩
    have f2 : upd H5 l2 (.lst []) l2 = some (.lst (([] : List Addr).map V.ref)) := upd_same
    generalize upd H5 l2 (.lst []) = F2 at f2 ⊢
    refine fun y2 dy2 ny2 ndy2 _ => mk_book (CR := CR) (xs := []) ny2 ndy2 f2 .nil List.nodup_nil (Nat.zero_le _) fun H6 s6 rb2 => ⟨rfl, ?_⟩
    have b2 := rb2.ba
    obtain ⟨dx2, lx2, ex2, _⟩ := id b2
    refine ⟨y2, dx2, _, rfl, ex2, y2, [], rfl, b2, _, rfl, ⟨by decide, by decide⟩, rfl, _, rfl, ?_⟩
    rw [decide_eq_true (by rfl)]
    refine iteT ⟨Nat.zero_le _, fun l3 nl3 => ?_⟩
    have f3 : upd H6 l3 (.lst []) l3 = some (.lst (([] : List Addr).map V.ref)) := upd_same
    generalize upd H6 l3 (.lst []) = F3 at f3 ⊢
    refine fun y3 dy3 ny3 ndy3 _ => mk_book (CR := CR) (xs := []) ny3 ndy3 f3 .nil List.nodup_nil (Nat.zero_le _) fun H7 s7 rb3 => ⟨rfl, ?_⟩
    have b3 := rb3.ba
    obtain ⟨dx3, lx3, ex3, el3⟩ := id b3
    refine ⟨y3, dx3, _, rfl, ex3, (lk_no (by decide +kernel)), y3, dx3, lx3, _, _, rfl, ex3, lkR, el3, fun p4 np4 => ?_⟩
    have f4 : upd H7 p4 (.lst (([] : List Addr).map V.ref)) p4 = some (.lst []) := upd_same
    generalize upd H7 p4 (.lst (([] : List Addr).map V.ref)) = F4 at f4 ⊢
    refine ⟨Nat.zero_le _, fun l5 nl5 => ?_⟩
    have f5 : upd F4 l5 (.lst []) l5 = some (.lst []) := upd_same
    have f45 : upd F4 l5 (.lst []) p4 = some (.lst []) := same_new nl5 _ _ f4
    refine ⟨_, dlst_nil f45 f5, fun H8 s8 => q H8⟩
end
end Nv
set_option maxHeartbeats 4000000
namespace Nv
open PySem PySem.Spec PyProof.Rows L2
section
variable {P : Program} {w : World} {K : PySem.W.Frag} {mg : Str → Option Value} {base : Heap}
/-- the script is handed in, tracked as what is known to the object, or an object of the written part -/
theorem law_run {fa a : Addr} {mb : Str → Option Value} {fd : FuncData} {x : Str} {sp : Sp} {k : Nat} {s1 : Shared} {vs : List Value} {ns : List Int}
    (KX : K.In s1.heap) (hns : s1.heap.Ns mainGlobals mg) (hb : s1.heap.Ns builtinsNs mb) (hbb : ∀ x : Str, x ≠ "__name__" → mb x = bootBuiltins x) (hlim : s1.heap.NoLimit) (hsys : ∃ ms, s1.heap.Ns sysModules ms) (hg : s1.gens = #[])
    (ha : s1.heap.get? a = some { cls := .type "list", data := .seq vs.toArray }) (hi : IntsAre vs ns) (hz : ns.length ≤ sizeLine) (hr : Room k callerA)
    (F : ∀ base : Heap, K.In base → base.Ns mainGlobals mg → (∃ o, base.get? sysModules = some o) → RunG P w K mg base k fa fd [x] sp) (bind : ∀ (s : Shared) (u : Value), BindsTo s fd ⟨[u], []⟩ [(x, u)])
    (hsp : ∀ H : Hp, SqL K H a (ns.map V.int) → sp [.ref a] H (fun v _ => v = .bl true) E0) :
    codeAny (model P w) callerA (.call (.ref fa) ⟨[.ref a], []⟩) (fun r s' => r = .ok (.ret (.bool true)) ∧ OldK s1.heap s'.heap ∧ s'.os = s1.os ∧ AllBare s'.gens) s1 := by
  have rv := vals_ints hi
  -- some abstract heap that tracks at most the script, locked
  obtain ⟨H, only, hS, hok, notK⟩ : ∃ H : Hp, (∀ b u, H b = some u → b = a ∧ ∃ o xs, u = .frz o (.lst xs)) ∧ SqL K H a (ns.map V.int) ∧ HOk P w H s1.heap ∧ (∀ b o, K.lookup b = some o → H b = none) := by
    cases hk : K.lookup a with
    | some o =>
      have e := KX a o hk
      rw [ha] at e
      cases e
      exact ⟨fun _ => none, (fun b u z => by cases z), .inr ⟨_, vs.toArray, _, hk, rfl, rfl, rfl, by rw [List.size_toArray, hi.length]; exact hz, by simpa using rv⟩, (fun b u z => by cases z), fun _ _ _ => rfl⟩
    | none =>
      refine ⟨upd (fun _ => none) a (.frz { cls := .type "list", data := .seq vs.toArray } (.lst (ns.map V.int))), fun b u z => ?_, .inl (.inr ⟨_, upd_same⟩), fun b u z => ?_, fun b o z => ?_⟩
      · by_cases e : b = a
        · rw [e, upd_same] at z
          exact ⟨e, _, _, (Option.some.inj z).symm⟩
        · rw [upd_ne e] at z
          cases z
      · by_cases e : b = a
        · rw [e, upd_same] at z
          cases z
          rw [e]
          exact ⟨ha, by rw [List.length_map]; exact hz, vs, _, rv, ha⟩
        · rw [upd_ne e] at z
          cases z
      · by_cases e : b = a
        · rw [e, hk] at z
          cases z
        · rw [upd_ne e]
  have in_base : ∀ {b : Addr} {o : Obj}, s1.heap.get? b = some o → H b = none → (hidT s1.heap H).get? b = some o := fun e n => hidT_get e n
  have free_of : ∀ {b : Addr} {o : Obj} {es : Array DictEntry} {ep : Nat}, s1.heap.get? b = some o → o.data = .dict es ep → H b = none := fun {b o es ep} e d => by
    cases q : H b with
    | none => rfl
    | some u =>
      rw [(only b u q).1, ha] at e
      cases e
      cases d
  have ns_base : ∀ {b : Addr} {m : Str → Option Value}, s1.heap.Ns b m → (hidT s1.heap H).Ns b m := fun ⟨o, es, ep, e, d, r⟩ => ⟨o, es, ep, in_base e (free_of e d), d, r⟩
  have kb : K.In (hidT s1.heap H) := fun b o e => in_base (KX b o e) (notK b o e)
  have md : Mod K mg (hidT s1.heap H) := ⟨kb, ns_base hns, ⟨mb, ns_base hb, hbb⟩, let ⟨mc, h1, h2⟩ := hlim; ⟨mc, ns_base h1, h2⟩⟩
  have sy : ∃ o, (hidT s1.heap H).get? sysModules = some o := let ⟨ms, o, es, ep, e, d, _⟩ := hsys; ⟨o, in_base e (free_of e d)⟩
  have e0 : Env0 P w K mg (hidT s1.heap H) callerA [] s1 H := ⟨rfl, md, fun b o e => of_hidT e, Nat.le_of_eq (hidT_size _ _), trivial, (fun b z => by cases z), hok, .of_eq hg⟩
  refine codeAny_mono (F _ kb (ns_base hns) sy callerA [] s1 H ⟨[.ref a], []⟩ [.ref a] [.ref a] _ rfl hr e0 (bind s1 (.ref a)) (.cons rfl .nil) (hsp H hS)) fun r s' h => ?_
  cases r with
  | error e => exact False.elim h
  | ok fl =>
    cases fl with
    | next => exact False.elim h
    | brk => exact False.elim h
    | cont => exact False.elim h
    | ret u =>
      obtain ⟨v, H', os, bare, un, hok', rr, q⟩ := h
      obtain rfl : v = V.bl true := q
      obtain rfl : u = Value.bool true := rr
      refine ⟨rfl, OldK.of_keep fun b o e => ?_, os, bare⟩
      cases z : H b with
      | none => exact un.keep b o e z (fun m => nomatch m) (fun m => nomatch m)
      | some u =>
        obtain ⟨_, ob, xs, rfl⟩ := only b u z
        obtain ⟨e1, _⟩ := hok b _ z
        obtain ⟨e2, _⟩ := hok' b _ (un.frzs b ob _ z)
        rw [e] at e1
        cases e1
        exact e2
end
theorem walkG {l : PySem.W.OpenLaw} {k : Nat} {q : Program} {loose : List Str} {XP : (Str → Option Value) → Heap → Prop} {YP : World → Heap → Prop} {d : DefRec} {K : Params → PySem.W.Frag} {sp : PySem.W.Frag → Sp} {x : Str}
    (hn : l.most = some 63) (hdf : d.params.defaults = []) (hr : Room k callerA) (hq : importsNone q = true) (hY : ∀ (w : World) (h : Heap), YP w h → (K w.params).In h)
    (F : ∀ (w : World) (mg : Str → Option Value) (fa : Addr) (h : Heap), (K w.params).In h → h.Ns mainGlobals mg → mg d.name = some (.ref fa) → ∃ fd : FuncData, (∀ (s : Shared) (u : Value), BindsTo s fd ⟨[u], []⟩ [(x, u)]) ∧
      ∀ base : Heap, (K w.params).In base → base.Ns mainGlobals mg → (∃ o, base.get? sysModules = some o) → RunG l.prog w (K w.params) mg base k fa fd [x] (sp (K w.params)))
    (hsp : ∀ (K : PySem.W.Frag) (H : Hp) (a : Addr) (ns : List Int), ns.length ≤ 63 → SqL K H a (ns.map V.int) → sp K [.ref a] H (fun v _ => v = .bl true) E0) :
    PySem.W.WalkO q loose XP YP l.row.toRowW d [] (fun f vs => PySem.call f vs) := by
  refine Att.attach_call hn hdf fun w s0 s1 mg mb fa o pm cd doc a vs ns G Y ho hd hcd hmg hobj hints hlen hg => ?_
  have KX := hY w _ Y
  obtain ⟨fd, hb, hF⟩ := F w mg fa _ KX G.T.g hmg
  have sy : ∃ ms, s1.heap.Ns sysModules ms := let ⟨ms, z, _⟩ := (G.T.seer hq).mods; ⟨ms, z⟩
  exact law_run KX G.T.g G.T.b G.T.builtins G.T.nolimit sy hg hobj hints (Nat.le_trans hlen (by decide)) hr hF hb fun H hS => hsp _ H a ns hlen hS
end Nv
set_option maxHeartbeats 4000000
namespace Nv
open PySem PySem.Spec PyProof.Rows L2
theorem nor_of {K : PySem.W.Frag} {C : Addr} {T : String} (hc : (PySem.W.clsIn K C).isSome = true) (ty : PySem.W.typeIn K (.ref C) = some (.type "type")) (sub : ∀ C : Addr, PySem.W.subIn K (.type T) (.ref C) = some false) : NoR K C (.type T) := by
  refine ⟨?_, ?_⟩
  · unfold PySem.W.kitOne
    rw [if_neg (by simp)]
    unfold PySem.W.kitCls
    dsimp only
    rw [hc, ty, if_pos (by rfl)]
    exact sub C
  · unfold PySem.W.notFirst
    rw [sub C]
    simp
theorem cs_of {K : PySem.W.Frag} {C : Addr} {b : Value} {v : Bool} (h : PySem.W.mroIn K C b = some v) : (PySem.W.clsIn K C).isSome = true := by
  unfold PySem.W.mroIn at h
  cases g : PySem.W.clsIn K C with
  | none =>
    rw [g] at h
    cases h
  | some _ => rfl
theorem me_of {K : PySem.W.Frag} {C : Addr} : PySem.W.kitOne K (.ref C) (.ref C) = some true := by simp [PySem.W.kitOne]
/-- a def at the top, by name -/
def DefAt (K : PySem.W.Frag) (x : Str) (st : Stmt) : Prop := ∃ (f : Addr) (fd : FuncData), PySem.W.nsIn K mainGlobals x = some (some (.ref f)) ∧ Fun K x x st f fd
theorem def_at {K : PySem.W.Frag} {h : Heap} (X : K.In h) {x : Str} {st : Stmt} {f : Addr} {oc : Value} {od an : Option Addr} {osl : Array (Option Value)} {kV doc pm cdv ct : Value} (g : PySem.W.nsIn K mainGlobals x = some (some (.ref f)))
    (l : K.lookup f = some ⟨oc, od, .func (PySem.W.fnOf x x (defArgs st) (defBody st) (defScope st) .none kV doc pm an cdv ct), osl⟩) (c : PySem.W.codeIn K cdv x = true) (k : PySem.W.keepIn K (.ref f) = true) : DefAt K x st := ⟨f, _, g, fun_mk l c k⟩
/-- a method -/
def MethAt (K : PySem.W.Frag) (C : Addr) (x qual : Str) (st : Stmt) : Prop := ∃ (f : Addr) (fd : FuncData), PySem.W.findIn K (.ref C) x = some (some (.ref f)) ∧ PySem.W.isFn K (.ref f) = true ∧ Fun K x qual st f fd
def PropAt (K : PySem.W.Frag) (C : Addr) (x qual : Str) (st : Stmt) : Prop := ∃ (p g : Addr) (fd : FuncData), PropOf K C x p g ∧ Fun K x qual st g fd
def InitAt (K : PySem.W.Frag) (C : Addr) (qual : Str) (st : Stmt) (dvs : List V) : Prop := ∃ (f : Addr) (fd : FuncData), PySem.W.findIn K (.ref C) "__init__" = some (some (.ref f)) ∧ PySem.W.isFn K (.ref f) = true ∧ FunD K "__init__" qual (defArgs st) (defBody st) (defScope st) dvs [] f fd
def InitAt0 (K : PySem.W.Frag) (C : Addr) (qual : Str) (st : Stmt) : Prop := ∃ (f : Addr) (fd : FuncData), PySem.W.findIn K (.ref C) "__init__" = some (some (.ref f)) ∧ PySem.W.isFn K (.ref f) = true ∧ Fun K "__init__" qual st f fd

structure RuleTop (K : PySem.W.Frag) (C : Addr) : Prop where
  g : PySem.W.nsIn K mainGlobals "Rule" = some (some (.ref C))
  cl : Cls K C
  I : IC K C
  mks : PySem.W.makesIn K C = true
  kc : PySem.W.keepIn K (.ref C) = true
  ne : PySem.W.findIn K (.ref C) "__ne__" = some (some (.builtin "object.__ne__"))
  n0 : NoAttr K C "_label"
  n1 : NoAttr K C "_head"
  n2 : NoAttr K C "_told"
  n3 : NoAttr K C "_pairs"
  n4 : NoAttr K C "_denied"
  init : InitAt K C "Rule.__init__" (inClass cRule 0) [.non, .non]
  m0 : MethAt K C "__eq__" "Rule.__eq__" (inClass cRule 1)
  q0 : PropAt K C "label" "Rule.label" (inClass cRule 2)
  q1 : PropAt K C "head" "Rule.head" (inClass cRule 3)
  q2 : PropAt K C "told" "Rule.told" (inClass cRule 4)
  q3 : PropAt K C "pairs" "Rule.pairs" (inClass cRule 5)
  q4 : PropAt K C "denied" "Rule.denied" (inClass cRule 6)
  nor_NoneType : NoR K C (.type "NoneType")
  nor_str : NoR K C (.type "str")
  nor_list : NoR K C (.type "list")
  nor_tuple : NoR K C (.type "tuple")

theorem rule_at {K : PySem.W.Frag} {h : Heap} (X : K.In h) {C fI T fm0 fq0 pq0 fq1 pq1 fq2 pq2 fq3 pq3 fq4 pq4 : Addr} {ocI kVI dcI pmI cdI ctI oc2 ocm0 kVm0 dcm0 pmm0 cdm0 ctm0 ocq0 kVq0 dcq0 pmq0 cdq0 ctq0 ocq1 kVq1 dcq1 pmq1 cdq1 ctq1 ocq2 kVq2 dcq2 pmq2 cdq2 ctq2 ocq3 kVq3 dcq3 pmq3 cdq3 ctq3 ocq4 kVq4 dcq4 pmq4 cdq4 ctq4 : Value} {odI anI od2 odm0 anm0 odq0 anq0 odq1 anq1 odq2 anq2 odq3 anq3 odq4 anq4 : Option Addr} {slI sl2 slm0 slq0 slq1 slq2 slq3 slq4 : Array (Option Value)} {nn : Nat} {rsq0 rsq1 rsq2 rsq3 rsq4 : List Value}
    (g : PySem.W.nsIn K mainGlobals "Rule" = some (some (.ref C)))
    (pg : PySem.W.plainGet K C Str.empty = true)
    (hd : PySem.W.hasDictIn K C = true)
    (po : PySem.W.plainOver K C = true)
    (sa : PySem.W.findIn K (.ref C) "__setattr__" = some (some (.builtin "object.__setattr__")))
    (mk : PySem.W.makesIn K C = true)
    (kc : PySem.W.keepIn K (.ref C) = true)
    (cc : PySem.W.findIn K (.ref C) "__class__" = some (some (.builtin "object.__class__")))
    (gt : PySem.W.specialIn K (.builtin "object.__class__") "__get__" = some (some (.builtin "getset_descriptor.__get__")))
    (tk : PySem.W.takesIn K (.builtin "object.__class__") = some true)
    (mo : PySem.W.mroIn K C (.type "object") = some true)
    (ne : PySem.W.findIn K (.ref C) "__ne__" = some (some (.builtin "object.__ne__")))
    (ty : PySem.W.typeIn K (.ref C) = some (.type "type"))
    (n0 : PySem.W.findIn K (.ref C) "_label" = some none)
    (n1 : PySem.W.findIn K (.ref C) "_head" = some none)
    (n2 : PySem.W.findIn K (.ref C) "_told" = some none)
    (n3 : PySem.W.findIn K (.ref C) "_pairs" = some none)
    (n4 : PySem.W.findIn K (.ref C) "_denied" = some none)
    (aI : PySem.W.findIn K (.ref C) "__init__" = some (some (.ref fI)))
    (iI : PySem.W.isFn K (.ref fI) = true)
    (lI : K.lookup fI = some ⟨ocI, odI, .func (PySem.W.fnOf "__init__" "Rule.__init__" (defArgs (inClass cRule 0)) (defBody (inClass cRule 0)) (defScope (inClass cRule 0)) (.ref T) kVI dcI pmI anI cdI ctI), slI⟩)
    (cI : PySem.W.codeIn K cdI "Rule.__init__" = true)
    (kI : PySem.W.keepIn K (.ref fI) = true)
    (t : K.lookup T = some ⟨oc2, od2, .seq #[.none, .none] nn, sl2⟩)
    (am0 : PySem.W.findIn K (.ref C) "__eq__" = some (some (.ref fm0)))
    (im0 : PySem.W.isFn K (.ref fm0) = true)
    (lm0 : K.lookup fm0 = some ⟨ocm0, odm0, .func (PySem.W.fnOf "__eq__" "Rule.__eq__" (defArgs (inClass cRule 1)) (defBody (inClass cRule 1)) (defScope (inClass cRule 1)) .none kVm0 dcm0 pmm0 anm0 cdm0 ctm0), slm0⟩)
    (cm0 : PySem.W.codeIn K cdm0 "Rule.__eq__" = true)
    (km0 : PySem.W.keepIn K (.ref fm0) = true)
    (aq0 : PySem.W.findIn K (.ref C) "label" = some (some (.ref pq0)))
    (sq0 : PySem.W.specialIn K (.ref pq0) "__get__" = some (some (.builtin "property.__get__")))
    (tq0 : PySem.W.takesIn K (.ref pq0) = some true)
    (rq0 : PySem.W.recIn K pq0 "property" = some (.ref fq0 :: rsq0))
    (lq0 : K.lookup fq0 = some ⟨ocq0, odq0, .func (PySem.W.fnOf "label" "Rule.label" (defArgs (inClass cRule 2)) (defBody (inClass cRule 2)) (defScope (inClass cRule 2)) .none kVq0 dcq0 pmq0 anq0 cdq0 ctq0), slq0⟩)
    (cq0 : PySem.W.codeIn K cdq0 "Rule.label" = true)
    (kq0 : PySem.W.keepIn K (.ref fq0) = true)
    (aq1 : PySem.W.findIn K (.ref C) "head" = some (some (.ref pq1)))
    (sq1 : PySem.W.specialIn K (.ref pq1) "__get__" = some (some (.builtin "property.__get__")))
    (tq1 : PySem.W.takesIn K (.ref pq1) = some true)
    (rq1 : PySem.W.recIn K pq1 "property" = some (.ref fq1 :: rsq1))
    (lq1 : K.lookup fq1 = some ⟨ocq1, odq1, .func (PySem.W.fnOf "head" "Rule.head" (defArgs (inClass cRule 3)) (defBody (inClass cRule 3)) (defScope (inClass cRule 3)) .none kVq1 dcq1 pmq1 anq1 cdq1 ctq1), slq1⟩)
    (cq1 : PySem.W.codeIn K cdq1 "Rule.head" = true)
    (kq1 : PySem.W.keepIn K (.ref fq1) = true)
    (aq2 : PySem.W.findIn K (.ref C) "told" = some (some (.ref pq2)))
    (sq2 : PySem.W.specialIn K (.ref pq2) "__get__" = some (some (.builtin "property.__get__")))
    (tq2 : PySem.W.takesIn K (.ref pq2) = some true)
    (rq2 : PySem.W.recIn K pq2 "property" = some (.ref fq2 :: rsq2))
    (lq2 : K.lookup fq2 = some ⟨ocq2, odq2, .func (PySem.W.fnOf "told" "Rule.told" (defArgs (inClass cRule 4)) (defBody (inClass cRule 4)) (defScope (inClass cRule 4)) .none kVq2 dcq2 pmq2 anq2 cdq2 ctq2), slq2⟩)
    (cq2 : PySem.W.codeIn K cdq2 "Rule.told" = true)
    (kq2 : PySem.W.keepIn K (.ref fq2) = true)
    (aq3 : PySem.W.findIn K (.ref C) "pairs" = some (some (.ref pq3)))
    (sq3 : PySem.W.specialIn K (.ref pq3) "__get__" = some (some (.builtin "property.__get__")))
    (tq3 : PySem.W.takesIn K (.ref pq3) = some true)
    (rq3 : PySem.W.recIn K pq3 "property" = some (.ref fq3 :: rsq3))
    (lq3 : K.lookup fq3 = some ⟨ocq3, odq3, .func (PySem.W.fnOf "pairs" "Rule.pairs" (defArgs (inClass cRule 5)) (defBody (inClass cRule 5)) (defScope (inClass cRule 5)) .none kVq3 dcq3 pmq3 anq3 cdq3 ctq3), slq3⟩)
    (cq3 : PySem.W.codeIn K cdq3 "Rule.pairs" = true)
    (kq3 : PySem.W.keepIn K (.ref fq3) = true)
    (aq4 : PySem.W.findIn K (.ref C) "denied" = some (some (.ref pq4)))
    (sq4 : PySem.W.specialIn K (.ref pq4) "__get__" = some (some (.builtin "property.__get__")))
    (tq4 : PySem.W.takesIn K (.ref pq4) = some true)
    (rq4 : PySem.W.recIn K pq4 "property" = some (.ref fq4 :: rsq4))
    (lq4 : K.lookup fq4 = some ⟨ocq4, odq4, .func (PySem.W.fnOf "denied" "Rule.denied" (defArgs (inClass cRule 6)) (defBody (inClass cRule 6)) (defScope (inClass cRule 6)) .none kVq4 dcq4 pmq4 anq4 cdq4 ctq4), slq4⟩)
    (cq4 : PySem.W.codeIn K cdq4 "Rule.denied" = true)
    (kq4 : PySem.W.keepIn K (.ref fq4) = true) :
    ∃ C, RuleTop K C :=
  ⟨C, g, ⟨pg, hd, po, sa⟩, ⟨cc, gt, tk, mo, me_of⟩, mk, kc, ne, n0, n1, n2, n3, n4, ⟨fI, _, aI, iI, ⟨⟨_, _, _, _, _, _, _, _, _, _, rfl, lI, cI, .inr ⟨by simp, T, _, [Value.none, Value.none], nn, rfl, t, rfl, .cons rfl (.cons rfl .nil)⟩, .inl rfl⟩, kI⟩⟩, ⟨fm0, _, am0, im0, fun_mk lm0 cm0 km0⟩, ⟨pq0, fq0, _, ⟨aq0, sq0, tq0, ⟨_, rq0⟩⟩, fun_mk lq0 cq0 kq0⟩, ⟨pq1, fq1, _, ⟨aq1, sq1, tq1, ⟨_, rq1⟩⟩, fun_mk lq1 cq1 kq1⟩, ⟨pq2, fq2, _, ⟨aq2, sq2, tq2, ⟨_, rq2⟩⟩, fun_mk lq2 cq2 kq2⟩, ⟨pq3, fq3, _, ⟨aq3, sq3, tq3, ⟨_, rq3⟩⟩, fun_mk lq3 cq3 kq3⟩, ⟨pq4, fq4, _, ⟨aq4, sq4, tq4, ⟨_, rq4⟩⟩, fun_mk lq4 cq4 kq4⟩, nor_of (cs_of mo) ty fun _ => rfl, nor_of (cs_of mo) ty fun _ => rfl, nor_of (cs_of mo) ty fun _ => rfl, nor_of (cs_of mo) ty fun _ => rfl⟩

structure BookTop (K : PySem.W.Frag) (C : Addr) : Prop where
  g : PySem.W.nsIn K mainGlobals "Book" = some (some (.ref C))
  cl : Cls K C
  I : IC K C
  mks : PySem.W.makesIn K C = true
  kc : PySem.W.keepIn K (.ref C) = true
  ne : PySem.W.findIn K (.ref C) "__ne__" = some (some (.builtin "object.__ne__"))
  n0 : NoAttr K C "_rules"
  init : InitAt0 K C "Book.__init__" (inClass cBook 0)
  m0 : MethAt K C "__eq__" "Book.__eq__" (inClass cBook 1)
  m1 : MethAt K C "__len__" "Book.__len__" (inClass cBook 2)
  m2 : MethAt K C "__add__" "Book.__add__" (inClass cBook 3)
  m3 : MethAt K C "rules" "Book.rules" (inClass cBook 4)
  m4 : MethAt K C "labels" "Book.labels" (inClass cBook 5)
  m5 : MethAt K C "rule" "Book.rule" (inClass cBook 6)
  m6 : MethAt K C "without" "Book.without" (inClass cBook 7)
  q0 : PropAt K C "plain" "Book.plain" (inClass cBook 8)
  nor_list : NoR K C (.type "list")
  sf : PySem.W.selfFirst K C = true

theorem book_at {K : PySem.W.Frag} {h : Heap} (X : K.In h) {C fI fm0 fm1 fm2 fm3 fm4 fm5 fm6 fq0 pq0 : Addr} {ocI kVI dcI pmI cdI ctI ocm0 kVm0 dcm0 pmm0 cdm0 ctm0 ocm1 kVm1 dcm1 pmm1 cdm1 ctm1 ocm2 kVm2 dcm2 pmm2 cdm2 ctm2 ocm3 kVm3 dcm3 pmm3 cdm3 ctm3 ocm4 kVm4 dcm4 pmm4 cdm4 ctm4 ocm5 kVm5 dcm5 pmm5 cdm5 ctm5 ocm6 kVm6 dcm6 pmm6 cdm6 ctm6 ocq0 kVq0 dcq0 pmq0 cdq0 ctq0 : Value} {odI anI odm0 anm0 odm1 anm1 odm2 anm2 odm3 anm3 odm4 anm4 odm5 anm5 odm6 anm6 odq0 anq0 : Option Addr} {slI slm0 slm1 slm2 slm3 slm4 slm5 slm6 slq0 : Array (Option Value)} {rsq0 : List Value}
    (g : PySem.W.nsIn K mainGlobals "Book" = some (some (.ref C)))
    (pg : PySem.W.plainGet K C Str.empty = true)
    (hd : PySem.W.hasDictIn K C = true)
    (po : PySem.W.plainOver K C = true)
    (sa : PySem.W.findIn K (.ref C) "__setattr__" = some (some (.builtin "object.__setattr__")))
    (mk : PySem.W.makesIn K C = true)
    (kc : PySem.W.keepIn K (.ref C) = true)
    (cc : PySem.W.findIn K (.ref C) "__class__" = some (some (.builtin "object.__class__")))
    (gt : PySem.W.specialIn K (.builtin "object.__class__") "__get__" = some (some (.builtin "getset_descriptor.__get__")))
    (tk : PySem.W.takesIn K (.builtin "object.__class__") = some true)
    (mo : PySem.W.mroIn K C (.type "object") = some true)
    (ne : PySem.W.findIn K (.ref C) "__ne__" = some (some (.builtin "object.__ne__")))
    (ty : PySem.W.typeIn K (.ref C) = some (.type "type"))
    (n0 : PySem.W.findIn K (.ref C) "_rules" = some none)
    (aI : PySem.W.findIn K (.ref C) "__init__" = some (some (.ref fI)))
    (iI : PySem.W.isFn K (.ref fI) = true)
    (lI : K.lookup fI = some ⟨ocI, odI, .func (PySem.W.fnOf "__init__" "Book.__init__" (defArgs (inClass cBook 0)) (defBody (inClass cBook 0)) (defScope (inClass cBook 0)) .none kVI dcI pmI anI cdI ctI), slI⟩)
    (cI : PySem.W.codeIn K cdI "Book.__init__" = true)
    (kI : PySem.W.keepIn K (.ref fI) = true)
    (am0 : PySem.W.findIn K (.ref C) "__eq__" = some (some (.ref fm0)))
    (im0 : PySem.W.isFn K (.ref fm0) = true)
    (lm0 : K.lookup fm0 = some ⟨ocm0, odm0, .func (PySem.W.fnOf "__eq__" "Book.__eq__" (defArgs (inClass cBook 1)) (defBody (inClass cBook 1)) (defScope (inClass cBook 1)) .none kVm0 dcm0 pmm0 anm0 cdm0 ctm0), slm0⟩)
    (cm0 : PySem.W.codeIn K cdm0 "Book.__eq__" = true)
    (km0 : PySem.W.keepIn K (.ref fm0) = true)
    (am1 : PySem.W.findIn K (.ref C) "__len__" = some (some (.ref fm1)))
    (im1 : PySem.W.isFn K (.ref fm1) = true)
    (lm1 : K.lookup fm1 = some ⟨ocm1, odm1, .func (PySem.W.fnOf "__len__" "Book.__len__" (defArgs (inClass cBook 2)) (defBody (inClass cBook 2)) (defScope (inClass cBook 2)) .none kVm1 dcm1 pmm1 anm1 cdm1 ctm1), slm1⟩)
    (cm1 : PySem.W.codeIn K cdm1 "Book.__len__" = true)
    (km1 : PySem.W.keepIn K (.ref fm1) = true)
    (am2 : PySem.W.findIn K (.ref C) "__add__" = some (some (.ref fm2)))
    (im2 : PySem.W.isFn K (.ref fm2) = true)
    (lm2 : K.lookup fm2 = some ⟨ocm2, odm2, .func (PySem.W.fnOf "__add__" "Book.__add__" (defArgs (inClass cBook 3)) (defBody (inClass cBook 3)) (defScope (inClass cBook 3)) .none kVm2 dcm2 pmm2 anm2 cdm2 ctm2), slm2⟩)
    (cm2 : PySem.W.codeIn K cdm2 "Book.__add__" = true)
    (km2 : PySem.W.keepIn K (.ref fm2) = true)
    (am3 : PySem.W.findIn K (.ref C) "rules" = some (some (.ref fm3)))
    (im3 : PySem.W.isFn K (.ref fm3) = true)
    (lm3 : K.lookup fm3 = some ⟨ocm3, odm3, .func (PySem.W.fnOf "rules" "Book.rules" (defArgs (inClass cBook 4)) (defBody (inClass cBook 4)) (defScope (inClass cBook 4)) .none kVm3 dcm3 pmm3 anm3 cdm3 ctm3), slm3⟩)
    (cm3 : PySem.W.codeIn K cdm3 "Book.rules" = true)
    (km3 : PySem.W.keepIn K (.ref fm3) = true)
    (am4 : PySem.W.findIn K (.ref C) "labels" = some (some (.ref fm4)))
    (im4 : PySem.W.isFn K (.ref fm4) = true)
    (lm4 : K.lookup fm4 = some ⟨ocm4, odm4, .func (PySem.W.fnOf "labels" "Book.labels" (defArgs (inClass cBook 5)) (defBody (inClass cBook 5)) (defScope (inClass cBook 5)) .none kVm4 dcm4 pmm4 anm4 cdm4 ctm4), slm4⟩)
    (cm4 : PySem.W.codeIn K cdm4 "Book.labels" = true)
    (km4 : PySem.W.keepIn K (.ref fm4) = true)
    (am5 : PySem.W.findIn K (.ref C) "rule" = some (some (.ref fm5)))
    (im5 : PySem.W.isFn K (.ref fm5) = true)
    (lm5 : K.lookup fm5 = some ⟨ocm5, odm5, .func (PySem.W.fnOf "rule" "Book.rule" (defArgs (inClass cBook 6)) (defBody (inClass cBook 6)) (defScope (inClass cBook 6)) .none kVm5 dcm5 pmm5 anm5 cdm5 ctm5), slm5⟩)
    (cm5 : PySem.W.codeIn K cdm5 "Book.rule" = true)
    (km5 : PySem.W.keepIn K (.ref fm5) = true)
    (am6 : PySem.W.findIn K (.ref C) "without" = some (some (.ref fm6)))
    (im6 : PySem.W.isFn K (.ref fm6) = true)
    (lm6 : K.lookup fm6 = some ⟨ocm6, odm6, .func (PySem.W.fnOf "without" "Book.without" (defArgs (inClass cBook 7)) (defBody (inClass cBook 7)) (defScope (inClass cBook 7)) .none kVm6 dcm6 pmm6 anm6 cdm6 ctm6), slm6⟩)
    (cm6 : PySem.W.codeIn K cdm6 "Book.without" = true)
    (km6 : PySem.W.keepIn K (.ref fm6) = true)
    (aq0 : PySem.W.findIn K (.ref C) "plain" = some (some (.ref pq0)))
    (sq0 : PySem.W.specialIn K (.ref pq0) "__get__" = some (some (.builtin "property.__get__")))
    (tq0 : PySem.W.takesIn K (.ref pq0) = some true)
    (rq0 : PySem.W.recIn K pq0 "property" = some (.ref fq0 :: rsq0))
    (lq0 : K.lookup fq0 = some ⟨ocq0, odq0, .func (PySem.W.fnOf "plain" "Book.plain" (defArgs (inClass cBook 8)) (defBody (inClass cBook 8)) (defScope (inClass cBook 8)) .none kVq0 dcq0 pmq0 anq0 cdq0 ctq0), slq0⟩)
    (cq0 : PySem.W.codeIn K cdq0 "Book.plain" = true)
    (kq0 : PySem.W.keepIn K (.ref fq0) = true)
    (sf : PySem.W.selfFirst K C = true) :
    ∃ C, BookTop K C :=
  ⟨C, g, ⟨pg, hd, po, sa⟩, ⟨cc, gt, tk, mo, me_of⟩, mk, kc, ne, n0, ⟨fI, _, aI, iI, fun_mk lI cI kI⟩, ⟨fm0, _, am0, im0, fun_mk lm0 cm0 km0⟩, ⟨fm1, _, am1, im1, fun_mk lm1 cm1 km1⟩, ⟨fm2, _, am2, im2, fun_mk lm2 cm2 km2⟩, ⟨fm3, _, am3, im3, fun_mk lm3 cm3 km3⟩, ⟨fm4, _, am4, im4, fun_mk lm4 cm4 km4⟩, ⟨fm5, _, am5, im5, fun_mk lm5 cm5 km5⟩, ⟨fm6, _, am6, im6, fun_mk lm6 cm6 km6⟩, ⟨pq0, fq0, _, ⟨aq0, sq0, tq0, ⟨_, rq0⟩⟩, fun_mk lq0 cq0 kq0⟩, nor_of (cs_of mo) ty fun _ => rfl, sf⟩

structure QuestionTop (K : PySem.W.Frag) (C : Addr) : Prop where
  g : PySem.W.nsIn K mainGlobals "Question" = some (some (.ref C))
  cl : Cls K C
  I : IC K C
  mks : PySem.W.makesIn K C = true
  kc : PySem.W.keepIn K (.ref C) = true
  ne : PySem.W.findIn K (.ref C) "__ne__" = some (some (.builtin "object.__ne__"))
  n0 : NoAttr K C "_columns"
  n1 : NoAttr K C "_told"
  n2 : NoAttr K C "_pairs"
  init : InitAt K C "Question.__init__" (inClass cQuestion 0) [.non]
  m0 : MethAt K C "__eq__" "Question.__eq__" (inClass cQuestion 1)
  q0 : PropAt K C "columns" "Question.columns" (inClass cQuestion 2)
  q1 : PropAt K C "told" "Question.told" (inClass cQuestion 3)
  q2 : PropAt K C "pairs" "Question.pairs" (inClass cQuestion 4)

theorem question_at {K : PySem.W.Frag} {h : Heap} (X : K.In h) {C fI T fm0 fq0 pq0 fq1 pq1 fq2 pq2 : Addr} {ocI kVI dcI pmI cdI ctI oc2 ocm0 kVm0 dcm0 pmm0 cdm0 ctm0 ocq0 kVq0 dcq0 pmq0 cdq0 ctq0 ocq1 kVq1 dcq1 pmq1 cdq1 ctq1 ocq2 kVq2 dcq2 pmq2 cdq2 ctq2 : Value} {odI anI od2 odm0 anm0 odq0 anq0 odq1 anq1 odq2 anq2 : Option Addr} {slI sl2 slm0 slq0 slq1 slq2 : Array (Option Value)} {nn : Nat} {rsq0 rsq1 rsq2 : List Value}
    (g : PySem.W.nsIn K mainGlobals "Question" = some (some (.ref C)))
    (pg : PySem.W.plainGet K C Str.empty = true)
    (hd : PySem.W.hasDictIn K C = true)
    (po : PySem.W.plainOver K C = true)
    (sa : PySem.W.findIn K (.ref C) "__setattr__" = some (some (.builtin "object.__setattr__")))
    (mk : PySem.W.makesIn K C = true)
    (kc : PySem.W.keepIn K (.ref C) = true)
    (cc : PySem.W.findIn K (.ref C) "__class__" = some (some (.builtin "object.__class__")))
    (gt : PySem.W.specialIn K (.builtin "object.__class__") "__get__" = some (some (.builtin "getset_descriptor.__get__")))
    (tk : PySem.W.takesIn K (.builtin "object.__class__") = some true)
    (mo : PySem.W.mroIn K C (.type "object") = some true)
    (ne : PySem.W.findIn K (.ref C) "__ne__" = some (some (.builtin "object.__ne__")))
    (ty : PySem.W.typeIn K (.ref C) = some (.type "type"))
    (n0 : PySem.W.findIn K (.ref C) "_columns" = some none)
    (n1 : PySem.W.findIn K (.ref C) "_told" = some none)
    (n2 : PySem.W.findIn K (.ref C) "_pairs" = some none)
    (aI : PySem.W.findIn K (.ref C) "__init__" = some (some (.ref fI)))
    (iI : PySem.W.isFn K (.ref fI) = true)
    (lI : K.lookup fI = some ⟨ocI, odI, .func (PySem.W.fnOf "__init__" "Question.__init__" (defArgs (inClass cQuestion 0)) (defBody (inClass cQuestion 0)) (defScope (inClass cQuestion 0)) (.ref T) kVI dcI pmI anI cdI ctI), slI⟩)
    (cI : PySem.W.codeIn K cdI "Question.__init__" = true)
    (kI : PySem.W.keepIn K (.ref fI) = true)
    (t : K.lookup T = some ⟨oc2, od2, .seq #[.none] nn, sl2⟩)
    (am0 : PySem.W.findIn K (.ref C) "__eq__" = some (some (.ref fm0)))
    (im0 : PySem.W.isFn K (.ref fm0) = true)
    (lm0 : K.lookup fm0 = some ⟨ocm0, odm0, .func (PySem.W.fnOf "__eq__" "Question.__eq__" (defArgs (inClass cQuestion 1)) (defBody (inClass cQuestion 1)) (defScope (inClass cQuestion 1)) .none kVm0 dcm0 pmm0 anm0 cdm0 ctm0), slm0⟩)
    (cm0 : PySem.W.codeIn K cdm0 "Question.__eq__" = true)
    (km0 : PySem.W.keepIn K (.ref fm0) = true)
    (aq0 : PySem.W.findIn K (.ref C) "columns" = some (some (.ref pq0)))
    (sq0 : PySem.W.specialIn K (.ref pq0) "__get__" = some (some (.builtin "property.__get__")))
    (tq0 : PySem.W.takesIn K (.ref pq0) = some true)
    (rq0 : PySem.W.recIn K pq0 "property" = some (.ref fq0 :: rsq0))
    (lq0 : K.lookup fq0 = some ⟨ocq0, odq0, .func (PySem.W.fnOf "columns" "Question.columns" (defArgs (inClass cQuestion 2)) (defBody (inClass cQuestion 2)) (defScope (inClass cQuestion 2)) .none kVq0 dcq0 pmq0 anq0 cdq0 ctq0), slq0⟩)
    (cq0 : PySem.W.codeIn K cdq0 "Question.columns" = true)
    (kq0 : PySem.W.keepIn K (.ref fq0) = true)
    (aq1 : PySem.W.findIn K (.ref C) "told" = some (some (.ref pq1)))
    (sq1 : PySem.W.specialIn K (.ref pq1) "__get__" = some (some (.builtin "property.__get__")))
    (tq1 : PySem.W.takesIn K (.ref pq1) = some true)
    (rq1 : PySem.W.recIn K pq1 "property" = some (.ref fq1 :: rsq1))
    (lq1 : K.lookup fq1 = some ⟨ocq1, odq1, .func (PySem.W.fnOf "told" "Question.told" (defArgs (inClass cQuestion 3)) (defBody (inClass cQuestion 3)) (defScope (inClass cQuestion 3)) .none kVq1 dcq1 pmq1 anq1 cdq1 ctq1), slq1⟩)
    (cq1 : PySem.W.codeIn K cdq1 "Question.told" = true)
    (kq1 : PySem.W.keepIn K (.ref fq1) = true)
    (aq2 : PySem.W.findIn K (.ref C) "pairs" = some (some (.ref pq2)))
    (sq2 : PySem.W.specialIn K (.ref pq2) "__get__" = some (some (.builtin "property.__get__")))
    (tq2 : PySem.W.takesIn K (.ref pq2) = some true)
    (rq2 : PySem.W.recIn K pq2 "property" = some (.ref fq2 :: rsq2))
    (lq2 : K.lookup fq2 = some ⟨ocq2, odq2, .func (PySem.W.fnOf "pairs" "Question.pairs" (defArgs (inClass cQuestion 4)) (defBody (inClass cQuestion 4)) (defScope (inClass cQuestion 4)) .none kVq2 dcq2 pmq2 anq2 cdq2 ctq2), slq2⟩)
    (cq2 : PySem.W.codeIn K cdq2 "Question.pairs" = true)
    (kq2 : PySem.W.keepIn K (.ref fq2) = true) :
    ∃ C, QuestionTop K C :=
  ⟨C, g, ⟨pg, hd, po, sa⟩, ⟨cc, gt, tk, mo, me_of⟩, mk, kc, ne, n0, n1, n2, ⟨fI, _, aI, iI, ⟨⟨_, _, _, _, _, _, _, _, _, _, rfl, lI, cI, .inr ⟨by simp, T, _, [Value.none], nn, rfl, t, rfl, .cons rfl .nil⟩, .inl rfl⟩, kI⟩⟩, ⟨fm0, _, am0, im0, fun_mk lm0 cm0 km0⟩, ⟨pq0, fq0, _, ⟨aq0, sq0, tq0, ⟨_, rq0⟩⟩, fun_mk lq0 cq0 kq0⟩, ⟨pq1, fq1, _, ⟨aq1, sq1, tq1, ⟨_, rq1⟩⟩, fun_mk lq1 cq1 kq1⟩, ⟨pq2, fq2, _, ⟨aq2, sq2, tq2, ⟨_, rq2⟩⟩, fun_mk lq2 cq2 kq2⟩⟩

end Nv
set_option maxHeartbeats 8000000
namespace Nv
open PySem PySem.Spec PyProof.Rows L2
theorem binds_rule {K : PySem.W.Frag} {f : Addr} {fd : FuncData} (F : FunD K "__init__" "Rule.__init__" (defArgs sRuleInit) (defBody sRuleInit) (defScope sRuleInit) [.non, .non] [] f fd) : ∀ n, n ≤ ([Value.none, Value.none] : List Value).length → Binds K fd ["self", "label", "head", "told", "pairs", "denied"] (([Value.none, Value.none] : List Value).drop n) := by
  obtain ⟨oc, od, dV, kV, doc, pm, an, cdv, ct, osl, rfl, lk, hcd, hD, hK⟩ := F.ex
  rcases hD with ⟨e, _⟩ | ⟨_, T, o, its, m, rfl, lT, oT, rT⟩
  · cases e
  · cases rT with
    | cons r0 rn =>
      cases rn with
      | cons r1 rn =>
        cases rn
        cases r0
        cases r1
        intro n hn s us X hl
        have hn2 : n ≤ 2 := hn
        rcases (by omega : n = 0 ∨ n = 1 ∨ n = 2) with rfl | rfl | rfl
        · have h4 : us.length = 4 := by simpa using hl
          match us, h4 with
          | [_, _, _, _], _ => exact BindsTo.of_looks fun M => looks_items X lT oT (.of_pure rfl)
        · have h4 : us.length = 5 := by simpa using hl
          match us, h4 with
          | [_, _, _, _, _], _ => exact BindsTo.of_looks fun M => looks_items X lT oT (.of_pure rfl)
        · have h4 : us.length = 6 := by simpa using hl
          match us, h4 with
          | [_, _, _, _, _, _], _ => exact BindsTo.of_looks fun M => looks_items X lT oT (.of_pure rfl)
theorem binds_q {K : PySem.W.Frag} {f : Addr} {fd : FuncData} (F : FunD K "__init__" "Question.__init__" (defArgs sQInit) (defBody sQInit) (defScope sQInit) [.non] [] f fd) : ∀ n, n ≤ ([Value.none] : List Value).length → Binds K fd ["self", "columns", "told", "pairs"] (([Value.none] : List Value).drop n) := by
  obtain ⟨oc, od, dV, kV, doc, pm, an, cdv, ct, osl, rfl, lk, hcd, hD, hK⟩ := F.ex
  rcases hD with ⟨e, _⟩ | ⟨_, T, o, its, m, rfl, lT, oT, rT⟩
  · cases e
  · cases rT with
    | cons r0 rn =>
      cases rn
      cases r0
      intro n hn s us X hl
      have hn2 : n ≤ 1 := hn
      rcases (by omega : n = 0 ∨ n = 1) with rfl | rfl
      · have h4 : us.length = 3 := by simpa using hl
        match us, h4 with
        | [_, _, _], _ => exact BindsTo.of_looks fun M => looks_items X lT oT (.of_pure rfl)
      · have h4 : us.length = 4 := by simpa using hl
        match us, h4 with
        | [_, _, _, _], _ => exact BindsTo.of_looks fun M => looks_items X lT oT (.of_pure rfl)
theorem law_at {P : Program} {w : World} {K : PySem.W.Frag} {mg : Str → Option Value} {h : Heap} {fa : Addr} (X : K.In h) (G : h.Ns mainGlobals mg) (hfa : mg "law" = some (.ref fa)) {CR CQ CB : Addr} (TR : RuleTop K CR) (TB : BookTop K CB) (TQ : QuestionTop K CQ)
    (z_isinstance : PySem.W.nsIn K mainGlobals "isinstance" = some none) (z_str : PySem.W.nsIn K mainGlobals "str" = some none) (z_tuple : PySem.W.nsIn K mainGlobals "tuple" = some none) (z_list : PySem.W.nsIn K mainGlobals "list" = some none) (z_set : PySem.W.nsIn K mainGlobals "set" = some none) (z_len : PySem.W.nsIn K mainGlobals "len" = some none) (z_all : PySem.W.nsIn K mainGlobals "all" = some none) (z_any : PySem.W.nsIn K mainGlobals "any" = some none) (z_range : PySem.W.nsIn K mainGlobals "range" = some none) (z_sum : PySem.W.nsIn K mainGlobals "sum" = some none) (z_max : PySem.W.nsIn K mainGlobals "max" = some none) (z_min : PySem.W.nsIn K mainGlobals "min" = some none) (z_int : PySem.W.nsIn K mainGlobals "int" = some none) (z_repr : PySem.W.nsIn K mainGlobals "repr" = some none) (z_enumerate : PySem.W.nsIn K mainGlobals "enumerate" = some none)
    (d_isName : DefAt K "is_name" sIsName)
    (d_isVar : DefAt K "is_variable" sIsVar)
    (d_isTerm : DefAt K "is_term" sIsTerm)
    (d_isPattern : DefAt K "is_pattern" sIsPattern)
    (d_isPatterns : DefAt K "is_patterns" sIsPatterns)
    (d_isPair : DefAt K "is_pair" sIsPair)
    (d_isPairs : DefAt K "is_pairs" sIsPairs)
    (d_termsOf : DefAt K "terms_of" sTermsOf)
    (d_sides : DefAt K "sides_of" sSides)
    (d_varsAmong : DefAt K "variables_among" sVarsAmong)
    (d_varsOf : DefAt K "variables_of" sVarsOf)
    (d_hasMore : DefAt K "has_more" sHasMore)
    (d_hasDouble : DefAt K "_has_double" sHasDouble)
    (d_place : DefAt K "_place" sPlace)
    (d_purse : DefAt K "_law_purse" sPurse)
    (d_mixed : DefAt K "_law_mixed" sMixed)
    (d_draw : DefAt K "_law_draw" sDraw)
    (d_purses : DefAt K "_law_purses" sPurses)
    (d_oneOf : DefAt K "_law_one_of" sOneOf)
    (d_shuffled : DefAt K "_law_shuffled" sShuffled)
    (d_names : DefAt K "_law_names" sNames)
    (d_kinds : DefAt K "_law_kinds" sKinds)
    (d_pattern : DefAt K "_law_pattern" sPattern)
    (d_told : DefAt K "_law_told" sTold)
    (d_variables : DefAt K "_law_variables" sVariables)
    (d_pairs : DefAt K "_law_pairs" sPairs)
    (d_rule : DefAt K "_law_rule" sRule)
    (d_spoils : DefAt K "_law_spoils" sSpoils)
    (d_ruleRight : DefAt K "_law_rule_right" sRuleRight)
    (d_questionRight : DefAt K "_law_question_right" sQuestionRight)
    (d_bookRight : DefAt K "_law_book_right" sBookRight)
    (d_law : DefAt K "law" sLaw) :
    ∃ fd : FuncData, (∀ (s : Shared) (u : Value), BindsTo s fd ⟨[u], []⟩ [("_law_script", u)]) ∧
      ∀ base : Heap, K.In base → base.Ns mainGlobals mg → (∃ o, base.get? sysModules = some o) → RunG P w K mg base 8 fa fd ["_law_script"] (spLaw K) := by
  obtain ⟨f_isName, e_isName, g_isName, F_isName⟩ := d_isName
  have m_isName := PySem.W.mg_of X G g_isName
  have b_isName : Binds K e_isName ["value"] [] := F_isName.binds (ps := ["value"]) fun _ _ _ _ _ _ us hl => match us, hl with | [_], _ => rfl
  obtain ⟨f_isVar, e_isVar, g_isVar, F_isVar⟩ := d_isVar
  have m_isVar := PySem.W.mg_of X G g_isVar
  have b_isVar : Binds K e_isVar ["value"] [] := F_isVar.binds (ps := ["value"]) fun _ _ _ _ _ _ us hl => match us, hl with | [_], _ => rfl
  obtain ⟨f_isTerm, e_isTerm, g_isTerm, F_isTerm⟩ := d_isTerm
  have m_isTerm := PySem.W.mg_of X G g_isTerm
  have b_isTerm : Binds K e_isTerm ["value"] [] := F_isTerm.binds (ps := ["value"]) fun _ _ _ _ _ _ us hl => match us, hl with | [_], _ => rfl
  obtain ⟨f_isPattern, e_isPattern, g_isPattern, F_isPattern⟩ := d_isPattern
  have m_isPattern := PySem.W.mg_of X G g_isPattern
  have b_isPattern : Binds K e_isPattern ["value"] [] := F_isPattern.binds (ps := ["value"]) fun _ _ _ _ _ _ us hl => match us, hl with | [_], _ => rfl
  obtain ⟨f_isPatterns, e_isPatterns, g_isPatterns, F_isPatterns⟩ := d_isPatterns
  have m_isPatterns := PySem.W.mg_of X G g_isPatterns
  have b_isPatterns : Binds K e_isPatterns ["value"] [] := F_isPatterns.binds (ps := ["value"]) fun _ _ _ _ _ _ us hl => match us, hl with | [_], _ => rfl
  obtain ⟨f_isPair, e_isPair, g_isPair, F_isPair⟩ := d_isPair
  have m_isPair := PySem.W.mg_of X G g_isPair
  have b_isPair : Binds K e_isPair ["value"] [] := F_isPair.binds (ps := ["value"]) fun _ _ _ _ _ _ us hl => match us, hl with | [_], _ => rfl
  obtain ⟨f_isPairs, e_isPairs, g_isPairs, F_isPairs⟩ := d_isPairs
  have m_isPairs := PySem.W.mg_of X G g_isPairs
  have b_isPairs : Binds K e_isPairs ["value"] [] := F_isPairs.binds (ps := ["value"]) fun _ _ _ _ _ _ us hl => match us, hl with | [_], _ => rfl
  obtain ⟨f_termsOf, e_termsOf, g_termsOf, F_termsOf⟩ := d_termsOf
  have m_termsOf := PySem.W.mg_of X G g_termsOf
  have b_termsOf : Binds K e_termsOf ["patterns"] [] := F_termsOf.binds (ps := ["patterns"]) fun _ _ _ _ _ _ us hl => match us, hl with | [_], _ => rfl
  obtain ⟨f_sides, e_sides, g_sides, F_sides⟩ := d_sides
  have m_sides := PySem.W.mg_of X G g_sides
  have b_sides : Binds K e_sides ["pairs"] [] := F_sides.binds (ps := ["pairs"]) fun _ _ _ _ _ _ us hl => match us, hl with | [_], _ => rfl
  obtain ⟨f_varsAmong, e_varsAmong, g_varsAmong, F_varsAmong⟩ := d_varsAmong
  have m_varsAmong := PySem.W.mg_of X G g_varsAmong
  have b_varsAmong : Binds K e_varsAmong ["terms"] [] := F_varsAmong.binds (ps := ["terms"]) fun _ _ _ _ _ _ us hl => match us, hl with | [_], _ => rfl
  obtain ⟨f_varsOf, e_varsOf, g_varsOf, F_varsOf⟩ := d_varsOf
  have m_varsOf := PySem.W.mg_of X G g_varsOf
  have b_varsOf : Binds K e_varsOf ["patterns"] [] := F_varsOf.binds (ps := ["patterns"]) fun _ _ _ _ _ _ us hl => match us, hl with | [_], _ => rfl
  obtain ⟨f_hasMore, e_hasMore, g_hasMore, F_hasMore⟩ := d_hasMore
  have m_hasMore := PySem.W.mg_of X G g_hasMore
  have b_hasMore : Binds K e_hasMore ["terms", "told"] [] := F_hasMore.binds (ps := ["terms", "told"]) fun _ _ _ _ _ _ us hl => match us, hl with | [_, _], _ => rfl
  obtain ⟨f_hasDouble, e_hasDouble, g_hasDouble, F_hasDouble⟩ := d_hasDouble
  have m_hasDouble := PySem.W.mg_of X G g_hasDouble
  have b_hasDouble : Binds K e_hasDouble ["labels"] [] := F_hasDouble.binds (ps := ["labels"]) fun _ _ _ _ _ _ us hl => match us, hl with | [_], _ => rfl
  obtain ⟨f_place, e_place, g_place, F_place⟩ := d_place
  have m_place := PySem.W.mg_of X G g_place
  have b_place : Binds K e_place ["label", "labels"] [] := F_place.binds (ps := ["label", "labels"]) fun _ _ _ _ _ _ us hl => match us, hl with | [_, _], _ => rfl
  obtain ⟨f_purse, e_purse, g_purse, F_purse⟩ := d_purse
  have m_purse := PySem.W.mg_of X G g_purse
  have b_purse : Binds K e_purse ["_law_script", "_law_at"] [] := F_purse.binds (ps := ["_law_script", "_law_at"]) fun _ _ _ _ _ _ us hl => match us, hl with | [_, _], _ => rfl
  obtain ⟨f_mixed, e_mixed, g_mixed, F_mixed⟩ := d_mixed
  have m_mixed := PySem.W.mg_of X G g_mixed
  have b_mixed : Binds K e_mixed ["_law_seed", "_law_turn", "_law_at"] [] := F_mixed.binds (ps := ["_law_seed", "_law_turn", "_law_at"]) fun _ _ _ _ _ _ us hl => match us, hl with | [_, _, _], _ => rfl
  obtain ⟨f_draw, e_draw, g_draw, F_draw⟩ := d_draw
  have m_draw := PySem.W.mg_of X G g_draw
  have b_draw : Binds K e_draw ["_law_purse_here", "_law_many"] [] := F_draw.binds (ps := ["_law_purse_here", "_law_many"]) fun _ _ _ _ _ _ us hl => match us, hl with | [_, _], _ => rfl
  obtain ⟨f_purses, e_purses, g_purses, F_purses⟩ := d_purses
  have m_purses := PySem.W.mg_of X G g_purses
  have b_purses : Binds K e_purses ["_law_script", "_law_few"] [] := F_purses.binds (ps := ["_law_script", "_law_few"]) fun _ _ _ _ _ _ us hl => match us, hl with | [_, _], _ => rfl
  obtain ⟨f_oneOf, e_oneOf, g_oneOf, F_oneOf⟩ := d_oneOf
  have m_oneOf := PySem.W.mg_of X G g_oneOf
  have b_oneOf : Binds K e_oneOf ["_law_purse_here", "_law_some"] [] := F_oneOf.binds (ps := ["_law_purse_here", "_law_some"]) fun _ _ _ _ _ _ us hl => match us, hl with | [_, _], _ => rfl
  obtain ⟨f_shuffled, e_shuffled, g_shuffled, F_shuffled⟩ := d_shuffled
  have m_shuffled := PySem.W.mg_of X G g_shuffled
  have b_shuffled : Binds K e_shuffled ["_law_purse_here", "_law_some"] [] := F_shuffled.binds (ps := ["_law_purse_here", "_law_some"]) fun _ _ _ _ _ _ us hl => match us, hl with | [_, _], _ => rfl
  obtain ⟨f_names, e_names, g_names, F_names⟩ := d_names
  have m_names := PySem.W.mg_of X G g_names
  have b_names : Binds K e_names ["_law_purse_here", "_law_many"] [] := F_names.binds (ps := ["_law_purse_here", "_law_many"]) fun _ _ _ _ _ _ us hl => match us, hl with | [_, _], _ => rfl
  obtain ⟨f_kinds, e_kinds, g_kinds, F_kinds⟩ := d_kinds
  have m_kinds := PySem.W.mg_of X G g_kinds
  have b_kinds : Binds K e_kinds ["_law_purse_here", "_law_many"] [] := F_kinds.binds (ps := ["_law_purse_here", "_law_many"]) fun _ _ _ _ _ _ us hl => match us, hl with | [_, _], _ => rfl
  obtain ⟨f_pattern, e_pattern, g_pattern, F_pattern⟩ := d_pattern
  have m_pattern := PySem.W.mg_of X G g_pattern
  have b_pattern : Binds K e_pattern ["_law_purse_here", "_law_kinds_here", "_law_terms"] [] := F_pattern.binds (ps := ["_law_purse_here", "_law_kinds_here", "_law_terms"]) fun _ _ _ _ _ _ us hl => match us, hl with | [_, _, _], _ => rfl
  obtain ⟨f_told, e_told, g_told, F_told⟩ := d_told
  have m_told := PySem.W.mg_of X G g_told
  have b_told : Binds K e_told ["_law_purse_here", "_law_kinds_here", "_law_names_here", "_law_most", "_law_few"] [] := F_told.binds (ps := ["_law_purse_here", "_law_kinds_here", "_law_names_here", "_law_most", "_law_few"]) fun _ _ _ _ _ _ us hl => match us, hl with | [_, _, _, _, _], _ => rfl
  obtain ⟨f_variables, e_variables, g_variables, F_variables⟩ := d_variables
  have m_variables := PySem.W.mg_of X G g_variables
  have b_variables : Binds K e_variables ["_law_told_here"] [] := F_variables.binds (ps := ["_law_told_here"]) fun _ _ _ _ _ _ us hl => match us, hl with | [_], _ => rfl
  obtain ⟨f_pairs, e_pairs, g_pairs, F_pairs⟩ := d_pairs
  have m_pairs := PySem.W.mg_of X G g_pairs
  have b_pairs : Binds K e_pairs ["_law_purse_here", "_law_told_here", "_law_names_here"] [] := F_pairs.binds (ps := ["_law_purse_here", "_law_told_here", "_law_names_here"]) fun _ _ _ _ _ _ us hl => match us, hl with | [_, _, _], _ => rfl
  obtain ⟨f_rule, e_rule, g_rule, F_rule⟩ := d_rule
  have m_rule := PySem.W.mg_of X G g_rule
  have b_rule : Binds K e_rule ["_law_purse_here", "_law_label", "_law_kinds_here", "_law_names_here", "_law_denied"] [] := F_rule.binds (ps := ["_law_purse_here", "_law_label", "_law_kinds_here", "_law_names_here", "_law_denied"]) fun _ _ _ _ _ _ us hl => match us, hl with | [_, _, _, _, _], _ => rfl
  obtain ⟨f_spoils, e_spoils, g_spoils, F_spoils⟩ := d_spoils
  have m_spoils := PySem.W.mg_of X G g_spoils
  have b_spoils : Binds K e_spoils ["_law_lists"] [] := F_spoils.binds (ps := ["_law_lists"]) fun _ _ _ _ _ _ us hl => match us, hl with | [_], _ => rfl
  obtain ⟨f_ruleRight, e_ruleRight, g_ruleRight, F_ruleRight⟩ := d_ruleRight
  have m_ruleRight := PySem.W.mg_of X G g_ruleRight
  have b_ruleRight : Binds K e_ruleRight ["_law_rule_here", "_law_row"] [] := F_ruleRight.binds (ps := ["_law_rule_here", "_law_row"]) fun _ _ _ _ _ _ us hl => match us, hl with | [_, _], _ => rfl
  obtain ⟨f_questionRight, e_questionRight, g_questionRight, F_questionRight⟩ := d_questionRight
  have m_questionRight := PySem.W.mg_of X G g_questionRight
  have b_questionRight : Binds K e_questionRight ["_law_columns", "_law_told_here", "_law_pairs_here"] [] := F_questionRight.binds (ps := ["_law_columns", "_law_told_here", "_law_pairs_here"]) fun _ _ _ _ _ _ us hl => match us, hl with | [_, _, _], _ => rfl
  obtain ⟨f_bookRight, e_bookRight, g_bookRight, F_bookRight⟩ := d_bookRight
  have m_bookRight := PySem.W.mg_of X G g_bookRight
  have b_bookRight : Binds K e_bookRight ["_law_rules"] [] := F_bookRight.binds (ps := ["_law_rules"]) fun _ _ _ _ _ _ us hl => match us, hl with | [_], _ => rfl
  obtain ⟨f_law, e_law, g_law, F_law⟩ := d_law
  have m_law := PySem.W.mg_of X G g_law
  have b_law : Binds K e_law ["_law_script"] [] := F_law.binds (ps := ["_law_script"]) fun _ _ _ _ _ _ us hl => match us, hl with | [_], _ => rfl
  have B : Bp mg := ⟨PySem.W.mg_none_of X G z_isinstance, PySem.W.mg_none_of X G z_str, PySem.W.mg_none_of X G z_tuple, PySem.W.mg_none_of X G z_list, PySem.W.mg_none_of X G z_set, PySem.W.mg_none_of X G z_len, PySem.W.mg_none_of X G z_all, PySem.W.mg_none_of X G z_any⟩
  have B2 : Bl mg := ⟨PySem.W.mg_none_of X G z_range, PySem.W.mg_none_of X G z_len, PySem.W.mg_none_of X G z_sum, PySem.W.mg_none_of X G z_max, PySem.W.mg_none_of X G z_min, PySem.W.mg_none_of X G z_int, PySem.W.mg_none_of X G z_tuple⟩
  have rp := PySem.W.mg_none_of X G z_repr
  have en := PySem.W.mg_none_of X G z_enumerate
  have e := hfa.symm.trans m_law
  cases e
  refine ⟨e_law, fun s u => ?_, fun base _ _ sy => ?_⟩
  · obtain ⟨oc, od, kV, doc, pm, an, cdv, ct, osl, rfl, lk, hcd⟩ := F_law.ex
    exact .of_eq rfl
  · skip
    have G_isName : FnOk P w K mg base CX0 1 f_isName e_isName ["value"] _ := ok_isName F_isName B
    have G_isVar : FnOk P w K mg base CX0 1 f_isVar e_isVar ["value"] _ := ok_isVar F_isVar B
    have G_isTerm : FnOk P w K mg base CX0 2 f_isTerm e_isTerm ["value"] _ := ok_isTerm F_isTerm G_isName F_isName.kp m_isName b_isName G_isVar F_isVar.kp m_isVar b_isVar
    have G_isPattern : FnOk P w K mg base CX0 3 f_isPattern e_isPattern ["value"] (spTup K patB) := ok_isPattern F_isPattern B G_isName F_isName.kp m_isName b_isName G_isTerm F_isTerm.kp m_isTerm b_isTerm
    have G_isPatterns : FnOk P w K mg base CX0 4 f_isPatterns e_isPatterns ["value"] (spLst K patB) := ok_isPatterns F_isPatterns B G_isPattern F_isPattern.kp m_isPattern b_isPattern
    have G_isPair : FnOk P w K mg base CX0 3 f_isPair e_isPair ["value"] (spTup K prB) := ok_isPair F_isPair B G_isTerm F_isTerm.kp m_isTerm b_isTerm G_isVar F_isVar.kp m_isVar b_isVar
    have G_isPairs : FnOk P w K mg base CX0 4 f_isPairs e_isPairs ["value"] (spLst K prB) := ok_isPairs F_isPairs B G_isPair F_isPair.kp m_isPair b_isPair
    have G_termsOf : FnOk P w K mg base CX0 1 f_termsOf e_termsOf ["patterns"] _ := ok_termsOf F_termsOf
    have G_sides : FnOk P w K mg base CX0 1 f_sides e_sides ["pairs"] _ := ok_sides F_sides
    have G_varsAmong : FnOk P w K mg base CX0 2 f_varsAmong e_varsAmong ["terms"] _ := ok_varsAmong F_varsAmong B G_isVar F_isVar.kp m_isVar b_isVar
    have G_varsOf : FnOk P w K mg base CX0 3 f_varsOf e_varsOf ["patterns"] _ := ok_varsOf F_varsOf G_termsOf F_termsOf.kp m_termsOf b_termsOf G_varsAmong F_varsAmong.kp m_varsAmong b_varsAmong
    have G_hasMore : FnOk P w K mg base CX0 4 f_hasMore e_hasMore ["terms", "told"] _ := ok_hasMore F_hasMore B G_varsAmong F_varsAmong.kp m_varsAmong b_varsAmong G_varsOf F_varsOf.kp m_varsOf b_varsOf
    have G_hasDouble : FnOk P w K mg base CX0 1 f_hasDouble e_hasDouble ["labels"] _ := ok_hasDouble F_hasDouble B
    have G_place : FnOk P w K mg base CX0 1 f_place e_place ["label", "labels"] _ := ok_place F_place
    have G_purse : FnOk P w K mg base CX0 1 f_purse e_purse ["_law_script", "_law_at"] _ := ok_purse F_purse B2
    have G_draw : FnOk P w K mg base CX0 2 f_draw e_draw ["_law_purse_here", "_law_many"] _ := ok_draw F_draw F_mixed m_mixed b_mixed B2.rg
    have G_purses : FnOk P w K mg base CX0 2 f_purses e_purses ["_law_script", "_law_few"] _ := ok_purses F_purses G_purse F_purse.kp m_purse b_purse B2
    have G_oneOf : FnOk P w K mg base CX0 3 f_oneOf e_oneOf ["_law_purse_here", "_law_some"] _ := ok_oneOf F_oneOf G_draw F_draw.kp m_draw b_draw B2
    have G_shuffled : FnOk P w K mg base CX0 3 f_shuffled e_shuffled ["_law_purse_here", "_law_some"] _ := ok_shuffled F_shuffled G_draw F_draw.kp m_draw b_draw B2
    have G_names : FnOk P w K mg base CX0 4 f_names e_names ["_law_purse_here", "_law_many"] _ := ok_names F_names G_draw F_draw.kp m_draw b_draw G_shuffled F_shuffled.kp m_shuffled b_shuffled B2
    have G_kinds : FnOk P w K mg base CX0 4 f_kinds e_kinds ["_law_purse_here", "_law_many"] _ := ok_kinds F_kinds G_draw F_draw.kp m_draw b_draw G_shuffled F_shuffled.kp m_shuffled b_shuffled B2
    have G_pattern : FnOk P w K mg base CX0 4 f_pattern e_pattern ["_law_purse_here", "_law_kinds_here", "_law_terms"] _ := ok_pattern F_pattern G_oneOf F_oneOf.kp m_oneOf b_oneOf B2
    have G_told : FnOk P w K mg base CX0 5 f_told e_told ["_law_purse_here", "_law_kinds_here", "_law_names_here", "_law_most", "_law_few"] _ := ok_told F_told G_oneOf F_oneOf.kp m_oneOf b_oneOf G_draw F_draw.kp m_draw b_draw G_pattern F_pattern.kp m_pattern b_pattern B2
    have G_variables : FnOk P w K mg base CX0 1 f_variables e_variables ["_law_told_here"] _ := ok_variables F_variables
    have G_pairs : FnOk P w K mg base CX0 4 f_pairs e_pairs ["_law_purse_here", "_law_told_here", "_law_names_here"] _ := ok_pairs F_pairs G_variables F_variables.kp m_variables b_variables G_draw F_draw.kp m_draw b_draw G_oneOf F_oneOf.kp m_oneOf b_oneOf G_shuffled F_shuffled.kp m_shuffled b_shuffled B2
    have G_spoils : FnOk P w K mg base CX0 1 f_spoils e_spoils ["_law_lists"] _ := ok_spoils F_spoils
    -- the classes
    have RR : RC K CR := ⟨TR.cl, TR.n0, TR.n1, TR.n2, TR.n3, TR.n4⟩
    have gR := PySem.W.mg_of X G TR.g
    have gB := PySem.W.mg_of X G TB.g
    have gQ := PySem.W.mg_of X G TQ.g
    have CT : Ct P w K mg base := ⟨⟨_, _, G_isName, F_isName.kp, m_isName, b_isName⟩, ⟨_, _, G_isVar, F_isVar.kp, m_isVar, b_isVar⟩, ⟨_, _, G_isPattern, F_isPattern.kp, m_isPattern, b_isPattern⟩, ⟨_, _, G_isPatterns, F_isPatterns.kp, m_isPatterns, b_isPatterns⟩, ⟨_, _, G_isPairs, F_isPairs.kp, m_isPairs, b_isPairs⟩, ⟨_, _, G_termsOf, F_termsOf.kp, m_termsOf, b_termsOf⟩, ⟨_, _, G_sides, F_sides.kp, m_sides, b_sides⟩, ⟨_, _, G_hasMore, F_hasMore.kp, m_hasMore, b_hasMore⟩⟩
    obtain ⟨fRI, dRI, aRI, iRI, FRI⟩ := TR.init
    obtain ⟨fRE, dRE, aRE, iRE, FRE⟩ := TR.m0
    have bRE : Binds K dRE ["self", "other"] [] := FRE.binds (ps := ["self", "other"]) fun _ _ _ _ _ _ us hl => match us, hl with | [_, _], _ => rfl
    have GRI : FnOk P w K mg base CX0 5 fRI dRI ["self", "label", "head", "told", "pairs", "denied"] (spRuleInit CR) := ok_ruleInit FRI B RR CT
    have GRE : FnOk P w K mg base CX0 1 fRE dRE ["self", "other"] (spRuleEq K CR) := ok_ruleEq FRE B RR TR.I gR
    have mkR : MakeOk P w K mg base CR "Rule" 5 ["self", "label", "head", "told", "pairs", "denied"] (spRuleInit CR) [.none, .none] := ⟨fRI, dRI, GRI, ⟨TR.mks, aRI, iRI, TR.kc⟩, gR, fun n hn => binds_rule FRI n hn⟩
    obtain ⟨pp0, gp0, dp0, PO0, FP0⟩ := TR.q0
    obtain ⟨pp1, gp1, dp1, PO1, FP1⟩ := TR.q1
    obtain ⟨pp2, gp2, dp2, PO2, FP2⟩ := TR.q2
    obtain ⟨pp3, gp3, dp3, PO3, FP3⟩ := TR.q3
    obtain ⟨pp4, gp4, dp4, PO4, FP4⟩ := TR.q4
    have bp0 : Binds K dp0 ["self"] [] := FP0.binds (ps := ["self"]) fun _ _ _ _ _ _ us hl => match us, hl with | [_], _ => rfl
    have bp1 : Binds K dp1 ["self"] [] := FP1.binds (ps := ["self"]) fun _ _ _ _ _ _ us hl => match us, hl with | [_], _ => rfl
    have bp2 : Binds K dp2 ["self"] [] := FP2.binds (ps := ["self"]) fun _ _ _ _ _ _ us hl => match us, hl with | [_], _ => rfl
    have bp3 : Binds K dp3 ["self"] [] := FP3.binds (ps := ["self"]) fun _ _ _ _ _ _ us hl => match us, hl with | [_], _ => rfl
    have bp4 : Binds K dp4 ["self"] [] := FP4.binds (ps := ["self"]) fun _ _ _ _ _ _ us hl => match us, hl with | [_], _ => rfl
    have Gp0 : FnOk P w K mg base CX0 1 gp0 dp0 ["self"] (getSp CR "_label") := ok_get FP0 ⟨rfl, rfl, rfl, by decide +kernel, rfl, by decide +kernel, by decide +kernel⟩ rfl TR.cl TR.n0
    have Gp1 : FnOk P w K mg base CX0 1 gp1 dp1 ["self"] (getSp CR "_head") := ok_get FP1 ⟨rfl, rfl, rfl, by decide +kernel, rfl, by decide +kernel, by decide +kernel⟩ rfl TR.cl TR.n1
    have Gp2 : FnOk P w K mg base CX0 1 gp2 dp2 ["self"] (spGetL CR "_told") := ok_getL FP2 ⟨rfl, rfl, rfl, by decide +kernel, rfl, by decide +kernel, by decide +kernel⟩ rfl (fun X e => by unfold Gl Env.kindOf; rw [e]; decide +kernel) TR.cl TR.n2 B
    have Gp3 : FnOk P w K mg base CX0 1 gp3 dp3 ["self"] (spGetL CR "_pairs") := ok_getL FP3 ⟨rfl, rfl, rfl, by decide +kernel, rfl, by decide +kernel, by decide +kernel⟩ rfl (fun X e => by unfold Gl Env.kindOf; rw [e]; decide +kernel) TR.cl TR.n3 B
    have Gp4 : FnOk P w K mg base CX0 1 gp4 dp4 ["self"] (spGetL CR "_denied") := ok_getL FP4 ⟨rfl, rfl, rfl, by decide +kernel, rfl, by decide +kernel, by decide +kernel⟩ rfl (fun X e => by unfold Gl Env.kindOf; rw [e]; decide +kernel) TR.cl TR.n4 B
    have ROk : RuleOk P w K mg base CR := ⟨RR, TR.I, mkR, ⟨fRE, dRE, GRE, aRE, iRE, bRE⟩, TR.ne, ⟨pp0, gp0, dp0, PO0, Gp0, bp0⟩, ⟨pp1, gp1, dp1, PO1, Gp1, bp1⟩, ⟨pp2, gp2, dp2, PO2, Gp2, bp2⟩, ⟨pp3, gp3, dp3, PO3, Gp3, bp3⟩, ⟨pp4, gp4, dp4, PO4, Gp4, bp4⟩, TR.nor_NoneType, TR.nor_str, TR.nor_list, TR.nor_tuple⟩
    have LB : PL P w K mg base CR "label" "_label" := ⟨pp0, gp0, dp0, PO0, Gp0, bp0⟩
    -- the book
    obtain ⟨fBI, dBI, aBI, iBI, FBI⟩ := TB.init
    obtain ⟨f0, d0, a0, i0, F0⟩ := TB.m0
    obtain ⟨f1, d1, a1, i1, F1⟩ := TB.m1
    obtain ⟨f2, d2, a2, i2, F2⟩ := TB.m2
    obtain ⟨f3, d3, a3, i3, F3⟩ := TB.m3
    obtain ⟨f4, d4, a4, i4, F4⟩ := TB.m4
    obtain ⟨f5, d5, a5, i5, F5⟩ := TB.m5
    obtain ⟨f6, d6, a6, i6, F6⟩ := TB.m6
    obtain ⟨pq, gq, dq, POq, FPq⟩ := TB.q0
    have bBI : Binds K dBI ["self", "rules"] [] := FBI.binds (ps := ["self", "rules"]) fun _ _ _ _ _ _ us hl => match us, hl with | [_, _], _ => rfl
    have b0 : Binds K d0 ["self", "other"] [] := F0.binds (ps := ["self", "other"]) fun _ _ _ _ _ _ us hl => match us, hl with | [_, _], _ => rfl
    have b1 : Binds K d1 ["self"] [] := F1.binds (ps := ["self"]) fun _ _ _ _ _ _ us hl => match us, hl with | [_], _ => rfl
    have b2 : Binds K d2 ["self", "other"] [] := F2.binds (ps := ["self", "other"]) fun _ _ _ _ _ _ us hl => match us, hl with | [_, _], _ => rfl
    have b3 : Binds K d3 ["self"] [] := F3.binds (ps := ["self"]) fun _ _ _ _ _ _ us hl => match us, hl with | [_], _ => rfl
    have b4 : Binds K d4 ["self"] [] := F4.binds (ps := ["self"]) fun _ _ _ _ _ _ us hl => match us, hl with | [_], _ => rfl
    have b5 : Binds K d5 ["self", "label"] [] := F5.binds (ps := ["self", "label"]) fun _ _ _ _ _ _ us hl => match us, hl with | [_, _], _ => rfl
    have b6 : Binds K d6 ["self", "label"] [] := F6.binds (ps := ["self", "label"]) fun _ _ _ _ _ _ us hl => match us, hl with | [_, _], _ => rfl
    have bq : Binds K dq ["self"] [] := FPq.binds (ps := ["self"]) fun _ _ _ _ _ _ us hl => match us, hl with | [_], _ => rfl
    have MB : Mk K CB fBI := ⟨TB.mks, aBI, iBI, TB.kc⟩
    have GBI : FnOk P w K mg base CX0 3 fBI dBI ["self", "rules"] (spBookInit CR CB) := ok_bookInit FBI B TB.cl TB.n0 RR TR.I gR LB G_hasDouble F_hasDouble.kp m_hasDouble b_hasDouble
    have G0 : FnOk P w K mg base CX0 3 f0 d0 ["self", "other"] (spBookEq K CR CB) := ok_bookEq F0 B TB.cl TB.n0 TB.I gB RR TR.I GRE aRE iRE bRE
    have G1 : FnOk P w K mg base CX0 1 f1 d1 ["self"] (spBookLen CB) := ok_bookLen F1 B TB.cl TB.n0
    have G3 : FnOk P w K mg base CX0 1 f3 d3 ["self"] (spGetL CB "_rules") := ok_getL F3 ⟨rfl, rfl, rfl, by decide +kernel, rfl, by decide +kernel, by decide +kernel⟩ rfl (fun X e => by unfold Gl Env.kindOf; rw [e]; decide +kernel) TB.cl TB.n0 B
    have G4 : FnOk P w K mg base CX0 3 f4 d4 ["self"] (spBookLabels CR CB) := ok_bookLabels F4 TB.cl TB.n0 RR LB
    have M3 : Meth K CB "rules" f3 := ⟨a3, i3, F3.kp⟩
    have M4 : Meth K CB "labels" f4 := ⟨a4, i4, F4.kp⟩
    have G2 : FnOk P w K mg base CX0 5 f2 d2 ["self", "other"] (spBookAdd CR CB) := ok_bookAdd F2 B TB.cl TB.n0 TB.I gB G4 M4 b4 G3 M3 b3 G_hasDouble F_hasDouble.kp m_hasDouble b_hasDouble GBI MB bBI
    have G5 : FnOk P w K mg base CX0 4 f5 d5 ["self", "label"] (spBookRule CR CB) := ok_bookRule F5 TB.cl TB.n0 G4 M4 b4 G_place F_place.kp m_place b_place
    have G6 : FnOk P w K mg base CX0 5 f6 d6 ["self", "label"] (spBookWithout CR CB) := ok_bookWithout F6 TB.cl TB.n0 G4 M4 b4 G_place F_place.kp m_place b_place GBI MB gB bBI
    have Gq : FnOk P w K mg base CX0 3 gq dq ["self"] (spBookPlain CR CB) := ok_bookPlain FPq B TB.cl TB.n0 RR PO4 Gp4 bp4
    have BOk : BookOk P w K mg base CR CB := ⟨TB.cl, TB.n0, TB.I, ⟨fBI, dBI, GBI, MB, gB, fun n hn => by obtain rfl : n = 0 := Nat.le_zero.mp hn; exact bBI⟩, ⟨f0, d0, G0, a0, i0, b0⟩, TB.ne, ⟨f1, d1, G1, a1, i1, b1⟩, ⟨f2, d2, G2, a2, i2, b2⟩, TB.sf, ⟨f3, d3, G3, M3, b3⟩, ⟨f4, d4, G4, M4, b4⟩, ⟨f5, d5, G5, ⟨a5, i5, F5.kp⟩, b5⟩, ⟨f6, d6, G6, ⟨a6, i6, F6.kp⟩, b6⟩, ⟨pq, gq, dq, POq, Gq, bq⟩, TB.nor_list⟩
    -- the question
    have QC' : QC K CQ := ⟨TQ.cl, TQ.n0, TQ.n1, TQ.n2⟩
    obtain ⟨fQI, dQI, aQI, iQI, FQI⟩ := TQ.init
    obtain ⟨fQE, dQE, aQE, iQE, FQE⟩ := TQ.m0
    obtain ⟨qp0, qg0, qd0, QO0, FQ0⟩ := TQ.q0
    obtain ⟨qp1, qg1, qd1, QO1, FQ1⟩ := TQ.q1
    obtain ⟨qp2, qg2, qd2, QO2, FQ2⟩ := TQ.q2
    have bQE : Binds K dQE ["self", "other"] [] := FQE.binds (ps := ["self", "other"]) fun _ _ _ _ _ _ us hl => match us, hl with | [_, _], _ => rfl
    have qb0 : Binds K qd0 ["self"] [] := FQ0.binds (ps := ["self"]) fun _ _ _ _ _ _ us hl => match us, hl with | [_], _ => rfl
    have qb1 : Binds K qd1 ["self"] [] := FQ1.binds (ps := ["self"]) fun _ _ _ _ _ _ us hl => match us, hl with | [_], _ => rfl
    have qb2 : Binds K qd2 ["self"] [] := FQ2.binds (ps := ["self"]) fun _ _ _ _ _ _ us hl => match us, hl with | [_], _ => rfl
    have QOk : QstOk P w K mg base CQ := ⟨QC', TQ.I, ⟨fQI, dQI, ok_qInit FQI B QC' CT, ⟨TQ.mks, aQI, iQI, TQ.kc⟩, gQ, fun n hn => binds_q FQI n hn⟩, ⟨fQE, dQE, ok_qEq FQE B QC' TQ.I gQ, aQE, iQE, bQE⟩, TQ.ne,
      ⟨qp0, qg0, qd0, QO0, ok_getL FQ0 ⟨rfl, rfl, rfl, by decide +kernel, rfl, by decide +kernel, by decide +kernel⟩ rfl (fun X e => by unfold Gl Env.kindOf; rw [e]; decide +kernel) TQ.cl TQ.n0 B, qb0⟩, ⟨qp1, qg1, qd1, QO1, ok_getL FQ1 ⟨rfl, rfl, rfl, by decide +kernel, rfl, by decide +kernel, by decide +kernel⟩ rfl (fun X e => by unfold Gl Env.kindOf; rw [e]; decide +kernel) TQ.cl TQ.n1 B, qb1⟩, ⟨qp2, qg2, qd2, QO2, ok_getL FQ2 ⟨rfl, rfl, rfl, by decide +kernel, rfl, by decide +kernel, by decide +kernel⟩ rfl (fun X e => by unfold Gl Env.kindOf; rw [e]; decide +kernel) TQ.cl TQ.n2 B, qb2⟩⟩
    -- the law
    have G_rule : FnOk P w K mg base CX0 7 f_rule e_rule ["_law_purse_here", "_law_label", "_law_kinds_here", "_law_names_here", "_law_denied"] (spRule CR) := ok_rule F_rule G_draw F_draw.kp m_draw b_draw G_told F_told.kp m_told b_told G_variables F_variables.kp m_variables b_variables G_pattern F_pattern.kp m_pattern b_pattern G_pairs F_pairs.kp m_pairs b_pairs GRI ⟨TR.mks, aRI, iRI, TR.kc⟩ gR (binds_rule FRI 2 (by decide))
    have cS : CallOk P w K mg base "_law_spoils" 1 ["_law_lists"] (spSpoils K) := ⟨_, _, G_spoils, F_spoils.kp, m_spoils, b_spoils⟩
    have cV : CallOk P w K mg base "_law_variables" 1 ["_law_told_here"] (spVariables K) := ⟨_, _, G_variables, F_variables.kp, m_variables, b_variables⟩
    have GG_rr := ok_ruleRight F_ruleRight ROk B B2 cS cV rp sy
    have GG_qr := ok_questionRight F_questionRight QOk B B2 cS rp sy
    have GG_br := ok_bookRight F_bookRight ROk BOk B B2 en cS rp sy
    exact ok_law (CQ := CQ) F_law ROk BOk B B2 ⟨_, _, G_draw, F_draw.kp, m_draw, b_draw⟩ ⟨_, _, G_purses, F_purses.kp, m_purses, b_purses⟩ ⟨_, _, G_names, F_names.kp, m_names, b_names⟩ ⟨_, _, G_kinds, F_kinds.kp, m_kinds, b_kinds⟩ ⟨_, _, G_pattern, F_pattern.kp, m_pattern, b_pattern⟩ ⟨_, _, G_told, F_told.kp, m_told, b_told⟩ cV ⟨_, _, G_pairs, F_pairs.kp, m_pairs, b_pairs⟩ ⟨_, _, G_rule, F_rule.kp, m_rule, b_rule⟩ ⟨_, _, G_oneOf, F_oneOf.kp, m_oneOf, b_oneOf⟩
      ⟨_, _, GG_rr, F_ruleRight.kp, m_ruleRight, b_ruleRight⟩ ⟨_, _, GG_qr, F_questionRight.kp, m_questionRight, b_questionRight⟩ ⟨_, _, GG_br, F_bookRight.kp, m_bookRight, b_bookRight⟩ rp

end Nv
open PySem PySem.W PyProof.Rows
set_option maxRecDepth 100000 in
set_option maxHeartbeats 0 in
theorem PySem.Challenge.cw_neverapart_k03_rules_and_books_kept_holds : PySem.Challenge.rw_neverapart_k03_rules_and_books_kept.Holds := by
  w_on; o_law; k_head; (case hw => w_witness2)
  k_fill
  refine Nv.walkG (l := PySem.Challenge.rw_neverapart_k03_rules_and_books_kept) (k := 8) (sp := Nv.spLaw) (x := "_law_script") rfl rfl ⟨rfl, by decide, by decide⟩ (by decide +kernel) (fun w h Y => PySem.W.kIn_of Y) ?F (fun K H a ns hl hS => ⟨a, ns, rfl, hS, hl, fun _ => rfl⟩)
  case F =>
    intro w mg fa h KX G hmg
    obtain ⟨CRule, TRule⟩ := (by
      refine' Nv.rule_at KX ?g ?pg ?hd ?po ?sa ?mk ?kc ?cc ?gt ?tk ?mo ?ne ?ty ?n0 ?n1 ?n2 ?n3 ?n4 ?aI ?iI ?lI ?cI ?kI ?t ?am0 ?im0 ?lm0 ?cm0 ?km0 ?aq0 ?sq0 ?tq0 ?rq0 ?lq0 ?cq0 ?kq0 ?aq1 ?sq1 ?tq1 ?rq1 ?lq1 ?cq1 ?kq1 ?aq2 ?sq2 ?tq2 ?rq2 ?lq2 ?cq2 ?kq2 ?aq3 ?sq3 ?tq3 ?rq3 ?lq3 ?cq3 ?kq3 ?aq4 ?sq4 ?tq4 ?rq4 ?lq4 ?cq4 ?kq4
      (case g => k_is)
      (case pg => k_is)
      (case hd => k_is)
      (case po => k_is)
      (case sa => k_is)
      (case mk => k_is)
      (case kc => k_is)
      (case cc => k_is)
      (case gt => k_is)
      (case tk => k_is)
      (case mo => k_is)
      (case ne => k_is)
      (case ty => k_is)
      (case n0 => k_is)
      (case n1 => k_is)
      (case n2 => k_is)
      (case n3 => k_is)
      (case n4 => k_is)
      (case aI => k_is)
      (case iI => k_is)
      (case lI => k_is)
      (case cI => k_is)
      (case kI => k_is)
      (case t => k_is)
      (case am0 => k_is)
      (case im0 => k_is)
      (case lm0 => k_is)
      (case cm0 => k_is)
      (case km0 => k_is)
      (case aq0 => k_is)
      (case sq0 => k_is)
      (case tq0 => k_is)
      (case rq0 => k_is)
      (case lq0 => k_is)
      (case cq0 => k_is)
      (case kq0 => k_is)
      (case aq1 => k_is)
      (case sq1 => k_is)
      (case tq1 => k_is)
      (case rq1 => k_is)
      (case lq1 => k_is)
      (case cq1 => k_is)
      (case kq1 => k_is)
      (case aq2 => k_is)
      (case sq2 => k_is)
      (case tq2 => k_is)
      (case rq2 => k_is)
      (case lq2 => k_is)
      (case cq2 => k_is)
      (case kq2 => k_is)
      (case aq3 => k_is)
      (case sq3 => k_is)
      (case tq3 => k_is)
      (case rq3 => k_is)
      (case lq3 => k_is)
      (case cq3 => k_is)
      (case kq3 => k_is)
      (case aq4 => k_is)
      (case sq4 => k_is)
      (case tq4 => k_is)
      (case rq4 => k_is)
      (case lq4 => k_is)
      (case cq4 => k_is)
      (case kq4 => k_is)
      )
    obtain ⟨CBook, TBook⟩ := (by
      refine' Nv.book_at KX ?g ?pg ?hd ?po ?sa ?mk ?kc ?cc ?gt ?tk ?mo ?ne ?ty ?n0 ?aI ?iI ?lI ?cI ?kI ?am0 ?im0 ?lm0 ?cm0 ?km0 ?am1 ?im1 ?lm1 ?cm1 ?km1 ?am2 ?im2 ?lm2 ?cm2 ?km2 ?am3 ?im3 ?lm3 ?cm3 ?km3 ?am4 ?im4 ?lm4 ?cm4 ?km4 ?am5 ?im5 ?lm5 ?cm5 ?km5 ?am6 ?im6 ?lm6 ?cm6 ?km6 ?aq0 ?sq0 ?tq0 ?rq0 ?lq0 ?cq0 ?kq0 ?sf
      (case g => k_is)
      (case pg => k_is)
      (case hd => k_is)
      (case po => k_is)
      (case sa => k_is)
      (case mk => k_is)
      (case kc => k_is)
      (case cc => k_is)
      (case gt => k_is)
      (case tk => k_is)
      (case mo => k_is)
      (case ne => k_is)
      (case ty => k_is)
      (case n0 => k_is)
      (case aI => k_is)
      (case iI => k_is)
      (case lI => k_is)
      (case cI => k_is)
      (case kI => k_is)
      (case am0 => k_is)
      (case im0 => k_is)
      (case lm0 => k_is)
      (case cm0 => k_is)
      (case km0 => k_is)
      (case am1 => k_is)
      (case im1 => k_is)
      (case lm1 => k_is)
      (case cm1 => k_is)
      (case km1 => k_is)
      (case am2 => k_is)
      (case im2 => k_is)
      (case lm2 => k_is)
      (case cm2 => k_is)
      (case km2 => k_is)
      (case am3 => k_is)
      (case im3 => k_is)
      (case lm3 => k_is)
      (case cm3 => k_is)
      (case km3 => k_is)
      (case am4 => k_is)
      (case im4 => k_is)
      (case lm4 => k_is)
      (case cm4 => k_is)
      (case km4 => k_is)
      (case am5 => k_is)
      (case im5 => k_is)
      (case lm5 => k_is)
      (case cm5 => k_is)
      (case km5 => k_is)
      (case am6 => k_is)
      (case im6 => k_is)
      (case lm6 => k_is)
      (case cm6 => k_is)
      (case km6 => k_is)
      (case aq0 => k_is)
      (case sq0 => k_is)
      (case tq0 => k_is)
      (case rq0 => k_is)
      (case lq0 => k_is)
      (case cq0 => k_is)
      (case kq0 => k_is)
      (case sf => k_is)
      )
    obtain ⟨CQuestion, TQuestion⟩ := (by
      refine' Nv.question_at KX ?g ?pg ?hd ?po ?sa ?mk ?kc ?cc ?gt ?tk ?mo ?ne ?ty ?n0 ?n1 ?n2 ?aI ?iI ?lI ?cI ?kI ?t ?am0 ?im0 ?lm0 ?cm0 ?km0 ?aq0 ?sq0 ?tq0 ?rq0 ?lq0 ?cq0 ?kq0 ?aq1 ?sq1 ?tq1 ?rq1 ?lq1 ?cq1 ?kq1 ?aq2 ?sq2 ?tq2 ?rq2 ?lq2 ?cq2 ?kq2
      (case g => k_is)
      (case pg => k_is)
      (case hd => k_is)
      (case po => k_is)
      (case sa => k_is)
      (case mk => k_is)
      (case kc => k_is)
      (case cc => k_is)
      (case gt => k_is)
      (case tk => k_is)
      (case mo => k_is)
      (case ne => k_is)
      (case ty => k_is)
      (case n0 => k_is)
      (case n1 => k_is)
      (case n2 => k_is)
      (case aI => k_is)
      (case iI => k_is)
      (case lI => k_is)
      (case cI => k_is)
      (case kI => k_is)
      (case t => k_is)
      (case am0 => k_is)
      (case im0 => k_is)
      (case lm0 => k_is)
      (case cm0 => k_is)
      (case km0 => k_is)
      (case aq0 => k_is)
      (case sq0 => k_is)
      (case tq0 => k_is)
      (case rq0 => k_is)
      (case lq0 => k_is)
      (case cq0 => k_is)
      (case kq0 => k_is)
      (case aq1 => k_is)
      (case sq1 => k_is)
      (case tq1 => k_is)
      (case rq1 => k_is)
      (case lq1 => k_is)
      (case cq1 => k_is)
      (case kq1 => k_is)
      (case aq2 => k_is)
      (case sq2 => k_is)
      (case tq2 => k_is)
      (case rq2 => k_is)
      (case lq2 => k_is)
      (case cq2 => k_is)
      (case kq2 => k_is)
      )
    have d_isName := (by
      refine' Nv.def_at KX (x := "is_name") (st := Nv.sIsName) ?g ?l ?c ?k
      (case g => k_is)
      (case l => k_is)
      (case c => k_is)
      (case k => k_is)
      )
    have d_isVar := (by
      refine' Nv.def_at KX (x := "is_variable") (st := Nv.sIsVar) ?g ?l ?c ?k
      (case g => k_is)
      (case l => k_is)
      (case c => k_is)
      (case k => k_is)
      )
    have d_isTerm := (by
      refine' Nv.def_at KX (x := "is_term") (st := Nv.sIsTerm) ?g ?l ?c ?k
      (case g => k_is)
      (case l => k_is)
      (case c => k_is)
      (case k => k_is)
      )
    have d_isPattern := (by
      refine' Nv.def_at KX (x := "is_pattern") (st := Nv.sIsPattern) ?g ?l ?c ?k
      (case g => k_is)
      (case l => k_is)
      (case c => k_is)
      (case k => k_is)
      )
    have d_isPatterns := (by
      refine' Nv.def_at KX (x := "is_patterns") (st := Nv.sIsPatterns) ?g ?l ?c ?k
      (case g => k_is)
      (case l => k_is)
      (case c => k_is)
      (case k => k_is)
      )
    have d_isPair := (by
      refine' Nv.def_at KX (x := "is_pair") (st := Nv.sIsPair) ?g ?l ?c ?k
      (case g => k_is)
      (case l => k_is)
      (case c => k_is)
      (case k => k_is)
      )
    have d_isPairs := (by
      refine' Nv.def_at KX (x := "is_pairs") (st := Nv.sIsPairs) ?g ?l ?c ?k
      (case g => k_is)
      (case l => k_is)
      (case c => k_is)
      (case k => k_is)
      )
    have d_termsOf := (by
      refine' Nv.def_at KX (x := "terms_of") (st := Nv.sTermsOf) ?g ?l ?c ?k
      (case g => k_is)
      (case l => k_is)
      (case c => k_is)
      (case k => k_is)
      )
    have d_sides := (by
      refine' Nv.def_at KX (x := "sides_of") (st := Nv.sSides) ?g ?l ?c ?k
      (case g => k_is)
      (case l => k_is)
      (case c => k_is)
      (case k => k_is)
      )
    have d_varsAmong := (by
      refine' Nv.def_at KX (x := "variables_among") (st := Nv.sVarsAmong) ?g ?l ?c ?k
      (case g => k_is)
      (case l => k_is)
      (case c => k_is)
      (case k => k_is)
      )
    have d_varsOf := (by
      refine' Nv.def_at KX (x := "variables_of") (st := Nv.sVarsOf) ?g ?l ?c ?k
      (case g => k_is)
      (case l => k_is)
      (case c => k_is)
      (case k => k_is)
      )
    have d_hasMore := (by
      refine' Nv.def_at KX (x := "has_more") (st := Nv.sHasMore) ?g ?l ?c ?k
      (case g => k_is)
      (case l => k_is)
      (case c => k_is)
      (case k => k_is)
      )
    have d_hasDouble := (by
      refine' Nv.def_at KX (x := "_has_double") (st := Nv.sHasDouble) ?g ?l ?c ?k
      (case g => k_is)
      (case l => k_is)
      (case c => k_is)
      (case k => k_is)
      )
    have d_place := (by
      refine' Nv.def_at KX (x := "_place") (st := Nv.sPlace) ?g ?l ?c ?k
      (case g => k_is)
      (case l => k_is)
      (case c => k_is)
      (case k => k_is)
      )
    have d_purse := (by
      refine' Nv.def_at KX (x := "_law_purse") (st := Nv.sPurse) ?g ?l ?c ?k
      (case g => k_is)
      (case l => k_is)
      (case c => k_is)
      (case k => k_is)
      )
    have d_mixed := (by
      refine' Nv.def_at KX (x := "_law_mixed") (st := Nv.sMixed) ?g ?l ?c ?k
      (case g => k_is)
      (case l => k_is)
      (case c => k_is)
      (case k => k_is)
      )
    have d_draw := (by
      refine' Nv.def_at KX (x := "_law_draw") (st := Nv.sDraw) ?g ?l ?c ?k
      (case g => k_is)
      (case l => k_is)
      (case c => k_is)
      (case k => k_is)
      )
    have d_purses := (by
      refine' Nv.def_at KX (x := "_law_purses") (st := Nv.sPurses) ?g ?l ?c ?k
      (case g => k_is)
      (case l => k_is)
      (case c => k_is)
      (case k => k_is)
      )
    have d_oneOf := (by
      refine' Nv.def_at KX (x := "_law_one_of") (st := Nv.sOneOf) ?g ?l ?c ?k
      (case g => k_is)
      (case l => k_is)
      (case c => k_is)
      (case k => k_is)
      )
    have d_shuffled := (by
      refine' Nv.def_at KX (x := "_law_shuffled") (st := Nv.sShuffled) ?g ?l ?c ?k
      (case g => k_is)
      (case l => k_is)
      (case c => k_is)
      (case k => k_is)
      )
    have d_names := (by
      refine' Nv.def_at KX (x := "_law_names") (st := Nv.sNames) ?g ?l ?c ?k
      (case g => k_is)
      (case l => k_is)
      (case c => k_is)
      (case k => k_is)
      )
    have d_kinds := (by
      refine' Nv.def_at KX (x := "_law_kinds") (st := Nv.sKinds) ?g ?l ?c ?k
      (case g => k_is)
      (case l => k_is)
      (case c => k_is)
      (case k => k_is)
      )
    have d_pattern := (by
      refine' Nv.def_at KX (x := "_law_pattern") (st := Nv.sPattern) ?g ?l ?c ?k
      (case g => k_is)
      (case l => k_is)
      (case c => k_is)
      (case k => k_is)
      )
    have d_told := (by
      refine' Nv.def_at KX (x := "_law_told") (st := Nv.sTold) ?g ?l ?c ?k
      (case g => k_is)
      (case l => k_is)
      (case c => k_is)
      (case k => k_is)
      )
    have d_variables := (by
      refine' Nv.def_at KX (x := "_law_variables") (st := Nv.sVariables) ?g ?l ?c ?k
      (case g => k_is)
      (case l => k_is)
      (case c => k_is)
      (case k => k_is)
      )
    have d_pairs := (by
      refine' Nv.def_at KX (x := "_law_pairs") (st := Nv.sPairs) ?g ?l ?c ?k
      (case g => k_is)
      (case l => k_is)
      (case c => k_is)
      (case k => k_is)
      )
    have d_rule := (by
      refine' Nv.def_at KX (x := "_law_rule") (st := Nv.sRule) ?g ?l ?c ?k
      (case g => k_is)
      (case l => k_is)
      (case c => k_is)
      (case k => k_is)
      )
    have d_spoils := (by
      refine' Nv.def_at KX (x := "_law_spoils") (st := Nv.sSpoils) ?g ?l ?c ?k
      (case g => k_is)
      (case l => k_is)
      (case c => k_is)
      (case k => k_is)
      )
    have d_ruleRight := (by
      refine' Nv.def_at KX (x := "_law_rule_right") (st := Nv.sRuleRight) ?g ?l ?c ?k
      (case g => k_is)
      (case l => k_is)
      (case c => k_is)
      (case k => k_is)
      )
    have d_questionRight := (by
      refine' Nv.def_at KX (x := "_law_question_right") (st := Nv.sQuestionRight) ?g ?l ?c ?k
      (case g => k_is)
      (case l => k_is)
      (case c => k_is)
      (case k => k_is)
      )
    have d_bookRight := (by
      refine' Nv.def_at KX (x := "_law_book_right") (st := Nv.sBookRight) ?g ?l ?c ?k
      (case g => k_is)
      (case l => k_is)
      (case c => k_is)
      (case k => k_is)
      )
    have d_law := (by
      refine' Nv.def_at KX (x := "law") (st := Nv.sLaw) ?g ?l ?c ?k
      (case g => k_is)
      (case l => k_is)
      (case c => k_is)
      (case k => k_is)
      )
    exact Nv.law_at KX G hmg TRule TBook TQuestion (by k_is) (by k_is) (by k_is) (by k_is) (by k_is) (by k_is) (by k_is) (by k_is) (by k_is) (by k_is) (by k_is) (by k_is) (by k_is) (by k_is) (by k_is) d_isName d_isVar d_isTerm d_isPattern d_isPatterns d_isPair d_isPairs d_termsOf d_sides d_varsAmong d_varsOf d_hasMore d_hasDouble d_place d_purse d_mixed d_draw d_purses d_oneOf d_shuffled d_names d_kinds d_pattern d_told d_variables d_pairs d_rule d_spoils d_ruleRight d_questionRight d_bookRight d_law
