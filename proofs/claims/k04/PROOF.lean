import PyProof.Rows.All
import Wide.All
import OpenK.AllK
import Wide.FinOn
import HandS.ForMost
import HandS.Wide
import HandS.More
import HandS.Conv
import HandS.Flow
import HandS.WideBits
import HandS.Defaults
import HandS.Property
import HandS.IsInst
import HandS.Walk
import KE.KStrOpen
import HandS.Strs
import HandS.Text
import HandS.TupSets
import HandS.Star
import HandS.OwnEq
import KE.SortData
import KE.SortLaws
import HandS.Deep
import KE.KExcIs
import HandS.ExcInit
import HandS.ExcValue
import HandS.Zip
import PySem.Challenge.RW_neverapart_k04_whole_texts_read_back
set_option Elab.async false
set_option linter.all false
set_option maxRecDepth 100000
set_option maxHeartbeats 8000000
set_option maxHeartbeats 4000000
namespace Nv
open PySem PySem.Spec PyProof.Rows L2
def top (i : Nat) : Stmt := PySem.Challenge.pw_neverapart_k04_whole_texts_read_back.main.body.getD i (.Pass ⟨0, 0, 0, 0⟩)
abbrev sIsName : Stmt := top 10
abbrev sIsVar : Stmt := top 11
abbrev sIsTerm : Stmt := top 12
abbrev sIsFact : Stmt := top 13
abbrev sIsPattern : Stmt := top 14
abbrev sIsStore : Stmt := top 15
abbrev sIsPatterns : Stmt := top 16
abbrev sIsPair : Stmt := top 17
abbrev sIsPairs : Stmt := top 18
abbrev sTermsOf : Stmt := top 19
abbrev sSides : Stmt := top 20
abbrev sVarsAmong : Stmt := top 21
abbrev sVarsOf : Stmt := top 22
abbrev sHasMore : Stmt := top 23
abbrev cRule : Stmt := top 25
abbrev cBook : Stmt := top 26
abbrev sHasDouble : Stmt := top 27
abbrev sPlace : Stmt := top 28
abbrev sNeedFact : Stmt := top 30
abbrev sNeedStore : Stmt := top 31
abbrev sPurse : Stmt := top 52
abbrev sMixed : Stmt := top 53
abbrev sDraw : Stmt := top 54
abbrev sPurses : Stmt := top 55
abbrev sOneOf : Stmt := top 56
abbrev sShuffled : Stmt := top 57
abbrev sNames : Stmt := top 58
abbrev sKinds : Stmt := top 59
abbrev sFact : Stmt := top 60
abbrev sStore : Stmt := top 61
abbrev sPattern : Stmt := top 62
abbrev sTold : Stmt := top 63
abbrev sVariables : Stmt := top 64
abbrev sPairs : Stmt := top 65
abbrev sRule : Stmt := top 66
abbrev sLaw : Stmt := top 72
abbrev cNever : Stmt := top 2
abbrev cIF : Stmt := top 3
abbrev cIS : Stmt := top 4
abbrev cIR : Stmt := top 5
abbrev cIB : Stmt := top 6
abbrev cUN : Stmt := top 8
abbrev cIT : Stmt := top 7
abbrev sNeedRule : Stmt := top 32
abbrev sNeedBook : Stmt := top 33
abbrev sFactText : Stmt := top 35
abbrev sRuleText : Stmt := top 36
abbrev sBookText : Stmt := top 37
abbrev sStoreText : Stmt := top 38
abbrev sReadFact : Stmt := top 39
abbrev sReadRule : Stmt := top 40
abbrev sReadBook : Stmt := top 41
abbrev sReadStore : Stmt := top 42
abbrev sPatternText : Stmt := top 43
abbrev sPatternIn : Stmt := top 44
abbrev sConditionsText : Stmt := top 45
abbrev sConditionsIn : Stmt := top 46
abbrev sLinesOf : Stmt := top 47
abbrev sUnbracketed : Stmt := top 48
abbrev sFactIn : Stmt := top 49
abbrev sRuleIn : Stmt := top 50
abbrev sAnyRule : Stmt := top 67
abbrev sAnyBook : Stmt := top 68
abbrev sLPatternText : Stmt := top 69
abbrev sLRuleText : Stmt := top 70
abbrev sOddWordsRight : Stmt := top 71
end Nv
set_option maxHeartbeats 4000000
namespace Nv
open PySem PySem.Spec PyProof.Rows L2
/-- all that was tracked is as it was, but the object at a -/
def Sb (a : Addr) (H H' : Hp) : Prop := ∀ b o, b ≠ a → H b = some o → H' b = some o
section
variable {a : Addr} {H H1 H2 : Hp}
theorem Sb.refl (a : Addr) (H : Hp) : Sb a H H := fun _ _ _ e => e
theorem Sb.trans (x : Sb a H H1) (y : Sb a H1 H2) : Sb a H H2 := fun b o n e => y b o n (x b o n e)
theorem Sb.of (x : Same H H1) : Sb a H H1 := fun b o _ e => x b o e
theorem Sb.then (x : Sb a H H1) (y : Same H1 H2) : Sb a H H2 := x.trans (Sb.of y)
theorem Sb.upd {o : HO} : Sb a H (upd H a o) := fun b u n e => by
  rw [upd_ne n]
  exact e
theorem Sb.new {p : Addr} {o : HO} (h : H p = none) : Sb a H (L2.upd H p o) := fun b u n e => by
  rw [upd_ne (ne_of_none e h)]
  exact e
theorem Sb.put {p : Addr} {o : HO} (x : Sb a H H1) (h : H p = none) : Sb a H (L2.upd H1 p o) := fun b u n e => by
  rw [upd_ne (ne_of_none e h)]
  exact x b u n e
theorem same_new {p : Addr} {o : HO} (h : H p = none) : Same H (L2.upd H p o) := fun b u e => by
  rw [upd_ne (ne_of_none e h)]
  exact e
theorem same_put {p : Addr} {o : HO} (x : Same H H1) (h : H p = none) : Same H (L2.upd H1 p o) := fun b u e => by
  rw [upd_ne (ne_of_none e h)]
  exact x b u e
theorem Sb.seq {K : PySem.W.Frag} {b : Addr} {xs : List V} (x : Sb a H H1) (n : b ≠ a) (h : SqL K H b xs) : SqL K H1 b xs := by
  rcases h with (h | ⟨o, h⟩) | h
  · exact .inl (.inl (x _ _ n h))
  · exact .inl (.inr ⟨o, x _ _ n h⟩)
  · exact .inr h
end
/-- a purse at a: n draws at least are still to be had from it -/
structure Pu (H : Hp) (a : Addr) (n : Nat) : Prop where
  ex : ∃ s d t k : Int, H a = some (.lst [.int s, .int d, .int t, .int k]) ∧ 0 ≤ s ∧ 0 ≤ d ∧ d < 2147483629 ∧ 0 ≤ t ∧ t + n ≤ 1099511627776 ∧ 0 ≤ k ∧ k ≤ 100
section
variable {a : Addr} {H H1 H2 : Hp} {n m : Nat}
theorem Pu.le (p : Pu H a n) (h : m ≤ n) : Pu H a m := by
  obtain ⟨s, d, t, k, e, h1, h2, h3, h4, h5, h6, h7⟩ := p.ex
  exact ⟨s, d, t, k, e, h1, h2, h3, h4, by omega, h6, h7⟩
theorem Pu.some (p : Pu H a n) : ∃ o, H a = some o := by
  obtain ⟨s, d, t, k, e, _⟩ := p.ex
  exact ⟨_, e⟩
theorem Pu.ne (p : Pu H a n) {q : Addr} (h : H q = none) : q ≠ a := fun z => by
  obtain ⟨o, e⟩ := p.some
  rw [z, e] at h
  cases h
theorem Pu.same (p : Pu H a n) (x : Same H H1) : Pu H1 a n := by
  obtain ⟨s, d, t, k, e, h1, h2, h3, h4, h5, h6, h7⟩ := p.ex
  exact ⟨s, d, t, k, x _ _ e, h1, h2, h3, h4, h5, h6, h7⟩
theorem Pu.put (p : Pu H a n) {q : Addr} {o : HO} (h : q ≠ a) : Pu (upd H q o) a n := by
  obtain ⟨s, d, t, k, e, h1, h2, h3, h4, h5, h6, h7⟩ := p.ex
  exact ⟨s, d, t, k, by rw [upd_ne (Ne.symm h)]; exact e, h1, h2, h3, h4, h5, h6, h7⟩
theorem Sb.free (x : Sb a H H1) (p : Pu H1 a n) {q : Addr} (h : H1 q = none) : H q = none := by
  have hn := p.ne h
  cases e : H q with
  | none => rfl
  | some o =>
    rw [x _ _ hn e] at h
    cases h
end
section
variable {P : Program} {w : World} {K : PySem.W.Frag} {mg : Str → Option Value} {base : Heap}
/-- _law_mixed(seed, turn, at) -/
def spMixed : Sp := fun vs H Q _ => ∃ d t k : Int, vs = [.int d, .int t, .int k] ∧ (0 ≤ d ∧ d < 2147483629) ∧ (0 ≤ t ∧ t ≤ 1099511627776) ∧ (0 ≤ k ∧ k ≤ 100) ∧ ∀ r : Int, 0 ≤ r → Q (.int r) H
theorem scMixed : FnScope ["_law_seed", "_law_turn", "_law_at", "_law_mixed_here"] ["_law_seed", "_law_turn", "_law_at"] (defScope sMixed) := ⟨rfl, rfl, rfl, by decide +kernel, rfl, by decide +kernel, by decide +kernel⟩
theorem ok_mixed {f : Addr} {fd : FuncData} (F : Fun K "_law_mixed" "_law_mixed" sMixed f fd) : FnOk P w K mg base CX0 1 f fd ["_law_seed", "_law_turn", "_law_at"] spMixed := by
  refine F.ok scMixed (fun vs H Q E h => ?_) (fun cdv A outer s H vs Q E hr h => ?_)
  · obtain ⟨d, t, k, rfl, _⟩ := h
    rfl
  · obtain ⟨d, t, k, rfl, hd, ht, hk, q⟩ := h
    refine ⟨_, pss_cons (ps_set (i := 3) scMixed.nd rfl (Or.inl rfl) (pe_op op_add (pe_op op_mul (pv 0) pe_int) (pe_op op_mul (pe_op op_mul pe_int (pv 1)) (pv 1))))
      (pss_cons (ps_set (i := 3) scMixed.nd rfl (Or.inl rfl) (pe_op op_mod (pe_op op_add (pe_op op_add (pv 3) (pe_op op_mul pe_int (pv 2))) (pv 1)) pe_int))
      (pss_cons (ps_set (i := 3) scMixed.nd rfl (Or.inl rfl) (pe_op op_mod (pe_op op_add (pe_op op_mul (pv 3) (pv 3)) pe_int) pe_int))
      (pss_one (ps_ret (pe_op op_mod (pe_op op_mul (pv 3) pe_int) pe_int))))), ?_⟩
    refine ⟨_, rfl, _, _, rfl, rfl, .inl ⟨by omega, by omega⟩, _, rfl, _, _, rfl, rfl, .inl ⟨by omega, by omega⟩, _, rfl, _, _, rfl, rfl, .inr ⟨by omega, by omega⟩, _, _, rfl, rfl, ?_⟩
    generalize d * 69069 + 104729 * t * t = z
    refine ⟨_, rfl, _, rfl, _, _, rfl, rfl, .inl ⟨by omega, by omega⟩, _, _, rfl, rfl, _, rfl, _, _, rfl, rfl, _, _, rfl, rfl, (by show (0 : Int) < 2147483647; decide), ?_⟩
    have h1 := Int.emod_nonneg (z + 7919 * k + t) (by decide : (2147483647 : Int) ≠ 0)
    have h2 := Int.emod_lt_of_pos (z + 7919 * k + t) (by decide : (0 : Int) < 2147483647)
    generalize (z + 7919 * k + t) % 2147483647 = z2 at h1 h2 ⊢
    refine ⟨_, rfl, _, rfl, _, _, rfl, rfl, .inl ⟨by omega, by omega⟩, _, _, rfl, rfl, _, _, rfl, rfl, (by show (0 : Int) < 2147483629; decide), ?_⟩
    have h3 := Int.emod_nonneg (z2 * z2 + 40503) (by decide : (2147483629 : Int) ≠ 0)
    have h4 := Int.emod_lt_of_pos (z2 * z2 + 40503) (by decide : (0 : Int) < 2147483629)
    generalize (z2 * z2 + 40503) % 2147483629 = z3 at h3 h4 ⊢
    refine ⟨_, rfl, _, _, rfl, rfl, .inl ⟨by omega, by omega⟩, _, _, rfl, rfl, (by show (0 : Int) < 2147483587; decide), ?_⟩
    exact q _ (Int.emod_nonneg _ (by decide))
/-- _law_draw(purse, many) -/
def spDraw : Sp := fun vs H Q _ => ∃ (a : Addr) (n : Nat) (m : Int), vs = [.ref a, .int m] ∧ Pu H a (n + 1) ∧ (1 ≤ m ∧ m < 134217728) ∧ ∀ (r : Int) (H' : Hp), 0 ≤ r → r < m → Pu H' a n → Sb a H H' → Q (.int r) H'
theorem scDraw : FnScope ["_law_purse_here", "_law_many", "_law_drawn", "_law_found", "_law_piece"] ["_law_purse_here", "_law_many"] (defScope sDraw) := ⟨rfl, rfl, rfl, by decide +kernel, rfl, by decide +kernel, by decide +kernel⟩
theorem bits27 {m : Int} (h0 : 1 ≤ m) (h : m < 134217728) : 1 + ((Builtin.Int.intBits m : Nat) : Int) / 28 = 1 := by
  have z : Builtin.Int.intBits m ≤ 27 := PyProof.Rows.intBits_le (by
    have e : (2 : Nat) ^ 27 = 134217728 := by decide
    omega)
  omega
theorem ok_draw {f fM : Addr} {fd fdM : FuncData} (F : Fun K "_law_draw" "_law_draw" sDraw f fd) (FM : Fun K "_law_mixed" "_law_mixed" sMixed fM fdM) (gM : mg "_law_mixed" = some (.ref fM)) (bM : Binds K fdM ["_law_seed", "_law_turn", "_law_at"] []) (rg : mg "range" = none) :
    FnOk P w K mg base CX0 2 f fd ["_law_purse_here", "_law_many"] spDraw := by
  have GM : FnOk P w K mg base CX0 1 fM fdM ["_law_seed", "_law_turn", "_law_at"] spMixed := ok_mixed FM
  refine F.ok scDraw (fun vs H Q E h => ?_) (fun cdv A outer s H vs Q E hr h => ?_)
  · obtain ⟨a, n, m, rfl, _⟩ := h
    rfl
  · obtain ⟨a, n, m, rfl, pu, hm, q⟩ := h
    obtain ⟨s, d, t, k, e, h1, h2, h3, h4, h5, h6, h7⟩ := pu.ex
    refine ⟨_, pss_cons (ps_if (pt_cmpR op_gt (pe_ix ix_list (pv 0) pe_int (fun _ _ => rfl)) pe_int (nomark _))
        (pss_cons (ps_set (i := 2) scDraw.nd rfl (Or.inl rfl) (pe_op op_mod (pe_ix ix_list (pv 0) pe_int (fun _ _ => rfl)) (pv 1)))
        (pss_cons (ps_asg (pe_op op_fdiv (pe_ix ix_list (pv 0) pe_int (fun _ _ => rfl)) (pv 1)) (pg_sub (pv 0) pe_int set_list))
        (pss_one (ps_ret (pv 2))))) pss_nil)
      (pss_cons (ps_set (i := 3) scDraw.nd rfl (Or.inl rfl) pe_int)
      (pss_cons (ps_for PassesOwn.never rfl (pi_range1 (by rfl) rg (pa_cons (pe_op op_add pe_int (pe_op op_fdiv (pe_bits (pv 1)) pe_int)) pa_nil)) (pg_name (i := 4) scDraw.nd rfl (Or.inl rfl))
        (pss_cons (ps_asg (pe_op op_add (pe_ix ix_list (pv 0) pe_int (fun _ _ => rfl)) pe_int) (pg_sub (pv 0) pe_int set_list))
        (pss_one (ps_set (i := 3) scDraw.nd rfl (Or.inl rfl) (pe_op op_add (pe_op op_mul (pv 3) pe_int)
          (by exact (pe_call GM hr (by rfl) gM FM.kp bM .nil pass0 (pa_cons (pe_ix ix_list (pv 0) pe_int (fun _ _ => rfl)) (pa_cons (pe_ix ix_list (pv 0) pe_int (fun _ _ => rfl)) (pa_cons (pe_ix ix_list (pv 0) pe_int (fun _ _ => rfl)) pa_nil)))))))))) 
      (pss_one (ps_ret (pe_op op_mod (pv 3) (pv 1)))))), ?_⟩
    refine ⟨_, rfl, a, _, _, _, rfl, rfl, SqL.of e, atI_nat (j := 0) rfl, _, _, rfl, rfl, _, rfl, ?_⟩
    refine ite2 (fun hc => ?_) (fun hc => ?_)
    · refine ⟨_, rfl, a, _, _, _, rfl, rfl, SqL.of e, atI_nat (j := 0) rfl, _, rfl, _, _, rfl, rfl, (by show (0 : Int) < m; omega), ?_⟩
      refine ⟨_, rfl, a, _, _, _, rfl, rfl, SqL.of e, atI_nat (j := 0) rfl, _, rfl, _, _, rfl, rfl, ⟨by omega, by omega⟩, ?_⟩
      refine ⟨_, rfl, a, _, _, 0, rfl, rfl, e, rfl, _, rfl, ?_⟩
      exact q _ _ (Int.emod_nonneg _ (by omega)) (Int.emod_lt_of_pos _ (by omega)) ⟨_, _, _, _, upd_same, Int.ediv_nonneg h1 (by omega), h2, h3, h4, by omega, h6, h7⟩ Sb.upd
    · refine ⟨_, rfl, _, rfl, _, _, rfl, rfl, ⟨by decide, by decide⟩, _, _, rfl, rfl, 1, congrArg (fun z => [V.int z]) (bits27 hm.1 hm.2), by decide, by decide, ?_⟩
      refine for_range (lo := 0) (n := 1) (fun i σ H' => (i = 0 ∧ H' = H ∧ σ = [some (.ref a), some (.int m), none, some (.int 0), none]) ∨ (i = 1 ∧ ∃ r : Int, ∃ o4, 0 ≤ r ∧ σ = [some (.ref a), some (.int m), none, some (.int r), o4] ∧ Pu H' a n ∧ Sb a H H')) (.inl ⟨rfl, rfl, rfl⟩) ?_ ?_
      · rintro i σ H' hi (⟨rfl, rfl, rfl⟩ | ⟨rfl, _⟩)
        · refine ⟨_, rfl, a, _, _, _, rfl, rfl, SqL.of e, atI_nat (j := 2) rfl, _, _, rfl, rfl, _, rfl, a, _, _, 2, rfl, rfl, e, rfl, ?_⟩
          generalize hH : upd H' a (.lst ([V.int s, .int d, .int t, .int k].set 2 (.int (t + 1)))) = G
          have eG : G a = some (.lst [V.int s, .int d, .int (t + 1), .int k]) := by rw [← hH]; exact upd_same
          have sG : Sb a H' G := by rw [← hH]; exact Sb.upd
          refine ⟨_, rfl, _, _, rfl, rfl, .inr ⟨by decide, by decide⟩, ?_⟩
          refine ⟨_, rfl, a, _, _, _, rfl, rfl, SqL.of eG, atI_nat (j := 1) rfl, _, rfl, a, _, _, _, rfl, rfl, SqL.of eG, atI_nat (j := 2) rfl, _, rfl, a, _, _, _, rfl, rfl, SqL.of eG, atI_nat (j := 3) rfl, ?_⟩
          refine ⟨d, t + 1, k, rfl, ⟨h2, h3⟩, ⟨by omega, by omega⟩, ⟨h6, h7⟩, fun r hr0 => ?_⟩
          refine ⟨_, _, rfl, rfl, .inr ⟨rfl, _, _, ?_, rfl, ⟨_, _, _, _, eG, h1, h2, h3, by omega, by omega, h6, h7⟩, sG⟩⟩
          omega
        · exact absurd hi (by decide)
      · rintro σ H' (⟨h, _⟩ | ⟨_, r, o4, hr0, rfl, pu', sb⟩)
        · cases h
        · refine ⟨_, rfl, _, rfl, _, _, rfl, rfl, (by show (0 : Int) < m; omega), ?_⟩
          exact q _ _ (Int.emod_nonneg _ (by omega)) (Int.emod_lt_of_pos _ (by omega)) pu' sb
end
end Nv
set_option maxHeartbeats 4000000
namespace Nv
open PySem PySem.Spec PyProof.Rows L2
/-- the built-ins that the text calls are the built-ins still -/
structure Bl (mg : Str → Option Value) : Prop where
  rg : mg "range" = none
  len : mg "len" = none
  sum : mg "sum" = none
  max : mg "max" = none
  min : mg "min" = none
  int : mg "int" = none
  tup : mg "tuple" = none
theorem bootSum : bootBuiltins "sum" = some (.builtin "sum") := by decide +kernel
theorem bootMax : bootBuiltins "max" = some (.builtin "max") := by decide +kernel
theorem bootMin : bootBuiltins "min" = some (.builtin "min") := by decide +kernel
/-- ** of ints of any size -/
def CPowW (i j : Int) : Prop := 0 ≤ j ∧ (Builtin.Int.intBits i : Int) * j ≤ 2 ^ 27
theorem op_powW {X : Cx} : OpR X (binaryOp .Pow) (rI CPowW fun i j => .int (i ^ j.toNat)) := opI fun _ _ _ _ _ _ _ hc q => pow_int hc.1 hc.2 q
section
variable {P : Program} {w : World} {K : PySem.W.Frag} {mg : Str → Option Value} {base : Heap}
/-- _law_one_of(purse, some) -/
def spOneOf (K : PySem.W.Frag) : Sp := fun vs H Q _ => ∃ (a b : Addr) (n : Nat) (xs : List V), vs = [.ref a, .ref b] ∧ Pu H a (n + 1) ∧ SqL K H b xs ∧ b ≠ a ∧ (1 ≤ xs.length ∧ xs.length ≤ 1000) ∧
  ∀ (v : V) (H' : Hp), v ∈ xs → Pu H' a n → Sb a H H' → Q v H'
theorem scOneOf : FnScope ["_law_purse_here", "_law_some"] ["_law_purse_here", "_law_some"] (defScope sOneOf) := ⟨rfl, rfl, rfl, by decide +kernel, rfl, by decide +kernel, by decide +kernel⟩
theorem ok_oneOf {f fD : Addr} {fd fdD : FuncData} (F : Fun K "_law_one_of" "_law_one_of" sOneOf f fd) (GD : FnOk P w K mg base CX0 2 fD fdD ["_law_purse_here", "_law_many"] spDraw) (kD : PySem.W.keepIn K (.ref fD) = true) (gD : mg "_law_draw" = some (.ref fD)) (bD : Binds K fdD ["_law_purse_here", "_law_many"] []) (B : Bl mg) :
    FnOk P w K mg base CX0 3 f fd ["_law_purse_here", "_law_some"] (spOneOf K) := by
  refine F.ok scOneOf (fun vs H Q E h => ?_) (fun cdv A outer s H vs Q E hr h => ?_)
  · obtain ⟨a, b, n, xs, rfl, _⟩ := h
    rfl
  · obtain ⟨a, b, n, xs, rfl, pu, hb, hn, hl, q⟩ := h
    refine ⟨_, pss_one (ps_ret (pe_ix ix_list (pv 1) (by exact (pe_call GD hr (by rfl) gD kD bD .nil pass0 (pa_cons (pv 0) (pa_cons (pe_callB call_len_seq (by rfl) B.len PySem.boot_len (pa_cons (pv 1) pa_nil)) pa_nil)))) (fun _ _ => rfl))), ?_⟩
    refine ⟨_, rfl, _, rfl, _, rfl, b, xs, rfl, .inl hb, ?_⟩
    refine ⟨a, n, _, rfl, pu, ⟨by omega, by omega⟩, fun r H' h0 h1 pu' sb => ?_⟩
    obtain ⟨j, rfl⟩ : ∃ j : Nat, r = (j : Int) := ⟨r.toNat, by omega⟩
    have hj : j < xs.length := by omega
    refine ⟨b, xs, _, xs[j], rfl, rfl, sb.seq hn hb, atI_nat (List.getElem?_eq_getElem hj), ?_⟩
    exact q _ _ (List.getElem_mem hj) pu' sb
/-- _law_shuffled(purse, some) -/
def spShuffled (K : PySem.W.Frag) : Sp := fun vs H Q _ => ∃ (a b : Addr) (n : Nat) (xs : List V), vs = [.ref a, .ref b] ∧ Pu H a (n + xs.length) ∧ SqL K H b xs ∧ b ≠ a ∧ xs.length ≤ 1000 ∧
  ∀ (p : Addr) (ys : List V) (H' : Hp), ys.Perm xs → H p = none → Pu H' a n → Sb a H H' → H' p = some (.lst ys) → Q (.ref p) H'
theorem scShuffled : FnScope ["_law_purse_here", "_law_some", "_law_found", "_law_item"] ["_law_purse_here", "_law_some"] (defScope sShuffled) := ⟨rfl, rfl, rfl, by decide +kernel, rfl, by decide +kernel, by decide +kernel⟩
theorem perm_ins {α : Type} {ys zs : List α} {x : α} (j : Nat) (h : ys.Perm zs) : (ys.take j ++ [x] ++ ys.drop j).Perm (zs ++ [x]) := by
  have e : (ys.take j ++ [x] ++ ys.drop j).Perm (x :: ys) := by
    rw [List.append_assoc]
    refine (List.perm_append_comm).trans ?_
    show (x :: (ys.drop j ++ ys.take j)).Perm _
    refine List.Perm.cons _ ((List.perm_append_comm).trans ?_)
    rw [List.take_append_drop]
  refine e.trans ((List.Perm.cons _ h).trans ?_)
  exact (List.perm_append_comm (l₁ := [x]) (l₂ := zs))
theorem ok_shuffled {f fD : Addr} {fd fdD : FuncData} (F : Fun K "_law_shuffled" "_law_shuffled" sShuffled f fd) (GD : FnOk P w K mg base CX0 2 fD fdD ["_law_purse_here", "_law_many"] spDraw) (kD : PySem.W.keepIn K (.ref fD) = true) (gD : mg "_law_draw" = some (.ref fD)) (bD : Binds K fdD ["_law_purse_here", "_law_many"] []) (B : Bl mg) :
    FnOk P w K mg base CX0 3 f fd ["_law_purse_here", "_law_some"] (spShuffled K) := by
  refine F.ok scShuffled (fun vs H Q E h => ?_) (fun cdv A outer s H vs Q E hr h => ?_)
  · obtain ⟨a, b, n, xs, rfl, _⟩ := h
    rfl
  · obtain ⟨a, b, n, xs, rfl, pu, hb, hn, hl, q⟩ := h
    refine ⟨_, pss_cons (ps_set (i := 2) scShuffled.nd rfl (Or.inl rfl) (pe_lst pa_nil))
      (pss_cons (ps_for PassesOwn.never rfl (pi_list (pv 1)) (pg_name (i := 3) scShuffled.nd rfl (Or.inl rfl))
        (pss_one (ps_expr (pe_bm PySem.F.plainAttrs_list PySem.F.slot_list_insert PySem.F.type_list_insert mt_insert (pv 2)
          (pa_cons (by exact (pe_call GD hr (by rfl) gD kD bD .nil pass0 (pa_cons (pv 0) (pa_cons (pe_op op_add (pe_callB call_len_seq (by rfl) B.len PySem.boot_len (pa_cons (pv 2) pa_nil)) pe_int) pa_nil)))) (pa_cons (pv 3) pa_nil))))))
      (pss_one (ps_ret (pv 2)))), ?_⟩
    refine ⟨by decide, fun p np => ?_⟩
    have hpa : p ≠ a := pu.ne np
    refine ⟨_, rfl, b, rfl, ⟨_, (Sb.new (a := a) np).seq hn hb⟩, for_list (K := K) (a := b) (xs := xs) (fun i σ H' => ∃ ys o3, σ = [some (.ref a), some (.ref b), some (.ref p), o3] ∧ ys.Perm (xs.take i) ∧ Pu H' a (n + (xs.length - i)) ∧ Sb a H H' ∧ H' p = some (.lst ys))
      ⟨[], none, rfl, by simp, pu.put hpa, Sb.new np, upd_same⟩ (fun i σ H' _ z => ?_) ?_ ?_⟩
    · obtain ⟨ys, o3, _, _, _, sb, _⟩ := z
      exact sb.seq hn hb
    · rintro i x σ H' hi ⟨ys, o3, rfl, pm, pu', sb, e⟩
      have hil : i < xs.length := by
        rcases Nat.lt_or_ge i xs.length with h | h
        · exact h
        · rw [List.getElem?_eq_none h] at hi
          cases hi
      have hyl : ys.length = i := by
        rw [pm.length_eq, List.length_take]
        omega
      refine ⟨_, rfl, .inl ⟨rfl, _, SqL.of e⟩, _, rfl, _, rfl, p, ys, rfl, .inl (SqL.of e), _, _, rfl, rfl, ?_⟩
      refine ⟨a, n + (xs.length - (i + 1)), _, rfl, pu'.le (by omega), ⟨by omega, by omega⟩, fun r H2 h0 h1 pu2 sb2 => ?_⟩
      have e2 : H2 p = some (.lst ys) := sb2 _ _ hpa e
      refine ⟨_, rfl, p, ys, _, _, rfl, rfl, e2, small1000 (by omega), h0, by omega, ?_⟩
      refine ⟨_, _, rfl, ?_, pu2.put hpa, ?_, upd_same⟩
      · have ex : xs.take (i + 1) = xs.take i ++ [x] := by
          rw [List.take_add_one, hi] <;> rfl
        rw [ex]
        exact perm_ins _ pm
      · exact (sb.trans sb2).put np
    · rintro σ H' ⟨ys, o3, rfl, pm, pu', sb, e⟩
      rw [List.take_length] at pm
      exact ⟨_, rfl, q p ys H' pm np (pu'.le (by omega)) sb e⟩
/-- _law_purse(script, at) -/
def spPurse (K : PySem.W.Frag) : Sp := fun vs H Q _ => ∃ (a : Addr) (xs : List Int) (k : Nat), vs = [.ref a, .int (k : Int)] ∧ SqL K H a (xs.map V.int) ∧ k ≤ 100 ∧
  ∀ (p : Addr) (H' : Hp), H p = none → Pu H' p 1099511627776 → Same H H' → Q (.ref p) H'
theorem scPurse : FnScope ["_law_script", "_law_at", "_law_seed"] ["_law_script", "_law_at"] (defScope sPurse) := ⟨rfl, rfl, rfl, by decide +kernel, rfl, by decide +kernel, by decide +kernel⟩
theorem ok_purse {f : Addr} {fd : FuncData} (F : Fun K "_law_purse" "_law_purse" sPurse f fd) (B : Bl mg) : FnOk P w K mg base CX0 1 f fd ["_law_script", "_law_at"] (spPurse K) := by
  refine F.ok scPurse (fun vs H Q E h => ?_) (fun cdv A outer s H vs Q E hr h => ?_)
  · obtain ⟨a, xs, k, rfl, _⟩ := h
    rfl
  · obtain ⟨a, xs, k, rfl, ha, hk, q⟩ := h
    refine ⟨_, pss_cons (ps_set (i := 2) scPurse.nd rfl (Or.inl rfl) (pe_callB (cr_sum rfl) (by rfl) B.sum bootSum (pa_cons (pe_slice sl_list (pv 0) (po_some (pv 1)) (po_some (pe_op op_add (pv 1) pe_int))) pa_nil)))
      (pss_one (ps_ret (pe_lst (pa_cons (pe_op op_mod (pe_callB (call_max2 rfl) (by rfl) B.max bootMax (pa_cons (pe_op op_sub (pv 2) (pe_op op_pow pe_int pe_int)) (pa_cons pe_int pa_nil))) (pe_op op_powW (pe_op op_pow pe_int pe_int) pe_int))
        (pa_cons (pe_op op_mod (pv 2) pe_int) (pa_cons pe_int (pa_cons (pv 1) pa_nil))))))), ?_⟩
    refine ⟨_, rfl, _, rfl, _, rfl, _, rfl, _, _, rfl, rfl, _, rfl, a, _, rfl, ha, fun p np => ?_⟩
    have hc : cutV (xs.map V.int) (some (k : Int)) (some ((k : Int) + 1)) = ((xs.drop (HT.sIx xs.length 0 (some (k : Int)))).take (HT.sIx xs.length xs.length (some ((k : Int) + 1)) - HT.sIx xs.length 0 (some (k : Int)))).map V.int := by
      unfold cutV
      rw [List.length_map, List.map_take, List.map_drop]
    refine ⟨p, _, rfl, SqL.of (by rw [upd_same, hc]), ?_⟩
    generalize hz : (((xs.drop (HT.sIx xs.length 0 (some (k : Int)))).take (HT.sIx xs.length xs.length (some ((k : Int) + 1)) - HT.sIx xs.length 0 (some (k : Int))))).sum = z
    have s1 : Same H (upd H p (.lst (cutV (xs.map V.int) (some (k : Int)) (some ((k : Int) + 1))))) := same_new np
    generalize upd H p (.lst (cutV (xs.map V.int) (some (k : Int)) (some ((k : Int) + 1)))) = H1 at s1 ⊢
    refine ⟨_, rfl, _, _, rfl, rfl, ⟨by decide, by decide, by decide⟩, _, _, rfl, rfl, _, _, rfl, _, _, rfl, rfl, ⟨by decide, by decide, by decide⟩, _, _, rfl, rfl, ⟨by decide, by decide +kernel⟩, _, _, rfl, rfl, (by show (0 : Int) < _; decide +kernel), ?_⟩
    refine ⟨_, rfl, _, _, rfl, rfl, (by show (0 : Int) < 2147483629; decide), _, rfl, (by show 4 ≤ sizeLine; decide), fun p2 np2 => ?_⟩
    have s2 := s1.free np2
    refine q p2 _ s2 ⟨_, _, _, _, upd_same, Int.emod_nonneg _ (by decide +kernel), Int.emod_nonneg _ (by decide), Int.emod_lt_of_pos _ (by decide), by omega, by omega, by omega, by omega⟩ (same_put s1 s2)
end
end Nv
set_option maxHeartbeats 4000000
namespace Nv
open PySem PySem.Spec PyProof.Rows L2
/-- a name, a variable, a term -/
def IsNm (z : Str) : Prop := 1 ≤ z.length ∧ z.length ≤ 10 ∧ ∀ c ∈ z.cps.toList, 97 ≤ c ∧ c ≤ 122
def IsVr (z : Str) : Prop := 1 ≤ z.length ∧ z.length ≤ 3 ∧ ∀ c ∈ z.cps.toList, 65 ≤ c ∧ c ≤ 90
instance (z : Str) : Decidable (IsNm z) := by unfold IsNm; exact inferInstance
instance (z : Str) : Decidable (IsVr z) := by unfold IsVr; exact inferInstance
theorem flat_strs (xs : List Str) : (xs.map V.str).all flatV = true := by
  rw [List.all_eq_true]
  intro x hx
  obtain ⟨z, _, rfl⟩ := List.mem_map.mp hx
  rfl
theorem inV_strs (z : Str) (xs : List Str) : inV (.str z) (xs.map V.str) = decide (z ∈ xs) := by
  unfold inV
  rw [List.any_map]
  by_cases h : z ∈ xs
  · rw [decide_eq_true h, List.any_eq_true]
    exact ⟨z, h, by show (z == z) = true; exact beq_self_eq_true z⟩
  · rw [decide_eq_false h, List.any_eq_false]
    intro y hy
    show ¬ (y == z) = true
    intro e
    exact h (by rw [← eq_of_beq e]; exact hy)
theorem lett : ∀ j : Nat, j < 26 → atI (("abcdefghijklmnopqrstuvwxyz" : Str).cps.toList) (j : Int) = some (97 + j) := by decide +kernel
theorem perm_map_inv {α β : Type} {f : α → β} (hf : ∀ x y, f x = f y → x = y) {ws : List β} {xs : List α} (h : ws.Perm (xs.map f)) : ∃ us : List α, ws = us.map f ∧ us.Perm xs := by
  generalize hz : xs.map f = zs at h
  induction h generalizing xs with
  | nil =>
    cases xs with
    | nil => exact ⟨[], rfl, .nil⟩
    | cons x xs => cases hz
  | cons y h ih =>
    cases xs with
    | nil => cases hz
    | cons x xs =>
      injection hz with h1 h2
      obtain ⟨us, e, p⟩ := ih h2
      exact ⟨x :: us, by rw [e, ← h1] <;> rfl, .cons _ p⟩
  | swap x y l =>
    match xs, hz with
    | x1 :: x2 :: xs, hz =>
      injection hz with h1 h2
      injection h2 with h2 h3
      exact ⟨x2 :: x1 :: xs, by rw [← h1, ← h2, ← h3] <;> rfl, .swap _ _ _⟩
  | trans h1 h2 ih1 ih2 =>
    obtain ⟨us, e, p⟩ := ih2 hz
    obtain ⟨vs, e2, p2⟩ := ih1 e.symm
    exact ⟨vs, e2, p2.trans p⟩
theorem str_len_add (x y : Str) : (x ++ y).length = x.length + y.length := by
  show (x.cps ++ y.cps).size = _
  rw [Array.size_append] <;> rfl
theorem str_cps_add (x y : Str) : (x ++ y).cps.toList = x.cps.toList ++ y.cps.toList := by
  show (x.cps ++ y.cps).toList = _
  simp
section
variable {P : Program} {w : World} {K : PySem.W.Frag} {mg : Str → Option Value} {base : Heap}
/-- _law_purses(script, few) -/
def spPurses (K : PySem.W.Frag) : Sp := fun vs H Q _ => ∃ (a : Addr) (xs : List Int) (few : Nat), vs = [.ref a, .int (few : Int)] ∧ SqL K H a (xs.map V.int) ∧ xs.length ≤ 1000 ∧ few ≤ 100 ∧
  ∀ (p : Addr) (bs : List Addr) (H' : Hp), bs.Nodup → bs.length ≤ 100 → (∀ b ∈ bs, Pu H' b 1099511627776 ∧ H b = none) → H p = none → H' p = some (.lst (bs.map V.ref)) → Same H H' → Q (.ref p) H'
theorem scPurses : FnScope ["_law_script", "_law_few", "_law_at"] ["_law_script", "_law_few"] (defScope sPurses) := ⟨rfl, rfl, rfl, by decide +kernel, rfl, by decide +kernel, by decide +kernel⟩
theorem ok_purses {f fP : Addr} {fd fdP : FuncData} (F : Fun K "_law_purses" "_law_purses" sPurses f fd) (GP : FnOk P w K mg base CX0 1 fP fdP ["_law_script", "_law_at"] (spPurse K)) (kP : PySem.W.keepIn K (.ref fP) = true) (gP : mg "_law_purse" = some (.ref fP)) (bP : Binds K fdP ["_law_script", "_law_at"] []) (B : Bl mg) :
    FnOk P w K mg base CX0 2 f fd ["_law_script", "_law_few"] (spPurses K) := by
  refine F.ok scPurses (fun vs H Q E h => ?_) (fun cdv A outer s H vs Q E hr h => ?_)
  · obtain ⟨a, xs, few, rfl, _⟩ := h
    rfl
  · obtain ⟨a, xs, few, rfl, ha, hx, hf, q⟩ := h
    refine ⟨_, pss_one (ps_ret (by exact (pe_lc (own := [("_law_at", 2)]) (g := gName 2) (tt := tYes) rfl scPurses.nd
      (pi_range1 (by rfl) B.rg (pa_cons (pe_callB (call_max2 rfl) (by rfl) B.max bootMax (pa_cons pe_int (pa_cons (pe_callB (call_min2 rfl) (by rfl) B.min bootMin (pa_cons (pv 1) (pa_cons (pe_callB call_len_seq (by rfl) B.len PySem.boot_len (pa_cons (pv 0) pa_nil)) pa_nil))) pa_nil))) pa_nil))
      (blkOk_by (own := [("_law_at", 2)]) (N := ["_law_script", "_law_few", "_law_at"]) (sc := defScope sPurses) (by decide +kernel))
      (fun _ _ _ _ _ => pg_name (i := 2) scPurses.nd rfl (Or.inl rfl)) (fun _ _ _ _ _ => pts_nil)
      (fun _ _ _ _ _ => by exact (pe_call GP hr (by rfl) gP kP bP .nil pass0 (pa_cons (pv 0) (pa_cons (pv 2) pa_nil))))))), ?_⟩
    refine ⟨_, rfl, _, rfl, a, _, rfl, .inl ha, _, _, rfl, _, _, rfl, ?_⟩
    rw [List.length_map]
    generalize hM : (if (if (xs.length : Int) < (few : Int) then (xs.length : Int) else (few : Int)) > 1 then (if (xs.length : Int) < (few : Int) then (xs.length : Int) else (few : Int)) else 1) = M
    have hM0 : 0 ≤ M ∧ M ≤ 100 := by
      rw [← hM]
      split <;> split <;> omega
    refine ⟨M, rfl, by omega, by omega, fun D nD => ?_⟩
    refine lc_range (lo := 0) (n := M.toNat) (fun i H' => ∃ bs : List Addr, bs.length = i ∧ bs.Nodup ∧ (∀ b ∈ bs, Pu H' b 1099511627776 ∧ H b = none ∧ b ≠ D) ∧ H' D = some (.lst (bs.map V.ref)) ∧ Same H H') ⟨[], rfl, List.nodup_nil, (fun b hb => nomatch hb), upd_same, same_new nD⟩ ?_ ?_
    · rintro i H1 hi ⟨bs, hl, hnd, hb, e, sm⟩
      refine ⟨rfl, ?_⟩
      refine ⟨_, rfl, _, rfl, a, xs, i, (by rw [Int.zero_add]; rfl), sm.seq ha, by omega, fun p H2 np pu s2 => ?_⟩
      have e2 := s2 _ _ e
      have npH : H p = none := sm.free np
      have hpD : p ≠ D := fun z => by
        rw [z, e] at np
        cases np
      refine ⟨_, e2, by rw [List.length_map]; exact small1000 (by omega), bs ++ [p], by rw [List.length_append, hl] <;> rfl, ?_, ?_, by rw [upd_same, List.map_append] <;> rfl, ?_⟩
      · rw [List.nodup_append]
        refine ⟨hnd, by simp, fun x hx y hy => ?_⟩
        obtain rfl := List.mem_singleton.mp hy
        intro z
        subst z
        obtain ⟨o, eo⟩ := (hb _ hx).1.some
        rw [eo] at np
        cases np
      · intro b hbm
        rcases List.mem_append.mp hbm with hx | hx
        · obtain ⟨h1, h2, h3⟩ := hb b hx
          exact ⟨(h1.same s2).put (Ne.symm h3), h2, h3⟩
        · obtain rfl := List.mem_singleton.mp hx
          exact ⟨pu.put (Ne.symm hpD), npH, hpD⟩
      · exact same_put (sm.trans s2) nD
    · rintro H1 ⟨bs, hl, hnd, hb, e, sm⟩
      exact q D bs H1 hnd (by omega) (fun b hbm => ⟨(hb b hbm).1, (hb b hbm).2.1⟩) nD e sm
/-- _law_names(purse, many) -/
def spNames : Sp := fun vs H Q _ => ∃ (a : Addr) (n k : Nat), vs = [.ref a, .int (k : Int)] ∧ Pu H a (n + 18) ∧ k ≤ 6 ∧
  ∀ (p : Addr) (zs : List Str) (H' : Hp), zs.length = k → (∀ z ∈ zs, IsNm z) → zs.Nodup → H p = none → Pu H' a n → Sb a H H' → H' p = some (.lst (zs.map V.str)) → Q (.ref p) H'
theorem scNames : FnScope ["_law_purse_here", "_law_many", "_law_fresh", "_law_turn", "_law_some", "_law_word"] ["_law_purse_here", "_law_many"] (defScope sNames) := ⟨rfl, rfl, rfl, by decide +kernel, rfl, by decide +kernel, by decide +kernel⟩
def fixed6 : List Str := ["a", "b", "x", "xx", "ann", "abcdefghij"]
theorem fixed6_nm : ∀ z ∈ fixed6, IsNm z := by decide +kernel
theorem fixed6_nd : fixed6.Nodup := by decide +kernel
theorem ok_names {f fD fS : Addr} {fd fdD fdS : FuncData} (F : Fun K "_law_names" "_law_names" sNames f fd)
    (GD : FnOk P w K mg base CX0 2 fD fdD ["_law_purse_here", "_law_many"] spDraw) (kD : PySem.W.keepIn K (.ref fD) = true) (gD : mg "_law_draw" = some (.ref fD)) (bD : Binds K fdD ["_law_purse_here", "_law_many"] [])
    (GS : FnOk P w K mg base CX0 3 fS fdS ["_law_purse_here", "_law_some"] (spShuffled K)) (kS : PySem.W.keepIn K (.ref fS) = true) (gS : mg "_law_shuffled" = some (.ref fS)) (bS : Binds K fdS ["_law_purse_here", "_law_some"] []) (B : Bl mg) :
    FnOk P w K mg base CX0 4 f fd ["_law_purse_here", "_law_many"] spNames := by
  refine F.ok scNames (fun vs H Q E h => ?_) (fun cdv A outer s H vs Q E hr h => ?_)
  · obtain ⟨a, n, k, rfl, _⟩ := h
    rfl
  · obtain ⟨a, n, k, rfl, pu, hk, q⟩ := h
    have hr2 : Room 2 _ := hr.mono (by decide)
    refine ⟨_, pss_cons (ps_set (i := 2) scNames.nd rfl (Or.inl rfl) pe_str)
      (pss_cons (ps_for PassesOwn.never rfl (pi_range1 (by rfl) B.rg (pa_cons (pe_op op_add pe_int (by exact (pe_call GD hr2 (by rfl) gD kD bD .nil pass0 (pa_cons (pv 0) (pa_cons pe_int pa_nil))))) pa_nil)) (pg_name (i := 3) scNames.nd rfl (Or.inl rfl))
        (pss_one (ps_set (i := 2) scNames.nd rfl (Or.inl rfl) (pe_op op_add_str (pv 2) (pe_ix ix_str pe_str (by exact (pe_call GD hr2 (by rfl) gD kD bD .nil pass0 (pa_cons (pv 0) (pa_cons pe_int pa_nil)))) (fun _ _ => rfl))))))
      (pss_cons (ps_set (i := 4) scNames.nd rfl (Or.inr rfl) (pe_lst (pa_cons pe_str (pa_cons pe_str (pa_cons pe_str (pa_cons pe_str (pa_cons pe_str (pa_cons pe_str pa_nil))))))))
      (pss_one (ps_ret (pe_slice sl_list (by exact (pe_call GS hr (by rfl) gS kS bS .nil pass0 (pa_cons (pv 0) (pa_cons (pe_op op_cat (pv 4)
        (by exact (pe_lc (own := [("_law_word", 5)]) (g := gName 5) (tt := tTest (tOp (rIn K true) (tVar 5) (tVar 4))) rfl scNames.nd (pi_list (pe_lst (pa_cons (pv 2) pa_nil)))
          (blkOk_by (own := [("_law_word", 5)]) (N := ["_law_purse_here", "_law_many", "_law_fresh", "_law_turn", "_law_some", "_law_word"]) (sc := defScope sNames) (by decide +kernel))
          (fun _ _ _ _ _ => pg_name (i := 5) scNames.nd rfl (Or.inl rfl)) (fun _ _ _ _ _ => pts_one (by exact (pt_cmpR op_notIn_seq (pv 5) (pv 4) (by rfl)))) (fun _ _ _ _ _ => pv 5)))) pa_nil)))) po_none (po_some (pv 1))))))), ?_⟩
    refine ⟨_, rfl, a, n + 17, 10, rfl, pu, ⟨by decide, by decide⟩, fun r H0 h0 h1 pu0 sb0 => ⟨_, _, rfl, rfl, 1 + r, rfl, by omega, by omega, ?_⟩⟩
    refine for_range (lo := 0) (n := (1 + r).toNat) (fun i σ H' => ∃ (z : Str) (o3 : Option V), σ = [some (.ref a), some (.int (k : Int)), some (.str z), o3, none, none] ∧ z.length = i ∧ (∀ c ∈ z.cps.toList, 97 ≤ c ∧ c ≤ 122) ∧ Pu H' a (n + 7 + (10 - i)) ∧ Sb a H H')
      ⟨"", none, rfl, rfl, (fun c hc => nomatch hc), pu0, sb0⟩ ?_ ?_
    · rintro i σ H1 hi ⟨z, o3, rfl, hz, hc, pu1, sb1⟩
      refine ⟨_, rfl, _, rfl, a, n + 7 + (10 - (i + 1)), 26, rfl, pu1.le (by omega), ⟨by decide, by decide⟩, fun r2 H2 h2 h3 pu2 sb2 => ?_⟩
      obtain ⟨j, rfl⟩ : ∃ j : Nat, r2 = (j : Int) := ⟨r2.toNat, by omega⟩
      refine ⟨_, _, 97 + j, rfl, rfl, by decide +kernel, lett j (by omega), _, _, rfl, rfl, ?_, ?_⟩
      · show z.length + 1 ≤ sizeLine
        have : (1000 : Nat) ≤ sizeLine := by decide
        omega
      · refine ⟨_, _, rfl, ?_, ?_, pu2, sb1.trans sb2⟩
        · rw [str_len_add, hz] <;> rfl
        · intro c hc2
          rw [str_cps_add] at hc2
          rcases List.mem_append.mp hc2 with h | h
          · exact hc c h
          · have h : c ∈ [97 + j] := h
            obtain rfl := List.mem_singleton.mp h
            omega
    · rintro σ H1 ⟨z, o3, rfl, hz, hc, pu1, sb1⟩
      have nmz : IsNm z := ⟨by omega, by omega, hc⟩
      have pu1 : Pu H1 a (n + 7) := pu1.le (by omega)
      clear pu0 sb0
      refine ⟨by decide, fun p np => ?_⟩
      have npH := sb1.free pu1 np
      have pa : p ≠ a := pu1.ne np
      have sb2 : Sb a H (upd H1 p (.lst (fixed6.map V.str))) := sb1.put npH
      have pu2 : Pu (upd H1 p (.lst (fixed6.map V.str))) a (n + 7) := pu1.put pa
      have e2 : upd H1 p (.lst (fixed6.map V.str)) p = some (.lst (fixed6.map V.str)) := upd_same
      refine (show ∀ G : Hp, G = upd H1 p (.lst (fixed6.map V.str)) → tSeq _ _ { nx := fun _ H' => Q .non H', rt := Q } [some (.ref a), some (.int (k : Int)), some (.str z), o3, some (.ref p), none] G from fun G hG => ?_) _ rfl
      rw [← hG] at sb2 pu2 e2
      clear hG np npH
      refine ⟨_, rfl, _, rfl, _, rfl, (by show 1 ≤ sizeLine; decide), fun l nl => ⟨l, rfl, ⟨[.str z], SqL.of upd_same⟩, fun D nD => ?_⟩⟩
      have e3 : upd G l (.lst [.str z]) p = some (.lst (fixed6.map V.str)) := same_new nl _ _ e2
      have e4 : upd G l (.lst [.str z]) l = some (.lst [.str z]) := upd_same
      have pu3 : Pu (upd G l (.lst [.str z])) a (n + 7) := pu2.put (pu2.ne nl)
      have sb3 : Sb a H (upd G l (.lst [.str z])) := sb2.put (sb2.free pu2 nl)
      generalize upd G l (.lst [.str z]) = G1 at e3 e4 pu3 sb3 nD ⊢
      have pD : p ≠ D := ne_of_none e3 nD
      have lD : l ≠ D := ne_of_none e4 nD
      refine lc_list (K := K) (a := l) (xs := [.str z]) (fun i H' => Same G1 H' ∧ H' D = some (.lst ((if i = 0 then ([] : List Str) else if z ∈ fixed6 then [] else [z]).map V.str))) ⟨same_new nD, upd_same⟩ (fun i H' _ y => SqL.of (y.1 _ _ e4)) ?_ ?_
      · rintro i x G2 hi ⟨s1, e5⟩
        obtain ⟨rfl, rfl⟩ : i = 0 ∧ x = V.str z := by
          match i, hi with
          | 0, h => exact ⟨rfl, (Option.some.inj h).symm⟩
        rw [if_pos rfl] at e5
        refine ⟨rfl, _, rfl, _, rfl, p, fixed6.map V.str, rfl, .inl (SqL.of (s1 _ _ e3)), rfl, flat_strs _, _, rfl, ?_⟩
        rw [inV_strs]
        by_cases hz6 : z ∈ fixed6
        · rw [decide_eq_true hz6]
          refine iteF ⟨s1, ?_⟩
          rw [if_neg (by decide), if_pos hz6]
          exact e5
        · rw [decide_eq_false hz6]
          refine iteT ⟨_, rfl, _, e5, (by show 0 < sizeLine; decide), fun b o e => ?_, ?_⟩
          · rw [upd_ne (ne_of_none e nD)]
            exact s1 _ _ e
          · rw [upd_same, if_neg (by decide), if_neg hz6] <;> rfl
      · rintro G2 ⟨s1, e5⟩
        rw [if_neg (fun h => by cases h)] at e5
        generalize hys : (if z ∈ fixed6 then ([] : List Str) else [z]) = ys at e5
        have hy : ys.length ≤ 1 ∧ (∀ x ∈ ys, IsNm x ∧ x ∉ fixed6) ∧ ys.Nodup := by
          rw [← hys]
          split
          · exact ⟨by decide, (fun x hx => nomatch hx), List.nodup_nil⟩
          · rename_i h
            exact ⟨(by show 1 ≤ 1; decide), (fun x hx => by rw [List.mem_singleton.mp hx]; exact ⟨nmz, h⟩), by simp⟩
        have pu4 := pu3.same s1
        have sb4 := sb3.then s1
        refine ⟨_, _, _, _, rfl, rfl, s1 _ _ e3, e5, ?_, fun q1 nq => ?_⟩
        · rw [List.length_map, List.length_map]
          show 6 + ys.length ≤ sizeLine
          have : (1000 : Nat) ≤ sizeLine := by decide
          omega
        · have hl7 : (fixed6.map V.str ++ ys.map V.str).length ≤ 7 := by
            rw [List.length_append, List.length_map, List.length_map]
            show 6 + ys.length ≤ 7
            omega
          have nqa := pu4.ne nq
          refine ⟨a, q1, n, _, rfl, (pu4.put nqa).le (by omega), SqL.of upd_same, nqa, by omega, fun q2 ws H3 pm nq2 pu5 sb5 e6 => ?_⟩
          rw [← List.map_append] at pm
          obtain ⟨us, rfl, pu⟩ : ∃ us : List Str, ws = us.map V.str ∧ us.Perm (fixed6 ++ ys) := perm_map_inv (fun _ _ e => by injection e) pm
          have npq : H q2 = none := by
            have h1 : upd G2 q1 (.lst (fixed6.map V.str ++ ys.map V.str)) q2 = none := nq2
            have h2 : q2 ≠ q1 := fun z => by rw [z, upd_same] at h1; cases h1
            rw [upd_ne h2] at h1
            exact sb4.free pu4 h1
          refine ⟨_, rfl, _, rfl, q2, _, rfl, SqL.of e6, fun q3 nq3 => ?_⟩
          have sb6 : Sb a H H3 := (sb4.put (sb4.free pu4 nq)).trans sb5
          have hcut : cutV (us.map V.str) none (some (k : Int)) = (us.take k).map V.str := by
            unfold cutV
            have : us.length ≥ 6 := by
              rw [pu.length_eq, List.length_append]
              show 6 ≤ 6 + ys.length
              omega
            rw [HT.sIx_none, HT.sIx_nat, List.drop_zero, List.length_map, Nat.sub_zero, Nat.min_eq_left (by omega), List.map_take]
          rw [hcut]
          have hus : us.length ≥ 6 := by
            rw [pu.length_eq, List.length_append]
            show 6 ≤ 6 + ys.length
            omega
          refine q q3 (us.take k) _ (by rw [List.length_take]; omega) (fun x hx => ?_) ?_ (sb6.free pu5 nq3) (pu5.put (pu5.ne nq3)) (sb6.put (sb6.free pu5 nq3)) upd_same
          · have hx := pu.mem_iff.mp (List.mem_of_mem_take hx)
            rcases List.mem_append.mp hx with h | h
            · exact fixed6_nm _ h
            · exact (hy.2.1 _ h).1
          · refine List.Nodup.sublist (List.take_sublist _ _) (pu.nodup_iff.mpr (List.nodup_append.mpr ⟨fixed6_nd, hy.2.2, fun x hx y hy2 z => ?_⟩))
            subst z
            exact (hy.2.1 _ hy2).2 hx
end
end Nv
set_option maxHeartbeats 4000000
namespace Nv
open PySem PySem.Spec PyProof.Rows L2
def up1 (c : Nat) : Nat := if 97 ≤ c ∧ c ≤ 122 then c - 32 else c
theorem upper_list : ∀ l : List Nat, (∀ c ∈ l, c < 128) → Txt.upper ⟨l.toArray⟩ = ⟨(l.map up1).toArray⟩
  | [], _ => rfl
  | c :: l, h => by
    have e : (⟨(c :: l).toArray⟩ : Str) = (⟨#[c]⟩ : Str) ++ (⟨l.toArray⟩ : Str) := by
      show Str.mk _ = Str.mk _
      simp
    rw [e, PySem.W.KOpn.upper_app, PySem.W.KOpn.upper_one (h c List.mem_cons_self), upper_list l fun x hx => h x (List.mem_cons_of_mem _ hx)]
    show Str.mk _ = Str.mk _
    simp [up1]
theorem str_eta (z : Str) : z = ⟨z.cps.toList.toArray⟩ := by
  cases z
  simp
theorem upper_vr {z : Str} (h : IsVr z) : Txt.upper z = z := by
  rw [str_eta z, upper_list _ fun c hc => by have := h.2.2 c hc; omega]
  refine congrArg Str.mk (congrArg List.toArray ?_)
  refine (List.map_congr_left fun c hc => ?_).trans (List.map_id _)
  have := h.2.2 c hc
  unfold up1
  rw [if_neg (by omega)]
  rfl
theorem upper_nm {z : Str} (h : IsNm z) : Txt.upper z ≠ z := by
  intro e
  rw [str_eta z, upper_list _ fun c hc => by have := h.2.2 c hc; omega] at e
  have e2 : (z.cps.toList.map up1) = z.cps.toList := by
    have e3 := congrArg (fun s : Str => s.cps.toList) e
    simpa using e3
  have hl : z.cps.toList.length = z.length := by simp [Str.length]
  match hz : z.cps.toList with
  | [] =>
    rw [hz] at hl
    have := h.1
    simp at hl
    omega
  | c :: l =>
    rw [hz] at e2
    injection e2 with h1 h2
    have h3 := h.2.2 c (by rw [hz]; exact List.mem_cons_self)
    unfold up1 at h1
    rw [if_pos h3] at h1
    omega
end Nv
set_option maxHeartbeats 4000000
namespace Nv
open PySem PySem.Spec PyProof.Rows L2
/-- a word of a kind -/
def IsWd (w : Str) : Prop := IsNm w ∧ w ≠ "never"
instance (w : Str) : Decidable (IsWd w) := inferInstanceAs (Decidable (_ ∧ _))
/-- a kind: a tuple of a word and a number -/
def Kd (H : Hp) (v : V) : Prop := ∃ (t : Addr) (w : Str) (m : Nat), v = .ref t ∧ H t = some (.tup [.str w, .int (m : Int)]) ∧ IsWd w ∧ m ≤ 3
section
variable {a : Addr} {H H1 H2 : Hp} {n m : Nat} {v : V}
theorem Kd.same (k : Kd H v) (s : Same H H1) : Kd H1 v := by
  obtain ⟨t, w, m, rfl, e, h⟩ := k
  exact ⟨t, w, m, rfl, s _ _ e, h⟩
theorem Kd.ne (k : Kd H v) (pu : Pu H a n) : v ≠ .ref a := by
  obtain ⟨t, w, m, rfl, e, h⟩ := k
  obtain ⟨s, d, tt, kk, e2, _⟩ := pu.ex
  intro z
  cases z
  rw [e] at e2
  cases e2
theorem Kd.sb (k : Kd H v) (pu : Pu H a n) (s : Sb a H H1) : Kd H1 v := by
  have hn := k.ne pu
  obtain ⟨t, w, m, rfl, e, h⟩ := k
  exact ⟨t, w, m, rfl, s _ _ (fun z => hn (by rw [z])) e, h⟩
theorem kd_new {G : Hp} {t : Addr} {w : Str} {m : Nat} (sb : Same H G) (nt : G t = none) (hw : IsWd w) (hm : m ≤ 3) :
    Same H (upd G t (.tup [.str w, .int (m : Int)])) ∧ Same G (upd G t (.tup [.str w, .int (m : Int)])) ∧ Kd (upd G t (.tup [.str w, .int (m : Int)])) (.ref t) :=
  ⟨same_put sb (sb.free nt), same_new nt, t, w, m, rfl, upd_same, hw, hm⟩
end
section
variable {P : Program} {w : World} {K : PySem.W.Frag} {mg : Str → Option Value} {base : Heap}
/-- _law_kinds(purse, many) -/
def spKinds : Sp := fun vs H Q _ => ∃ (a : Addr) (n k : Nat), vs = [.ref a, .int (k : Int)] ∧ Pu H a (n + 9) ∧ k ≤ 7 ∧
  ∀ (p : Addr) (ks : List V) (H' : Hp), ks.length = k → (∀ v ∈ ks, Kd H' v) → H p = none → Pu H' a n → Sb a H H' → H' p = some (.lst ks) → Q (.ref p) H'
theorem scKinds : FnScope ["_law_purse_here", "_law_many", "_law_some"] ["_law_purse_here", "_law_many"] (defScope sKinds) := ⟨rfl, rfl, rfl, by decide +kernel, rfl, by decide +kernel, by decide +kernel⟩
theorem ok_kinds {f fD fS : Addr} {fd fdD fdS : FuncData} (F : Fun K "_law_kinds" "_law_kinds" sKinds f fd)
    (GD : FnOk P w K mg base CX0 2 fD fdD ["_law_purse_here", "_law_many"] spDraw) (kD : PySem.W.keepIn K (.ref fD) = true) (gD : mg "_law_draw" = some (.ref fD)) (bD : Binds K fdD ["_law_purse_here", "_law_many"] [])
    (GS : FnOk P w K mg base CX0 3 fS fdS ["_law_purse_here", "_law_some"] (spShuffled K)) (kS : PySem.W.keepIn K (.ref fS) = true) (gS : mg "_law_shuffled" = some (.ref fS)) (bS : Binds K fdS ["_law_purse_here", "_law_some"] []) (B : Bl mg) :
    FnOk P w K mg base CX0 4 f fd ["_law_purse_here", "_law_many"] spKinds := by
  refine F.ok scKinds (fun vs H Q E h => ?_) (fun cdv A outer s H vs Q E hr h => ?_)
  · obtain ⟨a, n, k, rfl, _⟩ := h
    rfl
  · obtain ⟨a, n, k, rfl, pu, hk, q⟩ := h
    have hr2 : Room 2 _ := hr.mono (by decide)
    refine ⟨_, pss_cons (ps_set (i := 2) scKinds.nd rfl (Or.inl rfl) (pe_lst (pa_cons (pe_tup (pa_cons pe_str (pa_cons pe_int pa_nil))) (pa_cons (pe_tup (pa_cons pe_str (pa_cons pe_int pa_nil))) (pa_cons (pe_tup (pa_cons pe_str (pa_cons pe_int pa_nil))) (pa_cons (pe_tup (pa_cons pe_str (pa_cons pe_int pa_nil))) (pa_cons (pe_tup (pa_cons pe_str (pa_cons pe_int pa_nil))) (pa_cons (pe_tup (pa_cons pe_str (pa_cons pe_int pa_nil))) (pa_cons (pe_tup (pa_cons pe_str (pa_cons pe_int pa_nil))) (pa_cons (pe_tup (pa_cons pe_str (pa_cons pe_int pa_nil))) pa_nil))))))))))
      (pss_one (ps_ret (pe_slice sl_list (by exact (pe_call GS hr (by rfl) gS kS bS .nil pass0 (pa_cons (pv 0) (pa_cons
        (pe_slice sl_list (pv 2) po_none (po_some (pe_op op_add pe_int (pe_callTy call_int1 (by rfl) B.int boot_int (pa_cons (pe_cmpR op_eq (by exact (pe_call GD hr2 (by rfl) gD kD bD .nil pass0 (pa_cons (pv 0) (pa_cons pe_int pa_nil)))) pe_int (nomark _)) pa_nil)))))
        pa_nil)))) po_none (po_some (pv 1))))), ?_⟩
    have s0 : Same H H := Same.refl H
    refine ⟨(by show 2 ≤ sizeLine; decide), fun t1 n1 => ?_⟩
    obtain ⟨s1, r1, k1⟩ := kd_new (w := "p") (m := 1) s0 n1 (by decide +kernel) (by decide)
    refine (show ∀ G : Hp, Same H G → Same H G → Kd G (.ref t1) → _ from fun G1 s1 r1 k1 => ?_) _ s1 r1 k1
    refine ⟨(by show 2 ≤ sizeLine; decide), fun t2 n2 => ?_⟩
    obtain ⟨s2, r2, k2⟩ := kd_new (w := "q") (m := 1) s1 n2 (by decide +kernel) (by decide)
    refine (show ∀ G : Hp, Same H G → Same G1 G → Kd G (.ref t2) → _ from fun G2 s2 r2 k2 => ?_) _ s2 r2 k2
    replace k1 := k1.same r2
    refine ⟨(by show 2 ≤ sizeLine; decide), fun t3 n3 => ?_⟩
    obtain ⟨s3, r3, k3⟩ := kd_new (w := "way") (m := 2) s2 n3 (by decide +kernel) (by decide)
    refine (show ∀ G : Hp, Same H G → Same G2 G → Kd G (.ref t3) → _ from fun G3 s3 r3 k3 => ?_) _ s3 r3 k3
    replace k1 := k1.same r3
    replace k2 := k2.same r3
    refine ⟨(by show 2 ≤ sizeLine; decide), fun t4 n4 => ?_⟩
    obtain ⟨s4, r4, k4⟩ := kd_new (w := "p") (m := 2) s3 n4 (by decide +kernel) (by decide)
    refine (show ∀ G : Hp, Same H G → Same G3 G → Kd G (.ref t4) → _ from fun G4 s4 r4 k4 => ?_) _ s4 r4 k4
    replace k1 := k1.same r4
    replace k2 := k2.same r4
    replace k3 := k3.same r4
    refine ⟨(by show 2 ≤ sizeLine; decide), fun t5 n5 => ?_⟩
    obtain ⟨s5, r5, k5⟩ := kd_new (w := "rain") (m := 0) s4 n5 (by decide +kernel) (by decide)
    refine (show ∀ G : Hp, Same H G → Same G4 G → Kd G (.ref t5) → _ from fun G5 s5 r5 k5 => ?_) _ s5 r5 k5
    replace k1 := k1.same r5
    replace k2 := k2.same r5
    replace k3 := k3.same r5
    replace k4 := k4.same r5
    refine ⟨(by show 2 ≤ sizeLine; decide), fun t6 n6 => ?_⟩
    obtain ⟨s6, r6, k6⟩ := kd_new (w := "not") (m := 2) s5 n6 (by decide +kernel) (by decide)
    refine (show ∀ G : Hp, Same H G → Same G5 G → Kd G (.ref t6) → _ from fun G6 s6 r6 k6 => ?_) _ s6 r6 k6
    replace k1 := k1.same r6
    replace k2 := k2.same r6
    replace k3 := k3.same r6
    replace k4 := k4.same r6
    replace k5 := k5.same r6
    refine ⟨(by show 2 ≤ sizeLine; decide), fun t7 n7 => ?_⟩
    obtain ⟨s7, r7, k7⟩ := kd_new (w := "a") (m := 1) s6 n7 (by decide +kernel) (by decide)
    refine (show ∀ G : Hp, Same H G → Same G6 G → Kd G (.ref t7) → _ from fun G7 s7 r7 k7 => ?_) _ s7 r7 k7
    replace k1 := k1.same r7
    replace k2 := k2.same r7
    replace k3 := k3.same r7
    replace k4 := k4.same r7
    replace k5 := k5.same r7
    replace k6 := k6.same r7
    refine ⟨(by show 2 ≤ sizeLine; decide), fun t8 n8 => ?_⟩
    obtain ⟨s8, r8, k8⟩ := kd_new (w := "longestone") (m := 3) s7 n8 (by decide +kernel) (by decide)
    refine (show ∀ G : Hp, Same H G → Same G7 G → Kd G (.ref t8) → _ from fun G8 s8 r8 k8 => ?_) _ s8 r8 k8
    replace k1 := k1.same r8
    replace k2 := k2.same r8
    replace k3 := k3.same r8
    replace k4 := k4.same r8
    replace k5 := k5.same r8
    replace k6 := k6.same r8
    replace k7 := k7.same r8
    refine ⟨(by show 8 ≤ sizeLine; decide), fun p np => ?_⟩
    have kall : ∀ v ∈ [V.ref t1, .ref t2, .ref t3, .ref t4, .ref t5, .ref t6, .ref t7, .ref t8], Kd G8 v := by
      intro v hv
      simp only [List.mem_cons, List.not_mem_nil, or_false] at hv
      rcases hv with rfl | rfl | rfl | rfl | rfl | rfl | rfl | rfl <;> assumption
    have hl8 : [V.ref t1, .ref t2, .ref t3, .ref t4, .ref t5, .ref t6, .ref t7, .ref t8].length = 8 := rfl
    generalize [V.ref t1, .ref t2, .ref t3, .ref t4, .ref t5, .ref t6, .ref t7, .ref t8] = xs at kall hl8 ⊢
    refine (show ∀ G : Hp, Same G8 G → G p = some (.lst xs) → tSeq _ _ { nx := fun _ H' => Q .non H', rt := Q } [some (.ref a), some (.int (k : Int)), some (.ref p)] G from fun G sG eG => ?_) _ (same_new np) upd_same
    have sG := s8.trans sG
    replace kall : ∀ v ∈ xs, Kd G v := fun v hv => (kall v hv).same (by assumption)
    have puG : Pu G a (n + 9) := pu.same sG
    have pa := puG.ne (q := p)
    refine ⟨_, rfl, _, rfl, _, rfl, a, n + 8, 8, rfl, puG, ⟨by decide, by decide⟩, fun r H1 h0 h1 pu1 sb1 => ?_⟩
    have pna : p ≠ a := fun z => by
      obtain ⟨s, d, t, kk, e2, _⟩ := puG.ex
      rw [z, e2] at eG
      injection eG with eG
      injection eG with eG
      have := congrArg List.length eG
      rw [hl8] at this
      cases this
    have e1 : H1 p = some (.lst xs) := sb1 _ _ pna eG
    have k1 : ∀ v ∈ xs, Kd H1 v := fun v hv => (kall v hv).sb puG sb1
    refine ⟨rfl, .inr ⟨_, rfl, ?_⟩⟩
    generalize hb : (if decide (V.int r = V.int 0) = true then (1 : Int) else 0) = b
    have hb2 : 0 ≤ b ∧ b ≤ 1 := by
      rw [← hb]
      split <;> decide
    obtain ⟨j, rfl⟩ : ∃ j : Nat, b = (j : Int) := ⟨b.toNat, by omega⟩
    refine ⟨_, _, rfl, rfl, _, rfl, p, xs, rfl, SqL.of e1, fun q1 nq1 => ?_⟩
    have hc : cutV xs none (some (7 + (j : Int))) = xs.take (7 + j) := by
      unfold cutV
      have e7 : (7 + (j : Int)) = ((7 + j : Nat) : Int) := by omega
      rw [e7, HT.sIx_none, HT.sIx_nat, List.drop_zero, Nat.sub_zero, Nat.min_eq_left (by omega)]
    rw [hc]
    have hl : (xs.take (7 + j)).length = 7 + j := by
      rw [List.length_take]
      omega
    have q1a := pu1.ne nq1
    refine ⟨a, q1, n, _, rfl, (pu1.put q1a).le (by omega), SqL.of upd_same, q1a, by omega, fun q2 ys H2 pm nq2 pu2 sb2 e2 => ?_⟩
    have sb3 : Sb a H1 H2 := (Sb.new nq1).trans sb2
    refine ⟨_, rfl, _, rfl, q2, ys, rfl, SqL.of e2, fun q3 nq3 => ?_⟩
    have hc2 : cutV ys none (some (k : Int)) = ys.take k := by
      unfold cutV
      have := pm.length_eq
      rw [HT.sIx_none, HT.sIx_nat, List.drop_zero, Nat.sub_zero, Nat.min_eq_left (by omega)]
    rw [hc2]
    have sb4 : Sb a H H2 := ((Sb.of sG).trans sb1).trans sb3
    have hly := pm.length_eq
    refine q q3 (ys.take k) _ (by rw [List.length_take]; omega) (fun v hv => ?_) (sb4.free pu2 nq3) (pu2.put (pu2.ne nq3)) (sb4.put (sb4.free pu2 nq3)) upd_same
    have hv2 := List.mem_of_mem_take (pm.mem_iff.mp (List.mem_of_mem_take hv))
    exact ((k1 v hv2).sb pu1 sb3).same (same_new nq3)
end
end Nv
set_option maxHeartbeats 4000000
namespace Nv
open PySem PySem.Spec PyProof.Rows L2
theorem big1000 : (1000 : Nat) ≤ sizeLine := by decide
/-- a list of tuples of texts, as they stand in the heap -/
inductive PaL (H : Hp) : List V → List (List Str) → Prop
  | nil : PaL H [] []
  | cons {t : Addr} {p : List Str} {vs : List V} {ps : List (List Str)} (e : H t = some (.tup (p.map V.str))) (h : PaL H vs ps) : PaL H (.ref t :: vs) (p :: ps)
section
variable {a : Addr} {H H1 H2 : Hp} {n m : Nat} {vs us : List V} {ps qs : List (List Str)}
theorem PaL.same (h : PaL H vs ps) (s : Same H H1) : PaL H1 vs ps := by
  induction h with
  | nil => exact .nil
  | cons e _ ih => exact .cons (s _ _ e) ih
theorem tup_ne {t : Addr} {xs : List V} (pu : Pu H a n) (e : H t = some (.tup xs)) : t ≠ a := fun z => by
  obtain ⟨s, d, tt, kk, e2, _⟩ := pu.ex
  rw [z, e2] at e
  cases e
theorem PaL.sb (h : PaL H vs ps) (pu : Pu H a n) (s : Sb a H H1) : PaL H1 vs ps := by
  induction h with
  | nil => exact .nil
  | cons e _ ih => exact .cons (s _ _ (tup_ne pu e) e) ih
theorem PaL.len (h : PaL H vs ps) : vs.length = ps.length := by
  induction h with
  | nil => rfl
  | cons e _ ih => simp [ih]
theorem PaL.app (h : PaL H vs ps) (h2 : PaL H us qs) : PaL H (vs ++ us) (ps ++ qs) := by
  induction h with
  | nil => exact h2
  | cons e _ ih => exact .cons e ih
theorem PaL.at_ (h : PaL H vs ps) {i : Nat} {v : V} (hi : vs[i]? = some v) : ∃ (t : Addr) (p : List Str), v = .ref t ∧ ps[i]? = some p ∧ H t = some (.tup (p.map V.str)) := by
  induction h generalizing i with
  | nil => cases i <;> cases hi
  | cons e _ ih =>
    cases i with
    | zero =>
      cases hi
      exact ⟨_, _, rfl, rfl, e⟩
    | succ i => exact ih hi
end
/-- a pattern's parts -/
def PatOk (p : List Str) : Prop := ∃ (w : Str) (ts : List Str), p = w :: ts ∧ IsNm w ∧ ts.length ≤ 3 ∧ ∀ x ∈ ts, IsVr x ∨ IsNm x
section
variable {P : Program} {w : World} {K : PySem.W.Frag} {mg : Str → Option Value} {base : Heap}
/-- _law_pattern(purse, kinds, terms) -/
def spPattern (K : PySem.W.Frag) : Sp := fun vs H Q _ => ∃ (a b c : Addr) (n : Nat) (ks : List V) (zs : List Str), vs = [.ref a, .ref b, .ref c] ∧ Pu H a (n + 4) ∧ (SqL K H b ks ∧ b ≠ a ∧ 1 ≤ ks.length ∧ ks.length ≤ 1000 ∧ ∀ v ∈ ks, Kd H v) ∧
  (SqL K H c (zs.map V.str) ∧ c ≠ a ∧ 1 ≤ zs.length ∧ zs.length ≤ 1000) ∧
  ∀ (t : Addr) (wd : Str) (ts : List Str) (H' : Hp), IsWd wd → ts.length ≤ 3 → (∀ x ∈ ts, x ∈ zs) → H t = none → Pu H' a n → Sb a H H' → H' t = some (.tup ((wd :: ts).map V.str)) → Q (.ref t) H'
theorem scPattern : FnScope ["_law_purse_here", "_law_kinds_here", "_law_terms", "_law_word", "_law_many", "_law_turn"] ["_law_purse_here", "_law_kinds_here", "_law_terms"] (defScope sPattern) := ⟨rfl, rfl, rfl, by decide +kernel, rfl, by decide +kernel, by decide +kernel⟩
theorem ok_pattern {f fO : Addr} {fd fdO : FuncData} (F : Fun K "_law_pattern" "_law_pattern" sPattern f fd)
    (GO : FnOk P w K mg base CX0 3 fO fdO ["_law_purse_here", "_law_some"] (spOneOf K)) (kO : PySem.W.keepIn K (.ref fO) = true) (gO : mg "_law_one_of" = some (.ref fO)) (bO : Binds K fdO ["_law_purse_here", "_law_some"] []) (B : Bl mg) :
    FnOk P w K mg base CX0 4 f fd ["_law_purse_here", "_law_kinds_here", "_law_terms"] (spPattern K) := by
  refine F.ok scPattern (fun vs H Q E h => ?_) (fun cdv A outer s H vs Q E hr h => ?_)
  · obtain ⟨a, b, c, n, ks, zs, rfl, _⟩ := h
    rfl
  · obtain ⟨a, b, c, n, ks, zs, rfl, pu, ⟨hb, hba, hk1, hk2, hkd⟩, ⟨hc, hca, hz1, hz2⟩, q⟩ := h
    refine ⟨_, pss_cons (ps_asg (by exact (pe_call GO hr (by rfl) gO kO bO .nil pass0 (pa_cons (pv 0) (pa_cons (pv 1) pa_nil)))) (pg_tup (by rfl) (pgs_cons (pg_name (i := 3) scPattern.nd rfl (Or.inl rfl)) (pgs_cons (pg_name (i := 4) scPattern.nd rfl (Or.inl rfl)) pgs_nil))))
      (pss_one (ps_ret (pe_callTy call_tuple_of (by rfl) B.tup PyProof.Rows.boot_tuple (pa_cons (pe_op op_cat (pe_lst (pa_cons (pv 3) pa_nil))
        (by exact (pe_lc (own := [("_law_turn", 5)]) (g := gName 5) (tt := tYes) rfl scPattern.nd (pi_range1 (by rfl) B.rg (pa_cons (pv 4) pa_nil))
          (blkOk_by (own := [("_law_turn", 5)]) (N := ["_law_purse_here", "_law_kinds_here", "_law_terms", "_law_word", "_law_many", "_law_turn"]) (sc := defScope sPattern) (by decide +kernel))
          (fun _ _ _ _ _ => pg_name (i := 5) scPattern.nd rfl (Or.inl rfl)) (fun _ _ _ _ _ => pts_nil)
          (fun _ _ _ _ _ => by exact (pe_call GO hr (by rfl) gO kO bO .nil pass0 (pa_cons (pv 0) (pa_cons (pv 2) pa_nil))))))) pa_nil)))), ?_⟩
    refine ⟨_, rfl, _, rfl, a, b, n + 3, ks, rfl, pu, hb, hba, ⟨hk1, hk2⟩, fun v H1 hv pu1 sb1 => ?_⟩
    obtain ⟨t0, wd, m, rfl, e0, hw, hm⟩ := hkd v hv
    have e1 : H1 t0 = some (.tup [.str wd, .int (m : Int)]) := sb1 _ _ (tup_ne pu e0) e0
    refine ⟨t0, _, rfl, SqT.of e1, rfl, _, _, rfl, _, _, rfl, rfl, ?_⟩
    have hc1 := sb1.seq hca hc
    refine ⟨_, rfl, (by show 1 ≤ sizeLine; decide), fun l nl => ?_⟩
    have pu2 : Pu (upd H1 l (.lst [V.str wd])) a (n + 3) := pu1.put (pu1.ne nl)
    have sb2 : Sb a H (upd H1 l (.lst [V.str wd])) := sb1.put (sb1.free pu1 nl)
    have hc2 : SqL K (upd H1 l (.lst [V.str wd])) c (zs.map V.str) := (same_new nl).seq hc1
    have el : upd H1 l (.lst [V.str wd]) l = some (.lst [V.str wd]) := upd_same
    generalize upd H1 l (.lst [V.str wd]) = G at pu2 sb2 hc2 el ⊢
    refine ⟨_, rfl, (m : Int), rfl, by omega, by omega, fun D nD => ?_⟩
    have hDa := pu2.ne nD
    refine lc_range (lo := 0) (n := (m : Int).toNat) (fun i H' => ∃ ts : List Str, ts.length = i ∧ (∀ x ∈ ts, x ∈ zs) ∧ Pu H' a (n + (3 - i)) ∧ Sb a G H' ∧ H' D = some (.lst (ts.map V.str))) ⟨[], rfl, (fun x hx => nomatch hx), pu2.put hDa, Sb.new nD, upd_same⟩ ?_ ?_
    · rintro i H2 hi ⟨ts, hl, hts, pu3, sb3, e3⟩
      refine ⟨rfl, ?_⟩
      refine ⟨_, rfl, _, rfl, a, c, n + (3 - (i + 1)), zs.map V.str, rfl, pu3.le (by omega), sb3.seq hca hc2, hca, ⟨by rw [List.length_map]; exact hz1, by rw [List.length_map]; exact hz2⟩, fun v H3 hv pu4 sb4 => ?_⟩
      obtain ⟨z, hz, rfl⟩ := List.mem_map.mp hv
      refine ⟨_, sb4 _ _ hDa e3, by rw [List.length_map]; exact small1000 (by omega), ts ++ [z], by rw [List.length_append, hl] <;> rfl, ?_, pu4.put hDa, ?_, by rw [upd_same, List.map_append] <;> rfl⟩
      · intro x hx
        rcases List.mem_append.mp hx with h | h
        · exact hts x h
        · rw [List.mem_singleton.mp h]
          exact hz
      · exact (sb3.trans sb4).put nD
    · rintro H2 ⟨ts, hl, hts, pu3, sb3, e3⟩
      have hla : l ≠ a := by
        intro z
        obtain ⟨s, d, tt, kk, e2, _⟩ := pu2.ex
        rw [z, e2] at el
        injection el with el
        injection el with el
        cases el
      have el2 := sb3 _ _ hla el
      refine ⟨_, _, _, _, rfl, rfl, el2, e3, ?_, fun q1 nq => ?_⟩
      · rw [List.length_map]
        have := big1000
        show 1 + ts.length ≤ _
        omega
      · refine ⟨q1, _, rfl, .inl ⟨SqL.of upd_same, fun q2 nq2 => ?_⟩⟩
        have sb4 : Sb a H H2 := sb2.trans sb3
        have pu4 := pu3.put (o := .lst ([V.str wd] ++ ts.map V.str)) (pu3.ne nq)
        have sb5 : Sb a H (upd H2 q1 (.lst ([V.str wd] ++ ts.map V.str))) := sb4.put (sb4.free pu3 nq)
        refine q q2 wd ts _ hw (by omega) hts (sb5.free pu4 nq2) ((pu4.put (pu4.ne nq2)).le (by omega)) (sb5.put (sb5.free pu4 nq2)) upd_same
/-- _law_told(purse, kinds, names, most, few) -/
def spTold (K : PySem.W.Frag) : Sp := fun vs H Q _ => ∃ (a b c : Addr) (n most few : Nat) (ks : List V) (zs : List Str), vs = [.ref a, .ref b, .ref c, .int (most : Int), .int (few : Int)] ∧ Pu H a (n + (2 + 4 * most)) ∧ (1 ≤ few ∧ few ≤ 4 ∧ most ≤ 100) ∧
  (SqL K H b ks ∧ b ≠ a ∧ 1 ≤ ks.length ∧ ks.length ≤ 1000 ∧ ∀ v ∈ ks, Kd H v) ∧ (SqL K H c (zs.map V.str) ∧ c ≠ a ∧ zs.length ≤ 100 ∧ ∀ z ∈ zs, IsNm z) ∧
  ∀ (p : Addr) (us : List V) (ps : List (List Str)) (H' : Hp), PaL H' us ps → (∀ x ∈ ps, PatOk x) → ps.length ≤ most → H p = none → Pu H' a n → Sb a H H' → H' p = some (.lst us) → Q (.ref p) H'
theorem scTold : FnScope ["_law_purse_here", "_law_kinds_here", "_law_names_here", "_law_most", "_law_few", "_law_terms", "_law_many", "_law_turn"] ["_law_purse_here", "_law_kinds_here", "_law_names_here", "_law_most", "_law_few"] (defScope sTold) := ⟨rfl, rfl, rfl, by decide +kernel, rfl, by decide +kernel, by decide +kernel⟩
def four : List Str := ["X", "Y", "Z", "XYZ"]
theorem four_vr : ∀ z ∈ four, IsVr z := by decide +kernel
theorem ok_told {f fO fD fP : Addr} {fd fdO fdD fdP : FuncData} (F : Fun K "_law_told" "_law_told" sTold f fd)
    (GO : FnOk P w K mg base CX0 3 fO fdO ["_law_purse_here", "_law_some"] (spOneOf K)) (kO : PySem.W.keepIn K (.ref fO) = true) (gO : mg "_law_one_of" = some (.ref fO)) (bO : Binds K fdO ["_law_purse_here", "_law_some"] [])
    (GD : FnOk P w K mg base CX0 2 fD fdD ["_law_purse_here", "_law_many"] spDraw) (kD : PySem.W.keepIn K (.ref fD) = true) (gD : mg "_law_draw" = some (.ref fD)) (bD : Binds K fdD ["_law_purse_here", "_law_many"] [])
    (GP : FnOk P w K mg base CX0 4 fP fdP ["_law_purse_here", "_law_kinds_here", "_law_terms"] (spPattern K)) (kP : PySem.W.keepIn K (.ref fP) = true) (gP : mg "_law_pattern" = some (.ref fP)) (bP : Binds K fdP ["_law_purse_here", "_law_kinds_here", "_law_terms"] []) (B : Bl mg) :
    FnOk P w K mg base CX0 5 f fd ["_law_purse_here", "_law_kinds_here", "_law_names_here", "_law_most", "_law_few"] (spTold K) := by
  refine F.ok scTold (fun vs H Q E h => ?_) (fun cdv A outer s H vs Q E hr h => ?_)
  · obtain ⟨a, b, c, n, most, few, ks, zs, rfl, _⟩ := h
    rfl
  · obtain ⟨a, b, c, n, most, few, ks, zs, rfl, pu, ⟨hf1, hf2, hm⟩, ⟨hb, hba, hk1, hk2, hkd⟩, ⟨hc, hca, hz1, hz2⟩, q⟩ := h
    have hr2 : Room 2 _ := hr.mono (by decide)
    have hr3 : Room 3 _ := hr.mono (by decide)
    refine ⟨_, pss_cons (ps_set (i := 5) scTold.nd rfl (Or.inr rfl) (pe_op op_cat (pe_op op_rep (pe_slice sl_list (pe_lst (pa_cons pe_str (pa_cons pe_str (pa_cons pe_str (pa_cons pe_str pa_nil))))) po_none (po_some (pv 4))) pe_int)
        (pe_slice sl_list (pv 2) po_none (po_some (by exact (pe_call GD hr2 (by rfl) gD kD bD .nil pass0 (pa_cons (pv 0) (pa_cons pe_int pa_nil))))))))
      (pss_cons (ps_set (i := 6) scTold.nd rfl (Or.inl rfl) (by exact (pe_call GO hr3 (by rfl) gO kO bO .nil pass0 (pa_cons (pv 0) (pa_cons (pe_lst (pa_cons pe_int (pa_cons pe_int (pa_cons pe_int (pa_cons pe_int (pa_cons pe_int (pa_cons pe_int (pa_cons (pv 3) pa_nil)))))))) pa_nil)))))
      (pss_one (ps_ret (by exact (pe_lc (own := [("_law_turn", 7)]) (g := gName 7) (tt := tYes) rfl scTold.nd
        (pi_range1 (by rfl) B.rg (pa_cons (pe_callB (call_min2 rfl) (by rfl) B.min bootMin (pa_cons (pv 6) (pa_cons (pv 3) pa_nil))) pa_nil))
        (blkOk_by (own := [("_law_turn", 7)]) (N := ["_law_purse_here", "_law_kinds_here", "_law_names_here", "_law_most", "_law_few", "_law_terms", "_law_many", "_law_turn"]) (sc := defScope sTold) (by decide +kernel))
        (fun _ _ _ _ _ => pg_name (i := 7) scTold.nd rfl (Or.inl rfl)) (fun _ _ _ _ _ => pts_nil)
        (fun _ _ _ _ _ => by exact (pe_call GP hr (by rfl) gP kP bP .nil pass0 (pa_cons (pv 0) (pa_cons (pv 1) (pa_cons (pv 5) pa_nil))))))))))
      , ?_⟩
    refine ⟨(by show 4 ≤ sizeLine; decide), fun l nl => ⟨_, rfl, _, rfl, l, four.map V.str, rfl, SqL.of upd_same, fun l2 nl2 => ?_⟩⟩
    have hc1 : cutV (four.map V.str) none (some (few : Int)) = (four.take few).map V.str := by
      unfold cutV
      rw [HT.sIx_none, HT.sIx_nat, List.drop_zero, Nat.sub_zero, List.map_take, List.length_map]
      rw [Nat.min_eq_left (by show few ≤ 4; omega)]
    rw [hc1]
    have s2 : Same H (upd (upd H l (.lst (four.map V.str))) l2 (.lst ((four.take few).map V.str))) := same_put (same_new nl) ((same_new nl).free nl2)
    refine (show ∀ G : Hp, Same H G → G l2 = some (.lst ((four.take few).map V.str)) → _ from fun G2 s2 e2 => ?_) _ s2 upd_same
    refine ⟨l2, 3, _, rfl, rfl, e2, by decide, by decide, ?_, fun l3 nl3 => ?_⟩
    · rw [List.length_map, List.length_take]
      have := big1000
      show min few 4 * 3 ≤ _
      omega
    · have hrep : (List.replicate (3 : Int).toNat ((four.take few).map V.str)).flatten = ((four.take few) ++ (four.take few) ++ (four.take few)).map V.str := by
        show (List.replicate 3 _).flatten = _
        simp [List.replicate]
      rw [hrep]
      have hv3 : ∀ z ∈ (four.take few) ++ (four.take few) ++ (four.take few), IsVr z := by
        intro z hz
        simp only [List.mem_append] at hz
        rcases hz with (h | h) | h <;> exact four_vr z (List.mem_of_mem_take h)
      have hl3 : ((four.take few) ++ (four.take few) ++ (four.take few)).length = 3 * few := by
        rw [List.length_append, List.length_append, List.length_take]
        have : min few four.length = few := by
          show min few 4 = few
          omega
        rw [this]
        omega
      generalize (four.take few) ++ (four.take few) ++ (four.take few) = vs at hv3 hl3 ⊢
      refine (show ∀ G : Hp, Same H G → G l3 = some (.lst (vs.map V.str)) → _ from fun G3 s3 e3 => ?_) _ (same_put s2 (s2.free nl3)) upd_same
      have pu3 := pu.same s3
      refine ⟨_, rfl, _, rfl, a, n + (1 + 4 * most), 2, rfl, pu3.le (by omega), ⟨by decide, by decide⟩, fun r H1 h0 h1 pu4 sb4 => ?_⟩
      obtain ⟨j, rfl⟩ : ∃ j : Nat, r = (j : Int) := ⟨r.toNat, by omega⟩
      have hl3a : l3 ≠ a := fun z => by
        obtain ⟨s, d, t, kk, e, _⟩ := pu3.ex
        rw [z, e] at e3
        injection e3 with e3
        injection e3 with e3
        cases vs with
        | nil => cases e3
        | cons v vs =>
          injection e3 with e3 _
          cases e3
      have e4 := sb4 _ _ hl3a e3
      have sb5 : Sb a H H1 := (Sb.of s3).trans sb4
      refine ⟨_, rfl, c, zs.map V.str, rfl, sb5.seq hca hc, fun l4 nl4 => ?_⟩
      have hc2 : cutV (zs.map V.str) none (some (j : Int)) = (zs.take j).map V.str := by
        unfold cutV
        rw [HT.sIx_none, HT.sIx_nat, List.drop_zero, Nat.sub_zero, List.map_take, List.length_map]
        rcases Nat.le_total j zs.length with h | h
        · rw [Nat.min_eq_left h]
        · rw [Nat.min_eq_right h, ← List.map_take, ← List.map_take, List.take_of_length_le h, List.take_of_length_le (Nat.le_refl _)]
      rw [hc2]
      have pu5 := pu4.put (o := .lst ((zs.take j).map V.str)) (pu4.ne nl4)
      have sb6 : Sb a H (upd H1 l4 (.lst ((zs.take j).map V.str))) := sb5.put (sb5.free pu4 nl4)
      have e5 : upd H1 l4 (.lst ((zs.take j).map V.str)) l3 = some (.lst (vs.map V.str)) := same_new nl4 _ _ e4
      refine (show ∀ G : Hp, G l4 = some (.lst ((zs.take j).map V.str)) → Pu G a (n + (1 + 4 * most)) → Sb a H G → G l3 = some (.lst (vs.map V.str)) → _ from fun G4 e6 pu5 sb6 e5 => ?_) _ upd_same pu5 sb6 e5
      have hlen : (vs.map V.str ++ (zs.take j).map V.str).length ≤ 200 := by
        rw [List.length_append, List.length_map, List.length_map, List.length_take]
        omega
      refine ⟨_, _, _, _, rfl, rfl, e5, e6, ?_, fun l5 nl5 => ?_⟩
      · have := big1000
        rw [List.length_append] at hlen
        omega
      · rw [← List.map_append]
        rw [← List.map_append] at hlen
        have ht : ∀ z ∈ vs ++ zs.take j, IsVr z ∨ IsNm z := by
          intro z hz
          rcases List.mem_append.mp hz with h | h
          · exact .inl (hv3 z h)
          · exact .inr (hz2 z (List.mem_of_mem_take h))
        have ht1 : 1 ≤ (vs ++ zs.take j).length := by
          rw [List.length_append]
          omega
        generalize vs ++ zs.take j = ts at ht ht1 hlen ⊢
        rw [List.length_map] at hlen
        have l5a := pu5.ne nl5
        refine (show ∀ G : Hp, Pu G a (n + (1 + 4 * most)) → Sb a H G → G l5 = some (.lst (ts.map V.str)) → tSeq _ _ { nx := fun _ H' => Q .non H', rt := Q } [some (.ref a), some (.ref b), some (.ref c), some (.int (most : Int)), some (.int (few : Int)), some (.ref l5), none, none] G from fun G5 pu6 sb7 e7 => ?_) _ (pu5.put l5a) (sb6.put (sb6.free pu5 nl5)) upd_same
        refine ⟨_, rfl, _, rfl, (by show 7 ≤ sizeLine; decide), fun l6 nl6 => ?_⟩
        have pu7 := pu6.put (o := .lst [V.int 0, .int 1, .int 1, .int 1, .int 2, .int 2, .int (most : Int)]) (pu6.ne nl6)
        refine ⟨a, l6, n + 4 * most, [V.int 0, .int 1, .int 1, .int 1, .int 2, .int 2, .int (most : Int)], rfl, pu7.le (by omega), SqL.of upd_same, pu6.ne nl6, ⟨by show 1 ≤ 7; decide, by show 7 ≤ 1000; decide⟩, fun v H2 hv pu8 sb8 => ?_⟩
        obtain ⟨m, rfl, hm100⟩ : ∃ m : Nat, v = V.int (m : Int) ∧ m ≤ 100 := by
          simp only [List.mem_cons, List.not_mem_nil, or_false] at hv
          rcases hv with rfl | rfl | rfl | rfl | rfl | rfl | rfl
          · exact ⟨0, rfl, by decide⟩
          · exact ⟨1, rfl, by decide⟩
          · exact ⟨1, rfl, by decide⟩
          · exact ⟨1, rfl, by decide⟩
          · exact ⟨2, rfl, by decide⟩
          · exact ⟨2, rfl, by decide⟩
          · exact ⟨most, rfl, hm⟩
        have sb9 : Sb a G5 H2 := (Sb.new nl6).trans sb8
        have sb10 : Sb a H H2 := sb7.trans sb9
        have e8 : H2 l5 = some (.lst (ts.map V.str)) := sb9 _ _ l5a e7
        have hb2 := sb10.seq hba hb
        have hkd2 : ∀ v ∈ ks, Kd H2 v := fun v hv => (hkd v hv).sb pu sb10
        clear pu7 sb8
        refine ⟨_, rfl, _, rfl, (m : Int), (most : Int), rfl, ?_⟩
        generalize hM : (if (most : Int) < (m : Int) then (most : Int) else (m : Int)) = M
        have hM2 : 0 ≤ M ∧ M ≤ most := by
          rw [← hM]
          split <;> omega
        refine ⟨M, rfl, by omega, by omega, fun D nD => ?_⟩
        have Da := pu8.ne nD
        refine lc_range (lo := 0) (n := M.toNat) (fun i H' => ∃ (us : List V) (ps : List (List Str)), PaL H' us ps ∧ ps.length = i ∧ (∀ x ∈ ps, PatOk x) ∧ Pu H' a (n + 4 * (most - i)) ∧ Sb a H2 H' ∧ H' D = some (.lst us)) ⟨[], [], .nil, rfl, (fun x hx => nomatch hx), pu8.put Da, Sb.new nD, upd_same⟩ ?_ ?_
        · rintro i H3 hi ⟨us, ps, hp, hl, hok, pu9, sb11, e9⟩
          refine ⟨rfl, ?_⟩
          refine ⟨_, rfl, _, rfl, _, rfl, a, b, l5, n + 4 * (most - (i + 1)), ks, ts, rfl, pu9.le (by omega), ⟨sb11.seq hba hb2, hba, hk1, hk2, fun v hv => (hkd2 v hv).sb pu8 sb11⟩, ⟨SqL.of (sb11 _ _ l5a e8), l5a, ht1, by omega⟩, fun t wd xs H4 hw hx1 hx2 nt pu10 sb12 et => ?_⟩
          have e10 := sb12 _ _ Da e9
          have hD : t ≠ D := fun z => by
            rw [z, e9] at nt
            cases nt
          refine ⟨us, e10, by rw [hp.len, hl]; exact small1000 (by omega), us ++ [.ref t], ps ++ [wd :: xs], ?_, by rw [List.length_append, hl] <;> rfl, ?_, pu10.put Da, (sb11.trans sb12).put nD, upd_same⟩
          · have h1 : PaL H4 us ps := hp.sb pu9 sb12
            have nDt : ∀ {vs ps}, PaL H4 vs ps → PaL (upd H4 D (.lst (us ++ [.ref t]))) vs ps := fun {vs ps} h => by
              induction h with
              | nil => exact .nil
              | cons e _ ih =>
                refine .cons ?_ ih
                rw [upd_ne (fun z => by rw [z, e10] at e; cases e)]
                exact e
            exact (nDt h1).app (nDt (.cons et .nil))
          · intro x hx
            rcases List.mem_append.mp hx with h | h
            · exact hok x h
            · rw [List.mem_singleton.mp h]
              exact ⟨wd, xs, rfl, hw.1, hx1, fun y hy => ht y (hx2 y hy)⟩
        · rintro H3 ⟨us, ps, hp, hl, hok, pu9, sb11, e9⟩
          refine q D us ps H3 hp hok (by omega) (sb10.free pu8 nD) (pu9.le (by omega)) (sb10.trans sb11) e9
end
end Nv
set_option maxHeartbeats 4000000
namespace Nv
open PySem PySem.Spec PyProof.Rows L2
/-- the variables among terms, in the order in which they first stand there -/
def vst (acc : List Str) (x : Str) : List Str := if IsVr x ∧ x ∉ acc then acc ++ [x] else acc
def varsIn (ts : List Str) : List Str := ts.foldl vst []
def tails (ps : List (List Str)) : List Str := (ps.map List.tail).flatten
theorem vst_len (acc : List Str) (x : Str) : (vst acc x).length ≤ acc.length + 1 := by
  unfold vst
  split
  · rw [List.length_append] <;> exact Nat.le_refl _
  · omega
theorem fold_len : ∀ (ts acc : List Str), (ts.foldl vst acc).length ≤ acc.length + ts.length
  | [], acc => Nat.le_refl _
  | x :: ts, acc => by
    have h1 := fold_len ts (vst acc x)
    have h2 := vst_len acc x
    show (ts.foldl vst (vst acc x)).length ≤ acc.length + (ts.length + 1)
    omega
theorem fold_mem : ∀ (ts acc : List Str) (y : Str), y ∈ ts.foldl vst acc ↔ y ∈ acc ∨ (y ∈ ts ∧ IsVr y)
  | [], acc, y => by simp
  | x :: ts, acc, y => by
    show y ∈ ts.foldl vst (vst acc x) ↔ _
    rw [fold_mem ts (vst acc x) y]
    unfold vst
    by_cases h : IsVr x ∧ x ∉ acc
    · rw [if_pos h]
      constructor
      · rintro (h1 | h1)
        · rcases List.mem_append.mp h1 with h2 | h2
          · exact .inl h2
          · rw [List.mem_singleton.mp h2]
            exact .inr ⟨List.mem_cons_self, h.1⟩
        · exact .inr ⟨List.mem_cons_of_mem _ h1.1, h1.2⟩
      · rintro (h1 | ⟨h1, h2⟩)
        · exact .inl (List.mem_append_left _ h1)
        · rcases List.mem_cons.mp h1 with rfl | h1
          · exact .inl (List.mem_append_right _ (List.mem_singleton.mpr rfl))
          · exact .inr ⟨h1, h2⟩
    · rw [if_neg h]
      constructor
      · rintro (h1 | h1)
        · exact .inl h1
        · exact .inr ⟨List.mem_cons_of_mem _ h1.1, h1.2⟩
      · rintro (h1 | ⟨h1, h2⟩)
        · exact .inl h1
        · rcases List.mem_cons.mp h1 with rfl | h1
          · refine .inl ?_
            by_cases hm : y ∈ acc
            · exact hm
            · exact absurd ⟨h2, hm⟩ h
          · exact .inr ⟨h1, h2⟩
theorem varsIn_mem {ts : List Str} {y : Str} : y ∈ varsIn ts ↔ y ∈ ts ∧ IsVr y := by
  unfold varsIn
  rw [fold_mem]
  simp
theorem fold_nd : ∀ (ts acc : List Str), acc.Nodup → (ts.foldl vst acc).Nodup
  | [], acc, h => h
  | x :: ts, acc, h => by
    show (ts.foldl vst (vst acc x)).Nodup
    refine fold_nd ts _ ?_
    unfold vst
    split
    · rename_i hx
      rw [List.nodup_append]
      refine ⟨h, by simp, fun a ha b hb e => ?_⟩
      rw [List.mem_singleton.mp hb] at e
      exact hx.2 (e ▸ ha)
    · exact h
theorem varsIn_nd (ts : List Str) : (varsIn ts).Nodup := fold_nd ts [] List.nodup_nil
theorem varsIn_len (ts : List Str) : (varsIn ts).length ≤ ts.length := by
  have := fold_len ts []
  simpa [varsIn] using this
theorem tails_take {ps : List (List Str)} {i : Nat} {p : List Str} (h : ps[i]? = some p) : tails (ps.take (i + 1)) = tails (ps.take i) ++ p.tail := by
  unfold tails
  rw [List.take_add_one, h, List.map_append, List.flatten_append]
  simp
theorem tails_len {ps : List (List Str)} (h : ∀ x ∈ ps, PatOk x) : (tails ps).length ≤ 3 * ps.length := by
  induction ps with
  | nil => simp [tails]
  | cons p ps ih =>
    obtain ⟨w, ts, rfl, _, h3, _⟩ := h p List.mem_cons_self
    have h2 := ih fun x hx => h x (List.mem_cons_of_mem _ hx)
    have e : tails ((w :: ts) :: ps) = ts ++ tails ps := by simp [tails]
    rw [e, List.length_append, List.length_cons]
    omega
theorem nm_not_vr {z : Str} (h : IsNm z) : ¬ IsVr z := fun v => upper_nm h (upper_vr v)
theorem cut1 (w : Str) (ts : List Str) : cutV ((w :: ts).map V.str) (some 1) none = ts.map V.str := by
  unfold cutV
  have e : HT.sIx ((w :: ts).map V.str).length 0 (some (1 : Int)) = 1 := by
    have := HT.sIx_nat ((w :: ts).map V.str).length 0 1
    rw [show ((1 : Nat) : Int) = 1 by rfl] at this
    rw [this, List.length_map, List.length_cons]
    omega
  rw [e, HT.sIx_none, List.length_map, List.length_cons]
  show (ts.map V.str).take (ts.length + 1 - 1) = _
  rw [Nat.add_sub_cancel, List.take_of_length_le (by rw [List.length_map]; exact Nat.le_refl _)]
section
variable {P : Program} {w : World} {K : PySem.W.Frag} {mg : Str → Option Value} {base : Heap}
/-- _law_variables(told) -/
def spVariables (K : PySem.W.Frag) : Sp := fun vs H Q _ => ∃ (a : Addr) (us : List V) (ps : List (List Str)), vs = [.ref a] ∧ SqL K H a us ∧ PaL H us ps ∧ (∀ x ∈ ps, PatOk x) ∧ ps.length ≤ 1000 ∧
  ∀ (p : Addr) (H' : Hp), H p = none → Same H H' → H' p = some (.lst ((varsIn (tails ps)).map V.str)) → Q (.ref p) H'
theorem scVariables : FnScope ["_law_told_here", "_law_found", "_law_pattern_here", "_law_term"] ["_law_told_here"] (defScope sVariables) := ⟨rfl, rfl, rfl, by decide +kernel, rfl, by decide +kernel, by decide +kernel⟩
theorem ok_variables {f : Addr} {fd : FuncData} (F : Fun K "_law_variables" "_law_variables" sVariables f fd) : FnOk P w K mg base CX0 1 f fd ["_law_told_here"] (spVariables K) := by
  refine F.ok scVariables (fun vs H Q E h => ?_) (fun cdv A outer s H vs Q E hr h => ?_)
  · obtain ⟨a, us, ps, rfl, _⟩ := h
    rfl
  · obtain ⟨a, us, ps, rfl, ha, hp, hok, hl, q⟩ := h
    refine ⟨_, pss_cons (ps_set (i := 1) scVariables.nd rfl (Or.inl rfl) (pe_lst pa_nil))
      (pss_cons (ps_for PassesOwn.never rfl (pi_list (pv 0)) (pg_name (i := 2) scVariables.nd rfl (Or.inl rfl))
        (pss_one (ps_for PassesOwn.never rfl (pi_tup (pe_slice sl_tup (pv 2) (po_some pe_int) po_none)) (pg_name (i := 3) scVariables.nd rfl (Or.inl rfl))
          (pss_one (ps_if (PW.pt (pw_and (pt_cmpR op_eq (pv 3) (pe_upper (pv 3)) (nomark _)) (pw_and1 (pt_cmpR op_notIn_seq (pv 3) (pv 1) (by rfl)))))
            (pss_one (ps_expr (pe_bm PySem.F.plainAttrs_list PySem.F.slot_list_append PySem.F.type_list_append mt_append (pv 1) (pa_cons (pv 3) pa_nil)))) pss_nil)))))
      (pss_one (ps_ret (pv 1)))), ?_⟩
    refine ⟨by decide, fun p np => ?_⟩
    have hul := hp.len
    refine ⟨_, rfl, a, rfl, ⟨_, (same_new np).seq ha⟩, for_list (K := K) (a := a) (xs := us) (fun i σ H' => ∃ (o2 o3 : Option V), σ = [some (.ref a), some (.ref p), o2, o3] ∧ Same H H' ∧ H' p = some (.lst ((varsIn (tails (ps.take i))).map V.str))) ⟨none, none, rfl, same_new np, upd_same⟩ (fun i σ H' _ z => ?_) ?_ ?_⟩
    · obtain ⟨_, _, _, sm, _⟩ := z
      exact sm.seq ha
    · rintro i v σ H1 hi ⟨o2, o3, rfl, sm, e1⟩
      obtain ⟨t, pat, rfl, hpi, et⟩ := hp.at_ hi
      obtain ⟨wd, ts, rfl, hw, h3, hts⟩ := hok pat (List.mem_of_getElem? hpi)
      have et1 := sm _ _ et
      have hacc : (varsIn (tails (ps.take i))).length ≤ 3000 := by
        have h1 := varsIn_len (tails (ps.take i))
        have h2 := tails_len (ps := ps.take i) fun x hx => hok x (List.mem_of_mem_take hx)
        rw [List.length_take] at h2
        omega
      rw [tails_take hpi]
      show tFor _ _ _ _ _ _
      have hfold : varsIn (tails (ps.take i) ++ (wd :: ts).tail) = ts.foldl vst (varsIn (tails (ps.take i))) := by
        unfold varsIn
        rw [List.foldl_append] <;> rfl
      rw [hfold]
      generalize varsIn (tails (ps.take i)) = acc at e1 hacc ⊢
      refine ⟨_, rfl, 1, rfl, t, _, rfl, SqT.of et1, ?_, fun t2 nt2 => ?_⟩
      · rintro ⟨h, _⟩
        have := HT.sIx_nat ((wd :: ts).map V.str).length 0 1
        rw [show ((1 : Nat) : Int) = 1 by rfl] at this
        rw [this, List.length_map, List.length_cons] at h
        omega
      · rw [cut1]
        have sm2 : Same H (upd H1 t2 (.tup (ts.map V.str))) := same_put sm (sm.free nt2)
        have e2 : upd H1 t2 (.tup (ts.map V.str)) p = some (.lst (acc.map V.str)) := same_new nt2 _ _ e1
        refine (show ∀ G : Hp, G t2 = some (.tup (ts.map V.str)) → Same H G → G p = some (.lst (acc.map V.str)) → _ from fun G et2 sm2 e2 => ?_) _ upd_same sm2 e2
        refine ⟨t2, rfl, ⟨_, SqT.of et2⟩, for_tup (K := K) (a := t2) (xs := ts.map V.str) (fun j σ H' => ∃ (o3 : Option V), σ = [some (.ref a), some (.ref p), some (.ref t), o3] ∧ Same H H' ∧ H' t2 = some (.tup (ts.map V.str)) ∧ H' p = some (.lst (((ts.take j).foldl vst acc).map V.str))) ⟨o3, rfl, sm2, et2, e2⟩ (fun j σ H' _ z => ?_) ?_ ?_⟩
        · obtain ⟨_, _, _, e, _⟩ := z
          exact SqT.of e
        · rintro j x σ H2 hj ⟨o, rfl, sm3, et3, e3⟩
          rw [List.getElem?_map] at hj
          obtain ⟨z, hz, rfl⟩ : ∃ z, ts[j]? = some z ∧ x = V.str z := by
            cases g : ts[j]? with
            | none =>
              rw [g] at hj
              cases hj
            | some z =>
              rw [g] at hj
              exact ⟨z, rfl, (Option.some.inj hj).symm⟩
          have hzt := hts z (List.mem_of_getElem? hz)
          have hzl : z.length ≤ 10 := by
            rcases hzt with h | h
            · have := h.2.1
              omega
            · exact h.2.1
          have htk : (ts.take (j + 1)).foldl vst acc = vst ((ts.take j).foldl vst acc) z := by
            rw [List.take_add_one, hz, List.foldl_append] <;> rfl
          rw [htk]
          have hal : ((ts.take j).foldl vst acc).length ≤ 3003 := by
            have := fold_len (ts.take j) acc
            rw [List.length_take] at this
            omega
          generalize (ts.take j).foldl vst acc = ac at e3 hal ⊢
          have hpt : t2 ≠ p := fun y => by
            rw [y, e3] at et3
            cases et3
          refine ⟨_, rfl, _, rfl, ⟨_, rfl⟩, z, rfl, rfl, (by omega), rfl, _, rfl, ?_⟩
          by_cases hv : IsVr z
          · rw [upper_vr hv, decide_eq_true rfl]
            refine iteT ⟨_, rfl, _, rfl, p, _, rfl, .inl (SqL.of e3), rfl, flat_strs _, _, rfl, ?_⟩
            rw [inV_strs]
            by_cases hm : z ∈ ac
            · rw [decide_eq_true hm]
              refine iteF ?_
              refine ⟨_, rfl, sm3, et3, ?_⟩
              unfold vst
              rw [if_neg (fun h => h.2 hm)]
              exact e3
            · rw [decide_eq_false hm]
              refine iteT ⟨_, rfl, .inl ⟨rfl, _, SqL.of e3⟩, _, rfl, p, _, _, rfl, rfl, e3, ?_, ?_⟩
              · rw [List.length_map]
                exact Nat.lt_of_le_of_lt hal (by decide)
              · refine ⟨_, rfl, same_put sm3 np, ?_, ?_⟩
                · rw [upd_ne hpt]
                  exact et3
                · unfold vst
                  rw [upd_same, if_pos ⟨hv, hm⟩, List.map_append] <;> rfl
          · have hn : IsNm z := hzt.resolve_left hv
            have hne : ¬ V.str z = V.str (Txt.upper z) := fun e => by
              injection e with e
              exact upper_nm hn e.symm
            rw [decide_eq_false hne]
            refine iteF ?_
            refine iteF ?_
            refine ⟨_, rfl, sm3, et3, ?_⟩
            unfold vst
            rw [if_neg (fun h => hv h.1)]
            exact e3
        · rintro σ H2 ⟨o, rfl, sm3, et3, e3⟩
          rw [List.length_map, List.take_length] at e3
          exact ⟨_, _, rfl, sm3, e3⟩
    · rintro σ H1 ⟨o2, o3, rfl, sm, e1⟩
      rw [hul, List.take_length] at e1
      exact ⟨_, rfl, q p H1 np sm e1⟩
end
end Nv
set_option maxHeartbeats 4000000
namespace Nv
open PySem PySem.Spec PyProof.Rows L2
theorem layAll : ∀ {ds : List PyData}, (∀ d ∈ ds, d.canLay0 = true ∧ d.depth ≤ 50) → PyData.canLayAll0 ds = true ∧ PyData.depthAll ds ≤ 50
  | [], _ => ⟨by simp [PyData.canLayAll0], by simp [PyData.depthAll]⟩
  | d :: ds, h => by
    obtain ⟨h1, h2⟩ := h d List.mem_cons_self
    obtain ⟨h3, h4⟩ := layAll (ds := ds) fun x hx => h x (List.mem_cons_of_mem _ hx)
    refine ⟨by simp [PyData.canLayAll0, h1, h3], ?_⟩
    simp only [PyData.depthAll]
    omega
/-- data that can be laid, of a depth of at most n -/
def Lay (n : Nat) (d : PyData) : Prop := d.canLay0 = true ∧ d.depth ≤ n
/-- signs of ASCII alone -/
def Asc (z : Str) : Prop := ∀ c ∈ z.cps.toList, c < 128
theorem IsNm.asc {z : Str} (h : IsNm z) : Asc z := fun c hc => by
  have := h.2.2 c hc
  omega
theorem IsVr.asc {z : Str} (h : IsVr z) : Asc z := fun c hc => by
  have := h.2.2 c hc
  omega
theorem PatOk.asc {p : List Str} (h : PatOk p) : ∀ x ∈ p, Asc x := by
  obtain ⟨w, ts, rfl, hw, _, ht⟩ := h
  intro x hx
  rcases List.mem_cons.mp hx with rfl | hx
  · exact hw.asc
  · rcases ht x hx with h | h
    · exact h.asc
    · exact h.asc
theorem Asc.ok {z : Str} (h : Asc z) : PyData.strOk z = true := by
  unfold PyData.strOk
  rw [Array.all_eq_true']
  intro c hc
  have := h c (by simpa using hc)
  simp
  omega
theorem lay_str {x : Str} (h : Asc x) : Lay 0 (.str x) := ⟨by simp [PyData.canLay0, h.ok], by simp [PyData.depth]⟩
theorem lay_non : Lay 0 .none := ⟨by simp [PyData.canLay0], by simp [PyData.depth]⟩
theorem Lay.le {n m : Nat} {d : PyData} (h : Lay n d) (l : n ≤ m) : Lay m d := ⟨h.1, Nat.le_trans h.2 l⟩
theorem lay_all {n : Nat} : ∀ {ds : List PyData}, (∀ d ∈ ds, Lay n d) → PyData.canLayAll0 ds = true ∧ PyData.depthAll ds ≤ n
  | [], _ => ⟨by simp [PyData.canLayAll0], by simp [PyData.depthAll]⟩
  | d :: ds, h => by
    obtain ⟨h1, h2⟩ := h d List.mem_cons_self
    obtain ⟨h3, h4⟩ := lay_all (ds := ds) fun x hx => h x (List.mem_cons_of_mem _ hx)
    refine ⟨by simp [PyData.canLayAll0, h1, h3], ?_⟩
    simp only [PyData.depthAll]
    omega
theorem lay_list {n : Nat} {ds : List PyData} (h : ∀ d ∈ ds, Lay n d) : Lay (n + 1) (.list ds) := by
  obtain ⟨h1, h2⟩ := lay_all h
  refine ⟨by simpa [PyData.canLay0] using h1, ?_⟩
  simp only [PyData.depth]
  omega
theorem lay_tup {n : Nat} {ds : List PyData} (h : ∀ d ∈ ds, Lay n d) : Lay (n + 1) (.tuple ds) := by
  obtain ⟨h1, h2⟩ := lay_all h
  refine ⟨by simpa [PyData.canLay0] using h1, ?_⟩
  simp only [PyData.depth]
  omega
theorem Lay.shaped {n : Nat} {d : PyData} (h : Lay n d) (hn : n ≤ 50) : SeqAt.shaped d = true := by
  refine Bool.and_eq_true_iff.mpr ⟨h.1, decide_eq_true ?_⟩
  have := h.2
  omega
/-- a tuple of texts, a list of such, a list of texts, as data -/
def dT (p : List Str) : PyData := .tuple (p.map PyData.str)
def dL (ps : List (List Str)) : PyData := .list (ps.map dT)
def dS (xs : List Str) : PyData := .list (xs.map PyData.str)
theorem lay_dT {p : List Str} (h : ∀ x ∈ p, Asc x) : Lay 1 (dT p) := lay_tup fun d hd => by
  obtain ⟨x, hx, rfl⟩ := List.mem_map.mp hd
  exact lay_str (h x hx)
theorem lay_dL {ps : List (List Str)} (h : ∀ p ∈ ps, ∀ x ∈ p, Asc x) : Lay 2 (dL ps) := lay_list fun d hd => by
  obtain ⟨x, hx, rfl⟩ := List.mem_map.mp hd
  exact lay_dT (h x hx)
theorem lay_dS {xs : List Str} (h : ∀ x ∈ xs, Asc x) : Lay 1 (dS xs) := lay_list fun d hd => by
  obtain ⟨x, hx, rfl⟩ := List.mem_map.mp hd
  exact lay_str (h x hx)
theorem dp_strs {K : PySem.W.Frag} {H : Hp} : ∀ xs : List Str, DpAll K H (xs.map V.str) (xs.map PyData.str)
  | [] => .nil
  | x :: xs => .cons (.str x) (dp_strs xs)
theorem dp_T {K : PySem.W.Frag} {H : Hp} {t : Addr} {p : List Str} (e : H t = some (.tup (p.map V.str))) : Dp K H (.ref t) (dT p) := .tup (SqT.of e) (dp_strs p)
theorem dp_S {K : PySem.W.Frag} {H : Hp} {t : Addr} {p : List Str} (e : SqL K H t (p.map V.str)) : Dp K H (.ref t) (dS p) := .lst e (dp_strs p)
theorem PaL.dp {K : PySem.W.Frag} {H : Hp} {vs : List V} {ps : List (List Str)} (h : PaL H vs ps) : DpAll K H vs (ps.map dT) := by
  induction h with
  | nil => exact .nil
  | cons e _ ih => exact .cons (dp_T e) ih
theorem dp_L {K : PySem.W.Frag} {H : Hp} {t : Addr} {vs : List V} {ps : List (List Str)} (e : SqL K H t vs) (h : PaL H vs ps) : Dp K H (.ref t) (dL ps) := .lst e h.dp
theorem eqv_strs : ∀ xs ys : List Str, PyData.eqvAll (xs.map PyData.str) (ys.map PyData.str) = decide (xs = ys)
  | [], [] => by simp [PyData.eqvAll]
  | [], y :: ys => by simp [PyData.eqvAll]
  | x :: xs, [] => by simp [PyData.eqvAll]
  | x :: xs, y :: ys => by
    rw [List.map_cons, List.map_cons, PyData.eqvAll, eqv_strs xs ys, PyData.eqv]
    by_cases h : x = y
    · subst h
      simp
    · have : (x == y) = false := by simpa using h
      simp [this, h]
theorem eqv_T (p q : List Str) : PyData.eqv (dT p) (dT q) = decide (p = q) := by
  unfold dT
  rw [PyData.eqv, eqv_strs]
theorem eqv_S (p q : List Str) : PyData.eqv (dS p) (dS q) = decide (p = q) := by
  unfold dS
  rw [PyData.eqv, eqv_strs]
theorem eqv_Ts : ∀ ps qs : List (List Str), PyData.eqvAll (ps.map dT) (qs.map dT) = decide (ps = qs)
  | [], [] => by simp [PyData.eqvAll]
  | [], y :: ys => by simp [PyData.eqvAll]
  | x :: xs, [] => by simp [PyData.eqvAll]
  | x :: xs, y :: ys => by
    rw [List.map_cons, List.map_cons, PyData.eqvAll, eqv_Ts xs ys, eqv_T]
    by_cases h : x = y
    · subst h
      simp
    · simp [h]
theorem eqv_L (ps qs : List (List Str)) : PyData.eqv (dL ps) (dL qs) = decide (ps = qs) := by
  unfold dL
  rw [PyData.eqv, eqv_Ts]
end Nv
set_option maxHeartbeats 4000000
namespace Nv
open PySem PySem.Spec PyProof.Rows L2
/-- the built-ins that the program's text calls -/
structure Bp (mg : Str → Option Value) : Prop where
  isi : mg "isinstance" = none
  str : mg "str" = none
  tup : mg "tuple" = none
  lst : mg "list" = none
  set : mg "set" = none
  len : mg "len" = none
  all : mg "all" = none
  any : mg "any" = none
theorem bootIsi : bootBuiltins "isinstance" = some (.builtin "isinstance") := by decide +kernel
theorem bootAll : bootBuiltins "all" = some (.builtin "all") := by decide +kernel
theorem bootAny : bootBuiltins "any" = some (.builtin "any") := by decide +kernel
theorem lt_one (c d : Nat) : (([c] : List Nat) < [d]) ↔ c < d := by
  constructor
  · intro h
    cases h with
    | rel h => exact h
    | cons h => cases h
  · intro h
    exact .rel h
theorem take_one {α : Type} {l : List α} {i : Nat} {x : α} (h : l[i]? = some x) : l.take (i + 1) = l.take i ++ [x] := by
  rw [List.take_add_one, h] <;> rfl
section
variable {P : Program} {w : World} {K : PySem.W.Frag} {mg : Str → Option Value} {base : Heap}
/-- a test of any value that may only hold of a text -/
def spTxt (K : PySem.W.Frag) (p : Str → Bool) : Sp := fun vs H Q _ => ∃ v : V, vs = [v] ∧ ((∃ z : Str, v = .str z ∧ z.length ≤ sizeLine ∧ ∀ H', Same H H' → Q (.bl (p z)) H') ∨
  (∃ t : Value, TyX K H v t ∧ PySem.W.kitOne K t (.type "str") = some false ∧ ∀ H', Same H H' → Q (.bl false) H'))
theorem spTxt.yes {p : Str → Bool} {z : Str} {H : Hp} {Q : VK} {E : XK} (hz : z.length ≤ 1000) (q : ∀ H', Same H H' → Q (.bl (p z)) H') : spTxt K p [.str z] H Q E :=
  ⟨_, rfl, .inl ⟨z, rfl, Nat.le_trans hz big1000, q⟩⟩
theorem scIsName : FnScope ["value", "sign"] ["value"] (defScope sIsName) := ⟨rfl, rfl, rfl, by decide +kernel, rfl, by decide +kernel, by decide +kernel⟩
theorem ok_isName {f : Addr} {fd : FuncData} (F : Fun K "is_name" "is_name" sIsName f fd) (B : Bp mg) : FnOk P w K mg base CX0 1 f fd ["value"] (spTxt K fun z => decide (IsNm z)) := by
  refine F.ok scIsName (fun vs H Q E h => ?_) (fun cdv A outer s H vs Q E hr h => ?_)
  · obtain ⟨v, rfl, _⟩ := h
    rfl
  · obtain ⟨v, rfl, h⟩ := h
    refine ⟨_, pss_one (ps_ret (pe_and (pe_callB call_isi (by rfl) B.isi bootIsi (pa_cons (pv 0) (pa_cons (pe_bltn (v := V.ty "str") (by rfl) B.str PyProof.Rows.boot_str rfl) pa_nil)))
      (pe_and (pe_chain op_le op_le pe_int (pe_callB call_len_str (by rfl) B.len PySem.boot_len (pa_cons (pv 0) pa_nil)) pe_int)
      (pe_one (pe_callB (cr_all rfl) (by rfl) B.all bootAll (pa_cons (by exact (pe_lc (own := [("sign", 1)]) (g := gName 1) (tt := tYes) rfl scIsName.nd (pi_str (pv 0))
        (blkOk_by (own := [("sign", 1)]) (N := ["value", "sign"]) (sc := defScope sIsName) (by decide +kernel))
        (fun _ _ _ _ _ => pg_name (i := 1) scIsName.nd rfl (Or.inl rfl)) (fun _ _ _ _ _ => pts_nil)
        (fun _ _ _ _ _ => by exact (pe_chain op_le_str op_le_str pe_str (pv 1) pe_str)))) pa_nil)))))), ?_⟩
    rcases h with ⟨z, rfl, hz, q⟩ | ⟨t, ht, hk, q⟩
    · have q : ∀ H', Same H H' → Q (.bl (decide (IsNm z))) H' := q
      refine ⟨_, rfl, _, _, _, _, true, rfl, .ty _, .base (.str _), kit_ty (by decide +kernel), true, rfl, iteT ?_⟩
      refine ⟨_, rfl, z, rfl, hz, _, _, rfl, rfl, _, rfl, ?_⟩
      by_cases h1 : (1 : Int) ≤ (z.length : Int)
      · rw [decide_eq_true h1]
        refine iteT ⟨_, _, rfl, rfl, ?_⟩
        refine ⟨decide ((z.length : Int) ≤ 10), rfl, ?_⟩
        by_cases h2 : (z.length : Int) ≤ 10
        · rw [decide_eq_true h2]
          refine iteT ?_
          refine ⟨_, rfl, z, rfl, fun D nD => ?_⟩
          refine lc_it walk_str (fun i H' => Same H H' ∧ H' D = some (.lst ((z.cps.toList.take i).map fun c => V.bl (decide (97 ≤ c ∧ c ≤ 122))))) ⟨same_new nD, upd_same⟩ (fun _ _ _ _ => trivial) ?_ ?_
          · rintro i x H1 H2 hi ⟨sm, e⟩ ⟨rfl, c, hc, rfl⟩
            have hc2 : z.cps.toList[i]? = some c := by simpa using hc
            refine ⟨rfl, ?_⟩
            have hil : i ≤ 10 := by
              have : z.cps.size = z.length := rfl
              omega
            refine ⟨_, rfl, _, _, rfl, rfl, _, rfl, ?_⟩
            have e1 : (!decide (([c] : List Nat) < [97])) = decide (97 ≤ c) := by
              by_cases h : c < 97
              · rw [decide_eq_true ((lt_one _ _).mpr h), decide_eq_false (by omega)] <;> rfl
              · rw [decide_eq_false (fun y => h ((lt_one _ _).mp y)), decide_eq_true (by omega)] <;> rfl
            have e2 : (!decide (([122] : List Nat) < [c])) = decide (c ≤ 122) := by
              by_cases h : 122 < c
              · rw [decide_eq_true ((lt_one _ _).mpr h), decide_eq_false (by omega)] <;> rfl
              · rw [decide_eq_false (fun y => h ((lt_one _ _).mp y)), decide_eq_true (by omega)] <;> rfl
            have put : ∀ b : Bool, b = decide (97 ≤ c ∧ c ≤ 122) → ∃ acc, H2 D = some (.lst acc) ∧ acc.length < sizeLine ∧ (Same H (upd H2 D (.lst (acc ++ [V.bl b]))) ∧ upd H2 D (.lst (acc ++ [V.bl b])) D = some (.lst ((z.cps.toList.take (i + 1)).map fun c => V.bl (decide (97 ≤ c ∧ c ≤ 122))))) := fun b hb => by
              refine ⟨_, e, ?_, same_put sm nD, ?_⟩
              · rw [List.length_map, List.length_take]
                exact Nat.lt_of_le_of_lt (by omega : _ ≤ 10) (by decide)
              · rw [upd_same, take_one hc2, List.map_append, hb] <;> rfl
            show if (!decide (([c] : List Nat) < [97])) = true then _ else _
            rw [e1]
            by_cases h3 : 97 ≤ c
            · rw [decide_eq_true h3]
              refine iteT ⟨_, _, rfl, rfl, ?_⟩
              refine put _ (e2.trans ?_)
              simp [h3]
            · rw [decide_eq_false h3]
              refine iteF (put _ ?_)
              simp [h3]
          · rintro H1 ⟨sm, e⟩
            have ht : z.cps.toList.take z.cps.size = z.cps.toList := List.take_of_length_le (by simp)
            rw [ht] at e
            refine ⟨D, z.cps.toList.map fun c => decide (97 ≤ c ∧ c ≤ 122), rfl, SqL.of (by rw [e, List.map_map] <;> rfl), ?_⟩
            have hb : (z.cps.toList.map fun c => decide (97 ≤ c ∧ c ≤ 122)).all id = decide (IsNm z) := by
              rw [List.all_map]
              by_cases hn : IsNm z
              · rw [decide_eq_true hn, List.all_eq_true]
                intro c hc
                exact decide_eq_true (hn.2.2 c hc)
              · rw [decide_eq_false hn, ← Bool.not_eq_true]
                intro y
                refine hn ⟨by omega, by omega, fun c hc => ?_⟩
                exact of_decide_eq_true (List.all_eq_true.mp y c hc)
            rw [hb]
            exact q _ sm
        · rw [decide_eq_false h2]
          refine iteF ?_
          have := q H (Same.refl H)
          rw [decide_eq_false (fun h : IsNm z => h2 (by have := h.2.1; omega))] at this
          exact this
      · rw [decide_eq_false h1]
        refine iteF ⟨false, rfl, iteF ?_⟩
        have := q H (Same.refl H)
        rw [decide_eq_false (fun h : IsNm z => h1 (by have := h.1; omega))] at this
        exact this
    · refine ⟨_, rfl, _, _, _, _, false, rfl, .ty _, ht, hk, false, rfl, iteF ?_⟩
      exact q H (Same.refl H)
end
end Nv
set_option maxHeartbeats 4000000
namespace Nv
open PySem PySem.Spec PyProof.Rows L2
section
variable {P : Program} {w : World} {K : PySem.W.Frag} {mg : Str → Option Value} {base : Heap}
theorem scIsVar : FnScope ["value", "sign"] ["value"] (defScope sIsVar) := ⟨rfl, rfl, rfl, by decide +kernel, rfl, by decide +kernel, by decide +kernel⟩
theorem ok_isVar {f : Addr} {fd : FuncData} (F : Fun K "is_variable" "is_variable" sIsVar f fd) (B : Bp mg) : FnOk P w K mg base CX0 1 f fd ["value"] (spTxt K fun z => decide (IsVr z)) := by
  refine F.ok scIsVar (fun vs H Q E h => ?_) (fun cdv A outer s H vs Q E hr h => ?_)
  · obtain ⟨v, rfl, _⟩ := h
    rfl
  · obtain ⟨v, rfl, h⟩ := h
    refine ⟨_, pss_one (ps_ret (pe_and (pe_callB call_isi (by rfl) B.isi bootIsi (pa_cons (pv 0) (pa_cons (pe_bltn (v := V.ty "str") (by rfl) B.str PyProof.Rows.boot_str rfl) pa_nil)))
      (pe_and (pe_chain op_le op_le pe_int (pe_callB call_len_str (by rfl) B.len PySem.boot_len (pa_cons (pv 0) pa_nil)) pe_int)
      (pe_one (pe_callB (cr_all rfl) (by rfl) B.all bootAll (pa_cons (by exact (pe_lc (own := [("sign", 1)]) (g := gName 1) (tt := tYes) rfl scIsVar.nd (pi_str (pv 0))
        (blkOk_by (own := [("sign", 1)]) (N := ["value", "sign"]) (sc := defScope sIsVar) (by decide +kernel))
        (fun _ _ _ _ _ => pg_name (i := 1) scIsVar.nd rfl (Or.inl rfl)) (fun _ _ _ _ _ => pts_nil)
        (fun _ _ _ _ _ => by exact (pe_chain op_le_str op_le_str pe_str (pv 1) pe_str)))) pa_nil)))))), ?_⟩
    rcases h with ⟨z, rfl, hz, q⟩ | ⟨t, ht, hk, q⟩
    · have q : ∀ H', Same H H' → Q (.bl (decide (IsVr z))) H' := q
      refine ⟨_, rfl, _, _, _, _, true, rfl, .ty _, .base (.str _), kit_ty (by decide +kernel), true, rfl, iteT ?_⟩
      refine ⟨_, rfl, z, rfl, hz, _, _, rfl, rfl, _, rfl, ?_⟩
      by_cases h1 : (1 : Int) ≤ (z.length : Int)
      · rw [decide_eq_true h1]
        refine iteT ⟨_, _, rfl, rfl, ?_⟩
        refine ⟨decide ((z.length : Int) ≤ 3), rfl, ?_⟩
        by_cases h2 : (z.length : Int) ≤ 3
        · rw [decide_eq_true h2]
          refine iteT ?_
          refine ⟨_, rfl, z, rfl, fun D nD => ?_⟩
          refine lc_it walk_str (fun i H' => Same H H' ∧ H' D = some (.lst ((z.cps.toList.take i).map fun c => V.bl (decide (65 ≤ c ∧ c ≤ 90))))) ⟨same_new nD, upd_same⟩ (fun _ _ _ _ => trivial) ?_ ?_
          · rintro i x H1 H2 hi ⟨sm, e⟩ ⟨rfl, c, hc, rfl⟩
            have hc2 : z.cps.toList[i]? = some c := by simpa using hc
            refine ⟨rfl, ?_⟩
            have hil : i ≤ 3 := by
              have : z.cps.size = z.length := rfl
              omega
            refine ⟨_, rfl, _, _, rfl, rfl, _, rfl, ?_⟩
            have e1 : (!decide (([c] : List Nat) < [65])) = decide (65 ≤ c) := by
              by_cases h : c < 65
              · rw [decide_eq_true ((lt_one _ _).mpr h), decide_eq_false (by omega)] <;> rfl
              · rw [decide_eq_false (fun y => h ((lt_one _ _).mp y)), decide_eq_true (by omega)] <;> rfl
            have e2 : (!decide (([90] : List Nat) < [c])) = decide (c ≤ 90) := by
              by_cases h : 90 < c
              · rw [decide_eq_true ((lt_one _ _).mpr h), decide_eq_false (by omega)] <;> rfl
              · rw [decide_eq_false (fun y => h ((lt_one _ _).mp y)), decide_eq_true (by omega)] <;> rfl
            have put : ∀ b : Bool, b = decide (65 ≤ c ∧ c ≤ 90) → ∃ acc, H2 D = some (.lst acc) ∧ acc.length < sizeLine ∧ (Same H (upd H2 D (.lst (acc ++ [V.bl b]))) ∧ upd H2 D (.lst (acc ++ [V.bl b])) D = some (.lst ((z.cps.toList.take (i + 1)).map fun c => V.bl (decide (65 ≤ c ∧ c ≤ 90))))) := fun b hb => by
              refine ⟨_, e, ?_, same_put sm nD, ?_⟩
              · rw [List.length_map, List.length_take]
                exact Nat.lt_of_le_of_lt (by omega : _ ≤ 3) (by decide)
              · rw [upd_same, take_one hc2, List.map_append, hb] <;> rfl
            show if (!decide (([c] : List Nat) < [65])) = true then _ else _
            rw [e1]
            by_cases h3 : 65 ≤ c
            · rw [decide_eq_true h3]
              refine iteT ⟨_, _, rfl, rfl, ?_⟩
              refine put _ (e2.trans ?_)
              simp [h3]
            · rw [decide_eq_false h3]
              refine iteF (put _ ?_)
              simp [h3]
          · rintro H1 ⟨sm, e⟩
            have ht : z.cps.toList.take z.cps.size = z.cps.toList := List.take_of_length_le (by simp)
            rw [ht] at e
            refine ⟨D, z.cps.toList.map fun c => decide (65 ≤ c ∧ c ≤ 90), rfl, SqL.of (by rw [e, List.map_map] <;> rfl), ?_⟩
            have hb : (z.cps.toList.map fun c => decide (65 ≤ c ∧ c ≤ 90)).all id = decide (IsVr z) := by
              rw [List.all_map]
              by_cases hn : IsVr z
              · rw [decide_eq_true hn, List.all_eq_true]
                intro c hc
                exact decide_eq_true (hn.2.2 c hc)
              · rw [decide_eq_false hn, ← Bool.not_eq_true]
                intro y
                refine hn ⟨by omega, by omega, fun c hc => ?_⟩
                exact of_decide_eq_true (List.all_eq_true.mp y c hc)
            rw [hb]
            exact q _ sm
        · rw [decide_eq_false h2]
          refine iteF ?_
          have := q H (Same.refl H)
          rw [decide_eq_false (fun h : IsVr z => h2 (by have := h.2.1; omega))] at this
          exact this
      · rw [decide_eq_false h1]
        refine iteF ⟨false, rfl, iteF ?_⟩
        have := q H (Same.refl H)
        rw [decide_eq_false (fun h : IsVr z => h1 (by have := h.1; omega))] at this
        exact this
    · refine ⟨_, rfl, _, _, _, _, false, rfl, .ty _, ht, hk, false, rfl, iteF ?_⟩
      exact q H (Same.refl H)
def IsTm (z : Str) : Prop := IsNm z ∨ IsVr z
instance (z : Str) : Decidable (IsTm z) := by unfold IsTm; exact inferInstance
theorem scIsTerm : FnScope ["value"] ["value"] (defScope sIsTerm) := ⟨rfl, rfl, rfl, by decide +kernel, rfl, by decide +kernel, by decide +kernel⟩
theorem spTxt.again {p q : Str → Bool} {v : V} {H : Hp} {Q Q2 : VK} {E E2 : XK} (h : spTxt K p [v] H Q E) (hq : ∀ b H', Same H H' → ((∃ z, v = .str z ∧ b = p z ∧ (∀ H2, Same H H2 → Q (.bl (p z)) H2)) ∨ (b = false ∧ ∀ H2, Same H H2 → Q (.bl false) H2)) → Q2 (.bl b) H') : spTxt K p [v] H Q2 E2 := by
  obtain ⟨v', e, h⟩ := h
  obtain rfl : v = v' := by injection e
  rcases h with ⟨z, rfl, hz, q⟩ | ⟨t, ht, hk, q⟩
  · exact ⟨_, rfl, .inl ⟨z, rfl, hz, fun H' s => hq _ H' s (.inl ⟨z, rfl, rfl, q⟩)⟩⟩
  · exact ⟨_, rfl, .inr ⟨t, ht, hk, fun H' s => hq _ H' s (.inr ⟨rfl, q⟩)⟩⟩
/-- a value, a text or none -/
def Tv (K : PySem.W.Frag) (H : Hp) (v : V) : Option Str → Prop
  | some z => v = .str z ∧ z.length ≤ sizeLine
  | none => ∃ t : Value, TyX K H v t ∧ PySem.W.kitOne K t (.type "str") = some false
theorem tyx_same {H H' : Hp} {v : V} {t : Value} (s : Same H H') (h : TyX K H v t) : TyX K H' v t := by
  cases h with
  | base b =>
    cases b with
    | non => exact .base .non
    | bl y => exact .base (.bl y)
    | int i => exact .base (.int i)
    | str y => exact .base (.str y)
    | flt y => exact .base (.flt y)
    | lst e => exact .base (.lst (s _ _ e))
    | frz e => exact .base (.frz (s _ _ e))
    | tup e => exact .base (.tup (s _ _ e))
    | dK e => exact .base (.dK (s _ _ e))
    | dT e => exact .base (.dT (s _ _ e))
    | ins e cl ha hn htk hm => exact .base (.ins (s _ _ e) cl ha hn htk hm)
  | byt b => exact .byt b
  | set e => exact .set (s _ _ e)
  | kList e c => exact .kList e c
  | kTuple e c => exact .kTuple e c
  | kDict e c => exact .kDict e c
  | fTuple e => exact .fTuple (s _ _ e)
  | fDict e => exact .fDict (s _ _ e)
theorem Tv.same {H H' : Hp} {v : V} : ∀ {o : Option Str}, Tv K H v o → Same H H' → Tv K H' v o
  | some z, h, _ => h
  | none, ⟨t, h, k⟩, s => ⟨t, tyx_same s h, k⟩
theorem spTxt.of {p : Str → Bool} {v : V} {H : Hp} {Q : VK} {E : XK} : ∀ {o : Option Str}, Tv K H v o → (∀ H', Same H H' → Q (.bl (o.any p)) H') → spTxt K p [v] H Q E
  | some z, ⟨e, hz⟩, q => ⟨_, rfl, .inl ⟨z, e, hz, q⟩⟩
  | none, ⟨t, ht, hk⟩, q => ⟨_, rfl, .inr ⟨t, ht, hk, q⟩⟩
theorem ok_isTerm {f fN fV : Addr} {fd fdN fdV : FuncData} (F : Fun K "is_term" "is_term" sIsTerm f fd)
    (GN : FnOk P w K mg base CX0 1 fN fdN ["value"] (spTxt K fun z => decide (IsNm z))) (kN : PySem.W.keepIn K (.ref fN) = true) (gN : mg "is_name" = some (.ref fN)) (bN : Binds K fdN ["value"] [])
    (GV : FnOk P w K mg base CX0 1 fV fdV ["value"] (spTxt K fun z => decide (IsVr z))) (kV : PySem.W.keepIn K (.ref fV) = true) (gV : mg "is_variable" = some (.ref fV)) (bV : Binds K fdV ["value"] []) :
    FnOk P w K mg base CX0 2 f fd ["value"] (spTxt K fun z => decide (IsTm z)) := by
  refine F.ok scIsTerm (fun vs H Q E h => ?_) (fun cdv A outer s H vs Q E hr h => ?_)
  · obtain ⟨v, rfl, _⟩ := h
    rfl
  · obtain ⟨v, rfl, h⟩ := h
    refine ⟨_, pss_one (ps_ret (pe_or (by exact (pe_call GN hr (by rfl) gN kN bN .nil pass0 (pa_cons (pv 0) pa_nil))) (pe_one (by exact (pe_call GV hr (by rfl) gV kV bV .nil pass0 (pa_cons (pv 0) pa_nil)))))), ?_⟩
    refine ⟨_, rfl, ?_⟩
    rcases h with ⟨z, rfl, hz, q⟩ | ⟨t, ht, hk, q⟩
    · have q : ∀ H', Same H H' → Q (.bl (decide (IsTm z))) H' := q
      refine ⟨_, rfl, .inl ⟨z, rfl, hz, fun H1 s1 => ⟨decide (IsNm z), rfl, ?_⟩⟩⟩
      by_cases h1 : IsNm z
      · rw [decide_eq_true h1]
        refine iteT ?_
        have := q H1 s1
        rw [show decide (IsTm z) = true from decide_eq_true (Or.inl h1)] at this
        exact this
      · rw [decide_eq_false h1]
        refine iteF ⟨_, rfl, _, rfl, .inl ⟨z, rfl, hz, fun H2 s2 => ?_⟩⟩
        have := q H2 (s1.trans s2)
        have e : decide (IsTm z) = decide (IsVr z) := decide_eq_decide.mpr ⟨fun h => h.resolve_left h1, .inr⟩
        rw [e] at this
        exact this
    · refine ⟨_, rfl, .inr ⟨t, ht, hk, fun H1 s1 => ⟨false, rfl, iteF ?_⟩⟩⟩
      refine ⟨_, rfl, _, rfl, .inr ⟨t, tyx_same s1 ht, hk, fun H2 s2 => q H2 (s1.trans s2)⟩⟩
end
end Nv
set_option maxHeartbeats 4000000
namespace Nv
open PySem PySem.Spec PyProof.Rows L2
/-- item by item -/
inductive All2 {α β : Type} (R : α → β → Prop) : List α → List β → Prop
  | nil : All2 R [] []
  | cons {x : α} {y : β} {xs : List α} {ys : List β} (h : R x y) (t : All2 R xs ys) : All2 R (x :: xs) (y :: ys)
section
variable {α β : Type} {R S : α → β → Prop} {xs : List α} {ys : List β}
theorem All2.len (h : All2 R xs ys) : xs.length = ys.length := by
  induction h with
  | nil => rfl
  | cons _ _ ih => simp [ih]
theorem All2.imp (h : All2 R xs ys) (i : ∀ x y, R x y → S x y) : All2 S xs ys := by
  induction h with
  | nil => exact .nil
  | cons h _ ih => exact .cons (i _ _ h) ih
theorem All2.at_ (h : All2 R xs ys) {i : Nat} {x : α} (hi : xs[i]? = some x) : ∃ y, ys[i]? = some y ∧ R x y := by
  induction h generalizing i with
  | nil => cases i <;> cases hi
  | cons h _ ih =>
    cases i with
    | zero =>
      cases hi
      exact ⟨_, rfl, h⟩
    | succ i => exact ih hi
end
/-- a value that may be a pattern: its parts, where it is a tuple -/
def Tp (K : PySem.W.Frag) (H : Hp) (v : V) : Option (List (Option Str)) → Prop
  | some os => ∃ (t : Addr) (xs : List V), v = .ref t ∧ H t = some (.tup xs) ∧ All2 (Tv K H) xs os ∧ os.length ≤ 1000
  | none => ∃ t : Value, TyX K H v t ∧ PySem.W.kitOne K t (.type "tuple") = some false
theorem Tp.same {K : PySem.W.Frag} {H H' : Hp} {v : V} : ∀ {o : Option (List (Option Str))}, Tp K H v o → Same H H' → Tp K H' v o
  | some os, ⟨t, xs, e, h, a, l⟩, s => ⟨t, xs, e, s _ _ h, a.imp fun _ _ z => z.same s, l⟩
  | none, ⟨t, h, k⟩, s => ⟨t, tyx_same s h, k⟩
theorem tp_strs {K : PySem.W.Frag} {H : Hp} {t : Addr} {p : List Str} (e : H t = some (.tup (p.map V.str))) (hp : ∀ x ∈ p, x.length ≤ 1000) (hl : p.length ≤ 1000) : Tp K H (.ref t) (some (p.map some)) := by
  refine ⟨t, _, rfl, e, ?_, by rw [List.length_map]; exact hl⟩
  clear e hl
  induction p with
  | nil => exact .nil
  | cons x p ih => exact .cons ⟨rfl, Nat.le_trans (hp x List.mem_cons_self) big1000⟩ (ih fun y hy => hp y (List.mem_cons_of_mem _ hy))
def nmO (o : Option Str) : Bool := o.any fun z => decide (IsNm z)
def tmO (o : Option Str) : Bool := o.any fun z => decide (IsTm z)
def vrO (o : Option Str) : Bool := o.any fun z => decide (IsVr z)
def patB : Option (List (Option Str)) → Bool
  | some (o :: os) => decide (os.length ≤ 3) && (nmO o && os.all tmO)
  | _ => false
section
variable {P : Program} {w : World} {K : PySem.W.Frag} {mg : Str → Option Value} {base : Heap}
def spIsPattern (K : PySem.W.Frag) : Sp := fun vs H Q _ => ∃ (v : V) (o : Option (List (Option Str))), vs = [v] ∧ Tp K H v o ∧ ∀ H', Same H H' → Q (.bl (patB o)) H'
theorem scIsPattern : FnScope ["value", "part"] ["value"] (defScope sIsPattern) := ⟨rfl, rfl, rfl, by decide +kernel, rfl, by decide +kernel, by decide +kernel⟩
theorem tyx_tup {H : Hp} {t : Addr} {xs : List V} (e : H t = some (.tup xs)) : TyX K H (.ref t) (.type "tuple") := .base (.tup e)
theorem tyx_lst {H : Hp} {t : Addr} {xs : List V} (e : H t = some (.lst xs)) : TyX K H (.ref t) (.type "list") := .base (.lst e)
theorem cut_one (xs : List V) : cutV xs (some 1) none = xs.drop 1 := by
  unfold cutV
  have e : HT.sIx xs.length 0 (some (1 : Int)) = min 1 xs.length := HT.sIx_nat xs.length 0 1
  rw [e, HT.sIx_none]
  cases xs with
  | nil => rfl
  | cons x xs =>
    rw [List.length_cons, Nat.min_eq_left (by omega), Nat.add_sub_cancel, List.drop_succ_cons, List.drop_zero, List.take_of_length_le (Nat.le_refl _)]
theorem ok_isPattern {f fN fT : Addr} {fd fdN fdT : FuncData} (F : Fun K "is_pattern" "is_pattern" sIsPattern f fd) (B : Bp mg)
    (GN : FnOk P w K mg base CX0 1 fN fdN ["value"] (spTxt K fun z => decide (IsNm z))) (kN : PySem.W.keepIn K (.ref fN) = true) (gN : mg "is_name" = some (.ref fN)) (bN : Binds K fdN ["value"] [])
    (GT : FnOk P w K mg base CX0 2 fT fdT ["value"] (spTxt K fun z => decide (IsTm z))) (kT : PySem.W.keepIn K (.ref fT) = true) (gT : mg "is_term" = some (.ref fT)) (bT : Binds K fdT ["value"] []) :
    FnOk P w K mg base CX0 3 f fd ["value"] (spIsPattern K) := by
  refine F.ok scIsPattern (fun vs H Q E h => ?_) (fun cdv A outer s H vs Q E hr h => ?_)
  · obtain ⟨v, o, rfl, _⟩ := h
    rfl
  · obtain ⟨v, o, rfl, h, q⟩ := h
    have hr1 : Room 1 _ := hr.mono (by decide)
    refine ⟨_, pss_cons (ps_if (PW.pt (pw_or (pt_not (pt_val (pe_callB call_isi (by rfl) B.isi bootIsi (pa_cons (pv 0) (pa_cons (pe_bltn (v := V.ty "tuple") (by rfl) B.tup PyProof.Rows.boot_tuple rfl) pa_nil)))))
        (pw_or1 (pt_not (pt_chain op_le op_le pe_int (pe_callB call_len_seq (by rfl) B.len PySem.boot_len (pa_cons (pv 0) pa_nil)) pe_int))))) (pss_one (ps_ret pe_bl)) pss_nil)
      (pss_one (ps_ret (pe_and (by exact (pe_call GN hr1 (by rfl) gN kN bN .nil pass0 (pa_cons (pe_ix ix_tup (pv 0) pe_int (fun _ _ => rfl)) pa_nil)))
        (pe_one (pe_callB (cr_all rfl) (by rfl) B.all bootAll (pa_cons (by exact (pe_lc (own := [("part", 1)]) (g := gName 1) (tt := tYes) rfl scIsPattern.nd (pi_tup (pe_slice sl_tup (pv 0) (po_some pe_int) po_none))
          (blkOk_by (own := [("part", 1)]) (N := ["value", "part"]) (sc := defScope sIsPattern) (by decide +kernel))
          (fun _ _ _ _ _ => pg_name (i := 1) scIsPattern.nd rfl (Or.inl rfl)) (fun _ _ _ _ _ => pts_nil)
          (fun _ _ _ _ _ => by exact (pe_call GT hr (by rfl) gT kT bT .nil pass0 (pa_cons (pv 1) pa_nil))))) pa_nil)))))), ?_⟩
    cases o with
    | none =>
      obtain ⟨t, ht, hk⟩ := h
      refine ⟨_, rfl, _, _, _, _, false, rfl, .ty _, ht, hk, false, rfl, iteT (iteT ?_)⟩
      exact q H (Same.refl H)
    | some os =>
      obtain ⟨t, xs, rfl, e, ha, hl⟩ := h
      have hxl := ha.len
      refine ⟨_, rfl, _, _, _, _, true, rfl, .ty _, tyx_tup e, kit_ty (by decide +kernel), true, rfl, iteF ?_⟩
      refine ⟨_, rfl, t, xs, rfl, .inr (SqT.of e), _, _, rfl, rfl, _, rfl, ?_⟩
      cases ha with
      | nil =>
        refine iteF ⟨false, rfl, iteT ?_⟩
        exact q H (Same.refl H)
      | @cons x o1 xs1 os1 h1 ht =>
        have e1 : decide ((1 : Int) ≤ ((x :: xs1).length : Int)) = true := decide_eq_true (by rw [List.length_cons]; omega)
        show if decide ((1 : Int) ≤ ((x :: xs1).length : Int)) = true then _ else _
        rw [e1]
        refine iteT ⟨_, _, rfl, rfl, ?_⟩
        refine ⟨decide (((x :: xs1).length : Int) ≤ 4), rfl, ?_⟩
        by_cases h4 : os1.length ≤ 3
        · have e4 : decide (((x :: xs1).length : Int) ≤ 4) = true := decide_eq_true (by rw [List.length_cons] at *; rw [List.length_cons] at hxl; omega)
          rw [e4]
          refine iteF ?_
          have q : ∀ H', Same H H' → Q (.bl (nmO o1 && os1.all tmO)) H' := fun H' s => by
            have := q H' s
            simp only [patB, decide_eq_true h4, Bool.true_and] at this
            exact this
          refine ⟨_, rfl, t, _, _, x, rfl, rfl, SqT.of e, atI_nat (j := 0) rfl, ?_⟩
          dsimp only [tNil]
          refine spTxt.of h1 fun H1 s1 => ?_
          refine ⟨nmO o1, rfl, ?_⟩
          cases hn : nmO o1 with
          | false =>
            refine iteF ?_
            have := q H1 s1
            rw [hn] at this
            exact this
          | true =>
            rw [hn] at q
            refine iteT ?_
            refine ⟨_, rfl, 1, rfl, t, _, rfl, SqT.of (s1 _ _ e), ?_, fun t2 nt2 => ?_⟩
            · rintro ⟨h, _⟩
              have := HT.sIx_nat (x :: xs1).length 0 1
              rw [show ((1 : Nat) : Int) = 1 by rfl] at this
              rw [this, List.length_cons] at h
              omega
            · rw [cut_one, List.drop_succ_cons, List.drop_zero]
              have s2 : Same H (upd H1 t2 (.tup xs1)) := same_put s1 (s1.free nt2)
              have e2 : upd H1 t2 (.tup xs1) t2 = some (.tup xs1) := upd_same
              generalize upd H1 t2 (.tup xs1) = G at s2 e2 ⊢
              refine ⟨t2, rfl, ⟨_, SqT.of e2⟩, fun D nD => ?_⟩
              refine lc_tup (K := K) (a := t2) (xs := xs1) (fun i H' => Same G H' ∧ H' D = some (.lst ((os1.take i).map fun o => V.bl (tmO o)))) ⟨same_new nD, upd_same⟩ (fun i H' _ y => SqT.of (y.1 _ _ e2)) ?_ ?_
              · rintro i y H3 hi ⟨s3, e3⟩
                obtain ⟨o2, ho2, hy⟩ := ht.at_ hi
                refine ⟨rfl, ?_⟩
                refine ⟨_, rfl, ?_⟩
                dsimp only [tNil]
                refine spTxt.of (hy.same (s2.trans s3)) fun H4 s4 => ?_
                refine ⟨_, s4 _ _ e3, ?_, same_put (s3.trans s4) nD, ?_⟩
                · rw [List.length_map, List.length_take]
                  exact Nat.lt_of_le_of_lt (by omega : _ ≤ 3) (by decide)
                · rw [upd_same, take_one ho2, List.map_append] <;> rfl
              · rintro H3 ⟨s3, e3⟩
                have hlen := ht.len
                rw [hlen, List.take_length] at e3
                refine ⟨D, os1.map tmO, rfl, SqL.of (by rw [e3, List.map_map] <;> rfl), ?_⟩
                have := q H3 (s2.trans s3)
                rw [Bool.true_and] at this
                rw [List.all_map]
                exact this
        · have e4 : decide (((x :: xs1).length : Int) ≤ 4) = false := decide_eq_false (by rw [List.length_cons] at *; rw [List.length_cons] at hxl; omega)
          rw [e4]
          refine iteT ?_
          have := q H (Same.refl H)
          simp only [patB, decide_eq_false h4, Bool.false_and] at this
          exact this
end
end Nv
set_option maxHeartbeats 4000000
namespace Nv
open PySem PySem.Spec PyProof.Rows L2
/-- a value that may be a list of tuples: what stands in it, where it is a list -/
def Tps (K : PySem.W.Frag) (H : Hp) (v : V) : Option (List (Option (List (Option Str)))) → Prop
  | some ls => ∃ (a : Addr) (xs : List V), v = .ref a ∧ H a = some (.lst xs) ∧ All2 (Tp K H) xs ls ∧ ls.length ≤ 1000
  | none => ∃ t : Value, TyX K H v t ∧ PySem.W.kitOne K t (.type "list") = some false
theorem Tps.same {K : PySem.W.Frag} {H H' : Hp} {v : V} : ∀ {o : Option (List (Option (List (Option Str))))}, Tps K H v o → Same H H' → Tps K H' v o
  | some os, ⟨t, xs, e, h, a, l⟩, s => ⟨t, xs, e, s _ _ h, a.imp fun _ _ z => z.same s, l⟩
  | none, ⟨t, h, k⟩, s => ⟨t, tyx_same s h, k⟩
theorem PaL.tps {K : PySem.W.Frag} {H : Hp} {vs : List V} {ps : List (List Str)} (h : PaL H vs ps) (hp : ∀ p ∈ ps, p.length ≤ 1000 ∧ ∀ x ∈ p, x.length ≤ 1000) : All2 (Tp K H) vs (ps.map fun p => some (p.map some)) := by
  induction h with
  | nil => exact .nil
  | cons e _ ih =>
    obtain ⟨h1, h2⟩ := hp _ List.mem_cons_self
    exact .cons (tp_strs e h2 h1) (ih fun p hq => hp p (List.mem_cons_of_mem _ hq))
def prB : Option (List (Option Str)) → Bool
  | some [o1, o2] => tmO o1 && (tmO o2 && (decide (o1 ≠ o2) && (vrO o1 || vrO o2)))
  | _ => false
def listB (p : Option (List (Option Str)) → Bool) (o : Option (List (Option (List (Option Str))))) : Bool := o.any fun ls => ls.all p
section
variable {P : Program} {w : World} {K : PySem.W.Frag} {mg : Str → Option Value} {base : Heap}
def spTup (K : PySem.W.Frag) (p : Option (List (Option Str)) → Bool) : Sp := fun vs H Q _ => ∃ (v : V) (o : Option (List (Option Str))), vs = [v] ∧ Tp K H v o ∧ ∀ H', Same H H' → Q (.bl (p o)) H'
def spLst (K : PySem.W.Frag) (p : Option (List (Option Str)) → Bool) : Sp := fun vs H Q _ => ∃ (v : V) (o : Option (List (Option (List (Option Str))))), vs = [v] ∧ Tps K H v o ∧ ∀ H', Same H H' → Q (.bl (listB p o)) H'
theorem scIsPatterns : FnScope ["value", "part"] ["value"] (defScope sIsPatterns) := ⟨rfl, rfl, rfl, by decide +kernel, rfl, by decide +kernel, by decide +kernel⟩
theorem ok_isPatterns {f fN : Addr} {fd fdN : FuncData} {p : Option (List (Option Str)) → Bool} (F : Fun K "is_patterns" "is_patterns" sIsPatterns f fd) (B : Bp mg)
    (GN : FnOk P w K mg base CX0 3 fN fdN ["value"] (spTup K p)) (kN : PySem.W.keepIn K (.ref fN) = true) (gN : mg "is_pattern" = some (.ref fN)) (bN : Binds K fdN ["value"] []) :
    FnOk P w K mg base CX0 4 f fd ["value"] (spLst K p) := by
  refine F.ok scIsPatterns (fun vs H Q E h => ?_) (fun cdv A outer s H vs Q E hr h => ?_)
  · obtain ⟨v, o, rfl, _⟩ := h
    rfl
  · obtain ⟨v, o, rfl, h, q⟩ := h
    refine ⟨_, pss_one (ps_ret (pe_and (pe_callB call_isi (by rfl) B.isi bootIsi (pa_cons (pv 0) (pa_cons (pe_bltn (v := V.ty "list") (by rfl) B.lst PyProof.Rows.boot_list rfl) pa_nil)))
      (pe_one (pe_callB (cr_all rfl) (by rfl) B.all bootAll (pa_cons (by exact (pe_lc (own := [("part", 1)]) (g := gName 1) (tt := tYes) rfl scIsPatterns.nd (pi_list (pv 0))
          (blkOk_by (own := [("part", 1)]) (N := ["value", "part"]) (sc := defScope sIsPatterns) (by decide +kernel))
          (fun _ _ _ _ _ => pg_name (i := 1) scIsPatterns.nd rfl (Or.inl rfl)) (fun _ _ _ _ _ => pts_nil)
          (fun _ _ _ _ _ => by exact (pe_call GN hr (by rfl) gN kN bN .nil pass0 (pa_cons (pv 1) pa_nil))))) pa_nil))))), ?_⟩
    cases o with
    | none =>
      obtain ⟨t, ht, hk⟩ := h
      refine ⟨_, rfl, _, _, _, _, false, rfl, .ty _, ht, hk, false, rfl, iteF ?_⟩
      exact q H (Same.refl H)
    | some ls =>
      obtain ⟨a, xs, rfl, e, ha, hl⟩ := h
      have hxl := ha.len
      refine ⟨_, rfl, _, _, _, _, true, rfl, .ty _, tyx_lst e, kit_ty (by decide +kernel), true, rfl, iteT ?_⟩
      refine ⟨_, rfl, a, rfl, ⟨_, SqL.of e⟩, fun D nD => ?_⟩
      refine lc_list (K := K) (a := a) (xs := xs) (fun i H' => Same H H' ∧ H' D = some (.lst ((ls.take i).map fun o => V.bl (p o)))) ⟨same_new nD, upd_same⟩ (fun i H' _ y => SqL.of (y.1 _ _ e)) ?_ ?_
      · rintro i y H3 hi ⟨s3, e3⟩
        obtain ⟨o2, ho2, hy⟩ := ha.at_ hi
        refine ⟨rfl, _, rfl, y, o2, rfl, hy.same s3, fun H4 s4 => ?_⟩
        refine ⟨_, s4 _ _ e3, ?_, same_put (s3.trans s4) nD, ?_⟩
        · rw [List.length_map, List.length_take]
          exact Nat.lt_of_le_of_lt (by omega : _ ≤ 1000) (by decide)
        · rw [upd_same, take_one ho2, List.map_append] <;> rfl
      · rintro H3 ⟨s3, e3⟩
        rw [hxl, List.take_length] at e3
        refine ⟨D, ls.map p, rfl, SqL.of (by rw [e3, List.map_map] <;> rfl), ?_⟩
        rw [List.all_map]
        exact q H3 s3
theorem scIsPairs : FnScope ["value", "part"] ["value"] (defScope sIsPairs) := ⟨rfl, rfl, rfl, by decide +kernel, rfl, by decide +kernel, by decide +kernel⟩
theorem ok_isPairs {f fN : Addr} {fd fdN : FuncData} {p : Option (List (Option Str)) → Bool} (F : Fun K "is_pairs" "is_pairs" sIsPairs f fd) (B : Bp mg)
    (GN : FnOk P w K mg base CX0 3 fN fdN ["value"] (spTup K p)) (kN : PySem.W.keepIn K (.ref fN) = true) (gN : mg "is_pair" = some (.ref fN)) (bN : Binds K fdN ["value"] []) :
    FnOk P w K mg base CX0 4 f fd ["value"] (spLst K p) := by
  refine F.ok scIsPairs (fun vs H Q E h => ?_) (fun cdv A outer s H vs Q E hr h => ?_)
  · obtain ⟨v, o, rfl, _⟩ := h
    rfl
  · obtain ⟨v, o, rfl, h, q⟩ := h
    refine ⟨_, pss_one (ps_ret (pe_and (pe_callB call_isi (by rfl) B.isi bootIsi (pa_cons (pv 0) (pa_cons (pe_bltn (v := V.ty "list") (by rfl) B.lst PyProof.Rows.boot_list rfl) pa_nil)))
      (pe_one (pe_callB (cr_all rfl) (by rfl) B.all bootAll (pa_cons (by exact (pe_lc (own := [("part", 1)]) (g := gName 1) (tt := tYes) rfl scIsPairs.nd (pi_list (pv 0))
          (blkOk_by (own := [("part", 1)]) (N := ["value", "part"]) (sc := defScope sIsPairs) (by decide +kernel))
          (fun _ _ _ _ _ => pg_name (i := 1) scIsPairs.nd rfl (Or.inl rfl)) (fun _ _ _ _ _ => pts_nil)
          (fun _ _ _ _ _ => by exact (pe_call GN hr (by rfl) gN kN bN .nil pass0 (pa_cons (pv 1) pa_nil))))) pa_nil))))), ?_⟩
    cases o with
    | none =>
      obtain ⟨t, ht, hk⟩ := h
      refine ⟨_, rfl, _, _, _, _, false, rfl, .ty _, ht, hk, false, rfl, iteF ?_⟩
      exact q H (Same.refl H)
    | some ls =>
      obtain ⟨a, xs, rfl, e, ha, hl⟩ := h
      have hxl := ha.len
      refine ⟨_, rfl, _, _, _, _, true, rfl, .ty _, tyx_lst e, kit_ty (by decide +kernel), true, rfl, iteT ?_⟩
      refine ⟨_, rfl, a, rfl, ⟨_, SqL.of e⟩, fun D nD => ?_⟩
      refine lc_list (K := K) (a := a) (xs := xs) (fun i H' => Same H H' ∧ H' D = some (.lst ((ls.take i).map fun o => V.bl (p o)))) ⟨same_new nD, upd_same⟩ (fun i H' _ y => SqL.of (y.1 _ _ e)) ?_ ?_
      · rintro i y H3 hi ⟨s3, e3⟩
        obtain ⟨o2, ho2, hy⟩ := ha.at_ hi
        refine ⟨rfl, _, rfl, y, o2, rfl, hy.same s3, fun H4 s4 => ?_⟩
        refine ⟨_, s4 _ _ e3, ?_, same_put (s3.trans s4) nD, ?_⟩
        · rw [List.length_map, List.length_take]
          exact Nat.lt_of_le_of_lt (by omega : _ ≤ 1000) (by decide)
        · rw [upd_same, take_one ho2, List.map_append] <;> rfl
      · rintro H3 ⟨s3, e3⟩
        rw [hxl, List.take_length] at e3
        refine ⟨D, ls.map p, rfl, SqL.of (by rw [e3, List.map_map] <;> rfl), ?_⟩
        rw [List.all_map]
        exact q H3 s3
theorem scIsPair : FnScope ["value", "part"] ["value"] (defScope sIsPair) := ⟨rfl, rfl, rfl, by decide +kernel, rfl, by decide +kernel, by decide +kernel⟩
theorem tm_some {o : Option Str} (h : tmO o = true) : ∃ z, o = some z := by
  cases o with
  | none => cases h
  | some z => exact ⟨z, rfl⟩
theorem ok_isPair {f fT fV : Addr} {fd fdT fdV : FuncData} (F : Fun K "is_pair" "is_pair" sIsPair f fd) (B : Bp mg)
    (GT : FnOk P w K mg base CX0 2 fT fdT ["value"] (spTxt K fun z => decide (IsTm z))) (kT : PySem.W.keepIn K (.ref fT) = true) (gT : mg "is_term" = some (.ref fT)) (bT : Binds K fdT ["value"] [])
    (GV : FnOk P w K mg base CX0 1 fV fdV ["value"] (spTxt K fun z => decide (IsVr z))) (kV : PySem.W.keepIn K (.ref fV) = true) (gV : mg "is_variable" = some (.ref fV)) (bV : Binds K fdV ["value"] []) :
    FnOk P w K mg base CX0 3 f fd ["value"] (spTup K prB) := by
  refine F.ok scIsPair (fun vs H Q E h => ?_) (fun cdv A outer s H vs Q E hr h => ?_)
  · obtain ⟨v, o, rfl, _⟩ := h
    rfl
  · obtain ⟨v, o, rfl, h, q⟩ := h
    have hr1 : Room 1 _ := hr.mono (by decide)
    refine ⟨_, pss_cons (ps_if (PW.pt (pw_or (pt_not (pt_val (pe_callB call_isi (by rfl) B.isi bootIsi (pa_cons (pv 0) (pa_cons (pe_bltn (v := V.ty "tuple") (by rfl) B.tup PyProof.Rows.boot_tuple rfl) pa_nil)))))
        (pw_or (pt_cmpR op_ne (pe_callB call_len_seq (by rfl) B.len PySem.boot_len (pa_cons (pv 0) pa_nil)) pe_int (nomark _))
        (pw_or1 (pt_not (pt_val (pe_callB (cr_all rfl) (by rfl) B.all bootAll (pa_cons (by exact (pe_lc (own := [("part", 1)]) (g := gName 1) (tt := tYes) rfl scIsPair.nd (pi_tup (pv 0))
          (blkOk_by (own := [("part", 1)]) (N := ["value", "part"]) (sc := defScope sIsPair) (by decide +kernel))
          (fun _ _ _ _ _ => pg_name (i := 1) scIsPair.nd rfl (Or.inl rfl)) (fun _ _ _ _ _ => pts_nil)
          (fun _ _ _ _ _ => by exact (pe_call GT hr (by rfl) gT kT bT .nil pass0 (pa_cons (pv 1) pa_nil))))) pa_nil)))))))) (pss_one (ps_ret pe_bl)) pss_nil)
      (pss_one (ps_ret (pe_and (pe_cmpR op_ne (pe_ix ix_tup (pv 0) pe_int (fun _ _ => rfl)) (pe_ix ix_tup (pv 0) pe_int (fun _ _ => rfl)) (nomark _))
        (pe_one (pe_callB (cr_any rfl) (by rfl) B.any bootAny (pa_cons (by exact (pe_lc (own := [("part", 1)]) (g := gName 1) (tt := tYes) rfl scIsPair.nd (pi_tup (pv 0))
          (blkOk_by (own := [("part", 1)]) (N := ["value", "part"]) (sc := defScope sIsPair) (by decide +kernel))
          (fun _ _ _ _ _ => pg_name (i := 1) scIsPair.nd rfl (Or.inl rfl)) (fun _ _ _ _ _ => pts_nil)
          (fun _ _ _ _ _ => by exact (pe_call GV hr1 (by rfl) gV kV bV .nil pass0 (pa_cons (pv 1) pa_nil))))) pa_nil)))))), ?_⟩
    cases o with
    | none =>
      obtain ⟨t, ht, hk⟩ := h
      refine ⟨_, rfl, _, _, _, _, false, rfl, .ty _, ht, hk, false, rfl, iteT (iteT ?_)⟩
      exact q H (Same.refl H)
    | some os =>
      obtain ⟨t, xs, rfl, e, ha, hl⟩ := h
      have hxl := ha.len
      refine ⟨_, rfl, _, _, _, _, true, rfl, .ty _, tyx_tup e, kit_ty (by decide +kernel), true, rfl, iteF ?_⟩
      refine ⟨_, rfl, t, xs, rfl, .inr (SqT.of e), rfl, _, rfl, ?_⟩
      by_cases h2 : os.length = 2
      · obtain ⟨o1, o2, rfl⟩ : ∃ o1 o2, os = [o1, o2] := by
          match os, h2 with
          | [o1, o2], _ => exact ⟨o1, o2, rfl⟩
        have hx2 : V.int (xs.length : Int) = V.int 2 := by
          rw [hxl] <;> rfl
        rw [decide_eq_true hx2]
        refine iteF ?_
        refine ⟨_, rfl, t, rfl, ⟨_, SqT.of e⟩, fun D nD => ?_⟩
        refine lc_tup (K := K) (a := t) (xs := xs) (fun i H' => Same H H' ∧ H' D = some (.lst (([o1, o2].take i).map fun o => V.bl (tmO o)))) ⟨same_new nD, upd_same⟩ (fun i H' _ y => SqT.of (y.1 _ _ e)) ?_ ?_
        · rintro i y H3 hi ⟨s3, e3⟩
          obtain ⟨o, ho, hy⟩ := ha.at_ hi
          refine ⟨rfl, _, rfl, ?_⟩
          dsimp only [tNil]
          refine spTxt.of (hy.same s3) fun H4 s4 => ?_
          refine ⟨_, s4 _ _ e3, ?_, same_put (s3.trans s4) nD, ?_⟩
          · rw [List.length_map, List.length_take]
            exact Nat.lt_of_le_of_lt (Nat.min_le_right _ _) (by show 2 < sizeLine; decide)
          · rw [upd_same, take_one ho, List.map_append] <;> rfl
        · rintro H3 ⟨s3, e3⟩
          rw [hxl, List.take_length] at e3
          refine ⟨D, [o1, o2].map tmO, rfl, SqL.of (by rw [e3] <;> rfl), _, rfl, ?_⟩
          have hq := q H3 s3
          cases h1 : tmO o1 with
          | false =>
            have e5 : ([o1, o2].map tmO).all id = false := by simp [h1]
            rw [e5]
            refine iteT ?_
            simp only [prB, h1, Bool.false_and] at hq
            exact hq
          | true =>
            cases h3 : tmO o2 with
            | false =>
              have e5 : ([o1, o2].map tmO).all id = false := by simp [h3]
              rw [e5]
              refine iteT ?_
              simp only [prB, h1, h3, Bool.false_and, Bool.true_and] at hq
              exact hq
            | true =>
              have e5 : ([o1, o2].map tmO).all id = true := by simp [h1, h3]
              rw [e5]
              refine iteF ?_
              obtain ⟨z1, rfl⟩ := tm_some h1
              obtain ⟨z2, rfl⟩ := tm_some h3
              have q : ∀ H', Same H H' → Q (.bl (decide (some z1 ≠ some z2) && (vrO (some z1) || vrO (some z2)))) H' := fun H' s => by
                have := q H' s
                simp only [prB, h1, h3, Bool.true_and] at this
                exact this
              obtain ⟨x1, x2, rfl⟩ : ∃ x1 x2, xs = [x1, x2] := by
                match xs, hxl with
                | [x1, x2], _ => exact ⟨x1, x2, rfl⟩
              have g1 : x1 = V.str z1 := by
                obtain ⟨o, ho, hy⟩ := ha.at_ (i := 0) rfl
                cases ho
                exact hy.1
              have g2 : x2 = V.str z2 := by
                obtain ⟨o, ho, hy⟩ := ha.at_ (i := 1) rfl
                cases ho
                exact hy.1
              subst g1 g2
              refine ⟨_, rfl, t, _, _, _, rfl, rfl, SqT.of (s3 _ _ e), atI_nat (j := 0) rfl, _, rfl, t, _, _, _, rfl, rfl, SqT.of (s3 _ _ e), atI_nat (j := 1) rfl, rfl, ?_⟩
              refine ⟨!decide (V.str z1 = V.str z2), rfl, ?_⟩
              by_cases hz : z1 = z2
              · rw [decide_eq_true (by rw [hz] : V.str z1 = V.str z2)]
                refine iteF ?_
                have := q H3 s3
                have e7 : decide (some z1 ≠ some z2) = false := decide_eq_false (fun y => y (by rw [hz]))
                rw [e7, Bool.false_and] at this
                exact this
              · rw [decide_eq_false (fun y => hz (by injection y) : ¬ V.str z1 = V.str z2)]
                refine iteT ?_
                refine ⟨_, rfl, t, rfl, ⟨_, SqT.of (s3 _ _ e)⟩, fun D2 nD2 => ?_⟩
                refine lc_tup (K := K) (a := t) (xs := [V.str z1, V.str z2]) (fun i H' => Same H3 H' ∧ H' D2 = some (.lst (([some z1, some z2].take i).map fun o => V.bl (vrO o)))) ⟨same_new nD2, upd_same⟩ (fun i H' _ y => SqT.of (y.1 _ _ (s3 _ _ e))) ?_ ?_
                · rintro i y H4 hi ⟨s4, e4⟩
                  obtain ⟨o, ho, hy⟩ := ha.at_ hi
                  refine ⟨rfl, _, rfl, ?_⟩
                  dsimp only [tNil]
                  refine spTxt.of (hy.same (s3.trans s4)) fun H5 s5 => ?_
                  refine ⟨_, s5 _ _ e4, ?_, same_put (s4.trans s5) nD2, ?_⟩
                  · rw [List.length_map, List.length_take]
                    exact Nat.lt_of_le_of_lt (Nat.min_le_right _ _) (by show 2 < sizeLine; decide)
                  · rw [upd_same, take_one ho, List.map_append] <;> rfl
                · rintro H4 ⟨s4, e4⟩
                  refine ⟨D2, [some z1, some z2].map vrO, rfl, SqL.of (by rw [e4] <;> rfl), ?_⟩
                  have := q H4 (s3.trans s4)
                  have e7 : decide (some z1 ≠ some z2) = true := decide_eq_true (fun y => hz (by injection y))
                  rw [e7, Bool.true_and] at this
                  have e6 : ([some z1, some z2].map vrO).any id = (vrO (some z1) || vrO (some z2)) := by simp
                  rw [e6]
                  exact this
      · have hx2 : ¬ V.int (xs.length : Int) = V.int 2 := fun y => by
          injection y with y
          omega
        rw [decide_eq_false hx2]
        refine iteT (iteT ?_)
        have := q H (Same.refl H)
        have e5 : prB (some os) = false := by
          match os, h2 with
          | [], _ => rfl
          | [_], _ => rfl
          | [_, _], h => exact absurd rfl h
          | _ :: _ :: _ :: _, _ => rfl
        rw [e5] at this
        exact this
end
end Nv
set_option maxHeartbeats 4000000
namespace Nv
open PySem PySem.Spec PyProof.Rows L2
theorem sqT_same {K : PySem.W.Frag} {H H' : Hp} {a : Addr} {xs : List V} (e : Same H H') (h : SqT K H a xs) : SqT K H' a xs :=
  h.elim (fun h => .inl (h.elim (fun h => .inl (e _ _ h)) fun ⟨o, h⟩ => .inr ⟨o, e _ _ h⟩)) fun h => .inr h
theorem walk_any {J : It} {n : Nat} {G : Hp → Prop} {Y : Nat → Hp → V → Hp → Prop} (w : Walk J n G Y) {S : Hp → Prop} {BODY : (Hp → Prop) → V → Hp → Prop} {H0 : Hp} (Pv : Nat → Hp → Prop) (h0 : Pv 0 H0) (hG : ∀ i H, i ≤ n → Pv i H → G H)
    (hs : ∀ i x H H', i < n → Pv i H → Y i H x H' → BODY (Pv (i + 1)) x H') (hd : ∀ H, Pv n H → S H) :
    ∃ W : Nat → Nat → Hp → Prop, (∃ m, W 0 m H0) ∧ ∀ i m H, W i m H → (J.stop i H ∧ S H) ∨ (J.go i H ∧ ∃ Nx : Hp → Prop, (∀ H', Nx H' → ∃ m', m' < m ∧ W (i + 1) m' H') ∧ ∀ x H', J.yld i H x H' → BODY Nx x H') := by
  refine ⟨fun i m H => m = n - i ∧ i ≤ n ∧ Pv i H, ⟨n, by simp, Nat.zero_le _, h0⟩, ?_⟩
  rintro i m H ⟨rfl, hi, p⟩
  have q := hG i H hi p
  by_cases hlt : i < n
  · refine .inr ⟨w.goes i H hlt q, Pv (i + 1), fun H' p' => ⟨n - (i + 1), by omega, rfl, hlt, p'⟩, fun x H' y => hs i x H H' hlt p (w.yields i H x H' hlt q y)⟩
  · have e : i = n := by omega
    subst e
    exact .inl ⟨w.stops H q, hd H p⟩
section
variable {P : Program} {w : World} {K : PySem.W.Frag} {mg : Str → Option Value} {base : Heap}
def spTermsOf (K : PySem.W.Frag) : Sp := fun vs H Q _ => ∃ (a : Addr) (us : List V) (ps : List (List Str)), vs = [.ref a] ∧ SqL K H a us ∧ PaL H us ps ∧ (∀ x ∈ ps, PatOk x) ∧ ps.length ≤ 1000 ∧
  ∀ (p : Addr) (H' : Hp), H p = none → Same H H' → H' p = some (.lst ((tails ps).map V.str)) → Q (.ref p) H'
theorem scTermsOf : FnScope ["patterns", "pattern", "term"] ["patterns"] (defScope sTermsOf) := ⟨rfl, rfl, rfl, by decide +kernel, rfl, by decide +kernel, by decide +kernel⟩
theorem tails_le {ps : List (List Str)} (h : ∀ x ∈ ps, PatOk x) (hl : ps.length ≤ 1000) : (tails ps).length ≤ 3000 := by
  have := tails_len h
  omega
theorem ok_termsOf {f : Addr} {fd : FuncData} (F : Fun K "terms_of" "terms_of" sTermsOf f fd) : FnOk P w K mg base CX0 1 f fd ["patterns"] (spTermsOf K) := by
  refine F.ok scTermsOf (fun vs H Q E h => ?_) (fun cdv A outer s H vs Q E hr h => ?_)
  · obtain ⟨a, us, ps, rfl, _⟩ := h
    rfl
  · obtain ⟨a, us, ps, rfl, ha, hp, hok, hl, q⟩ := h
    refine ⟨_, pss_one (ps_ret (by exact (pe_lc2 (own := [("pattern", 1), ("term", 2)]) (vs1 := [2]) (g := gName 1) (g1 := gName 2) (tt := tYes) (tt1 := tYes) (wi1 := iTup K (tSl (rSlT K) (tVar 1) (tPart (tC (V.int 1))) tNoPart)) (te := tVar 2) rfl scTermsOf.nd (pi_list (pv 0))
      (blkOk_by (own := [("pattern", 1), ("term", 2)]) (N := ["patterns", "pattern", "term"]) (sc := defScope sTermsOf) (by decide +kernel)) (by decide)
      (fun _ _ _ _ _ => pg_name (i := 1) scTermsOf.nd rfl (Or.inl rfl)) (fun _ _ _ _ _ => pts_nil)
      (fun _ _ _ _ _ => by exact (pi_tup (pe_slice sl_tup (pv 1) (po_some pe_int) po_none)))
      (fun _ _ _ _ _ => pg_name (i := 2) scTermsOf.nd rfl (Or.inl rfl)) (fun _ _ _ _ _ => pts_nil) (fun _ _ _ _ _ => by exact (pv 2))))), ?_⟩
    have hul := hp.len
    refine ⟨_, rfl, a, rfl, ⟨_, ha⟩, fun D nD => ?_⟩
    refine walk_any (walk_list (K := K) (a := a) (xs := us)) (fun i H' => Same H H' ∧ H' D = some (.lst ((tails (ps.take i)).map V.str))) ⟨same_new nD, upd_same⟩ (fun i H' _ y => y.1.seq ha) ?_ ?_
    · rintro i v H1 H1' hi ⟨sm, e1⟩ ⟨rfl, hv⟩
      obtain ⟨t, pat, rfl, hpi, et⟩ := hp.at_ hv
      obtain ⟨wd, ts, rfl, hw, h3, hts⟩ := hok pat (List.mem_of_getElem? hpi)
      have et1 := sm _ _ et
      have hacc : (tails (ps.take i)).length ≤ 3000 := by
        refine tails_le (fun x hx => hok x (List.mem_of_mem_take hx)) ?_
        rw [List.length_take]
        omega
      rw [tails_take hpi]
      show gName 1 _ _ _ _
      generalize tails (ps.take i) = acc at e1 hacc ⊢
      refine ⟨rfl, _, rfl, 1, rfl, t, _, rfl, SqT.of et1, ?_, fun t2 nt2 => ?_⟩
      · rintro ⟨h, _⟩
        have := HT.sIx_nat ((wd :: ts).map V.str).length 0 1
        rw [show ((1 : Nat) : Int) = 1 by rfl] at this
        rw [this, List.length_map, List.length_cons] at h
        omega
      · rw [cut1]
        have sm2 : Same H (upd H1' t2 (.tup (ts.map V.str))) := same_put sm (sm.free nt2)
        have e2 : upd H1' t2 (.tup (ts.map V.str)) D = some (.lst (acc.map V.str)) := same_new nt2 _ _ e1
        have et2 : upd H1' t2 (.tup (ts.map V.str)) t2 = some (.tup (ts.map V.str)) := upd_same
        generalize upd H1' t2 (.tup (ts.map V.str)) = G at sm2 e2 et2 ⊢
        refine ⟨t2, rfl, ⟨_, SqT.of et2⟩, ?_⟩
        refine walk_any (walk_tup (K := K) (a := t2) (xs := ts.map V.str)) (fun j H' => Same H H' ∧ H' t2 = some (.tup (ts.map V.str)) ∧ H' D = some (.lst ((acc ++ ts.take j).map V.str))) ⟨sm2, et2, by rw [List.take_zero, List.append_nil]; exact e2⟩ (fun j H' _ z => SqT.of z.2.1) ?_ ?_
        · rintro j x H2 H2' hj ⟨sm3, et3, e3⟩ ⟨rfl, hx⟩
          rw [List.getElem?_map] at hx
          obtain ⟨z, hz, rfl⟩ : ∃ z, ts[j]? = some z ∧ x = V.str z := by
            cases g : ts[j]? with
            | none =>
              rw [g] at hx
              cases hx
            | some z =>
              rw [g] at hx
              exact ⟨z, rfl, (Option.some.inj hx).symm⟩
          have htD : t2 ≠ D := fun y => by
            rw [y, e3] at et3
            cases et3
          refine ⟨rfl, _, rfl, _, e3, ?_, same_put sm3 nD, ?_, ?_⟩
          · rw [List.length_map, List.length_append, List.length_take]
            exact Nat.lt_of_le_of_lt (by omega : _ ≤ 3003) (by decide)
          · rw [upd_ne htD]
            exact et3
          · rw [upd_same, take_one hz]
            simp only [List.map_append, List.map_cons, List.map_nil, List.append_assoc]
        · rintro H2 ⟨sm3, et3, e3⟩
          refine ⟨sm3, ?_⟩
          rw [e3, List.length_map, List.take_length] <;> rfl
    · rintro H1 ⟨sm, e1⟩
      rw [hul, List.take_length] at e1
      exact q D H1 nD sm e1
/-- variables_among(terms) -/
def spVarsAmong (K : PySem.W.Frag) : Sp := fun vs H Q _ => ∃ (a : Addr) (ts : List Str), vs = [.ref a] ∧ (SqL K H a (ts.map V.str) ∨ SqT K H a (ts.map V.str)) ∧ (∀ x ∈ ts, x.length ≤ 1000) ∧ ts.length ≤ 5000 ∧
  ∀ (p : Addr) (H' : Hp), H p = none → Same H H' → H' p = some (.lst ((varsIn ts).map V.str)) → Q (.ref p) H'
theorem scVarsAmong : FnScope ["terms", "found", "term"] ["terms"] (defScope sVarsAmong) := ⟨rfl, rfl, rfl, by decide +kernel, rfl, by decide +kernel, by decide +kernel⟩
def tk (z : Str) : Key × V := (Sum.inr z, V.bl true)
theorem put_tk (l : List Str) (z : Str) : putK (l.map tk) (Sum.inr z) (V.bl true) = (if z ∈ l then l else l ++ [z]).map tk := by
  unfold putK
  have e : ((l.map tk).any fun kv => decide (kv.1 = Sum.inr z)) = decide (z ∈ l) := by
    rw [List.any_map]
    by_cases h : z ∈ l
    · rw [decide_eq_true h, List.any_eq_true]
      exact ⟨z, h, decide_eq_true rfl⟩
    · rw [decide_eq_false h, List.any_eq_false]
      intro y hy y2
      have := of_decide_eq_true y2
      injection this with this
      exact h (this ▸ hy)
  rw [e]
  by_cases h : z ∈ l
  · rw [decide_eq_true h, if_pos rfl, if_pos h, List.map_map]
    refine List.map_congr_left fun y hy => ?_
    show (if (tk y).1 = Sum.inr z then ((tk y).1, V.bl true) else tk y) = tk y
    split <;> rfl
  · rw [decide_eq_false h, if_neg (by decide), if_neg h, List.map_append] <;> rfl
theorem vst_vr {acc : List Str} {z : Str} (h : IsVr z) : vst acc z = if z ∈ acc then acc else acc ++ [z] := by
  unfold vst
  by_cases hm : z ∈ acc
  · rw [if_neg (fun y => y.2 hm), if_pos hm]
  · rw [if_pos ⟨h, hm⟩, if_neg hm]
theorem vst_no {acc : List Str} {z : Str} (h : ¬ IsVr z) : vst acc z = acc := by
  unfold vst
  rw [if_neg (fun y => h y.1)]
theorem ok_varsAmong {f fV : Addr} {fd fdV : FuncData} (F : Fun K "variables_among" "variables_among" sVarsAmong f fd) (B : Bp mg)
    (GV : FnOk P w K mg base CX0 1 fV fdV ["value"] (spTxt K fun z => decide (IsVr z))) (kV : PySem.W.keepIn K (.ref fV) = true) (gV : mg "is_variable" = some (.ref fV)) (bV : Binds K fdV ["value"] []) :
    FnOk P w K mg base CX0 2 f fd ["terms"] (spVarsAmong K) := by
  refine F.ok scVarsAmong (fun vs H Q E h => ?_) (fun cdv A outer s H vs Q E hr h => ?_)
  · obtain ⟨a, ts, rfl, _⟩ := h
    rfl
  · obtain ⟨a, ts, rfl, ha, hz, hl, q⟩ := h
    have hu := hu_of hr
    have turn : ∀ (i : Nat) (x : V) (d : Addr) (σ : L2.St) (H1 : Hp) (z : Str), H d = none → x = V.str z → ts[i]? = some z → (∃ o : Option V, σ = [some (.ref a), some (.ref d), o] ∧ Same H H1 ∧ H1 d = some (.dK (((ts.take i).foldl vst []).map tk))) →
        ∃ o : Option V, σ = [some (.ref a), some (.ref d), o] ∧ Same H H1 ∧ H1 d = some (.dK (((ts.take i).foldl vst []).map tk)) ∧ ((ts.take i).foldl vst []).length ≤ 5000 ∧ (ts.take (i + 1)).foldl vst [] = vst ((ts.take i).foldl vst []) z := by
      rintro i x d σ H1 z nd rfl hi ⟨o, rfl, sm, e⟩
      refine ⟨o, rfl, sm, e, ?_, ?_⟩
      · have := fold_len (ts.take i) []
        rw [List.length_take] at this
        have h0 : ([] : List Str).length = 0 := rfl
        omega
      · rw [take_one hi, List.foldl_append] <;> rfl
    rcases ha with ha | ha
    · refine ⟨_, pss_cons (ps_set (i := 1) scVarsAmong.nd rfl (Or.inl rfl) pe_dnewK)
        (pss_cons (ps_for PassesOwn.never rfl (pi_list (pv 0)) (pg_name (i := 2) scVarsAmong.nd rfl (Or.inl rfl))
          (pss_one (ps_if (pt_val (by exact (pe_call GV hr (by rfl) gV kV bV .nil pass0 (pa_cons (pv 2) pa_nil)))) (pss_one (ps_dput hu (pv 1) (pv 2) pe_bl rfl)) pss_nil)))
        (pss_one (ps_ret (pe_callTy (call_list_dK rfl) (by rfl) B.lst PyProof.Rows.boot_list (pa_cons (pv 1) pa_nil))))), ?_⟩
      intro d nd
      refine ⟨_, rfl, a, rfl, ⟨_, (same_new nd).seq ha⟩, for_list (K := K) (a := a) (xs := ts.map V.str) (fun i σ H' => ∃ o : Option V, σ = [some (.ref a), some (.ref d), o] ∧ Same H H' ∧ H' d = some (.dK (((ts.take i).foldl vst []).map tk))) ⟨none, rfl, same_new nd, upd_same⟩ (fun i σ H' _ z => ?_) ?_ ?_⟩
      · obtain ⟨_, _, sm, _⟩ := z
        exact sm.seq ha
      · rintro i x σ H1 hi h
        rw [List.getElem?_map] at hi
        obtain ⟨z, hiz, rfl⟩ : ∃ z, ts[i]? = some z ∧ x = V.str z := by
          cases g : ts[i]? with
          | none =>
            rw [g] at hi
            cases hi
          | some z =>
            rw [g] at hi
            exact ⟨z, rfl, (Option.some.inj hi).symm⟩
        obtain ⟨o, rfl, sm, e, hl2, hf⟩ := turn i _ d σ H1 z nd rfl hiz h
        rw [hf]
        generalize (ts.take i).foldl vst [] = acc at e hl2 ⊢
        refine ⟨_, rfl, ?_⟩
        dsimp only [tNil]
        refine spTxt.yes (hz z (List.mem_of_getElem? hiz)) fun H2 s2 => ⟨_, rfl, ?_⟩
        have e2 := s2 _ _ e
        show if decide (IsVr z) = true then _ else _
        by_cases hv : IsVr z
        · rw [decide_eq_true hv]
          refine iteT ⟨_, rfl, _, rfl, d, _, rfl, DPut.k (k := Sum.inr z) e2 ?_, ?_⟩
          · rw [List.length_map]
            exact Nat.lt_of_le_of_lt hl2 (by decide)
          · refine ⟨_, rfl, same_put (sm.trans s2) nd, ?_⟩
            rw [upd_same, put_tk, vst_vr hv]
        · rw [decide_eq_false hv]
          refine iteF ⟨_, rfl, sm.trans s2, ?_⟩
          rw [vst_no hv]
          exact e2
      · rintro σ H1 ⟨o, rfl, sm, e⟩
        rw [List.length_map, List.take_length] at e
        refine ⟨_, rfl, d, _, rfl, e, fun p np => ?_⟩
        refine q p _ (sm.free np) (same_put sm (sm.free np)) ?_
        rw [upd_same, List.map_map] <;> rfl
    · refine ⟨_, pss_cons (ps_set (i := 1) scVarsAmong.nd rfl (Or.inl rfl) pe_dnewK)
        (pss_cons (ps_for PassesOwn.never rfl (pi_tup (pv 0)) (pg_name (i := 2) scVarsAmong.nd rfl (Or.inl rfl))
          (pss_one (ps_if (pt_val (by exact (pe_call GV hr (by rfl) gV kV bV .nil pass0 (pa_cons (pv 2) pa_nil)))) (pss_one (ps_dput hu (pv 1) (pv 2) pe_bl rfl)) pss_nil)))
        (pss_one (ps_ret (pe_callTy (call_list_dK rfl) (by rfl) B.lst PyProof.Rows.boot_list (pa_cons (pv 1) pa_nil))))), ?_⟩
      intro d nd
      refine ⟨_, rfl, a, rfl, ⟨_, sqT_same (same_new nd) ha⟩, for_tup (K := K) (a := a) (xs := ts.map V.str) (fun i σ H' => ∃ o : Option V, σ = [some (.ref a), some (.ref d), o] ∧ Same H H' ∧ H' d = some (.dK (((ts.take i).foldl vst []).map tk))) ⟨none, rfl, same_new nd, upd_same⟩ (fun i σ H' _ z => ?_) ?_ ?_⟩
      · obtain ⟨_, _, sm, _⟩ := z
        exact sqT_same sm ha
      · rintro i x σ H1 hi h
        rw [List.getElem?_map] at hi
        obtain ⟨z, hiz, rfl⟩ : ∃ z, ts[i]? = some z ∧ x = V.str z := by
          cases g : ts[i]? with
          | none =>
            rw [g] at hi
            cases hi
          | some z =>
            rw [g] at hi
            exact ⟨z, rfl, (Option.some.inj hi).symm⟩
        obtain ⟨o, rfl, sm, e, hl2, hf⟩ := turn i _ d σ H1 z nd rfl hiz h
        rw [hf]
        generalize (ts.take i).foldl vst [] = acc at e hl2 ⊢
        refine ⟨_, rfl, ?_⟩
        dsimp only [tNil]
        refine spTxt.yes (hz z (List.mem_of_getElem? hiz)) fun H2 s2 => ⟨_, rfl, ?_⟩
        have e2 := s2 _ _ e
        show if decide (IsVr z) = true then _ else _
        by_cases hv : IsVr z
        · rw [decide_eq_true hv]
          refine iteT ⟨_, rfl, _, rfl, d, _, rfl, DPut.k (k := Sum.inr z) e2 ?_, ?_⟩
          · rw [List.length_map]
            exact Nat.lt_of_le_of_lt hl2 (by decide)
          · refine ⟨_, rfl, same_put (sm.trans s2) nd, ?_⟩
            rw [upd_same, put_tk, vst_vr hv]
        · rw [decide_eq_false hv]
          refine iteF ⟨_, rfl, sm.trans s2, ?_⟩
          rw [vst_no hv]
          exact e2
      · rintro σ H1 ⟨o, rfl, sm, e⟩
        rw [List.length_map, List.take_length] at e
        refine ⟨_, rfl, d, _, rfl, e, fun p np => ?_⟩
        refine q p _ (sm.free np) (same_put sm (sm.free np)) ?_
        rw [upd_same, List.map_map] <;> rfl
/-- variables_of(patterns) -/
def spVarsOf (K : PySem.W.Frag) : Sp := fun vs H Q _ => ∃ (a : Addr) (us : List V) (ps : List (List Str)), vs = [.ref a] ∧ SqL K H a us ∧ PaL H us ps ∧ (∀ x ∈ ps, PatOk x) ∧ ps.length ≤ 1000 ∧
  ∀ (p : Addr) (H' : Hp), H p = none → Same H H' → H' p = some (.lst ((varsIn (tails ps)).map V.str)) → Q (.ref p) H'
theorem scVarsOf : FnScope ["patterns"] ["patterns"] (defScope sVarsOf) := ⟨rfl, rfl, rfl, by decide +kernel, rfl, by decide +kernel, by decide +kernel⟩
theorem tails_short {ps : List (List Str)} (h : ∀ x ∈ ps, PatOk x) : ∀ z ∈ tails ps, (IsVr z ∨ IsNm z) ∧ z.length ≤ 10 := by
  intro z hz
  unfold tails at hz
  obtain ⟨l, hl, hzl⟩ := List.mem_flatten.mp hz
  obtain ⟨p, hp, rfl⟩ := List.mem_map.mp hl
  obtain ⟨w, ts, rfl, _, _, ht⟩ := h p hp
  have h1 := ht z hzl
  refine ⟨h1, ?_⟩
  rcases h1 with h2 | h2
  · have := h2.2.1
    omega
  · exact h2.2.1
theorem ok_varsOf {f fT fA : Addr} {fd fdT fdA : FuncData} (F : Fun K "variables_of" "variables_of" sVarsOf f fd)
    (GT : FnOk P w K mg base CX0 1 fT fdT ["patterns"] (spTermsOf K)) (kT : PySem.W.keepIn K (.ref fT) = true) (gT : mg "terms_of" = some (.ref fT)) (bT : Binds K fdT ["patterns"] [])
    (GA : FnOk P w K mg base CX0 2 fA fdA ["terms"] (spVarsAmong K)) (kA : PySem.W.keepIn K (.ref fA) = true) (gA : mg "variables_among" = some (.ref fA)) (bA : Binds K fdA ["terms"] []) :
    FnOk P w K mg base CX0 3 f fd ["patterns"] (spVarsOf K) := by
  refine F.ok scVarsOf (fun vs H Q E h => ?_) (fun cdv A outer s H vs Q E hr h => ?_)
  · obtain ⟨a, us, ps, rfl, _⟩ := h
    rfl
  · obtain ⟨a, us, ps, rfl, ha, hp, hok, hl, q⟩ := h
    have hr1 : Room 1 _ := hr.mono (by decide)
    refine ⟨_, pss_one (ps_ret (by exact (pe_call GA hr (by rfl) gA kA bA .nil pass0 (pa_cons (by exact (pe_call GT hr1 (by rfl) gT kT bT .nil pass0 (pa_cons (pv 0) pa_nil))) pa_nil)))), ?_⟩
    refine ⟨_, rfl, a, us, ps, rfl, ha, hp, hok, hl, fun p H1 np sm e => ?_⟩
    refine ⟨p, tails ps, rfl, .inl (SqL.of e), (fun x hx => by have := (tails_short hok x hx).2; omega), by have := tails_le hok hl; omega, fun p2 H2 np2 sm2 e2 => ?_⟩
    exact q p2 H2 (sm.free np2) (sm.trans sm2) e2
end
end Nv
set_option maxHeartbeats 4000000
namespace Nv
open PySem PySem.Spec PyProof.Rows L2
def hasMore (ts : List Str) (ps : List (List Str)) : Bool := (varsIn ts).any fun x => !decide (x ∈ varsIn (tails ps))
theorem at_map {ts : List Str} {i : Nat} {x : V} (hx : (ts.map V.str)[i]? = some x) : ∃ z, ts[i]? = some z ∧ x = V.str z := by
  rw [List.getElem?_map] at hx
  cases g : ts[i]? with
  | none =>
    rw [g] at hx
    cases hx
  | some z =>
    rw [g] at hx
    exact ⟨z, rfl, (Option.some.inj hx).symm⟩
section
variable {P : Program} {w : World} {K : PySem.W.Frag} {mg : Str → Option Value} {base : Heap}
/-- _sides(pairs) -/
def spSides (K : PySem.W.Frag) : Sp := fun vs H Q _ => ∃ (a : Addr) (us : List V) (qs : List (List Str)), vs = [.ref a] ∧ SqL K H a us ∧ PaL H us qs ∧ (∀ x ∈ qs, x.length = 2) ∧ qs.length ≤ 1000 ∧
  ∀ (p : Addr) (H' : Hp), H p = none → Same H H' → H' p = some (.lst (qs.flatten.map V.str)) → Q (.ref p) H'
theorem scSides : FnScope ["pairs", "pair", "term"] ["pairs"] (defScope sSides) := ⟨rfl, rfl, rfl, by decide +kernel, rfl, by decide +kernel, by decide +kernel⟩
theorem flat_len {qs : List (List Str)} (h : ∀ x ∈ qs, x.length = 2) : qs.flatten.length = 2 * qs.length := by
  induction qs with
  | nil => rfl
  | cons q qs ih =>
    rw [List.flatten_cons, List.length_append, ih fun x hx => h x (List.mem_cons_of_mem _ hx), h q List.mem_cons_self, List.length_cons]
    omega
theorem ok_sides {f : Addr} {fd : FuncData} (F : Fun K "sides_of" "sides_of" sSides f fd) : FnOk P w K mg base CX0 1 f fd ["pairs"] (spSides K) := by
  refine F.ok scSides (fun vs H Q E h => ?_) (fun cdv A outer s H vs Q E hr h => ?_)
  · obtain ⟨a, us, ps, rfl, _⟩ := h
    rfl
  · obtain ⟨a, us, qs, rfl, ha, hp, h2, hl, q⟩ := h
    refine ⟨_, pss_one (ps_ret (by exact (pe_lc2 (own := [("pair", 1), ("term", 2)]) (vs1 := [2]) (g := gName 1) (g1 := gName 2) (tt := tYes) (tt1 := tYes) (wi1 := iTup K (tVar 1)) (te := tVar 2) rfl scSides.nd (pi_list (pv 0))
      (blkOk_by (own := [("pair", 1), ("term", 2)]) (N := ["pairs", "pair", "term"]) (sc := defScope sSides) (by decide +kernel)) (by decide)
      (fun _ _ _ _ _ => pg_name (i := 1) scSides.nd rfl (Or.inl rfl)) (fun _ _ _ _ _ => pts_nil)
      (fun _ _ _ _ _ => by exact (pi_tup (pv 1)))
      (fun _ _ _ _ _ => pg_name (i := 2) scSides.nd rfl (Or.inl rfl)) (fun _ _ _ _ _ => pts_nil) (fun _ _ _ _ _ => by exact (pv 2))))), ?_⟩
    have hul := hp.len
    refine ⟨_, rfl, a, rfl, ⟨_, ha⟩, fun D nD => ?_⟩
    refine walk_any (walk_list (K := K) (a := a) (xs := us)) (fun i H' => Same H H' ∧ H' D = some (.lst ((qs.take i).flatten.map V.str))) ⟨same_new nD, upd_same⟩ (fun i H' _ y => y.1.seq ha) ?_ ?_
    · rintro i v H1 H1' hi ⟨sm, e1⟩ ⟨rfl, hv⟩
      obtain ⟨t, ts, rfl, hpi, et⟩ := hp.at_ hv
      have et1 := sm _ _ et
      have hts := h2 ts (List.mem_of_getElem? hpi)
      have hacc : (qs.take i).flatten.length ≤ 2000 := by
        rw [flat_len fun x hx => h2 x (List.mem_of_mem_take hx), List.length_take]
        omega
      have htk : (qs.take (i + 1)).flatten = (qs.take i).flatten ++ ts := by
        rw [take_one hpi, List.flatten_append]
        simp
      rw [htk]
      show gName 1 _ _ _ _
      generalize (qs.take i).flatten = acc at e1 hacc ⊢
      refine ⟨rfl, _, rfl, t, rfl, ⟨_, SqT.of et1⟩, ?_⟩
      refine walk_any (walk_tup (K := K) (a := t) (xs := ts.map V.str)) (fun j H' => Same H H' ∧ H' D = some (.lst ((acc ++ ts.take j).map V.str))) ⟨sm, by rw [List.take_zero, List.append_nil]; exact e1⟩ (fun j H' _ z => SqT.of (z.1 _ _ et)) ?_ ?_
      · rintro j x H2 H2' hj ⟨sm3, e3⟩ ⟨rfl, hx⟩
        obtain ⟨z, hz, rfl⟩ := at_map hx
        refine ⟨rfl, _, rfl, _, e3, ?_, same_put sm3 nD, ?_⟩
        · rw [List.length_map, List.length_append, List.length_take]
          exact Nat.lt_of_le_of_lt (by omega : _ ≤ 3003) (by decide)
        · rw [upd_same, take_one hz]
          simp only [List.map_append, List.map_cons, List.map_nil, List.append_assoc]
      · rintro H2 ⟨sm3, e3⟩
        refine ⟨sm3, ?_⟩
        rw [e3, List.length_map, List.take_length] <;> rfl
    · rintro H1 ⟨sm, e1⟩
      rw [hul, List.take_length] at e1
      exact q D H1 nD sm e1
/-- _has_more(terms, told) -/
def spHasMore (K : PySem.W.Frag) : Sp := fun vs H Q _ => ∃ (a b : Addr) (ts : List Str) (us : List V) (ps : List (List Str)), vs = [.ref a, .ref b] ∧ ((SqL K H a (ts.map V.str) ∨ SqT K H a (ts.map V.str)) ∧ (∀ x ∈ ts, x.length ≤ 1000) ∧ ts.length ≤ 5000) ∧
  (SqL K H b us ∧ PaL H us ps ∧ (∀ x ∈ ps, PatOk x) ∧ ps.length ≤ 1000) ∧ ∀ H' : Hp, Same H H' → Q (.bl (hasMore ts ps)) H'
theorem scHasMore : FnScope ["terms", "told", "known", "term"] ["terms", "told"] (defScope sHasMore) := ⟨rfl, rfl, rfl, by decide +kernel, rfl, by decide +kernel, by decide +kernel⟩
theorem ok_hasMore {f fA fO : Addr} {fd fdA fdO : FuncData} (F : Fun K "has_more" "has_more" sHasMore f fd) (B : Bp mg)
    (GA : FnOk P w K mg base CX0 2 fA fdA ["terms"] (spVarsAmong K)) (kA : PySem.W.keepIn K (.ref fA) = true) (gA : mg "variables_among" = some (.ref fA)) (bA : Binds K fdA ["terms"] [])
    (GO : FnOk P w K mg base CX0 3 fO fdO ["patterns"] (spVarsOf K)) (kO : PySem.W.keepIn K (.ref fO) = true) (gO : mg "variables_of" = some (.ref fO)) (bO : Binds K fdO ["patterns"] []) :
    FnOk P w K mg base CX0 4 f fd ["terms", "told"] (spHasMore K) := by
  refine F.ok scHasMore (fun vs H Q E h => ?_) (fun cdv A outer s H vs Q E hr h => ?_)
  · obtain ⟨a, b, ts, us, ps, rfl, _⟩ := h
    rfl
  · obtain ⟨a, b, ts, us, ps, rfl, ⟨ha, hz, hl⟩, ⟨hb, hp, hok, hpl⟩, q⟩ := h
    have hr2 : Room 2 _ := hr.mono (by decide)
    refine ⟨_, pss_cons (ps_set (i := 2) scHasMore.nd rfl (Or.inr rfl) (by exact (pe_call GO hr (by rfl) gO kO bO .nil pass0 (pa_cons (pv 1) pa_nil))))
      (pss_one (ps_ret (pe_callB (cr_any rfl) (by rfl) B.any bootAny (pa_cons (by exact (pe_lc (own := [("term", 3)]) (g := gName 3) (tt := tYes) (te := tOp (rIn K true) (tVar 3) (tVar 2)) rfl scHasMore.nd
        (pi_list (by exact (pe_call GA hr2 (by rfl) gA kA bA .nil pass0 (pa_cons (pv 0) pa_nil))))
        (blkOk_by (own := [("term", 3)]) (N := ["terms", "told", "known", "term"]) (sc := defScope sHasMore) (by decide +kernel))
        (fun _ _ _ _ _ => pg_name (i := 3) scHasMore.nd rfl (Or.inl rfl)) (fun _ _ _ _ _ => pts_nil)
        (fun _ _ _ _ _ => by exact (pe_cmpR op_notIn_seq (pv 3) (pv 2) (by rfl))))) pa_nil)))), ?_⟩
    refine ⟨_, rfl, b, us, ps, rfl, hb, hp, hok, hpl, fun p1 H1 np1 sm1 e1 => ?_⟩
    refine (show ∀ G : Hp, G = H1 → tSeq _ _ { nx := fun _ H' => Q .non H', rt := Q } [some (.ref a), some (.ref b), some (.ref p1), none] G from fun G hG => ?_) _ rfl
    subst hG
    refine ⟨_, rfl, a, ts, rfl, ?_, hz, hl, fun p2 H2 np2 sm2 e2 => ?_⟩
    · rcases ha with h | h
      · exact .inl (sm1.seq h)
      · exact .inr (sqT_same sm1 h)
    · have e12 := sm2 _ _ e1
      refine ⟨p2, rfl, ⟨_, SqL.of e2⟩, fun D nD => ?_⟩
      refine lc_list (K := K) (a := p2) (xs := (varsIn ts).map V.str) (fun i H' => Same H2 H' ∧ H' D = some (.lst (((varsIn ts).take i).map fun x => V.bl (!decide (x ∈ varsIn (tails ps)))))) ⟨same_new nD, upd_same⟩ (fun i H' _ y => SqL.of (y.1 _ _ e2)) ?_ ?_
      · rintro i x H3 hi ⟨s3, e3⟩
        obtain ⟨z, hz2, rfl⟩ := at_map hi
        refine ⟨rfl, _, rfl, _, rfl, p1, _, rfl, .inl (SqL.of (s3 _ _ e12)), rfl, flat_strs _, ?_⟩
        rw [inV_strs]
        refine ⟨_, e3, ?_, same_put s3 nD, ?_⟩
        · rw [List.length_map, List.length_take]
          have := varsIn_len ts
          exact Nat.lt_of_le_of_lt (by omega : _ ≤ 5000) (by decide)
        · rw [upd_same, take_one hz2, List.map_append] <;> rfl
      · rintro H3 ⟨s3, e3⟩
        rw [List.length_map, List.take_length] at e3
        refine ⟨D, (varsIn ts).map fun x => !decide (x ∈ varsIn (tails ps)), rfl, SqL.of (by rw [e3, List.map_map] <;> rfl), ?_⟩
        rw [List.any_map]
        exact q H3 ((sm1.trans sm2).trans s3)
end
end Nv
set_option maxHeartbeats 4000000
namespace Nv
open PySem PySem.Spec PyProof.Rows
/-- texts, each once -/
def dstep (acc : List Str) (x : Str) : List Str := if acc.any (· == x) = true then acc else acc ++ [x]
def dist (l : List Str) : List Str := l.foldl dstep []
theorem dstep_any (acc : List Str) (x k : Str) : (dstep acc x).any (· == k) = (acc.any (· == k) || decide (k = x)) := by
  unfold dstep
  by_cases e : k = x
  · subst e
    by_cases h : acc.any (· == k) = true
    · simp [h]
    · simp [h]
  · have hb : (x == k) = false := beq_eq_false_iff_ne.mpr fun z => e z.symm
    by_cases h : acc.any (· == x) = true
    · simp [h, e]
    · simp [h, e, hb]
theorem dstep_len (acc : List Str) (x : Str) : (dstep acc x).length = if acc.any (· == x) then acc.length else acc.length + 1 := by
  unfold dstep
  split <;> simp
theorem dist_le : ∀ (l acc : List Str), (l.foldl dstep acc).length ≤ acc.length + l.length
  | [], acc => Nat.le_refl _
  | x :: l, acc => by
    have h1 := dist_le l (dstep acc x)
    have h2 := dstep_len acc x
    show (l.foldl dstep (dstep acc x)).length ≤ acc.length + (l.length + 1)
    split at h2 <;> omega
theorem dist_take {l : List Str} {i : Nat} {x : Str} (h : l[i]? = some x) : dist (l.take (i + 1)) = dstep (dist (l.take i)) x := by
  unfold dist
  rw [take_one h, List.foldl_append] <;> rfl
theorem dist_nd_aux : ∀ (l acc : List Str), (acc ++ l).Nodup → l.foldl dstep acc = acc ++ l
  | [], acc, _ => by simp
  | x :: l, acc, h => by
    have hx : ¬ acc.any (· == x) = true := fun z => by
      obtain ⟨y, hy, e⟩ := List.any_eq_true.mp z
      rw [eq_of_beq e] at hy
      exact (List.nodup_append.mp h).2.2 x hy x List.mem_cons_self rfl
    show l.foldl dstep (dstep acc x) = _
    have e : dstep acc x = acc ++ [x] := by
      unfold dstep
      rw [if_neg hx]
    rw [e, dist_nd_aux l (acc ++ [x]) (by rw [List.append_assoc]; exact h), List.append_assoc] <;> rfl
theorem dist_nd {l : List Str} (h : l.Nodup) : dist l = l := by
  have := dist_nd_aux l [] (by simpa using h)
  simpa [dist] using this
theorem dist_lt_aux : ∀ (l acc : List Str), ¬ (acc ++ l).Nodup → acc.Nodup → (l.foldl dstep acc).length < acc.length + l.length
  | [], acc, h, h2 => absurd (by simpa using h2) h
  | x :: l, acc, h, h2 => by
    show (l.foldl dstep (dstep acc x)).length < acc.length + (l.length + 1)
    by_cases hx : acc.any (· == x) = true
    · have e : dstep acc x = acc := by
        unfold dstep
        rw [if_pos hx]
      rw [e]
      have := dist_le l acc
      omega
    · have e : dstep acc x = acc ++ [x] := by
        unfold dstep
        rw [if_neg hx]
      rw [e]
      have hn : x ∉ acc := fun z => hx (List.any_eq_true.mpr ⟨x, z, beq_self_eq_true x⟩)
      have := dist_lt_aux l (acc ++ [x]) (by rw [List.append_assoc]; exact h) (List.nodup_append.mpr ⟨h2, by simp, fun a ha b hb z => by
        rw [List.mem_singleton.mp hb] at z
        exact hn (z ▸ ha)⟩)
      rw [List.length_append, List.length_singleton] at this
      omega
theorem dist_lt {l : List Str} : decide ((dist l).length < l.length) = !decide l.Nodup := by
  by_cases h : l.Nodup
  · rw [dist_nd h, decide_eq_true h, decide_eq_false (Nat.lt_irrefl _)] <;> rfl
  · have := dist_lt_aux l [] (by simpa using h) List.nodup_nil
    rw [decide_eq_false h, decide_eq_true (by simpa [dist] using this)] <;> rfl
theorem str_at : ∀ {us : List Value} {zs : List Str}, StrsAre us zs → ∀ {j : Nat} {u : Value}, us[j]? = some u → ∃ (z : Str) (t : Tok), zs[j]? = some z ∧ u = .str z t
  | _, _, .nil, j, u, h => by cases j <;> cases h
  | _, _, .cons z t r, 0, u, h => by
    cases h
    exact ⟨z, t, rfl, rfl⟩
  | _, _, .cons z t r, j + 1, u, h => str_at r (j := j) (by simpa using h)
section
variable {prog : Program} {w : World} {A : Around} {R : Result → Shared → Prop} {J : Addr} {fp wr : List Addr} {G : Array GenState → Array GenState → Prop} {n : Nat} {P : Nat → Value → Prop} {St : Nat → Shared → Prop}
/-- a set is filled from a walk over texts -/
theorem fillStrs (W : WalksS prog w A.in1 J fp wr G n P St) (b : Addr) (hb : b ∉ fp) (zs : List Str) (hn : n = zs.length) (hs : n + 1 < scanBound) (hP : ∀ i v, P i v → ∃ z t, zs[i]? = some z ∧ v = .str z t) :
    ∀ (k i : Nat) (s : Shared), n - i = k → i ≤ n → St i s → s.heap.SetOf (PySem.strKind prog w) b (fun x => (dist (zs.take i)).any (· == x)) (dist (zs.take i)).length →
      (∀ s', Moved (b :: wr) G s s' → s'.heap.SetOf (PySem.strKind prog w) b (fun x => (dist zs).any (· == x)) (dist zs).length → R (.ok (.ret .none)) s') →
      codeAny (model prog w) A (.builtin "set.update.loop" ⟨[.ref b, .ref J], []⟩) R s := by
  have hbw : b ∉ wr := fun h => hb (W.sub _ h)
  have more : ∀ c ∈ wr, c ∈ b :: wr := fun c hc => List.mem_cons_of_mem _ hc
  intro k
  induction k with
  | zero =>
    intro i s hk hi hst hS hR
    have e : i = n := by omega
    subst e
    refine codeAny_builtin PyProof.Rows.F.entry_set_update_loop ?_
    rw [Around.under_plainId PyProof.Rows.F.plain_set_update_loop _]
    show wpAny _ A.in1 (pyNext (.ref J) >>= _) _ _ s
    refine wpAny_bind (W.done s _ _ hst fun s1 m1 => ?_)
    show wpAny _ A.in1 (ret Value.none) _ _ s1
    obtain ⟨o, es, ep, t, ho, rest⟩ := hS
    rw [hn, List.take_length] at rest
    exact wpAny_pure (hR s1 (m1.mono more) ⟨o, es, ep, t, m1.heap b _ hbw ho, rest⟩)
  | succ k ih =>
    intro i s hk hi hst hS hR
    have lt : i < n := by omega
    refine codeAny_builtin PyProof.Rows.F.entry_set_update_loop ?_
    rw [Around.under_plainId PyProof.Rows.F.plain_set_update_loop _]
    show wpAny _ A.in1 (pyNext (.ref J) >>= _) _ _ s
    refine wpAny_bind (W.item i s _ _ lt hst fun v s1 hPv st1 m1 => ?_)
    obtain ⟨z, t, hz, rfl⟩ := hP i v hPv
    have hS1 : s1.heap.SetOf (PySem.strKind prog w) b (fun x => (dist (zs.take i)).any (· == x)) (dist (zs.take i)).length := by
      obtain ⟨o, es, ep, tb, ho, rest⟩ := hS
      exact ⟨o, es, ep, tb, m1.heap b _ hbw ho, rest⟩
    show wpAny _ A.in1 (holding [Value.str z t] (setAdd b (.str z t)) >>= _) _ _ s1
    refine wpAny_bind (wpAny_holding ?_)
    unfold setAdd
    refine wpAny_holding (wpAny_bind ((PySem.strKind prog w).pyHash (k := z) (strKind_is _ _ _ _) ?_))
    have room : (dist (zs.take i)).length + 1 < scanBound := by
      have := dist_le (zs.take i) []
      rw [List.length_take] at this
      have h0 : ([] : List Str).length = 0 := rfl
      unfold dist
      omega
    refine wpAny_setAddHashed_of (knd := PySem.strKind prog w) (s := { s1 with toks := s1.toks + 1 }) (strKind_is _ _ _ _) rfl hS1 room fun h2 sb2 hS2 => ?_
    have hS3 : h2.SetOf (PySem.strKind prog w) b (fun x => (dist (zs.take (i + 1))).any (· == x)) (dist (zs.take (i + 1))).length :=
      SetOf_congr hS2 (fun x => by rw [dist_take hz, dstep_any]) (by rw [dist_take hz, dstep_len])
    have else2 : ∀ c, c ≠ b → h2.get? c = s1.heap.get? c := fun c hc => sb2.2 c hc
    refine wpAny_pure ⟨plainId_quiet PyProof.Rows.F.plain_set_update_loop _, ih (i + 1) _ (by omega) lt (W.frame _ s1 _ _ st1 (Nat.le_succ _) fun c hc o e => ?_) hS3 fun s3 m3 hS4 => ?_⟩
    · rw [else2 c fun z => hb (z ▸ hc)]
      exact e
    · refine hR s3 (Moved.trans W.gtrans ((m1.mono more).then_heap (Nat.le_succ _) fun c o hc e => ?_) m3) hS4
      rw [else2 c fun z => hc (by rw [z]; exact List.mem_cons_self)]
      exact e
end
end Nv
set_option maxHeartbeats 4000000
namespace Nv
open PySem PySem.Spec PyProof.Rows
section
variable {prog : Program} {w : World} {A : Around} {E : Value → Shared → Prop} {s : Shared}
/-- the empty set, as it is laid -/
abbrev freshSet (led : Bool) : Obj := { cls := .type "set", dict := none, data := .set #[] 0 (.fresh 0 0 led) }
/-- the set at b, of the texts zs, laid behind all that stood -/
abbrev Filled (prog : Program) (w : World) (zs : List Str) (b : Addr) (h0 h1 : Heap) : Prop :=
  h1.SetOf (PySem.strKind prog w) b (fun x => (dist zs).any (· == x)) (dist zs).length ∧ ∀ c o, c < b → h0.get? c = some o → h1.get? c = some o
/-- set(xs), xs a list of texts -/
theorem set_of_strs {l : Addr} {its : Array Value} {zs : List Str} {Q : Value → Shared → Prop} (calm : A.handled = none) (hl : s.heap.IsList l its) (hz : StrsAre its.toList zs) (few : zs.length + 1 < scanBound)
    (hq : ∀ (h1 : Heap) (tk : Nat), Filled prog w zs s.heap.objs.size s.heap h1 → Q (.ref s.heap.objs.size) { s with heap := h1, toks := tk }) : wpAny (model prog w) A (call (.type "set") [.ref l]) Q E s := by
  obtain ⟨c, tl, m0⟩ := PySem.F.called_set.mro
  have m1 := PySem.F.called_set.made; have m2 := PySem.F.called_set.sub; have m3 := PySem.F.called_set.notType; have m4 := PySem.F.called_set.canCreate
  have m5 := PySem.F.typeCall_set_1 (.ref l)
  have size : its.size = zs.length := by rw [← Array.length_toList]; exact hz.len_eq
  refine wpAny_call (codeAny_of_tree (show wpAny _ _ (callAny (.type "set") _) _ _ _ from wpAny_pure ⟨Code.quiet_builtin _ (by decide +kernel), codeAny_builtin PySem.F.entry_type_call ?_⟩))
  rw [Around.under_plain (weight_type_call_type "set" [.ref l] []) rfl]
  repeat (any_goals (first | assumption | wp_step))
  refine codeAny_mono (code_set_new_1 (.ref l) (E := E) (Q₁ := fun v s1 => ∃ led : Bool, v = .ref s.heap.objs.size ∧ s1 = { s with heap := s.heap.push (freshSet led) }) fun led => ⟨led, rfl, rfl⟩) fun r s1 hr => ?_
  rcases r with e | fl
  · exact hr
  cases fl with
  | ret v =>
    obtain ⟨led, rfl, rfl⟩ := hr
    have at0 : (s.heap.push (freshSet led)).get? s.heap.objs.size = some (freshSet led) := Heap.get?_push_size _ rfl
    have ty : Shared.TypeIs { s with heap := s.heap.push (freshSet led) } (.ref s.heap.objs.size) "set" := ⟨_, at0, rfl⟩
    have i1 := PySem.F.called_set.init.lookup; have i2 := PySem.F.called_set.init.bind (.ref s.heap.objs.size)
    repeat (any_goals (first | assumption | wp_step))
    refine codeAny_mono (codeAny_call_builtin (R := wants (fun v s2 => v = .none ∧ ∃ h1 tk, s2 = { s with heap := h1, toks := tk } ∧ Filled prog w zs s.heap.objs.size s.heap h1) E) PySem.F.called_set.init.plain PySem.F.entry_set_init (check_set_init_1 ty ?_)) fun r2 s2 hr2 => ?_
    · obtain ⟨⟨oc, od, odt, osl⟩, ho, e1, nl, e2⟩ := hl
      simp only at e1 e2; subst e1; subst e2
      have ho1 : (s.heap.push (freshSet led)).get? l = some { cls := .type "list", dict := od, data := .seq its nl, slots := osl } := Heap.get?_push_of_some _ ho
      have f1 := PySem.F.sub_list_set; have f2 := PySem.F.sub_list_frozenset; have f3 : (Value.type "list" == Value.type "dict") = false := by decide
      have lst : (s.heap.push (freshSet led)).IsList l its := ⟨_, ho1, rfl, nl, rfl⟩
      have lt : l < s.heap.objs.size := Heap.lt_size ho
      unfold Builtin.«set.__init__» noKeywords Builtin.Frozenset.updateFrom; generalize hI : pyIter = PI
      wp_walk; subst hI
      refine wpAny_pyIter_list lst (wpAny_bind (wpAny_runValue ?_))
      have n1 : l ≠ (s.heap.push (freshSet led)).objs.size := by rw [Heap.size_push]; exact Nat.ne_of_lt (Nat.lt_succ_of_lt lt)
      have n2 : s.heap.objs.size ∉ [(s.heap.push (freshSet led)).objs.size, l] := by
        rw [Heap.size_push]; simp only [List.mem_cons, List.not_mem_nil, or_false, not_or]; exact ⟨Nat.ne_of_lt (Nat.lt_succ_self _), Nat.ne_of_gt lt⟩
      refine fillStrs ((Walks.list (by simp [calm]) _ l n1 its).toS) s.heap.objs.size n2 zs size (by omega) (fun i v hv => ?_) (its.size - 0) 0 _ (by omega) (Nat.zero_le _) ⟨⟨_, Heap.get?_push_size _ rfl, rfl, rfl⟩, lst.push _⟩ ?_ ?_
      · exact str_at hz (j := i) (by rw [Array.getElem?_toList]; exact hv)
      · exact SetOf_congr ((setObjOf_fresh (knd := PySem.strKind prog w) led).setOf (Heap.get?_push_of_some _ at0) (by unfold scanBound; omega)) (fun _ => rfl) rfl
      · intro s3 m hS
        obtain ⟨h3, g3, d3, t3, o3⟩ := s3
        have eg : g3 = s.gens := m.gens; have ed : d3 = s.drawn := m.drawn; have eo : o3 = s.os := m.os
        subst eg; subst ed; subst eo
        refine show wpAny _ _ _ _ _ _ from wpAny_pure (show wpAny _ _ (ret Value.none) _ _ _ from wpAny_pure ⟨rfl, h3, t3, rfl, hS, fun c o hc e => ?_⟩)
        refine m.heap c o ?_ (Heap.get?_push_of_some _ (Heap.get?_push_of_some _ e))
        rw [Heap.size_push]; simp only [List.mem_cons, List.not_mem_nil, or_false, not_or]; exact ⟨Nat.ne_of_lt hc, Nat.ne_of_lt (Nat.lt_succ_of_lt hc)⟩
    · rcases r2 with e | fl2
      · exact hr2
      cases fl2 with
      | ret v2 =>
        obtain ⟨rfl, h1, tk, rfl, hF⟩ := hr2
        repeat (any_goals (first | assumption | wp_step))
        exact hq _ _ hF
      | _ => exact hr2.elim
  | _ => exact hr.elim
end
end Nv
set_option maxHeartbeats 4000000
namespace Nv
open PySem PySem.Spec PyProof.Rows L2
/-- len(set(xs)), xs a list of texts: how many unlike ones -/
def tDist (K : PySem.W.Frag) (ta : TE) : TE := fun σ H Q => ta σ H fun x H1 => ∃ (l : Addr) (zs : List Str), x = .ref l ∧ SqL K H1 l (zs.map V.str) ∧ zs.length ≤ 4000 ∧ Q (.int ((dist zs).length : Nat)) H1
theorem pe_dist {X : Cx} {a : Expr} {ta : TE} {p p2 q pos : Pos} (gl : Gl X "len") (ml : X.mg "len" = none) (gs : Gl X "set") (ms : X.mg "set" = none) (ha : PE X a ta) (calm : X.calm = true := by rfl)
    (na : starEach [a] X.env = (false, eval a X.env) :: starEach [] X.env := by rfl) : PE X (.Call (.Name "len" p) [.Call (.Name "set" p2) [a] [] q] [] pos) (tDist X.K ta) := by
  refine ⟨fun pins s σ H Q I h => ?_⟩
  refine Call_ (ld_blt I gl ml boot_len (PyProof.Rows.callWith_builtin1 (PyProof.Rows.args_cons (Call_ (ld_blt I gs ms boot_set ?_)) rfl) rfl rfl))
  refine PyProof.Rows.callWith_type1 (PyProof.Rows.args_cons (thn (ha.run pins s σ H _ I h) fun v s1 ⟨x, H1, I1, r1, q1⟩ => PyProof.Rows.args_nil ?_) na) na rfl
  obtain ⟨l, zs, rfl, hl, few, q1⟩ := q1
  cases r1
  obtain ⟨its, r, pl, _⟩ := I1.list hl
  have hz : ∀ {ys : List Str} {us : List Value}, Vals (ys.map V.str) us → StrsAre us ys := by
    intro ys
    induction ys with
    | nil =>
      intro us r
      cases r
      exact .nil
    | cons y ys ih =>
      intro us r
      cases r with
      | cons r t =>
        obtain ⟨k, rfl⟩ := r
        exact .cons y k (ih t)
  refine set_of_strs (zs := zs) (I1.ok.hd calm) pl.isList (by simpa using hz r) (by unfold scanBound; omega) fun h1 tk hF => PyProof.Rows.args_nil ?_
  obtain ⟨hS, kept⟩ := hF
  obtain ⟨o, es, ep, t, ho, hex, hd, _, _, _, hf, hn⟩ := hS
  have I2 : Inv X pins σ H1 { s1 with heap := h1, toks := tk } := I1.kept fun b o e => kept b o (Heap.lt_size e) e
  have small : (dist zs).length ≤ 0 + zs.length := dist_le zs []
  exact call_len_set ho hex hd hf (by rw [hn]; omega) ⟨.int ((dist zs).length : Nat), H1, I2.tok _, ⟨_, by rw [hn]⟩, q1⟩
end Nv
set_option maxHeartbeats 4000000
namespace Nv
open PySem PySem.Spec PyProof.Rows L2
section
variable {P : Program} {w : World} {K : PySem.W.Frag} {mg : Str → Option Value} {base : Heap}
/-- _has_double(labels) -/
def spHasDouble (K : PySem.W.Frag) : Sp := fun vs H Q _ => ∃ (a : Addr) (zs : List Str), vs = [.ref a] ∧ SqL K H a (zs.map V.str) ∧ zs.length ≤ 4000 ∧ Q (.bl (!decide zs.Nodup)) H
theorem scHasDouble : FnScope ["labels"] ["labels"] (defScope sHasDouble) := ⟨rfl, rfl, rfl, by decide +kernel, rfl, by decide +kernel, by decide +kernel⟩
theorem ok_hasDouble {f : Addr} {fd : FuncData} (F : Fun K "_has_double" "_has_double" sHasDouble f fd) (B : Bp mg) : FnOk P w K mg base CX0 1 f fd ["labels"] (spHasDouble K) := by
  refine F.ok scHasDouble (fun vs H Q E h => ?_) (fun cdv A outer s H vs Q E hr h => ?_)
  · obtain ⟨a, zs, rfl, _⟩ := h
    rfl
  · obtain ⟨a, zs, rfl, ha, hl, q⟩ := h
    refine ⟨_, pss_one (ps_ret (pe_cmpR op_lt (by exact (pe_dist (by rfl) B.len (by rfl) B.set (pv 0))) (pe_callB call_len_seq (by rfl) B.len PySem.boot_len (pa_cons (pv 0) pa_nil)) (nomark _))), ?_⟩
    refine ⟨_, rfl, a, zs, rfl, ha, hl, _, rfl, a, _, rfl, .inl ha, _, _, rfl, rfl, ?_⟩
    have e : decide (((dist zs).length : Int) < ((zs.map V.str).length : Int)) = !decide zs.Nodup := by
      rw [← dist_lt, List.length_map]
      exact decide_eq_decide.mpr (by omega)
    show Q (.bl (decide (((dist zs).length : Int) < ((zs.map V.str).length : Int)))) H
    rw [e]
    exact q
/-- _place(label, labels), a label that is there -/
def spPlace (K : PySem.W.Frag) : Sp := fun vs H Q _ => ∃ (z : Str) (b : Addr) (zs : List Str) (j : Nat), vs = [.str z, .ref b] ∧ SqL K H b (zs.map V.str) ∧ zs[j]? = some z ∧ zs.Nodup ∧ Q (.int (j : Nat)) H
theorem scPlace : FnScope ["label", "labels"] ["label", "labels"] (defScope sPlace) := ⟨rfl, rfl, rfl, by decide +kernel, rfl, by decide +kernel, by decide +kernel⟩
theorem ok_place {f : Addr} {fd : FuncData} (F : Fun K "_place" "_place" sPlace f fd) : FnOk P w K mg base CX0 1 f fd ["label", "labels"] (spPlace K) := by
  refine F.ok scPlace (fun vs H Q E h => ?_) (fun cdv A outer s H vs Q E hr h => ?_)
  · obtain ⟨z, b, zs, j, rfl, _⟩ := h
    rfl
  · obtain ⟨z, b, zs, j, rfl, hb, hj, nd, q⟩ := h
    refine ⟨_, pss_cons (ps_if (pt_cmpR op_notIn_seq (pv 0) (pv 1) (by rfl)) (pss_one ps_never) pss_nil)
      (pss_one (ps_ret (pe_bm PySem.F.plainAttrs_list PySem.F.slot_list_index PySem.F.type_list_index mt_index (pv 1) (pa_cons (pv 0) pa_nil)))), ?_⟩
    refine ⟨_, rfl, _, rfl, b, _, rfl, .inl hb, rfl, flat_strs _, _, rfl, ?_⟩
    rw [inV_strs, decide_eq_true (List.mem_of_getElem? hj)]
    refine iteF ?_
    refine ⟨_, rfl, .inl ⟨rfl, _, hb⟩, _, rfl, b, zs.map V.str, _, j, .str z, rfl, rfl, hb, rfl, flat_strs _, by rw [List.getElem?_map, hj] <;> rfl, by show (z == z) = true; exact beq_self_eq_true z, fun m v hm hv => ?_, q⟩
    obtain ⟨y, hy, rfl⟩ := at_map hv
    show (y == z) = false
    refine beq_eq_false_iff_ne.mpr fun e => ?_
    subst e
    obtain ⟨h1, e1⟩ := List.getElem?_eq_some_iff.mp hy
    obtain ⟨h2, e2⟩ := List.getElem?_eq_some_iff.mp hj
    exact absurd (e1.trans e2.symm) (List.pairwise_iff_getElem.mp nd m j h1 h2 hm)
end
end Nv
set_option maxHeartbeats 4000000
namespace Nv
open PySem PySem.Spec PyProof.Rows L2
abbrev sRuleInit : Stmt := inClass cRule 0
/-- a list or None, of tuples of texts -/
def Opt (H : Hp) (v : V) (ps : List (List Str)) : Prop := (v = .non ∧ ps = []) ∨ ∃ (a : Addr) (us : List V), v = .ref a ∧ H a = some (.lst us) ∧ PaL H us ps ∧ ps.length ≤ 300
def PairOk (q : List Str) : Prop := ∃ x y, q = [x, y] ∧ x ≠ y ∧ IsTm x ∧ IsTm y ∧ (IsVr x ∨ IsVr y)
theorem tm_len {z : Str} (h : IsTm z) : z.length ≤ 10 := by
  rcases h with h | h
  · exact h.2.1
  · have := h.2.1
    omega
theorem PatOk.small {p : List Str} (h : PatOk p) : p.length ≤ 1000 ∧ ∀ x ∈ p, x.length ≤ 1000 := by
  obtain ⟨w, ts, rfl, hw, h3, ht⟩ := h
  refine ⟨by rw [List.length_cons]; omega, fun x hx => ?_⟩
  rcases List.mem_cons.mp hx with rfl | hx
  · have := hw.2.1
    omega
  · have := tm_len (Or.symm (ht x hx))
    omega
theorem PairOk.small {p : List Str} (h : PairOk p) : p.length ≤ 1000 ∧ ∀ x ∈ p, x.length ≤ 1000 := by
  obtain ⟨x, y, rfl, _, h1, h2, _⟩ := h
  refine ⟨by show 2 ≤ 1000; decide, fun z hz => ?_⟩
  simp only [List.mem_cons, List.not_mem_nil, or_false] at hz
  have h3 := tm_len h1
  have h4 := tm_len h2
  rcases hz with rfl | rfl <;> omega
theorem PatOk.yes {p : List Str} (h : PatOk p) : patB (some (p.map some)) = true := by
  obtain ⟨w, ts, rfl, hw, h3, ht⟩ := h
  show (decide ((ts.map some).length ≤ 3) && (nmO (some w) && (ts.map some).all tmO)) = true
  rw [List.length_map, decide_eq_true h3, Bool.true_and, show nmO (some w) = true from decide_eq_true hw, Bool.true_and, List.all_map, List.all_eq_true]
  intro x hx
  exact decide_eq_true (Or.symm (ht x hx))
theorem PairOk.yes {p : List Str} (h : PairOk p) : prB (some (p.map some)) = true := by
  obtain ⟨x, y, rfl, hn, h1, h2, h3⟩ := h
  show (tmO (some x) && (tmO (some y) && (decide (some x ≠ some y) && (vrO (some x) || vrO (some y))))) = true
  rw [show tmO (some x) = true from decide_eq_true h1, show tmO (some y) = true from decide_eq_true h2, show decide (some x ≠ some y) = true from decide_eq_true (fun e => hn (by injection e)), Bool.true_and, Bool.true_and, Bool.true_and]
  rcases h3 with h | h
  · rw [show vrO (some x) = true from decide_eq_true h] <;> rfl
  · rw [show vrO (some y) = true from decide_eq_true h, Bool.or_true]
theorem all_yes {p : Option (List (Option Str)) → Bool} {ps : List (List Str)} (h : ∀ x ∈ ps, p (some (x.map some)) = true) : listB p (some (ps.map fun q => some (q.map some))) = true := by
  show ((ps.map fun q => some (q.map some)).all p) = true
  rw [List.all_map, List.all_eq_true]
  exact h
/-- the rule's object r (its dict dx), of these parts: th its head's tuple; l1, l2, l3 its own lists -/
abbrev ruleF (l : Str) (th l1 l2 l3 : Addr) : List (Str × V) := [("_label", .str l), ("_head", .ref th), ("_told", .ref l1), ("_pairs", .ref l2), ("_denied", .ref l3)]
/-- the class Rule, as the top leaves it -/
structure RC (K : PySem.W.Frag) (C : Addr) : Prop where
  cl : Cls K C
  n1 : NoAttr K C "_label"
  n2 : NoAttr K C "_head"
  n3 : NoAttr K C "_told"
  n4 : NoAttr K C "_pairs"
  n5 : NoAttr K C "_denied"
/-- the promises of what the classes' defs call -/
structure Ct (P : Program) (w : World) (K : PySem.W.Frag) (mg : Str → Option Value) (base : Heap) : Prop where
  nm : ∃ f fd, FnOk P w K mg base CX0 1 f fd ["value"] (spTxt K fun z => decide (IsNm z)) ∧ PySem.W.keepIn K (.ref f) = true ∧ mg "is_name" = some (.ref f) ∧ Binds K fd ["value"] []
  vr : ∃ f fd, FnOk P w K mg base CX0 1 f fd ["value"] (spTxt K fun z => decide (IsVr z)) ∧ PySem.W.keepIn K (.ref f) = true ∧ mg "is_variable" = some (.ref f) ∧ Binds K fd ["value"] []
  pt : ∃ f fd, FnOk P w K mg base CX0 3 f fd ["value"] (spTup K patB) ∧ PySem.W.keepIn K (.ref f) = true ∧ mg "is_pattern" = some (.ref f) ∧ Binds K fd ["value"] []
  ps : ∃ f fd, FnOk P w K mg base CX0 4 f fd ["value"] (spLst K patB) ∧ PySem.W.keepIn K (.ref f) = true ∧ mg "is_patterns" = some (.ref f) ∧ Binds K fd ["value"] []
  pr : ∃ f fd, FnOk P w K mg base CX0 4 f fd ["value"] (spLst K prB) ∧ PySem.W.keepIn K (.ref f) = true ∧ mg "is_pairs" = some (.ref f) ∧ Binds K fd ["value"] []
  to : ∃ f fd, FnOk P w K mg base CX0 1 f fd ["patterns"] (spTermsOf K) ∧ PySem.W.keepIn K (.ref f) = true ∧ mg "terms_of" = some (.ref f) ∧ Binds K fd ["patterns"] []
  sd : ∃ f fd, FnOk P w K mg base CX0 1 f fd ["pairs"] (spSides K) ∧ PySem.W.keepIn K (.ref f) = true ∧ mg "sides_of" = some (.ref f) ∧ Binds K fd ["pairs"] []
  hm : ∃ f fd, FnOk P w K mg base CX0 4 f fd ["terms", "told"] (spHasMore K) ∧ PySem.W.keepIn K (.ref f) = true ∧ mg "has_more" = some (.ref f) ∧ Binds K fd ["terms", "told"] []
theorem PaL.sbo {H H1 : Hp} {r C dx : Addr} {fs : List (Str × V)} {vs : List V} {ps : List (List Str)} (h : PaL H vs ps) (e : H r = some (.ins C dx fs)) (s : Sb r H H1) : PaL H1 vs ps := by
  induction h with
  | nil => exact .nil
  | cons e1 _ ih => exact .cons (s _ _ (fun z => by rw [z, e] at e1; cases e1) e1) ih
section
variable {P : Program} {w : World} {K : PySem.W.Frag} {mg : Str → Option Value} {base : Heap}
def spRuleInit (C : Addr) : Sp := fun vs H Q _ => ∃ (r dx : Addr) (l : Str) (th tt : Addr) (h : List Str) (us : List V) (ps : List (List Str)) (vp : V) (qs : List (List Str)) (vd : V) (ds : List (List Str)), vs = [.ref r, .str l, .ref th, .ref tt, vp, vd] ∧
  H r = some (.ins C dx []) ∧ IsNm l ∧ (H th = some (.tup (h.map V.str)) ∧ PatOk h) ∧ (H tt = some (.lst us) ∧ PaL H us ps ∧ (∀ x ∈ ps, PatOk x) ∧ ps.length ≤ 300) ∧ (Opt H vp qs ∧ ∀ x ∈ qs, PairOk x) ∧ (Opt H vd ds ∧ ∀ x ∈ ds, PatOk x) ∧
  (hasMore h.tail ps = false ∧ hasMore qs.flatten ps = false ∧ hasMore (tails ds) ps = false) ∧
  ∀ (l1 l2 l3 : Addr) (us2 us3 : List V) (H' : Hp), H l1 = none → H l2 = none → H l3 = none → Sb r H H' → H' r = some (.ins C dx (ruleF l th l1 l2 l3)) → H' l1 = some (.lst us) → H' l2 = some (.lst us2) → PaL H' us2 qs → H' l3 = some (.lst us3) → PaL H' us3 ds → Q .non H'
theorem scRuleInit : FnScope ["self", "label", "head", "told", "pairs", "denied"] ["self", "label", "head", "told", "pairs", "denied"] (defScope sRuleInit) := ⟨rfl, rfl, rfl, by decide +kernel, rfl, by decide +kernel, by decide +kernel⟩
theorem Opt.tru {H : Hp} {v : V} {ps : List (List Str)} (h : Opt H v ps) : TruV K v H (!ps.isEmpty) := by
  rcases h with ⟨rfl, rfl⟩ | ⟨a, us, rfl, e, hp, _⟩
  · rfl
  · refine .inl ⟨us, SqL.of e, ?_⟩
    cases hp <;> rfl
theorem Opt.same {H H1 : Hp} {v : V} {ps : List (List Str)} (h : Opt H v ps) (s : Same H H1) : Opt H1 v ps := by
  rcases h with ⟨rfl, rfl⟩ | ⟨a, us, rfl, e, hp, l⟩
  · exact .inl ⟨rfl, rfl⟩
  · exact .inr ⟨a, us, rfl, s _ _ e, hp.same s, l⟩
theorem Opt.sbo {H H1 : Hp} {r C dx : Addr} {fs : List (Str × V)} {v : V} {ps : List (List Str)} (h : Opt H v ps) (e : H r = some (.ins C dx fs)) (s : Sb r H H1) : Opt H1 v ps := by
  rcases h with ⟨rfl, rfl⟩ | ⟨a, us, rfl, e1, hp, l⟩
  · exact .inl ⟨rfl, rfl⟩
  · exact .inr ⟨a, us, rfl, s _ _ (fun z => by rw [z, e] at e1; cases e1) e1, hp.sbo e s, l⟩
theorem opt_and {v : V} {A : Prop} {Qf : Hp → Prop} {H3 : Hp} (k : ∀ G, Same H3 G → Qf G) (h2 : (∀ G, Same H3 G → Qf G) → v ≠ .non → A) : ∃ c, V.bl (!decide (v = .non)) = V.bl c ∧ if c = true then A else Qf H3 := by
  refine ⟨_, rfl, ?_⟩
  by_cases h : v = .non
  · rw [decide_eq_true h]
    exact iteF (k _ (Same.refl _))
  · rw [decide_eq_false h]
    exact iteT (h2 k h)
theorem or_list {i : Nat} {v : V} {ps : List (List Str)} {H3 : Hp} {σ : L2.St} {Z : VK} (o : Opt H3 v ps) (hi : σ[i]? = some (some v)) (k : ∀ (a : Addr) (us : List V) (G : Hp), Same H3 G → G a = some (.lst us) → PaL G us ps → Z (.ref a) G) :
    tOrT K (tVar i) (tLst tNil) σ H3 Z := by
  refine ⟨v, hi, _, o.tru, ?_⟩
  rcases o with ⟨rfl, rfl⟩ | ⟨a, us, rfl, e, hp, _⟩
  · exact iteF ⟨Nat.zero_le _, fun p np => k p [] _ (same_new np) upd_same .nil⟩
  · cases ps with
    | nil =>
      exact iteF ⟨Nat.zero_le _, fun p np => k p [] _ (same_new np) upd_same .nil⟩
    | cons p ps => exact iteT (k a us _ (Same.refl _) e hp)
theorem if_opt {i : Nat} {p : Option (List (Option Str)) → Bool} {v : V} {qs : List (List Str)} {D : Ends} {σ : L2.St} {H : Hp} (o : Opt H v qs) (hi : σ[i]? = some (some v)) (sm : ∀ x ∈ qs, x.length ≤ 1000 ∧ ∀ y ∈ x, y.length ≤ 1000) (ok : ∀ x ∈ qs, p (some (x.map some)) = true)
    (k : ∀ G, Same H G → D.nx σ G) : tIfS (tAnd (tTest (tOp (fun x y H Q => y = V.non ∧ Q (V.bl (!decide (x = V.non))) H) (tVar i) (tC V.non))) (tNot (tB (tCall (spLst K p) [] E0 (tCons (tVar i) tNil))))) tNever tNext D σ H := by
  refine ⟨v, hi, rfl, !decide (v = .non), rfl, ?_⟩
  rcases o with ⟨rfl, _⟩ | ⟨a, us, rfl, e, hp, l⟩
  · rw [decide_eq_true rfl]
    exact iteF (iteF (k H (Same.refl H)))
  · rw [decide_eq_false (fun z : V.ref a = V.non => by cases z)]
    have tq : Tps K H (.ref a) (some (qs.map fun q => some (q.map some))) := ⟨a, us, rfl, e, hp.tps sm, by rw [List.length_map]; omega⟩
    refine iteT ⟨_, hi, _, _, rfl, tq, fun G sG => ⟨_, rfl, ?_⟩⟩
    rw [all_yes ok]
    exact iteF (k G sG)
theorem if_sides {i j : Nat} {v : V} {tt : Addr} {us : List V} {ps qs : List (List Str)} {D : Ends} {σ : L2.St} {H : Hp} (o : Opt H v qs) (hi : σ[i]? = some (some v)) (hj : σ[j]? = some (some (.ref tt))) (ok : ∀ x ∈ qs, PairOk x)
    (et : H tt = some (.lst us)) (hp : PaL H us ps) (hok : ∀ x ∈ ps, PatOk x) (hpl : ps.length ≤ 300) (m : hasMore qs.flatten ps = false) (k : ∀ G, Same H G → D.nx σ G) :
    tIfS (tB (tCall (spHasMore K) [] E0 (tCons (tCall (spSides K) [] E0 (tCons (tOrT K (tVar i) (tLst tNil)) tNil)) (tCons (tVar j) tNil)))) tNever tNext D σ H := by
  have ql : qs.length ≤ 1000 := by
    rcases o with ⟨_, rfl⟩ | ⟨_, _, _, _, _, l⟩
    · exact Nat.zero_le _
    · omega
  show tOrT K (tVar i) (tLst tNil) σ H _
  refine or_list o hi fun a us2 G sG ea pa => ?_
  refine ⟨a, us2, qs, rfl, SqL.of ea, pa, fun x hx => ?_, ql, fun b G2 nb s2 eb => ?_⟩
  · obtain ⟨x1, x2, rfl, _⟩ := ok x hx
    rfl
  · have s3 := sG.trans s2
    refine ⟨_, hj, b, tt, qs.flatten, us, ps, rfl, ⟨.inl (SqL.of eb), fun x hx => ?_, ?_⟩, ⟨SqL.of (s3 _ _ et), hp.same s3, hok, by omega⟩, fun G4 s4 => ⟨_, rfl, ?_⟩⟩
    · obtain ⟨y, hy, hx⟩ := List.mem_flatten.mp hx
      exact (ok y hy).small.2 x hx
    · rw [flat_len fun x hx => by obtain ⟨x1, x2, rfl, _⟩ := ok x hx; rfl]
      omega
    · rw [m]
      exact iteF (k G4 (s3.trans s4))
theorem if_terms {i j : Nat} {v : V} {tt : Addr} {us : List V} {ps qs : List (List Str)} {D : Ends} {σ : L2.St} {H : Hp} (o : Opt H v qs) (hi : σ[i]? = some (some v)) (hj : σ[j]? = some (some (.ref tt))) (ok : ∀ x ∈ qs, PatOk x)
    (et : H tt = some (.lst us)) (hp : PaL H us ps) (hok : ∀ x ∈ ps, PatOk x) (hpl : ps.length ≤ 300) (m : hasMore (tails qs) ps = false) (k : ∀ G, Same H G → D.nx σ G) :
    tIfS (tB (tCall (spHasMore K) [] E0 (tCons (tCall (spTermsOf K) [] E0 (tCons (tOrT K (tVar i) (tLst tNil)) tNil)) (tCons (tVar j) tNil)))) tNever tNext D σ H := by
  have ql : qs.length ≤ 1000 := by
    rcases o with ⟨_, rfl⟩ | ⟨_, _, _, _, _, l⟩
    · exact Nat.zero_le _
    · omega
  show tOrT K (tVar i) (tLst tNil) σ H _
  refine or_list o hi fun a us2 G sG ea pa => ?_
  refine ⟨a, us2, qs, rfl, SqL.of ea, pa, ok, ql, fun b G2 nb s2 eb => ?_⟩
  have s3 := sG.trans s2
  refine ⟨_, hj, b, tt, tails qs, us, ps, rfl, ⟨.inl (SqL.of eb), fun x hx => ?_, ?_⟩, ⟨SqL.of (s3 _ _ et), hp.same s3, hok, by omega⟩, fun G4 s4 => ⟨_, rfl, ?_⟩⟩
  · have := (tails_short ok x hx).2
    omega
  · have := tails_le ok ql
    omega
  · rw [m]
    exact iteF (k G4 (s3.trans s4))
theorem putF_new {f : Str} {v : V} : ∀ {fs : List (Str × V)} {ns : List Str}, fs.map (·.1) = ns → f ∉ ns → putF f v fs = fs ++ [(f, v)]
  | [], _, _, _ => rfl
  | (g, x) :: fs, _, rfl, h => by
    unfold putF
    rw [if_neg (fun e => h (by rw [e]; exact List.mem_cons_self)), putF_new (fs := fs) rfl (fun e => h (List.mem_cons_of_mem _ e))] <;> rfl
abbrev Flds := List (Str × V)
theorem putF2 {l : Str} {th : Addr} : putF "_head" (V.ref th) ([("_label", V.str l)] : Flds) = ([("_label", V.str l), ("_head", V.ref th)] : Flds) := putF_new (ns := ["_label"]) rfl (by decide +kernel)
theorem putF3 {l : Str} {th l1 : Addr} : putF "_told" (V.ref l1) ([("_label", V.str l), ("_head", V.ref th)] : Flds) = ([("_label", V.str l), ("_head", V.ref th), ("_told", V.ref l1)] : Flds) := putF_new (ns := ["_label", "_head"]) rfl (by decide +kernel)
theorem putF4 {l : Str} {th l1 l2 : Addr} : putF "_pairs" (V.ref l2) ([("_label", V.str l), ("_head", V.ref th), ("_told", V.ref l1)] : Flds) = ([("_label", V.str l), ("_head", V.ref th), ("_told", V.ref l1), ("_pairs", V.ref l2)] : Flds) := putF_new (ns := ["_label", "_head", "_told"]) rfl (by decide +kernel)
theorem putF5 {l : Str} {th l1 l2 l3 : Addr} : putF "_denied" (V.ref l3) ([("_label", V.str l), ("_head", V.ref th), ("_told", V.ref l1), ("_pairs", V.ref l2)] : Flds) = ruleF l th l1 l2 l3 := putF_new (ns := ["_label", "_head", "_told", "_pairs"]) rfl (by decide +kernel)
theorem fld_list {i : Nat} {v : V} {qs : List (List Str)} {D : Ends} {σ : L2.St} {H : Hp} {r C dx : Addr} {fs : List (Str × V)} {f : Str} (o : Opt H v qs) (hi : σ[i]? = some (some v)) (h0 : σ[0]? = some (some (.ref r))) (er : H r = some (.ins C dx fs)) (cl : Cls K C) (na : NoAttr K C f) (hf : fs.length < 1000)
    (k : ∀ (l2 : Addr) (us2 : List V) (G : Hp), H l2 = none → Sb r H G → G r = some (.ins C dx (putF f (.ref l2) fs)) → G l2 = some (.lst us2) → PaL G us2 qs → D.nx σ G) :
    sFld K (tVar 0) (tCB (fun xs H Q => ∃ p ys, xs = [V.ref p] ∧ (SqL K H p ys ∨ SqT K H p ys) ∧ ∀ l, H l = none → Q (.ref l) (upd H l (.lst ys))) (tCons (tOrT K (tVar i) (tLst tNil)) tNil)) f D σ H := by
  show tOrT K (tVar i) (tLst tNil) σ H _
  refine or_list o hi fun a us G sG ea pa => ?_
  refine ⟨a, us, rfl, .inl (SqL.of ea), fun l2 n2 => ⟨_, h0, r, C, dx, fs, rfl, ?_, cl, na, hf, ?_⟩⟩
  · exact same_new n2 _ _ (sG _ _ er)
  · have nr : l2 ≠ r := fun z => by
      rw [z, sG _ _ er] at n2
      cases n2
    have e2 : upd G l2 (.lst us) r = some (.ins C dx fs) := same_new n2 _ _ (sG _ _ er)
    have s2 : Sb r H (upd (upd G l2 (.lst us)) r (.ins C dx (putF f (.ref l2) fs))) := (Sb.of (same_put sG (sG.free n2))).trans Sb.upd
    refine k l2 us _ (sG.free n2) s2 upd_same ?_ ?_
    · rw [upd_ne nr, upd_same]
    · exact (pa.same (same_new n2)).sbo e2 Sb.upd
theorem ok_ruleInit {f C : Addr} {fd : FuncData} (F : FunD K "__init__" "Rule.__init__" (defArgs sRuleInit) (defBody sRuleInit) (defScope sRuleInit) [.non, .non] [] f fd) (B : Bp mg) (R : RC K C) (T : Ct P w K mg base) :
    FnOk P w K mg base CX0 5 f fd ["self", "label", "head", "told", "pairs", "denied"] (spRuleInit C) := by
  obtain ⟨fN, dN, GN, kN, gN, bN⟩ := T.nm
  obtain ⟨fP, dP, GP, kP, gP, bP⟩ := T.pt
  obtain ⟨fS, dS, GS, kS, gS, bS⟩ := T.ps
  obtain ⟨fR, dR, GR, kR, gR, bR⟩ := T.pr
  obtain ⟨fT, dT, GT, kT, gT, bT⟩ := T.to
  obtain ⟨fD, dD, GD, kD, gD, bD⟩ := T.sd
  obtain ⟨fM, dM, GM, kM, gM, bM⟩ := T.hm
  refine F.ok scRuleInit (fun vs H Q E h => ?_) (fun cdv A outer s H vs Q E hr h => ?_)
  · obtain ⟨r, dx, l, th, tt, h, us, ps, vp, qs, vd, ds, rfl, _⟩ := h
    rfl
  · obtain ⟨r, dx, l, th, tt, h, us, ps, vp, qs, vd, ds, rfl, er, hl, ⟨eh, hh⟩, ⟨et, hp, hok, hpl⟩, ⟨oq, hq⟩, ⟨od, hd⟩, ⟨m1, m2, m3⟩, q⟩ := h
    have hr1 : Room 1 _ := hr.mono (by decide)
    have hr3 : Room 3 _ := hr.mono (by decide)
    refine ⟨_, pss_cons (ps_if (pt_not (pt_val (by exact (pe_call GN hr1 (by rfl) gN kN bN .nil pass0 (pa_cons (pv 1) pa_nil))))) (pss_one ps_never) pss_nil)
      (pss_cons (ps_if (pt_not (pt_val (by exact (pe_call GP hr3 (by rfl) gP kP bP .nil pass0 (pa_cons (pv 2) pa_nil))))) (pss_one ps_never) pss_nil)
      (pss_cons (ps_if (pt_not (pt_val (by exact (pe_call GS hr (by rfl) gS kS bS .nil pass0 (pa_cons (pv 3) pa_nil))))) (pss_one ps_never) pss_nil)
      (pss_cons (ps_if (PW.pt (pw_and (pt_cmpR op_notN (pv 4) pe_non (nomark _)) (pw_and1 (pt_not (pt_val (by exact (pe_call GR hr (by rfl) gR kR bR .nil pass0 (pa_cons (pv 4) pa_nil)))))))) (pss_one ps_never) pss_nil)
      (pss_cons (ps_if (PW.pt (pw_and (pt_cmpR op_notN (pv 5) pe_non (nomark _)) (pw_and1 (pt_not (pt_val (by exact (pe_call GS hr (by rfl) gS kS bS .nil pass0 (pa_cons (pv 5) pa_nil)))))))) (pss_one ps_never) pss_nil)
      (pss_cons (ps_if (pt_val (by exact (pe_call GM hr (by rfl) gM kM bM .nil pass0 (pa_cons (pe_slice sl_tup (pv 2) (po_some pe_int) po_none) (pa_cons (pv 3) pa_nil))))) (pss_one ps_never) pss_nil)
      (pss_cons (ps_if (pt_val (by exact (pe_call GM hr (by rfl) gM kM bM .nil pass0 (pa_cons (by exact (pe_call GD hr1 (by rfl) gD kD bD .nil pass0 (pa_cons (pe_orT (pv 4) (pe_one (pe_lst pa_nil))) pa_nil))) (pa_cons (pv 3) pa_nil))))) (pss_one ps_never) pss_nil)
      (pss_cons (ps_if (pt_val (by exact (pe_call GM hr (by rfl) gM kM bM .nil pass0 (pa_cons (by exact (pe_call GT hr1 (by rfl) gT kT bT .nil pass0 (pa_cons (pe_orT (pv 5) (pe_one (pe_lst pa_nil))) pa_nil))) (pa_cons (pv 3) pa_nil))))) (pss_one ps_never) pss_nil)
      (pss_cons (ps_fld (pv 0) (pv 1) rfl)
      (pss_cons (ps_fld (pv 0) (pv 2) rfl)
      (pss_cons (ps_fld (pv 0) (pe_callTy call_list_of (by rfl) B.lst PyProof.Rows.boot_list (pa_cons (pv 3) pa_nil)) rfl)
      (pss_cons (ps_fld (pv 0) (pe_callTy call_list_of (by rfl) B.lst PyProof.Rows.boot_list (pa_cons (pe_orT (pv 4) (pe_one (pe_lst pa_nil))) pa_nil)) rfl)
      (pss_one (ps_fld (pv 0) (pe_callTy call_list_of (by rfl) B.lst PyProof.Rows.boot_list (pa_cons (pe_orT (pv 5) (pe_one (pe_lst pa_nil))) pa_nil)) rfl))))))))))))), ?_⟩
    refine ⟨_, rfl, ?_⟩
    dsimp only [tNil]
    refine spTxt.yes (by have := hl.2.1; omega) fun H1 s1 => ⟨_, rfl, ?_⟩
    show if (!decide (IsNm l)) = true then _ else _
    rw [decide_eq_true hl]
    refine iteF ?_
    refine ⟨_, rfl, _, some (h.map some), rfl, tp_strs (s1 _ _ eh) hh.small.2 hh.small.1, fun H2 s2 => ⟨_, rfl, ?_⟩⟩
    rw [hh.yes]
    refine iteF ?_
    have s12 := s1.trans s2
    have tps : ∀ G, Same H G → Tps K G (.ref tt) (some (ps.map fun q => some (q.map some))) := fun G sG => ⟨tt, us, rfl, sG _ _ et, (hp.same sG).tps fun p hpp => (hok p hpp).small, by rw [List.length_map]; omega⟩
    refine ⟨_, rfl, _, _, rfl, tps _ s12, fun H3 s3 => ⟨_, rfl, ?_⟩⟩
    rw [all_yes fun x hx => (hok x hx).yes]
    refine iteF ?_
    have s13 := s12.trans s3
    show tSeq _ _ _ _ _
    refine if_opt (v := vp) (o := oq.same s13) rfl (fun x hx => (hq x hx).small) (fun x hx => (hq x hx).yes) fun G4 s4 => ?_
    replace s13 := s13.trans s4
    show tSeq _ _ _ _ _
    refine if_opt (v := vd) (o := od.same s13) rfl (fun x hx => (hd x hx).small) (fun x hx => (hd x hx).yes) fun G5 s5 => ?_
    replace s13 := s13.trans s5
    clear s4 s5 tps
    obtain ⟨wd, tms, rfl, hw, h3, hts⟩ := hh
    have small : ∀ x, IsVr x ∨ IsNm x → x.length ≤ 1000 := fun x hx => by
      have := tm_len (Or.symm hx)
      omega
    -- head[1:]
    refine ⟨_, rfl, 1, rfl, th, _, rfl, SqT.of (s13 _ _ eh), ?_, fun t6 nt6 => ?_⟩
    · rintro ⟨h, _⟩
      have := HT.sIx_nat ((wd :: tms).map V.str).length 0 1
      rw [show ((1 : Nat) : Int) = 1 by rfl] at this
      rw [this, List.length_map, List.length_cons] at h
      omega
    rw [cut1]
    have s6 : Same H (upd G5 t6 (.tup (tms.map V.str))) := same_put s13 (s13.free nt6)
    refine ⟨_, rfl, t6, tt, tms, us, ps, rfl, ⟨.inr (SqT.of upd_same), fun x hx => small x (hts x hx), by omega⟩, ⟨SqL.of (s6 _ _ et), hp.same s6, hok, by omega⟩, fun G7 s7 => ⟨_, rfl, ?_⟩⟩
    rw [show hasMore tms ps = false from m1]
    refine iteF ?_
    replace s13 := s6.trans s7
    clear s6 s7
    show tSeq _ _ _ _ _
    refine if_sides (K := K) (v := vp) (o := oq.same s13) rfl rfl (fun x hx => hq x hx) (s13 _ _ et) (hp.same s13) hok hpl m2 fun G8 s8 => ?_
    replace s13 := s13.trans s8
    show tSeq _ _ _ _ _
    refine if_terms (K := K) (v := vd) (o := od.same s13) rfl rfl hd (s13 _ _ et) (hp.same s13) hok hpl m3 fun G9 s9 => ?_
    replace s13 := s13.trans s9
    clear s8 s9
    -- the fields
    refine ⟨_, rfl, _, rfl, r, C, dx, [], rfl, s13 _ _ er, R.cl, R.n1, (by show 0 < 1000; decide), ?_⟩
    have f1 : Sb r H (upd G9 r (.ins C dx (putF "_label" (V.str l) []))) := (Sb.of s13).trans Sb.upd
    have e1 : upd G9 r (.ins C dx (putF "_label" (V.str l) [])) r = some (.ins C dx [("_label", .str l)]) := upd_same
    generalize upd G9 r (.ins C dx (putF "_label" (V.str l) [])) = G at f1 e1 ⊢
    refine ⟨_, rfl, _, rfl, r, C, dx, _, rfl, e1, R.cl, R.n2, (by show 1 < 1000; decide), ?_⟩
    rw [putF2]
    have f2 : Sb r H (upd G r (.ins C dx [("_label", .str l), ("_head", .ref th)])) := f1.trans Sb.upd
    have e2 : upd G r (.ins C dx [("_label", .str l), ("_head", .ref th)]) r = some (.ins C dx [("_label", .str l), ("_head", .ref th)]) := upd_same
    generalize upd G r (.ins C dx [("_label", .str l), ("_head", .ref th)]) = G at f2 e2 ⊢
    have tne : tt ≠ r := fun z => by
      rw [z, er] at et
      cases et
    refine ⟨_, rfl, tt, us, rfl, .inl (SqL.of (f2 _ _ tne et)), fun l1 n1 => ⟨_, rfl, r, C, dx, _, rfl, same_new n1 _ _ e2, R.cl, R.n3, (by show 2 < 1000; decide), ?_⟩⟩
    rw [putF3]
    have l1r : l1 ≠ r := fun z => by
      rw [z, e2] at n1
      cases n1
    have n1H : H l1 = none := by
      cases g : H l1 with
      | none => rfl
      | some o =>
        rw [f2 _ _ l1r g] at n1
        cases n1
    have f3 : Sb r H (upd (upd G l1 (.lst us)) r (.ins C dx [("_label", .str l), ("_head", .ref th), ("_told", .ref l1)])) := (f2.put n1H).trans Sb.upd
    have e3 : upd (upd G l1 (.lst us)) r (.ins C dx [("_label", .str l), ("_head", .ref th), ("_told", .ref l1)]) r = some (.ins C dx [("_label", .str l), ("_head", .ref th), ("_told", .ref l1)]) := upd_same
    have el1 : upd (upd G l1 (.lst us)) r (.ins C dx [("_label", .str l), ("_head", .ref th), ("_told", .ref l1)]) l1 = some (.lst us) := by rw [upd_ne l1r, upd_same]
    generalize upd (upd G l1 (.lst us)) r (.ins C dx [("_label", .str l), ("_head", .ref th), ("_told", .ref l1)]) = G3 at f3 e3 el1 ⊢
    refine fld_list (K := K) (v := vp) (oq.sbo er f3) rfl rfl e3 R.cl R.n4 (by show 3 < 1000; decide) fun l2 us2 G4 n2 s4 e4 el2 p2 => ?_
    rw [putF4] at e4
    have f4 := f3.trans s4
    have l2r : l2 ≠ r := fun z => by
      rw [z, e3] at n2
      cases n2
    have el1' := s4 _ _ l1r el1
    have n2H : H l2 = none := by
      cases g : H l2 with
      | none => rfl
      | some o =>
        rw [f3 _ _ l2r g] at n2
        cases n2
    refine fld_list (K := K) (v := vd) (od.sbo er f4) rfl rfl e4 R.cl R.n5 (by show 4 < 1000; decide) fun l3 us3 G5 n3 s5 e5 el3 p3 => ?_
    rw [putF5] at e5
    have l3r : l3 ≠ r := fun z => by
      rw [z, e4] at n3
      cases n3
    have n3H : H l3 = none := by
      cases g : H l3 with
      | none => rfl
      | some o =>
        rw [f4 _ _ l3r g] at n3
        cases n3
    exact q l1 l2 l3 us2 us3 G5 n1H n2H n3H (f4.trans s5) e5 (s5 _ _ l1r el1') (s5 _ _ l2r el2) (p2.sbo e4 s5) el3 p3
end
end Nv
set_option maxHeartbeats 4000000
namespace Nv
open PySem PySem.Spec PyProof.Rows L2
/-- what a rule is made of -/
structure Rl where
  l : Str
  h : List Str
  ps : List (List Str)
  qs : List (List Str)
  ds : List (List Str)
  deriving DecidableEq
structure Rl.Ok (x : Rl) : Prop where
  l : IsNm x.l
  h : PatOk x.h
  ps : ∀ y ∈ x.ps, PatOk y
  pl : x.ps.length ≤ 300
  qs : ∀ y ∈ x.qs, PairOk y
  ql : x.qs.length ≤ 300
  ds : ∀ y ∈ x.ds, PatOk y
  dl : x.ds.length ≤ 300
/-- the rule x stands at r -/
def RA (C : Addr) (H : Hp) (r : Addr) (x : Rl) : Prop := ∃ (dx th l1 l2 l3 : Addr) (us us2 us3 : List V), H r = some (.ins C dx (ruleF x.l th l1 l2 l3)) ∧ H th = some (.tup (x.h.map V.str)) ∧ (H l1 = some (.lst us) ∧ PaL H us x.ps) ∧ (H l2 = some (.lst us2) ∧ PaL H us2 x.qs) ∧ H l3 = some (.lst us3) ∧ PaL H us3 x.ds
theorem RA.same {C : Addr} {H H1 : Hp} {r : Addr} {x : Rl} (h : RA C H r x) (s : Same H H1) : RA C H1 r x := by
  obtain ⟨dx, th, l1, l2, l3, us, us2, us3, e, e1, ⟨e2, p2⟩, ⟨e3, p3⟩, e4, p4⟩ := h
  exact ⟨dx, th, l1, l2, l3, us, us2, us3, s _ _ e, s _ _ e1, ⟨s _ _ e2, p2.same s⟩, ⟨s _ _ e3, p3.same s⟩, s _ _ e4, p4.same s⟩
theorem PairOk.asc {p : List Str} (h : PairOk p) : ∀ x ∈ p, Asc x := by
  obtain ⟨x, y, rfl, _, h1, h2, _⟩ := h
  intro z hz
  simp only [List.mem_cons, List.not_mem_nil, or_false] at hz
  have : ∀ z, IsTm z → Asc z := fun z h => by
    rcases h with h | h
    · exact h.asc
    · exact h.asc
  rcases hz with rfl | rfl
  · exact this _ h1
  · exact this _ h2
/-- what isinstance asks of an own class -/
structure IC (K : PySem.W.Frag) (C : Addr) : Prop where
  ha : PySem.W.findIn K (.ref C) "__class__" = some (some (.builtin "object.__class__"))
  hn : PySem.W.specialIn K (.builtin "object.__class__") "__get__" = some (some (.builtin "getset_descriptor.__get__"))
  ht : PySem.W.takesIn K (.builtin "object.__class__") = some true
  hm : PySem.W.mroIn K C (.type "object") = some true
  me : PySem.W.kitOne K (.ref C) (.ref C) = some true
section
variable {P : Program} {w : World} {K : PySem.W.Frag} {mg : Str → Option Value} {base : Heap}
/-- a list that an object keeps, told anew -/
def spGetL (C : Addr) (f : Str) : Sp := fun vs H Q _ => ∃ (r dx l : Addr) (fs : List (Str × V)) (us : List V), vs = [.ref r] ∧ H r = some (.ins C dx fs) ∧ fs.lookup f = some (.ref l) ∧ H l = some (.lst us) ∧ ∀ p, H p = none → Q (.ref p) (upd H p (.lst us))
theorem ok_getL {name qual f : Str} {st : Stmt} {fa C : Addr} {fd : FuncData} {p1 p2 p3 p4 p5 : Pos} (F : Fun K name qual st fa fd) (S : FnScope ["self"] ["self"] (defScope st)) (hb : defBody st = [.Return (some (.Call (.Name "list" p1) [.Attribute (.Name "self" p2) f p3] [] p4)) p5])
    (hl : ∀ X : Cx, X.env.scope = defScope st → Gl X "list") (cl : Cls K C) (na : NoAttr K C f) (B : Bp mg) : FnOk P w K mg base CX0 1 fa fd ["self"] (spGetL C f) := by
  refine F.ok S (fun vs H Q E h => ?_) (fun cdv A outer s H vs Q E hr h => ?_)
  · obtain ⟨r, dx, l, fs, us, rfl, _⟩ := h
    rfl
  · obtain ⟨r, dx, l, fs, us, rfl, er, ef, el, q⟩ := h
    rw [hb]
    refine ⟨_, pss_one (ps_ret (pe_callTy call_list_of (hl _ rfl) B.lst PyProof.Rows.boot_list (pa_cons (pe_fld (pe_var (i := 0) rfl ((S.par "self" (List.Mem.head _)).elim (fun z => .inl z) (fun z => .inr (.inl z)))) rfl) pa_nil))), ?_⟩
    exact ⟨_, rfl, r, C, dx, fs, _, rfl, er, cl, na, ef, l, us, rfl, .inl (SqL.of el), fun p np => q p np⟩
/-- Rule.__eq__ -/
abbrev sRuleEq : Stmt := inClass cRule 1
def spRuleEq (K : PySem.W.Frag) (C : Addr) : Sp := fun vs H Q _ => ∃ (a : Addr) (x : Rl) (v : V), vs = [.ref a, v] ∧ RA C H a x ∧ x.Ok ∧
  ((∃ (b : Addr) (y : Rl), v = .ref b ∧ RA C H b y ∧ y.Ok ∧ Q (.bl (decide (x = y))) H) ∨ (∃ t : Value, TyX K H v t ∧ PySem.W.kitOne K t (.ref C) = some false ∧ Q (.bl false) H))
theorem scRuleEq : FnScope ["self", "other"] ["self", "other"] (defScope sRuleEq) := ⟨rfl, rfl, rfl, by decide +kernel, rfl, by decide +kernel, by decide +kernel⟩
theorem lk_no {k g : Str} {v : V} {r : List (Str × V)} (h : (k == g) = false) : List.lookup k ((g, v) :: r) = List.lookup k r := by
  rw [List.lookup_cons, h]
theorem lk_yes {k : Str} {v : V} {r : List (Str × V)} : List.lookup k ((k, v) :: r) = some v := by
  rw [List.lookup_cons, beq_self_eq_true]
theorem lk1 {l : Str} {th l1 l2 l3 : Addr} : (ruleF l th l1 l2 l3).lookup ("_label" : Str) = some (V.str l) := lk_yes
theorem lk2 {l : Str} {th l1 l2 l3 : Addr} : (ruleF l th l1 l2 l3).lookup ("_head" : Str) = some (V.ref th) := (lk_no (by decide +kernel)).trans lk_yes
theorem lk3 {l : Str} {th l1 l2 l3 : Addr} : (ruleF l th l1 l2 l3).lookup ("_told" : Str) = some (V.ref l1) := (lk_no (by decide +kernel)).trans ((lk_no (by decide +kernel)).trans lk_yes)
theorem lk4 {l : Str} {th l1 l2 l3 : Addr} : (ruleF l th l1 l2 l3).lookup ("_pairs" : Str) = some (V.ref l2) := (lk_no (by decide +kernel)).trans ((lk_no (by decide +kernel)).trans ((lk_no (by decide +kernel)).trans lk_yes))
theorem lk5 {l : Str} {th l1 l2 l3 : Addr} : (ruleF l th l1 l2 l3).lookup ("_denied" : Str) = some (V.ref l3) := (lk_no (by decide +kernel)).trans ((lk_no (by decide +kernel)).trans ((lk_no (by decide +kernel)).trans ((lk_no (by decide +kernel)).trans lk_yes)))
theorem ok_ruleEq {f C : Addr} {fd : FuncData} (F : Fun K "__eq__" "Rule.__eq__" sRuleEq f fd) (B : Bp mg) (R : RC K C) (I : IC K C) (gC : mg "Rule" = some (.ref C)) : FnOk P w K mg base CX0 1 f fd ["self", "other"] (spRuleEq K C) := by
  refine F.ok scRuleEq (fun vs H Q E h => ?_) (fun cdv A outer s H vs Q E hr h => ?_)
  · obtain ⟨a, x, v, rfl, _⟩ := h
    rfl
  · obtain ⟨a, x, v, rfl, ra, xo, h⟩ := h
    refine ⟨_, pss_cons (ps_if (pt_not (pt_val (pe_callB call_isi (by rfl) B.isi bootIsi (pa_cons (pv 1) (pa_cons (pe_glob (v := V.ref C) (by rfl) gC rfl) pa_nil))))) (pss_one (ps_ret pe_bl)) pss_nil)
      (pss_cons (ps_if (PW.pt (pw_or (pt_cmpR op_ne (pe_fld (pv 0) rfl) (pe_fld (pv 1) rfl) (nomark _)) (pw_or (pt_cmpR (op_neD hr.units) (pe_fld (pv 0) rfl) (pe_fld (pv 1) rfl) (nomark _)) (pw_or1 (pt_cmpR (op_neD hr.units) (pe_fld (pv 0) rfl) (pe_fld (pv 1) rfl) (nomark _)))))) (pss_one (ps_ret pe_bl)) pss_nil)
      (pss_one (ps_ret (pe_and (pe_cmpR (op_eqD hr.units) (pe_fld (pv 0) rfl) (pe_fld (pv 1) rfl) (nomark _)) (pe_one (pe_cmpR (op_eqD hr.units) (pe_fld (pv 0) rfl) (pe_fld (pv 1) rfl) (nomark _))))))), ?_⟩
    rcases h with ⟨b, y, rfl, rb, yo, q⟩ | ⟨t, ht, hk, q⟩
    · obtain ⟨dx, th, l1, l2, l3, us, us2, us3, e, e1, ⟨e2, p2⟩, ⟨e3, p3⟩, e4, p4⟩ := ra
      obtain ⟨dx', th', m1, m2, m3, ws, ws2, ws3, g, g1, ⟨g2, r2⟩, ⟨g3, r3⟩, g4, r4⟩ := rb
      refine ⟨_, rfl, _, _, _, _, true, rfl, .own _, .base (.ins g R.cl I.ha I.hn I.ht I.hm), I.me, true, rfl, iteF ?_⟩
      refine ⟨_, rfl, a, C, dx, _, _, rfl, e, R.cl, R.n1, lk1, _, rfl, b, C, dx', _, _, rfl, g, R.cl, R.n1, lk1, rfl, _, rfl, ?_⟩
      obtain ⟨xl, xh, xp, xq, xd⟩ := x
      obtain ⟨yl, yh, yp, yq, yd⟩ := y
      have no : (⟨xl, xh, xp, xq, xd⟩ : Rl) ≠ ⟨yl, yh, yp, yq, yd⟩ → Q (.bl false) H := fun z => by
        rw [decide_eq_false z] at q
        exact q
      by_cases z1 : xl = yl
      · rw [decide_eq_true (by rw [z1] : V.str xl = V.str yl)]
        refine iteF ?_
        refine ⟨_, rfl, a, C, dx, _, _, rfl, e, R.cl, R.n2, lk2, _, rfl, b, C, dx', _, _, rfl, g, R.cl, R.n2, lk2, dT xh, dT yh, dp_T e1, dp_T g1, (lay_dT xo.h.asc).shaped (by decide), (lay_dT yo.h.asc).shaped (by decide), _, rfl, ?_⟩
        rw [eqv_T]
        by_cases z2 : xh = yh
        · rw [decide_eq_true z2]
          refine iteF ?_
          refine ⟨_, rfl, a, C, dx, _, _, rfl, e, R.cl, R.n3, lk3, _, rfl, b, C, dx', _, _, rfl, g, R.cl, R.n3, lk3, dL xp, dL yp, dp_L (SqL.of e2) p2, dp_L (SqL.of g2) r2, (lay_dL fun p hp => (xo.ps p hp).asc).shaped (by decide), (lay_dL fun p hp => (yo.ps p hp).asc).shaped (by decide), _, rfl, ?_⟩
          rw [eqv_L]
          by_cases z3 : xp = yp
          · rw [decide_eq_true z3]
            refine iteF ?_
            refine ⟨_, rfl, a, C, dx, _, _, rfl, e, R.cl, R.n4, lk4, _, rfl, b, C, dx', _, _, rfl, g, R.cl, R.n4, lk4, dL xq, dL yq, dp_L (SqL.of e3) p3, dp_L (SqL.of g3) r3, (lay_dL fun p hp => (xo.qs p hp).asc).shaped (by decide), (lay_dL fun p hp => (yo.qs p hp).asc).shaped (by decide), ?_⟩
            rw [eqv_L]
            refine ⟨_, rfl, ?_⟩
            by_cases z4 : xq = yq
            · rw [decide_eq_true z4]
              refine iteT ?_
              refine ⟨_, rfl, a, C, dx, _, _, rfl, e, R.cl, R.n5, lk5, _, rfl, b, C, dx', _, _, rfl, g, R.cl, R.n5, lk5, dL xd, dL yd, dp_L (SqL.of e4) p4, dp_L (SqL.of g4) r4, (lay_dL fun p hp => (xo.ds p hp).asc).shaped (by decide), (lay_dL fun p hp => (yo.ds p hp).asc).shaped (by decide), ?_⟩
              rw [eqv_L]
              have e5 : decide ((⟨xl, xh, xp, xq, xd⟩ : Rl) = ⟨yl, yh, yp, yq, yd⟩) = decide (xd = yd) := decide_eq_decide.mpr ⟨fun w => by injection w, fun w => by rw [z1, z2, z3, z4, w]⟩
              rw [e5] at q
              exact q
            · rw [decide_eq_false z4]
              exact iteF (no fun w => z4 (by injection w))
          · rw [decide_eq_false z3]
            exact iteT (no fun w => z3 (by injection w))
        · rw [decide_eq_false z2]
          exact iteT (iteT (no fun w => z2 (by injection w)))
      · rw [decide_eq_false (fun w => z1 (by injection w) : ¬ V.str xl = V.str yl)]
        exact iteT (iteT (no fun w => z1 (by injection w)))
    · refine ⟨_, rfl, _, _, _, _, false, rfl, .own _, ht, hk, false, rfl, iteT ?_⟩
      exact q
end
end Nv
set_option maxHeartbeats 4000000
namespace Nv
open PySem PySem.Spec PyProof.Rows L2 TL
/-! # texts of patterns and rules, sign by sign -/
/-- signs of words alone: no blank, bracket, comma, colon -/
def Ws (l : List Nat) : Prop := ∀ c ∈ l, 65 ≤ c
theorem Ws.not {l : List Nat} (h : Ws l) {c : Nat} (hc : c < 65) : c ∉ l := fun z => by
  have := h c z
  omega
theorem Ws.append {l m : List Nat} (h : Ws l) (k : Ws m) : Ws (l ++ m) := fun c hc => by
  rcases List.mem_append.mp hc with z | z
  · exact h c z
  · exact k c z
theorem par_pass {s : Nat} {S : List Nat} : ∀ {x acc L : List Nat}, s ∉ x → par (s :: S) acc (x ++ L) = par (s :: S) (acc ++ x) L
  | [], acc, L, _ => by rw [List.append_nil, List.nil_append]
  | c :: x, acc, L, h => by
    rw [List.cons_append, par_miss (pre_of_head S _ fun z => h (by rw [z]; exact List.mem_cons_self)), par_pass (x := x) (acc := acc ++ [c]) fun z => h (List.mem_cons_of_mem _ z), List.append_assoc, List.singleton_append]
theorem par_skip {s c : Nat} {S acc L : List Nat} (h : c ≠ s) : par (s :: S) acc (c :: L) = par (s :: S) (acc ++ [c]) L := par_miss (pre_of_head _ _ h)
/-- a word between blanks is not at a word that another sign ends -/
theorem take_ne : ∀ (u t L : List Nat) {c : Nat}, Ws u → Ws t → c < 65 → c ≠ 32 → (t ++ c :: L).take (u.length + 1) ≠ u ++ [32]
  | [], [], L, c, _, _, _, h => fun z => by
    simp at z
    exact h z
  | [], a :: t, L, c, _, ht, _, _ => fun z => by
    have := ht a List.mem_cons_self
    simp at z
    omega
  | b :: u, [], L, c, hu, _, hc, _ => fun z => by
    have := hu b List.mem_cons_self
    simp at z
    omega
  | b :: u, a :: t, L, c, hu, ht, hc, h => fun z => by
    rw [List.length_cons, List.cons_append, List.take_succ_cons, List.cons_append] at z
    injection z with _ z
    exact take_ne u t L (fun d hd => hu d (List.mem_cons_of_mem _ hd)) (fun d hd => ht d (List.mem_cons_of_mem _ hd)) hc h z
theorem pre_word {u t L : List Nat} {c : Nat} (hu : Ws u) (ht : Ws t) (hc : c < 65) (h : c ≠ 32) : pre (32 :: (u ++ [32])) (32 :: (t ++ c :: L)) = false := by
  cases hp : pre (32 :: (u ++ [32])) (32 :: (t ++ c :: L)) with
  | false => rfl
  | true =>
    have e : (32 :: (t ++ c :: L)).take (32 :: (u ++ [32])).length = 32 :: (u ++ [32]) := eq_of_beq hp
    rw [List.length_cons, List.take_succ_cons, List.length_append] at e
    injection e with _ e
    exact absurd e (take_ne u t L hu ht hc h)
/-- what stands behind a pattern's first term -/
def resL : List (List Nat) → List Nat
  | [] => [41]
  | t :: ts => 44 :: 32 :: (t ++ resL ts)
theorem resL_head (ts : List (List Nat)) : ∃ c r, resL ts = c :: r ∧ c < 65 ∧ c ≠ 32 := by
  cases ts with
  | nil => exact ⟨41, [], rfl, by decide, by decide⟩
  | cons t ts => exact ⟨44, _, rfl, by decide, by decide⟩
theorem resL_join (t : List Nat) : ∀ ts : List (List Nat), joinL [44, 32] (t :: ts) ++ [41] = t ++ resL ts
  | [] => rfl
  | s :: ts => by
    show (t ++ ([44, 32] ++ joinL [44, 32] (s :: ts))) ++ [41] = t ++ (44 :: 32 :: (s ++ resL ts))
    rw [List.append_assoc, List.append_assoc, resL_join s ts]
    rfl
/-- a pattern's signs -/
def patL : List (List Nat) → List Nat
  | [] => []
  | [w] => w
  | w :: t :: ts => w ++ 40 :: (t ++ resL ts)
theorem par_res {u : List Nat} (hu : Ws u) : ∀ (ts : List (List Nat)) (acc L : List Nat), (∀ t ∈ ts, Ws t) → par (32 :: (u ++ [32])) acc (resL ts ++ L) = par (32 :: (u ++ [32])) (acc ++ resL ts) L
  | [], acc, L, _ => par_skip (by decide)
  | t :: ts, acc, L, h => by
    have ht := h t List.mem_cons_self
    obtain ⟨c, r, e, hc, h32⟩ := resL_head ts
    have hp : pre (32 :: (u ++ [32])) (32 :: (t ++ resL ts ++ L)) = false := by
      rw [e, List.append_assoc, List.cons_append]
      exact pre_word hu ht hc h32
    show par _ acc (44 :: 32 :: (t ++ resL ts ++ L)) = _
    rw [par_skip (by decide), par_miss hp, List.append_assoc t, par_pass (ht.not (by decide)), par_res hu ts _ L fun z hz => h z (List.mem_cons_of_mem _ hz)]
    show par _ (acc ++ [44] ++ [32] ++ t ++ resL ts) L = par _ (acc ++ 44 :: 32 :: (t ++ resL ts)) L
    rw [show acc ++ [44] ++ [32] ++ t ++ resL ts = acc ++ 44 :: 32 :: (t ++ resL ts) by simp]
/-- a word between blanks does not begin in a pattern -/
theorem par_pat {u : List Nat} (hu : Ws u) {p : List (List Nat)} (h : ∀ t ∈ p, Ws t) (acc L : List Nat) : par (32 :: (u ++ [32])) acc (patL p ++ L) = par (32 :: (u ++ [32])) (acc ++ patL p) L := by
  match p, h with
  | [], _ => rw [show patL [] = [] from rfl, List.nil_append, List.append_nil]
  | [w], h => exact par_pass ((h w List.mem_cons_self).not (by decide))
  | w :: t :: ts, h =>
    have hw := h w List.mem_cons_self
    have ht := h t (List.mem_cons_of_mem _ List.mem_cons_self)
    show par _ acc (w ++ 40 :: (t ++ resL ts) ++ L) = _
    rw [List.append_assoc, par_pass (hw.not (by decide)), List.cons_append, par_skip (by decide), List.append_assoc t, par_pass (ht.not (by decide)), par_res hu ts _ L fun z hz => h z (List.mem_cons_of_mem _ (List.mem_cons_of_mem _ hz))]
    show par _ (acc ++ w ++ [40] ++ t ++ resL ts) L = par _ (acc ++ (w ++ 40 :: (t ++ resL ts))) L
    rw [show acc ++ w ++ [40] ++ t ++ resL ts = acc ++ (w ++ 40 :: (t ++ resL ts)) by simp]
theorem par_pat0 {u : List Nat} (hu : Ws u) {p : List (List Nat)} (h : ∀ t ∈ p, Ws t) (acc : List Nat) : par (32 :: (u ++ [32])) acc (patL p) = none := by
  have e := par_pat hu h acc []
  rw [List.append_nil] at e
  rw [e]
  rfl
/-! ### the pieces between commas -/
/-- the pieces of a pattern whose first one begins with a -/
def seg (a : List Nat) : List (List Nat) → List (List Nat)
  | [] => [a ++ [41]]
  | t :: ts => a :: seg t ts
theorem seg_ne (a : List Nat) (ts : List (List Nat)) : seg a ts ≠ [] := by cases ts <;> exact fun z => nomatch z
theorem seg_join : ∀ (a : List Nat) (ts : List (List Nat)), joinL [44, 32] (seg a ts) = a ++ resL ts
  | a, [] => rfl
  | a, t :: ts => by
    have ih := seg_join t ts
    show joinL [44, 32] (a :: seg t ts) = _
    cases e : seg t ts with
    | nil => exact absurd e (seg_ne t ts)
    | cons x r =>
      rw [e] at ih
      show a ++ ([44, 32] ++ joinL [44, 32] (x :: r)) = a ++ (44 :: 32 :: (t ++ resL ts))
      rw [ih]
      rfl
theorem seg_free : ∀ (a : List Nat) (ts : List (List Nat)), 44 ∉ a → (∀ t ∈ ts, Ws t) → ∀ p ∈ seg a ts, 44 ∉ p
  | a, [], ha, _, p, hp => by
    rw [List.mem_singleton.mp hp]
    intro z
    rcases List.mem_append.mp z with z | z
    · exact ha z
    · simp at z
  | a, t :: ts, ha, h, p, hp => by
    rcases List.mem_cons.mp hp with rfl | hp
    · exact ha
    · exact seg_free t ts ((h t List.mem_cons_self).not (by decide)) (fun z hz => h z (List.mem_cons_of_mem _ hz)) p hp
theorem joinL_append (S : List Nat) : ∀ {xs ys : List (List Nat)}, xs ≠ [] → ys ≠ [] → joinL S (xs ++ ys) = joinL S xs ++ (S ++ joinL S ys)
  | [], _, h, _ => absurd rfl h
  | [x], y :: ys, _, _ => rfl
  | [_], [], _, h => absurd rfl h
  | x :: z :: r, ys, _, h => by
    show x ++ (S ++ joinL S (z :: r ++ ys)) = x ++ (S ++ joinL S (z :: r)) ++ (S ++ joinL S ys)
    rw [joinL_append S (xs := z :: r) (by simp) h]
    simp
theorem joinL_flat (S : List Nat) : ∀ {cs : List (List (List Nat))}, (∀ c ∈ cs, c ≠ []) → joinL S (cs.map (joinL S)) = joinL S cs.flatten
  | [], _ => rfl
  | [c], _ => by
    show joinL S c = joinL S (c ++ [])
    rw [List.append_nil]
  | c :: d :: r, h => by
    have ih := joinL_flat S (cs := d :: r) fun z hz => h z (List.mem_cons_of_mem _ hz)
    show joinL S c ++ (S ++ joinL S ((d :: r).map (joinL S))) = joinL S (c ++ (d :: r).flatten)
    rw [ih, joinL_append S (h c List.mem_cons_self)]
    intro e
    rw [List.flatten_cons] at e
    exact h d (List.mem_cons_of_mem _ List.mem_cons_self) (List.append_eq_nil_iff.mp e).1
/-- put together again what stands in one bracket -/
def glueL (acc : List (List Nat)) (z : List Nat) : List (List Nat) :=
  match acc.getLast? with
  | some q => if 40 ∈ q ∧ 41 ∉ q then acc.dropLast ++ [q ++ (44 :: 32 :: z)] else acc ++ [z]
  | none => acc ++ [z]
def Shut (acc : List (List Nat)) : Prop := ∀ q, acc.getLast? = some q → ¬ (40 ∈ q ∧ 41 ∉ q)
theorem glue_shut {acc : List (List Nat)} (h : Shut acc) (z : List Nat) : glueL acc z = acc ++ [z] := by
  unfold glueL
  cases e : acc.getLast? with
  | none => rfl
  | some q =>
    dsimp only
    rw [if_neg (h q e)]
theorem glue_open {acc : List (List Nat)} {q : List Nat} (h1 : 40 ∈ q) (h2 : 41 ∉ q) (z : List Nat) : glueL (acc ++ [q]) z = acc ++ [q ++ (44 :: 32 :: z)] := by
  unfold glueL
  rw [List.getLast?_concat]
  dsimp only
  rw [if_pos ⟨h1, h2⟩, List.dropLast_concat]
theorem glue_seg0 : ∀ (t : List Nat) (ts : List (List Nat)) (acc : List (List Nat)) (q : List Nat), 40 ∈ q → 41 ∉ q → Ws t → (∀ z ∈ ts, Ws z) → (seg t ts).foldl glueL (acc ++ [q]) = acc ++ [q ++ (44 :: 32 :: (t ++ resL ts))]
  | t, [], acc, q, h1, h2, _, _ => by
    show glueL (acc ++ [q]) (t ++ [41]) = _
    rw [glue_open h1 h2]
    rfl
  | t, s :: ts, acc, q, h1, h2, ht, h => by
    show (seg s ts).foldl glueL (glueL (acc ++ [q]) t) = _
    rw [glue_open h1 h2, glue_seg0 s ts acc _ (List.mem_append_left _ h1) _ (h s List.mem_cons_self) fun z hz => h z (List.mem_cons_of_mem _ hz)]
    · congr 1
      show [q ++ 44 :: 32 :: t ++ 44 :: 32 :: (s ++ resL ts)] = [q ++ 44 :: 32 :: (t ++ 44 :: 32 :: (s ++ resL ts))]
      simp
    · intro z
      rcases List.mem_append.mp z with z | z
      · exact h2 z
      · simp at z
        exact ht.not (by decide) z
theorem glue_seg {a : List Nat} {ts acc : List (List Nat)} (hs : Shut acc) (h1 : 40 ∈ a) (h2 : 41 ∉ a) (h : ∀ z ∈ ts, Ws z) : (seg a ts).foldl glueL acc = acc ++ [a ++ resL ts] := by
  cases ts with
  | nil =>
    show glueL acc (a ++ [41]) = _
    rw [glue_shut hs]
    rfl
  | cons t ts =>
    show (seg t ts).foldl glueL (glueL acc a) = _
    rw [glue_shut hs, glue_seg0 t ts acc a h1 h2 (h t List.mem_cons_self) fun z hz => h z (List.mem_cons_of_mem _ hz)]
    rfl
theorem shut_of {acc : List (List Nat)} {q : List Nat} (h : 41 ∈ q ∨ 40 ∉ q) : Shut (acc ++ [q]) := fun z hz => by
  rw [List.getLast?_concat] at hz
  injection hz with hz
  subst hz
  rintro ⟨a, b⟩
  rcases h with h | h
  · exact b h
  · exact h a
theorem mem_res (ts : List (List Nat)) : 41 ∈ resL ts := by
  induction ts with
  | nil => exact List.mem_singleton.mpr rfl
  | cons t ts ih => exact List.mem_cons_of_mem _ (List.mem_cons_of_mem _ (List.mem_append_right _ ih))
/-- one condition: its pieces, its text -/
structure Cnd (ps : List (List Nat)) (x : List Nat) : Prop where
  ne : ps ≠ []
  free : ∀ p ∈ ps, 44 ∉ p
  join : joinL [44, 32] ps = x
  glue : ∀ acc, Shut acc → ps.foldl glueL acc = acc ++ [x]
  shut : 41 ∈ x ∨ 40 ∉ x
theorem cnd_one {x : List Nat} (h1 : 44 ∉ x) (h2 : 40 ∉ x) : Cnd [x] x := ⟨by simp, fun p hp => by rw [List.mem_singleton.mp hp]; exact h1, rfl, fun acc hs => glue_shut hs x, .inr h2⟩
theorem cnd_seg {a : List Nat} {ts : List (List Nat)} (h1 : 40 ∈ a) (h2 : 41 ∉ a) (h3 : 44 ∉ a) (h : ∀ z ∈ ts, Ws z) : Cnd (seg a ts) (a ++ resL ts) :=
  ⟨seg_ne a ts, seg_free a ts h3 h, seg_join a ts, fun acc hs => glue_seg hs h1 h2 h, .inl (List.mem_append_right _ (mem_res ts))⟩
theorem cnd_pat {a : List Nat} (ha : ∀ c ∈ a, c = 32 ∨ 65 ≤ c) {p : List (List Nat)} (hp : p ≠ []) (h : ∀ z ∈ p, Ws z) : ∃ ps, Cnd ps (a ++ patL p) := by
  have na : ∀ {c : Nat}, c < 65 → c ≠ 32 → c ∉ a := fun h1 h2 z => by
    rcases ha _ z with z | z <;> omega
  match p, hp, h with
  | [w], _, h =>
    have hw := h w List.mem_cons_self
    refine ⟨_, cnd_one ?_ ?_⟩
    · intro z
      rcases List.mem_append.mp z with z | z
      · exact na (by decide) (by decide) z
      · exact hw.not (by decide) z
    · intro z
      rcases List.mem_append.mp z with z | z
      · exact na (by decide) (by decide) z
      · exact hw.not (by decide) z
  | w :: t :: ts, _, h =>
    have hw := h w List.mem_cons_self
    have ht := h t (List.mem_cons_of_mem _ List.mem_cons_self)
    have e : a ++ patL (w :: t :: ts) = (a ++ w ++ 40 :: t) ++ resL ts := by
      show a ++ (w ++ 40 :: (t ++ resL ts)) = _
      simp
    rw [e]
    have no : ∀ {c : Nat}, c < 65 → c ≠ 32 → c ≠ 40 → c ∉ a ++ w ++ 40 :: t := fun h1 h2 h3 z => by
      rcases List.mem_append.mp z with z | z
      · rcases List.mem_append.mp z with z | z
        · exact na h1 h2 z
        · exact hw.not h1 z
      · rcases List.mem_cons.mp z with z | z
        · exact h3 z
        · exact ht.not h1 z
    exact ⟨_, cnd_seg (List.mem_append_right _ List.mem_cons_self) (no (by decide) (by decide) (by decide)) (no (by decide) (by decide) (by decide)) fun z hz => h z (List.mem_cons_of_mem _ (List.mem_cons_of_mem _ hz))⟩
theorem glue_all : ∀ (cs : List (List (List Nat))) (xs acc : List (List Nat)), All2 Cnd cs xs → Shut acc → cs.flatten.foldl glueL acc = acc ++ xs
  | [], [], acc, _, _ => (List.append_nil _).symm
  | c :: cs, x :: xs, acc, h, hs => by
    cases h with
    | cons h1 h2 =>
      rw [List.flatten_cons, List.foldl_append, h1.glue acc hs, glue_all cs xs _ h2 (shut_of h1.shut), List.append_assoc]
      rfl
/-- conditions joined, cut at the commas, put together again -/
theorem glue_back {xs : List (List Nat)} (hx : xs ≠ []) (h : ∀ x ∈ xs, ∃ ps, Cnd ps x) : (spl [44, 32] 0 [] (joinL [44, 32] xs)).foldl glueL [] = xs := by
  have hc : ∃ cs, All2 Cnd cs xs := by
    clear hx
    induction xs with
    | nil => exact ⟨[], .nil⟩
    | cons x xs ih =>
      obtain ⟨ps, hp⟩ := h x List.mem_cons_self
      obtain ⟨cs, hcs⟩ := ih fun z hz => h z (List.mem_cons_of_mem _ hz)
      exact ⟨ps :: cs, .cons hp hcs⟩
  obtain ⟨cs, hcs⟩ := hc
  have e1 : cs.map (joinL [44, 32]) = xs := by
    clear h hx
    induction hcs with
    | nil => rfl
    | cons a _ ih => rw [List.map_cons, a.join, ih]
  have ne : ∀ c ∈ cs, c ≠ [] := by
    clear h hx e1
    induction hcs with
    | nil => exact fun c hc => nomatch hc
    | cons a _ ih =>
      intro c hc
      rcases List.mem_cons.mp hc with rfl | hc
      · exact a.ne
      · exact ih c hc
  have fr : ∀ p ∈ cs.flatten, 44 ∉ p := by
    clear h hx e1 ne
    induction hcs with
    | nil => exact fun c hc => nomatch hc
    | cons a _ ih =>
      intro c hc
      rw [List.flatten_cons] at hc
      rcases List.mem_append.mp hc with hc | hc
      · exact a.free c hc
      · exact ih c hc
  have fl : cs.flatten ≠ [] := by
    cases hcs with
    | nil => exact absurd rfl hx
    | cons a _ =>
      rw [List.flatten_cons]
      intro z
      exact a.ne (List.append_eq_nil_iff.mp z).1
  rw [← e1, joinL_flat _ ne, spl_join (s := 44) (S := [32]) fl fr, glue_all cs xs [] hcs (fun q hq => by simp at hq), e1, List.nil_append]
end Nv
set_option maxHeartbeats 4000000
namespace Nv
open PySem PySem.Spec PyProof.Rows L2 TL
/-! # the texts, and that reading undoes writing -/
theorem app_tl {a b c : Str} : a ++ b ++ c = a ++ (b ++ c) := ext_tl (by rw [tl_append, tl_append, tl_append, tl_append, List.append_assoc])
theorem ws_nm {z : Str} (h : IsNm z) : Ws (tl z) := fun c hc => by
  have := h.2.2 c hc
  omega
theorem ws_tm {z : Str} (h : IsVr z ∨ IsNm z) : Ws (tl z) := fun c hc => by
  rcases h with h | h
  · exact (h.2.2 c hc).1
  · have := h.2.2 c hc
    omega
theorem PatOk.ws {p : List Str} (h : PatOk p) : ∀ t ∈ p.map tl, Ws t := by
  obtain ⟨w, ts, rfl, hw, _, ht⟩ := h
  intro t h
  obtain ⟨z, hz, rfl⟩ := List.mem_map.mp h
  rcases List.mem_cons.mp hz with rfl | hz
  · exact ws_nm hw
  · exact ws_tm (ht z hz)
/-- a pattern's text -/
def patT : List Str → Str
  | [] => ""
  | [w] => w
  | w :: t :: ts => w ++ "(" ++ Txt.join ", " (t :: ts) ++ ")"
theorem tl_patT : ∀ p : List Str, tl (patT p) = patL (p.map tl)
  | [] => rfl
  | [_] => rfl
  | w :: t :: ts => by
    show tl (w ++ "(" ++ Txt.join ", " (t :: ts) ++ ")") = tl w ++ 40 :: (tl t ++ resL (ts.map tl))
    rw [tl_append, tl_append, tl_append, join_eq, tl_join, ← resL_join]
    show tl w ++ [40] ++ joinL [44, 32] (tl t :: ts.map tl) ++ [41] = _
    simp
def pairT : List Str → Str
  | [a, b] => a ++ " unlike " ++ b
  | _ => ""
def notT (d : List Str) : Str := "not " ++ patT d
/-- the conditions' texts -/
def condT (ps qs ds : List (List Str)) : List Str := ps.map patT ++ qs.map pairT ++ ds.map notT
def tailT (ps qs ds : List (List Str)) : Str := if condT ps qs ds = [] then "" else " if " ++ Txt.join ", " (condT ps qs ds)
def ruleT (x : Rl) : Str := x.l ++ ": " ++ patT x.h ++ tailT x.ps x.qs x.ds
/-! ### a pattern read -/
def pIn (z : Str) : List Str :=
  if (Txt.partition z "(").2.1 = "" then [(Txt.partition z "(").1] else (Txt.partition z "(").1 :: Txt.split (cutS (Txt.partition z "(").2.2 none (some (-1))) ", "
theorem cut_last {z : Str} {c : Nat} : cutS (z ++ (⟨#[c]⟩ : Str)) none (some (-1)) = z := by
  refine ext_tl ?_
  have hl : (z ++ (⟨#[c]⟩ : Str)).length = (tl z).length + 1 := by
    rw [len_tl, tl_append, List.length_append]
    rfl
  have e2 : HT.sIx (z ++ (⟨#[c]⟩ : Str)).length (z ++ (⟨#[c]⟩ : Str)).length (some (-1)) = (tl z).length := by
    rw [hl]
    show (if (-1 : Int) < 0 then ((-1 : Int) + (((tl z).length + 1 : Nat) : Int)).toNat else min (-1 : Int).toNat ((tl z).length + 1)) = _
    rw [if_pos (by decide)]
    omega
  show ((tl (z ++ (⟨#[c]⟩ : Str))).drop 0).take (HT.sIx (z ++ (⟨#[c]⟩ : Str)).length (z ++ (⟨#[c]⟩ : Str)).length (some (-1)) - 0) = tl z
  rw [e2, tl_append, List.drop_zero, Nat.sub_zero, List.take_left]
theorem pIn_patT {p : List Str} (h : PatOk p) : pIn (patT p) = p := by
  have hw := h.ws
  have e40 : tl ("(" : Str) = [40] := rfl
  match p, h, hw with
  | [], h, _ =>
    obtain ⟨w, ts, e, _⟩ := h
    cases e
  | [w], _, hw =>
    have e : Txt.partition w "(" = (w, Str.empty, Str.empty) := partition_none e40 ((hw _ List.mem_cons_self).not (by decide +kernel))
    unfold pIn
    rw [show patT [w] = w from rfl, e, if_pos (show (Str.empty : Str) = "" by decide +kernel)]
  | w :: t :: ts, _, hw =>
    have e : Txt.partition (patT (w :: t :: ts)) "(" = (w, ("(" : Str), Txt.join ", " (t :: ts) ++ ")") := by
      show Txt.partition (w ++ "(" ++ Txt.join ", " (t :: ts) ++ ")") "(" = _
      rw [app_tl (a := w ++ "(")]
      exact partition_app e40 ((hw _ List.mem_cons_self).not (by decide +kernel))
    unfold pIn
    rw [e, if_neg (show ¬ (("(" : Str) = "") by decide +kernel)]
    have e3 : cutS (Txt.join ", " (t :: ts) ++ ")") none (some (-1)) = Txt.join ", " (t :: ts) := cut_last (c := 41)
    dsimp only
    rw [e3, split_join (s := 44) (S := [32]) rfl (by decide +kernel) (by simp) fun z hz => (hw (tl z) (List.mem_cons_of_mem _ (List.mem_map_of_mem hz))).not (by decide +kernel)]
/-! ### what stands between commas -/
def glue (acc : List Str) (z : Str) : List Str :=
  match acc.getLast? with
  | some q => if 40 ∈ tl q ∧ 41 ∉ tl q then acc.dropLast ++ [q ++ ", " ++ z] else acc ++ [z]
  | none => acc ++ [z]
def unb (z : Str) : List Str := (Txt.split z ", ").foldl glue []
theorem glue_tl (acc : List Str) (z : Str) : (glue acc z).map tl = glueL (acc.map tl) (tl z) := by
  unfold glue glueL
  rw [List.getLast?_map]
  cases e : acc.getLast? with
  | none => simp
  | some q =>
    simp only [Option.map_some]
    by_cases h : 40 ∈ tl q ∧ 41 ∉ tl q
    · rw [if_pos h, if_pos h, List.map_append, List.map_dropLast]
      congr 1
      show [tl (q ++ ", " ++ z)] = _
      rw [tl_append, tl_append]
      show [tl q ++ [44, 32] ++ tl z] = _
      simp
    · rw [if_neg h, if_neg h, List.map_append]
      rfl
theorem glues_tl : ∀ (xs acc : List Str), (xs.foldl glue acc).map tl = (xs.map tl).foldl glueL (acc.map tl)
  | [], _ => rfl
  | x :: xs, acc => by rw [List.foldl_cons, glues_tl xs, glue_tl, List.map_cons, List.foldl_cons]
theorem unb_tl (z : Str) : (unb z).map tl = (spl [44, 32] 0 [] (tl z)).foldl glueL [] := by
  unfold unb
  rw [glues_tl, split_spl z ", " (by decide +kernel) (kind_ok (by decide +kernel))]
  rfl
theorem ws_pair {q : List Str} (h : PairOk q) : ∃ a b, q = [a, b] ∧ Ws (tl a) ∧ Ws (tl b) := by
  obtain ⟨x, y, rfl, _, hx, hy, _⟩ := h
  exact ⟨x, y, rfl, ws_tm hx.symm, ws_tm hy.symm⟩
def uW : List Nat := [117, 110, 108, 105, 107, 101]
theorem ws_uW : Ws uW := by unfold Ws uW; decide
theorem tl_unlike : tl (" unlike " : Str) = 32 :: (uW ++ [32]) := by decide +kernel
theorem tl_not : tl ("not " : Str) = [110, 111, 116, 32] := by decide +kernel
theorem tl_pairT {a b : Str} : tl (pairT [a, b]) = tl a ++ (32 :: (uW ++ [32])) ++ tl b := by
  show tl (a ++ " unlike " ++ b) = _
  rw [tl_append, tl_append, tl_unlike]
theorem tl_notT {d : List Str} : tl (notT d) = [110, 111, 116, 32] ++ patL (d.map tl) := by
  show tl ("not " ++ patT d) = _
  rw [tl_append, tl_not, tl_patT]
section
variable {ps qs ds : List (List Str)} (hp : ∀ p ∈ ps, PatOk p) (hq : ∀ q ∈ qs, PairOk q) (hd : ∀ d ∈ ds, PatOk d)
include hp hq hd
theorem cnd_all : ∀ x ∈ (condT ps qs ds).map tl, ∃ l, Cnd l x := by
  intro x hx
  obtain ⟨c, hc, rfl⟩ := List.mem_map.mp hx
  unfold condT at hc
  rcases List.mem_append.mp hc with hc | hc
  · rcases List.mem_append.mp hc with hc | hc
    · obtain ⟨p, h, rfl⟩ := List.mem_map.mp hc
      have k := hp p h
      rw [tl_patT]
      have := cnd_pat (a := []) (fun c hc => nomatch hc) (p := p.map tl) (fun z => by
        obtain ⟨w, ts, rfl, _⟩ := k
        cases z) k.ws
      rwa [List.nil_append] at this
    · obtain ⟨q, h, rfl⟩ := List.mem_map.mp hc
      obtain ⟨a, b, rfl, ha, hb⟩ := ws_pair (hq q h)
      rw [tl_pairT]
      have no : ∀ {c : Nat}, c < 65 → c ≠ 32 → c ∉ tl a ++ (32 :: (uW ++ [32])) ++ tl b := fun h1 h2 z => by
        rcases List.mem_append.mp z with z | z
        · rcases List.mem_append.mp z with z | z
          · exact ha.not h1 z
          · rcases List.mem_cons.mp z with z | z
            · exact h2 z
            · rcases List.mem_append.mp z with z | z
              · exact ws_uW.not h1 z
              · exact h2 (List.mem_singleton.mp z)
        · exact hb.not h1 z
      exact ⟨_, cnd_one (no (by decide +kernel) (by decide +kernel)) (no (by decide +kernel) (by decide +kernel))⟩
  · obtain ⟨d, h, rfl⟩ := List.mem_map.mp hc
    have k := hd d h
    rw [tl_notT]
    exact cnd_pat (by decide +kernel) (fun z => by
      obtain ⟨w, ts, rfl, _⟩ := k
      cases z) k.ws
theorem unb_cond (h : condT ps qs ds ≠ []) : unb (Txt.join ", " (condT ps qs ds)) = condT ps qs ds := by
  refine map_tl_inj ?_
  rw [unb_tl, join_eq, tl_join]
  exact glue_back (fun z => h (List.map_eq_nil_iff.mp z)) (cnd_all hp hq hd)
end
/-! ### pairs, denials, patterns apart -/
theorem contains_par (x y : Str) (hy : tl y ≠ []) : Txt.contains x y = (par (tl y) [] (tl x)).isSome := by
  have h := partition_par x y hy
  unfold Txt.partition at h
  unfold Txt.contains
  have ye : y ≠ Str.empty := fun z => hy (by rw [z]; rfl)
  cases e : Builtin.Str.occurrences x y 0 x.length 1 with
  | nil =>
    rw [e] at h
    cases e2 : par (tl y) [] (tl x) with
    | none => rfl
    | some ab =>
      rw [e2] at h
      obtain ⟨a, b⟩ := ab
      injection h with _ h
      injection h with h _
      exact absurd h.symm ye
  | cons i r =>
    rw [e] at h
    cases e2 : par (tl y) [] (tl x) with
    | some ab => rfl
    | none =>
      rw [e2] at h
      injection h with _ h
      injection h with h _
      exact absurd h ye
theorem starts_pre (x y : Str) (hy : tl y ≠ []) : Txt.startswith x y = pre (tl y) (tl x) := by
  have h := at_iff (x := x) hy 0
  rw [List.drop_zero] at h
  unfold Txt.startswith
  rw [Bool.eq_iff_iff, ← h, Bool.and_eq_true, decide_eq_true_eq]
  exact Iff.rfl
theorem pre_end {u t : List Nat} (ht : Ws t) : pre (32 :: (u ++ [32])) (32 :: t) = false := by
  cases hp : pre (32 :: (u ++ [32])) (32 :: t) with
  | false => rfl
  | true =>
    have e : (32 :: t).take (32 :: (u ++ [32])).length = 32 :: (u ++ [32]) := eq_of_beq hp
    rw [List.length_cons, List.take_succ_cons] at e
    injection e with _ e
    have m : 32 ∈ t.take (u ++ [32]).length := by
      rw [e]
      exact List.mem_append_right _ (List.mem_singleton.mpr rfl)
    exact absurd (List.mem_of_mem_take m) (ht.not (by decide +kernel))
def hasU (c : Str) : Bool := Txt.contains c " unlike "
theorem hasU_pat {p : List Str} (h : PatOk p) : hasU (patT p) = false := by
  unfold hasU
  rw [contains_par _ _ (by rw [tl_unlike]; simp), tl_unlike, tl_patT, par_pat0 ws_uW h.ws]
  rfl
theorem hasU_pair {a b : Str} (ha : Ws (tl a)) : hasU (pairT [a, b]) = true := by
  unfold hasU
  rw [contains_par _ _ (by rw [tl_unlike]; simp), tl_unlike, tl_pairT, List.append_assoc, par_part1 (s := 32) (S := uW ++ [32]) (ha.not (by decide +kernel))]
  rfl
theorem hasU_not {d : List Str} (h : PatOk d) : hasU (notT d) = false := by
  unfold hasU
  have hw := h.ws
  have hp : pre (32 :: (uW ++ [32])) (32 :: patL (d.map tl)) = false := by
    obtain ⟨w, ts, rfl, _⟩ := h
    match ts, hw with
    | [], hw => exact pre_end (hw _ List.mem_cons_self)
    | t :: ts, hw => exact pre_word ws_uW (hw _ List.mem_cons_self) (by decide +kernel) (by decide +kernel)
  rw [contains_par _ _ (by rw [tl_unlike]; simp), tl_unlike, tl_notT]
  show (par (32 :: (uW ++ [32])) [] (110 :: 111 :: 116 :: 32 :: patL (d.map tl))).isSome = false
  rw [par_skip (by decide +kernel), par_skip (by decide +kernel), par_skip (by decide +kernel), par_miss hp, par_pat0 ws_uW hw]
  rfl
def hasN (c : Str) : Bool := Txt.startswith c "not "
theorem hasN_not {d : List Str} : hasN (notT d) = true := by
  unfold hasN
  rw [starts_pre _ _ (by rw [tl_not]; simp), tl_not, tl_notT]
  exact pre_self _ _
theorem hasN_pat {p : List Str} (h : PatOk p) : hasN (patT p) = false := by
  unfold hasN
  have hw := h.ws
  rw [starts_pre _ _ (by rw [tl_not]; simp), tl_not, tl_patT]
  cases hp : pre [110, 111, 116, 32] (patL (p.map tl)) with
  | false => rfl
  | true =>
    exfalso
    have e : (patL (p.map tl)).take 4 = [110, 111, 116, 32] := eq_of_beq hp
    obtain ⟨w, ts, rfl, hwn, _⟩ := h
    match ts, hw, e with
    | [], hw, e =>
      have m : 32 ∈ (tl w).take 4 := by
        rw [show (tl w).take 4 = [110, 111, 116, 32] from e]
        simp
      exact (hw _ List.mem_cons_self).not (by decide +kernel) (List.mem_of_mem_take m)
    | t :: ts, hw, e =>
      have hw0 := hw _ List.mem_cons_self
      have hl := hwn.1
      rw [len_tl] at hl
      have e2 : (tl w ++ 40 :: (tl t ++ resL (ts.map tl))).take 4 = [110, 111, 116, 32] := e
      revert hl hw0 e2
      generalize tl w = l
      intro hw0 hl e2
      match l, hw0, hl, e2 with
      | [a], _, _, e2 => simp at e2
      | [a, b], _, _, e2 => simp at e2
      | [a, b, c], _, _, e2 => simp at e2
      | a :: b :: c :: d :: r, hw0, _, e2 =>
        have := hw0 d (by simp)
        simp at e2
        omega
theorem cut_not (z : Str) : cutS ("not " ++ z) (some 4) none = z := by
  refine ext_tl ?_
  have hl : (("not " : Str) ++ z).length = (tl z).length + 4 := by
    rw [len_tl, tl_append, tl_not, List.length_append, Nat.add_comm]
    rfl
  have e1 : HT.sIx (("not " : Str) ++ z).length 0 (some 4) = 4 := by
    rw [hl]
    show (if (4 : Int) < 0 then ((4 : Int) + (((tl z).length + 4 : Nat) : Int)).toNat else min (4 : Int).toNat ((tl z).length + 4)) = 4
    rw [if_neg (by decide)]
    show min 4 ((tl z).length + 4) = 4
    omega
  show ((tl (("not " : Str) ++ z)).drop (HT.sIx (("not " : Str) ++ z).length 0 (some 4))).take ((("not " : Str) ++ z).length - HT.sIx (("not " : Str) ++ z).length 0 (some 4)) = tl z
  rw [e1, hl, tl_append, tl_not]
  show (tl z).take ((tl z).length + 4 - 4) = tl z
  rw [Nat.add_sub_cancel, List.take_length]
theorem split_pair {a b : Str} (ha : Ws (tl a)) (hb : Ws (tl b)) : Txt.split (pairT [a, b]) " unlike " = [a, b] := by
  have e : pairT [a, b] = Txt.join " unlike " [a, b] := by
    rw [join_eq]
    rfl
  rw [e]
  refine split_join tl_unlike (by decide +kernel) (by simp) fun p hp => ?_
  rcases List.mem_cons.mp hp with rfl | hp
  · exact ha.not (by decide +kernel)
  · rw [List.mem_singleton.mp hp]
    exact hb.not (by decide +kernel)
/-- conditions read: told, pairs, denied -/
def cPairs (cs : List Str) : List (List Str) := (cs.filter hasU).map fun c => Txt.split c " unlike "
def cRest (cs : List Str) : List Str := cs.filter fun c => !hasU c
def cDenied (cs : List Str) : List (List Str) := ((cRest cs).filter hasN).map fun c => pIn (cutS c (some 4) none)
def cTold (cs : List Str) : List (List Str) := ((cRest cs).filter fun c => !hasN c).map pIn
theorem fil_all {p : Str → Bool} {l : List Str} (h : ∀ c ∈ l, p c = true) : l.filter p = l := List.filter_eq_self.mpr h
theorem fil_none {p : Str → Bool} {l : List Str} (h : ∀ c ∈ l, p c = false) : l.filter p = [] := List.filter_eq_nil_iff.mpr fun c hc => by
  rw [h c hc]
  exact Bool.false_ne_true
section
variable {ps qs ds : List (List Str)}
theorem u_ps (hp : ∀ p ∈ ps, PatOk p) : ∀ c ∈ ps.map patT, hasU c = false := fun c hc => by
  obtain ⟨p, h, rfl⟩ := List.mem_map.mp hc
  exact hasU_pat (hp p h)
theorem u_qs (hq : ∀ q ∈ qs, PairOk q) : ∀ c ∈ qs.map pairT, hasU c = true := fun c hc => by
  obtain ⟨q, h, rfl⟩ := List.mem_map.mp hc
  obtain ⟨a, b, rfl, ha, hb⟩ := ws_pair (hq q h)
  exact hasU_pair ha
theorem u_ds (hd : ∀ d ∈ ds, PatOk d) : ∀ c ∈ ds.map notT, hasU c = false := fun c hc => by
  obtain ⟨p, h, rfl⟩ := List.mem_map.mp hc
  exact hasU_not (hd p h)
theorem n_ps (hp : ∀ p ∈ ps, PatOk p) : ∀ c ∈ ps.map patT, hasN c = false := fun c hc => by
  obtain ⟨p, h, rfl⟩ := List.mem_map.mp hc
  exact hasN_pat (hp p h)
theorem n_ds : ∀ c ∈ ds.map notT, hasN c = true := fun c hc => by
  obtain ⟨p, h, rfl⟩ := List.mem_map.mp hc
  exact hasN_not
theorem map_back {f : List Str → Str} {g : Str → List Str} (h : ∀ p ∈ ps, g (f p) = p) : (ps.map f).map g = ps := by
  rw [List.map_map]
  conv => rhs; rw [← List.map_id ps]
  exact List.map_congr_left h
variable (hp : ∀ p ∈ ps, PatOk p) (hq : ∀ q ∈ qs, PairOk q) (hd : ∀ d ∈ ds, PatOk d)
include hp hq hd
theorem pairs_back : cPairs (condT ps qs ds) = qs := by
  unfold cPairs condT
  rw [List.filter_append, List.filter_append, fil_none (u_ps hp), fil_all (u_qs hq), fil_none (u_ds hd), List.nil_append, List.append_nil]
  refine map_back fun q h => ?_
  obtain ⟨a, b, rfl, ha, hb⟩ := ws_pair (hq q h)
  exact split_pair ha hb
theorem rest_back : cRest (condT ps qs ds) = ps.map patT ++ ds.map notT := by
  unfold cRest condT
  rw [List.filter_append, List.filter_append, fil_all (l := ps.map patT) fun c hc => by rw [u_ps hp c hc]; rfl, fil_none (l := qs.map pairT) fun c hc => by rw [u_qs hq c hc]; rfl, fil_all (l := ds.map notT) fun c hc => by rw [u_ds hd c hc]; rfl, List.append_nil]
theorem denied_back : cDenied (condT ps qs ds) = ds := by
  unfold cDenied
  rw [rest_back hp hq hd, List.filter_append, fil_none (n_ps hp), fil_all n_ds, List.nil_append]
  refine map_back fun d h => ?_
  show pIn (cutS ("not " ++ patT d) (some 4) none) = d
  rw [cut_not, pIn_patT (hd d h)]
theorem told_back : cTold (condT ps qs ds) = ps := by
  unfold cTold
  rw [rest_back hp hq hd, List.filter_append, fil_all (l := ps.map patT) fun c hc => by rw [n_ps hp c hc]; rfl, fil_none (l := ds.map notT) fun c hc => by rw [n_ds c hc]; rfl, List.append_nil]
  exact map_back fun d h => pIn_patT (hp d h)
end
/-! ### a rule's text cut -/
def iW : List Nat := [105, 102]
theorem ws_iW : Ws iW := by unfold Ws iW; decide
theorem tl_if : tl (" if " : Str) = 32 :: (iW ++ [32]) := by decide +kernel
theorem part_label {x : Rl} (h : x.Ok) : Txt.partition (ruleT x) ": " = (x.l, (": " : Str), patT x.h ++ tailT x.ps x.qs x.ds) := by
  unfold ruleT
  rw [app_tl (a := x.l ++ ": ")]
  exact partition_app (s := 58) (S := [32]) (by decide +kernel) ((ws_nm h.l).not (by decide +kernel))
theorem part_if {p : List Str} (h : PatOk p) (z : Str) : Txt.partition (patT p ++ (" if " ++ z)) " if " = (patT p, (" if " : Str), z) := by
  rw [partition_par _ _ (by rw [tl_if]; simp), tl_append, tl_append, tl_if, tl_patT, par_pat ws_iW h.ws, show 32 :: (iW ++ [32]) ++ tl z = 32 :: (iW ++ [32] ++ tl z) from rfl, par_hit (by exact pre_self (32 :: (iW ++ [32])) (tl z))]
  have e1 : (⟨([] ++ patL (p.map tl)).toArray⟩ : Str) = patT p := ext_tl (by rw [List.nil_append, tl_patT])
  have e2 : (⟨((32 :: (iW ++ [32] ++ tl z)).drop (32 :: (iW ++ [32])).length).toArray⟩ : Str) = z := ext_tl (by
    show (32 :: (iW ++ [32]) ++ tl z).drop (32 :: (iW ++ [32])).length = tl z
    rw [List.drop_left])
  dsimp only
  rw [e1, e2]
theorem part_if0 {p : List Str} (h : PatOk p) : Txt.partition (patT p) " if " = (patT p, Str.empty, Str.empty) := by
  rw [partition_par _ _ (by rw [tl_if]; simp), tl_if, tl_patT, par_pat0 ws_iW h.ws]
end Nv
set_option maxHeartbeats 4000000
namespace Nv
open PySem PySem.Spec PyProof.Rows L2
/-! # sets of tuples of texts -/
/-- the tuple at a has the texts k -/
abbrev TupTx (P : Program) (w : World) (h : Heap) (k : List Str) (a : Addr) : Prop := IsTupleKey (PySem.strKind P w) h k a
abbrev hTx (P : Program) (w : World) (k : List Str) : Int := tupleKeyHash (PySem.strKind P w) k
section
variable {P : Program} {w : World} {A : Around} {E : Value → Shared → Prop} {s : Shared}
theorem tx_shape {k : Str} {v : Value} (h : (PySem.strKind P w).is k v = true) : ∃ t, v = .str k t := by
  cases v <;> simp [PySem.strKind, Value.isStrOf] at h
  exact ⟨_, by rw [h]⟩
theorem tx_items {k : List Str} {vs : List Value} (h : ItemsAre (PySem.strKind P w) k vs) : ∀ v ∈ vs, ∃ z t, v = Value.str z t := by
  induction h with
  | nil => exact fun v hv => nomatch hv
  | cons h1 _ ih =>
    intro v hv
    rcases List.mem_cons.mp hv with rfl | hv
    · obtain ⟨t, e⟩ := tx_shape h1
      exact ⟨_, t, e⟩
    · exact ih v hv
theorem cls_str (n : Nat) (z : Str) (t : Tok) : ofAClassStatement n (.str z t) = pure false := by
  cases n <;> rfl
theorem hv_str (n : Nat) (z : Str) (t : Tok) : hashByValue n (.str z t) = pure false := by
  unfold hashByValue
  rfl
/-- neither its class nor its hash is of a class statement -/
theorem cls_tx {k : List Str} {b : Addr} {Q : Bool → Shared → Prop} (hk : TupTx P w s.heap k b) (h : Q false s) : wpAny (model P w) A (ofAClassStatement 8 (.ref b)) Q E s := by
  have ty := hk.typeIs
  obtain ⟨o, its, n, ho, _, hd, hi⟩ := hk
  unfold ofAClassStatement
  refine wpAny_bind (wpAny_typeOf ty ?_)
  dsimp only
  have e : (("tuple" : String) == "tuple") = true := by decide
  simp only [e, if_true, Bool.not_true, Bool.false_eq_true, if_false]
  try refine wpAny_bind (wpAny_pure ?_)
  try simp only [Bool.not_true, Bool.false_eq_true, if_false]
  show wpAny _ _ (seqItems? (.ref b) >>= _) _ _ s
  refine wpAny_bind (wpAny_seqItems ho hd ?_)
  dsimp only
  refine wpAny_bind ?_
  show wpAny _ _ (forIn its _ _) _ _ s
  rw [← Array.forIn_toList]
  refine wpAny_forIn_list _ (fun rest r s' => r.1 = none ∧ s' = s ∧ ∀ v ∈ rest, ∃ z t, v = Value.str z t) _ ?_ ?_ _ _ ⟨rfl, rfl, tx_items hi⟩
  · rintro v rest r s' ⟨_, rfl, all⟩
    obtain ⟨z, t, rfl⟩ := all v List.mem_cons_self
    rw [cls_str]
    refine wpAny_bind (wpAny_pure ?_)
    simp only [Bool.false_eq_true, if_false]
    exact wpAny_pure ⟨rfl, rfl, fun u hu => all u (List.mem_cons_of_mem _ hu)⟩
  · rintro ⟨r1, r2⟩ s' ⟨hr, rfl, _⟩
    simp only at hr
    subst hr
    exact wpAny_pure h
theorem hv_tx {k : List Str} {b : Addr} {Q : Bool → Shared → Prop} (hk : TupTx P w s.heap k b) (h : ∀ y, Q y s) : wpAny (model P w) A (hashByValue 8 (.ref b)) Q E s := by
  have ty := hk.typeIs
  obtain ⟨o, its, n, ho, _, hd, hi⟩ := hk
  unfold hashByValue
  refine wpAny_bind (wpAny_specialOf ty F.slot_tuple_hash.lookup ?_)
  show wpAny _ _ (seqItems? (.ref b) >>= _) _ _ s
  refine wpAny_bind (wpAny_seqItems ho hd ?_)
  refine wpAny_bind ?_
  show wpAny _ _ (forIn its _ _) _ _ s
  rw [← Array.forIn_toList]
  refine wpAny_forIn_list _ (fun rest r s' => r.1 = none ∧ s' = s ∧ ∀ v ∈ rest, ∃ z t, v = Value.str z t) _ ?_ ?_ _ _ ⟨rfl, rfl, tx_items hi⟩
  · rintro v rest r s' ⟨_, rfl, all⟩
    obtain ⟨z, t, rfl⟩ := all v List.mem_cons_self
    rw [hv_str]
    refine wpAny_bind (wpAny_pure ?_)
    simp only [Bool.not_false, if_true]
    exact wpAny_pure (wpAny_pure (h false))
  · rintro ⟨r1, r2⟩ s' ⟨hr, rfl, _⟩
    simp only at hr
    subst hr
    exact wpAny_pure (h true)
/-- to look for a tuple among tuples shows nothing -/
theorem dark_tx {k : List Str} {b : Addr} {Q : Bool → Shared → Prop} (hk : TupTx P w s.heap k b) {ys : List Value} (hy : ∀ y ∈ ys, ∃ z c, y = Value.ref c ∧ TupTx P w s.heap z c) (h : Q false s) :
    wpAny (model P w) A (searchCouldBeSeen (.ref b) ys) Q E s := by
  unfold searchCouldBeSeen
  refine wpAny_bind ?_
  refine wpAny_forIn_list _ (fun rest r s' => r.1 = none ∧ s' = s ∧ ∀ y ∈ rest, ∃ z c, y = Value.ref c ∧ TupTx P w s.heap z c) _ ?_ ?_ _ _ ⟨rfl, rfl, hy⟩
  · rintro v rest r s' ⟨_, rfl, all⟩
    obtain ⟨z, c, rfl, hc⟩ := all v List.mem_cons_self
    have all' : ∀ y ∈ rest, ∃ z c, y = Value.ref c ∧ TupTx P w s'.heap z c := fun u hu => all u (List.mem_cons_of_mem _ hu)
    dsimp only
    by_cases hv : (b == c || (carriedByValue (.ref b) && carriedByValue (.ref c))) = true
    · exact wp_if_pos hv (wpAny_pure ⟨rfl, rfl, all'⟩)
    · refine wp_if_neg hv ?_
      refine wpAny_bind (wpAny_eqIsQuiet_tuple hk ?_)
      simp only [Bool.not_true, Bool.false_eq_true, if_false]
      refine wpAny_bind (wpAny_eqIsQuiet_tuple hc ?_)
      simp only [Bool.not_true, Bool.false_eq_true, if_false]
      refine wpAny_bind (cls_tx hk ?_)
      simp only [Bool.false_eq_true, if_false]
      refine wpAny_bind (cls_tx hc ?_)
      simp only [Bool.false_eq_true, if_false]
      exact wpAny_pure ⟨rfl, rfl, all'⟩
  · rintro ⟨r1, r2⟩ s' ⟨hr, rfl, _⟩
    simp only at hr
    subst hr
    exact wpAny_pure h
end
end Nv
set_option maxHeartbeats 4000000
namespace Nv
open PySem PySem.Spec PyProof.Rows L2
/-- the c-th step of the way of a hash -/
abbrev stp (m : Nat) (h : Int) (c : Nat) : SetTable.Probe := nth m (runAt m (SetTable.bits h % (m + 1)) (SetTable.bits h)) c
theorem stp_add {m : Nat} {h : Int} (c q : Nat) : nth m (stp m h c) q = stp m h (c + q) := (nth_add m c _ q).symm
theorem nth_dummy {m : Nat} : ∀ (c : Nat) {p : SetTable.Probe}, p.dummy = none → (nth m p c).dummy = none
  | 0, _, h => h
  | c + 1, p, h => nth_dummy c (p := adv m p) (by unfold adv; split <;> exact h)
/-- the set at a: its tuples L, in the table's order -/
structure TxSet (P : Program) (w : World) (h : Heap) (a : Addr) (L : List (Addr × List Str)) (es : Array (Int × Value)) (ep : Nat) (t : SetTable) : Prop where
  ob : ∃ o, h.get? a = some o ∧ o.ExactSet ∧ o.data = .set es ep t
  rows : es.toList = L.map fun p => (hTx P w p.2, Value.ref p.1)
  tab : TabOk t (L.map fun p => hTx P w p.2)
  nd : (L.map (·.2)).Nodup
  tup : ∀ p ∈ L, TupTx P w h p.2 p.1
  room : L.length * 5 < t.mask * 3
  few : L.length < 64
section
variable {P : Program} {w : World} {A : Around} {E : Value → Shared → Prop} {s : Shared}
variable {a : Addr} {L : List (Addr × List Str)} {es : Array (Int × Value)} {ep : Nat} {t : SetTable}
theorem rows_size {L : List (Addr × List Str)} {es : Array (Int × Value)} (h : es.toList = L.map fun p => (hTx P w p.2, Value.ref p.1)) : es.size = L.length := by
  rw [← Array.length_toList, h, List.length_map]
theorem rows_at {L : List (Addr × List Str)} {es : Array (Int × Value)} (h : es.toList = L.map fun p => (hTx P w p.2, Value.ref p.1)) {i : Nat} {p : Addr × List Str} (e : L[i]? = some p) : es[i]? = some (hTx P w p.2, Value.ref p.1) := by
  rw [← Array.getElem?_toList, h, List.getElem?_map, e] <;> rfl
theorem fits_of (hs : t.place.size = es.size) (dm : t.dummies = #[]) (hl : es.size ≤ t.mask) : t.fits es.size = true := by
  unfold SetTable.fits SetTable.fill
  rw [dm, Bool.and_eq_true, beq_iff_eq, decide_eq_true_eq]
  show t.place.size = es.size ∧ t.place.size + 0 ≤ t.mask
  omega
theorem TxSet.psz (R : TxSet P w s.heap a L es ep t) : t.place.size = es.size := by
  have h1 := R.tab.sz
  rw [List.length_map] at h1
  rw [h1, rows_size R.rows]
theorem TxSet.fits (R : TxSet P w s.heap a L es ep t) : t.fits es.size = true := fits_of R.psz R.tab.dm (by have h1 := rows_size R.rows; have h2 := R.room; omega)
theorem same_mem (t : SetTable) : t.sameMemory t.moves t.mask = some true := by
  unfold SetTable.sameMemory
  exact if_pos (beq_self_eq_true _)
theorem seek (R : TxSet P w s.heap a L es ep t) {x : Addr} {k : List Str} (hx : TupTx P w s.heap k x) (hu : A.units < cLine) {K : Nat} (hf : K < 10 * SetTable.turns t.mask)
    (free : way t.mask (hTx P w k) K ∉ t.place.toList) (full : ∀ c, c < K → way t.mask (hTx P w k) c ∈ t.place.toList) {Q : SetFound → Shared → Prop} (yes : k ∈ L.map (·.2) → Q (.there none) s)
    (no : k ∉ L.map (·.2) → Q (.free (way t.mask (hTx P w k) K) false) s) : ∀ (f c : Nat) (st : Option SetTable.Probe), st.getD (t.probeStart (hTx P w k)) = stp t.mask (hTx P w k) c → c ≤ K → K - c < f →
      (∀ (i : Nat) p, L[i]? = some p → p.2 = k → ∃ c', c ≤ c' ∧ c' < K ∧ t.place.toList[i]? = some (way t.mask (hTx P w k) c')) → wpAny (model P w) A (setSearchFrom a (.ref x) (hTx P w k) true f st) Q E s := by
  obtain ⟨o, ho, _, hd⟩ := R.ob
  intro f
  induction f with
  | zero => exact fun c st _ _ h _ => absurd h (Nat.not_lt_zero _)
  | succ f ih =>
    intro c st hst hc hl ahead
    rw [setSearchFrom_succ]
    refine wpAny_bind (wpAny_setState_of ho hd R.fits ?_)
    dsimp only
    refine wp_if_neg (by unfold SetTable.gaveWay; rw [mask_odd R.tab.mok]; decide) ?_
    try refine wpAny_bind (wpAny_pure ?_)
    have wy : ∀ q, (nth t.mask (stp t.mask (hTx P w k) c) q).j = way t.mask (hTx P w k) (c + q) := fun q => congrArg SetTable.Probe.j (stp_add c q)
    have hsh : ∀ (i : Nat) p, L[i]? = some p → (es[i]?.map (·.1)).getD 0 = hTx P w p.2 := fun i p hp => by
      rw [rows_at R.rows hp] <;> rfl
    have kc : c + (K - c) = K := by omega
    rcases go_spec t R.tab.ris R.tab.dm (fun i => (es[i]?.map (·.1)).getD 0) (hTx P w k) (10 * SetTable.turns t.mask) (K - c) (stp t.mask (hTx P w k) c) (nth_dummy c rfl) (by omega)
      (fun q hq => by rw [wy]; exact full _ (by omega)) (by rw [wy, kc]; exact free) with ⟨q, i, hq, hi, hh, hno, hp⟩ | ⟨hno, hp⟩
    · have hp' : t.probe (fun i => (es[i]?.map (·.1)).getD 0) (hTx P w k) (st.getD (t.probeStart (hTx P w k))) = some (.candidate (way t.mask (hTx P w k) (c + q)) i (stp t.mask (hTx P w k) (c + (q + 1)))) := by
        rw [hst, ← wy, ← stp_add]
        exact hp
      rw [hp']
      dsimp only
      rw [wy] at hi
      have il : i < L.length := by
        have h1 := (List.getElem?_eq_some_iff.mp hi).1
        rw [Array.length_toList, R.psz, rows_size R.rows] at h1
        exact h1
      obtain ⟨p, hL⟩ : ∃ p, L[i]? = some p := ⟨_, List.getElem?_eq_getElem il⟩
      have mem := List.mem_of_getElem? hL
      have tp := R.tup p mem
      have rest : wpAny (model P w) A (searchRest a (.ref x) (hTx P w k) true f es t (way t.mask (hTx P w k) (c + q)) i (stp t.mask (hTx P w k) (c + (q + 1)))) Q E s := by
        unfold searchRest
        rw [rows_at R.rows hL]
        dsimp only
        refine wpAny_bind (wpAny_holding (wpAny_eqBool_tuple hu tp hx ?_))
        refine wpAny_bind (wpAny_setState_of ho hd R.fits ?_)
        dsimp only
        by_cases e : p.2 = k
        · exact wp_if_pos (by simp [e]) (wpAny_pure (yes (List.mem_map.mpr ⟨p, mem, e⟩)))
        · refine wp_if_neg (by simp [e]) ?_
          try refine wpAny_bind (wpAny_pure ?_)
          rw [same_mem]
          dsimp only
          have sl := slot_live R.tab.ris hi
          simp only [if_true, sl, rows_at R.rows hL]
          refine wpAny_bind (wpAny_isSame_ref_self (wpAny_bind (wpAny_pure ?_)))
          simp only [if_true]
          refine wp_if_neg (by simp [e]) (ih (c + (q + 1)) _ rfl (by omega) (by omega) fun i0 p0 h0 e0 => ?_)
          obtain ⟨c', l1, l2, l3⟩ := ahead i0 p0 h0 e0
          refine ⟨c', ?_, l2, l3⟩
          rcases Nat.lt_trichotomy c' (c + q) with z | z | z
          · exact absurd ((hsh i0 p0 h0).trans (by rw [e0])) (hno (c' - c) i0 (by omega) (by rw [wy, show c + (c' - c) = c' by omega]; exact l3))
          · rw [z] at l3
            have s0 := slot_live R.tab.ris l3
            rw [sl] at s0
            injection s0 with s0
            rw [← s0, hL] at h0
            exact absurd ((congrArg Prod.snd (Option.some.inj h0)).trans e0) e
          · omega
      by_cases hl : t.led = true
      · refine wp_if_neg (by simp [hl]) ?_
        try refine wpAny_bind (wpAny_pure ?_)
        exact rest
      · refine wp_if_pos (by simp [hl]) (wpAny_bind (dark_tx hx (fun y hy => ?_) ?_))
        · obtain ⟨e, he, rfl⟩ := List.mem_map.mp hy
          have he1 : e ∈ es ∧ e.1 = hTx P w k := by simpa using he
          have he2 : e ∈ es.toList := by simpa using he1.1
          rw [R.rows] at he2
          obtain ⟨p2, m2, rfl⟩ := List.mem_map.mp he2
          exact ⟨p2.2, p2.1, rfl, R.tup p2 m2⟩
        · refine wp_if_neg (by decide) ?_
          try refine wpAny_bind (wpAny_pure ?_)
          exact rest
    · have hp' : t.probe (fun i => (es[i]?.map (·.1)).getD 0) (hTx P w k) (st.getD (t.probeStart (hTx P w k))) = some (.empty (way t.mask (hTx P w k) K) none) := by
        have e2 : way t.mask (hTx P w k) K = (nth t.mask (stp t.mask (hTx P w k) c) (K - c)).j := by
          rw [wy, kc]
        rw [hst, e2]
        exact hp
      rw [hp']
      dsimp only
      refine wpAny_pure (no fun hm => ?_)
      obtain ⟨p0, h0, e0⟩ := List.mem_map.mp hm
      obtain ⟨i0, h0⟩ := List.getElem?_of_mem h0
      obtain ⟨c', l1, l2, l3⟩ := ahead i0 p0 h0 e0
      exact absurd ((hsh i0 p0 h0).trans (by rw [e0])) (hno (c' - c) i0 (by omega) (by rw [wy, show c + (c' - c) = c' by omega]; exact l3))
theorem seek_add (R : TxSet P w s.heap a L es ep t) {x : Addr} {k : List Str} (hx : TupTx P w s.heap k x) (hu : A.units < cLine) {Q : SetFound → Shared → Prop} (yes : k ∈ L.map (·.2) → Q (.there none) s)
    (no : ∀ K, k ∉ L.map (·.2) → way t.mask (hTx P w k) K ∉ t.place.toList → (∀ c, c < K → way t.mask (hTx P w k) c ∈ t.place.toList) → Q (.free (way t.mask (hTx P w k) K) false) s) :
    wpAny (model P w) A (setSearch a (.ref x) (hTx P w k) true) Q E s := by
  obtain ⟨K, hK, free, full⟩ := R.tab.first (by rw [List.length_map]; have := R.room; omega) (hTx P w k)
  have small : 10 * SetTable.turns t.mask ≤ 1420 := by
    unfold SetTable.turns
    rcases R.tab.mok with e | e | e <;> omega
  unfold setSearch
  refine seek R hx hu hK free full yes (fun hn => no K hn free full) 100000 0 none rfl (Nat.zero_le _) (by omega) fun i p hp e => ?_
  have il : i < t.place.toList.length := by
    rw [Array.length_toList, R.psz, rows_size R.rows]
    exact (List.getElem?_eq_some_iff.mp hp).1
  have hj := List.getElem?_eq_getElem il
  obtain ⟨c, hc, e2⟩ := R.tab.before (i := i) (h := hTx P w k) free (by rw [List.getElem?_map, hp, ← e] <;> rfl) hj
  exact ⟨c, Nat.zero_le _, hc, by rw [hj, e2]⟩
end
end Nv
set_option maxHeartbeats 4000000
namespace Nv
open PySem PySem.Spec PyProof.Rows L2
section
variable {α β : Type}
theorem picks_map {L : List α} {g : α → β} {d : β} : ∀ {l : List Nat}, (∀ i ∈ l, i < L.length) → (l.filterMap fun i => L[i]?).map g = l.map fun i => ((L.map g)[i]?).getD d
  | [], _ => rfl
  | i :: l, h => by
    have hi := h i List.mem_cons_self
    rw [List.filterMap_cons_some (List.getElem?_eq_getElem hi), List.map_cons, List.map_cons, picks_map fun j hj => h j (List.mem_cons_of_mem _ hj), List.getElem?_map, List.getElem?_eq_getElem hi] <;> rfl
theorem picks_all (L : List α) : ((List.range L.length).filterMap fun i => L[i]?) = L := by
  refine List.ext_getElem? fun j => ?_
  have key : ∀ n, n ≤ L.length → ((List.range n).filterMap fun i => L[i]?) = L.take n := by
    intro n
    induction n with
    | zero => exact fun _ => rfl
    | succ n ih =>
      intro hn
      rw [List.range_succ, List.filterMap_append, ih (Nat.le_of_lt hn), List.take_succ, List.filterMap_cons_some (List.getElem?_eq_getElem hn), List.getElem?_eq_getElem hn] <;> rfl
  rw [key _ (Nat.le_refl _), List.take_length]
theorem perm_into (L : List α) (p : Nat) (x : α) : (L.take p ++ x :: L.drop p).Perm (x :: L) := by
  have h : (L.take p ++ x :: L.drop p).Perm (x :: (L.take p ++ L.drop p)) := List.perm_middle
  rwa [List.take_append_drop] at h
end
section
variable {P : Program} {w : World} {A : Around} {E : Value → Shared → Prop} {s : Shared}
variable {a : Addr} {L : List (Addr × List Str)} {es : Array (Int × Value)} {ep : Nat} {t : SetTable}
abbrev rowTx (P : Program) (w : World) (p : Addr × List Str) : Int × Value := (hTx P w p.2, Value.ref p.1)
theorem tx_other {h h' : Heap} {k : List Str} {a b : Addr} {o : Obj} {es : Array (Int × Value)} {ep : Nat} {t : SetTable} (hb : TupTx P w h k b) (ho : h.get? a = some o) (hd : o.data = .set es ep t) (hs : Heap.SameBut a h h') : TupTx P w h' k b := by
  obtain ⟨o2, its, n, ho2, hc, hd2, hi⟩ := hb
  refine ⟨o2, its, n, (hs.2 b fun e => ?_).trans ho2, hc, hd2, hi⟩
  subst e
  obtain rfl := Option.some.inj (ho2.symm.trans ho)
  rw [hd] at hd2
  cases hd2
/-- what the table is laid anew of -/
theorem reorder {es : Array (Int × Value)} {order : Array Nat} (hr : es.toList = L.map (rowTx P w)) (hp : order.toList.Perm (List.range L.length)) :
    ∃ L2 : List (Addr × List Str), (order.filterMap (es[·]?)).toList = L2.map (rowTx P w) ∧ L2.Perm L ∧ (L2.map fun p => hTx P w p.2) = order.toList.map fun i => (es.map (·.1)).getD i 0 := by
  have lt : ∀ i ∈ order.toList, i < L.length := fun i hi => List.mem_range.mp (hp.mem_iff.mp hi)
  refine ⟨order.toList.filterMap fun i => L[i]?, ?_, ?_, ?_⟩
  · rw [List.map_filterMap, Array.toList_filterMap]
    refine congrArg (fun f => List.filterMap f order.toList) (funext fun i => ?_)
    rw [← Array.getElem?_toList, hr, List.getElem?_map]
  · have h := hp.filterMap fun i => L[i]?
    rwa [picks_all] at h
  · rw [picks_map (d := 0) lt]
    refine congrArg (fun f => List.map f order.toList) (funext fun i => ?_)
    rw [Array.getD_eq_getD_getElem?, Array.getElem?_map, ← Array.getElem?_toList, hr, List.getElem?_map, List.getElem?_map, Option.map_map] <;> rfl
theorem relay_tx {o : Obj} (ho : s.heap.get? a = some o) (hex : o.ExactSet) (hd : o.data = .set es ep t) (hr : es.toList = L.map (rowTx P w)) (hsz : t.place.size = es.size) (dm : t.dummies = #[]) (hl : es.size ≤ t.mask) (nd : (L.map (·.2)).Nodup)
    (tup : ∀ p ∈ L, TupTx P w s.heap p.2 p.1) (few : L.length < 64) {wanted M : Nat} (hw : SetTable.sizeAbove wanted - 1 = M) (hM : MaskOk M) (h128 : SetTable.sizeAbove wanted ≤ 128) (room : L.length * 5 < M * 3) {Q : Unit → Shared → Prop}
    (q : ∀ h' L' es' ep' t', Heap.SameBut a s.heap h' → TxSet P w h' a L' es' ep' t' → L'.Perm L → Q () { s with heap := h' }) : wpAny (model P w) A (setRelay a wanted) Q E s := by
  have sz := rows_size hr
  obtain ⟨t', order, e, hp, T, em, _, _, _⟩ := relaid_ok t (hs := es.map (·.1)) (wanted := wanted) hw hM (by rw [Array.size_map, sz]; omega)
  rw [Array.size_map, sz] at hp
  obtain ⟨L2, r1, r2, r3⟩ := reorder hr hp
  rw [← r3] at T
  have sz2 : (order.filterMap (es[·]?)).size = es.size := by rw [rows_size r1, r2.length_eq, sz]
  rw [setRelay_eq]
  refine wpAny_bind (wpAny_setState_of ho hd (fits_of hsz dm hl) ?_)
  dsimp only
  refine wp_if_neg (by rw [sizeLine_eq]; omega) ?_
  try refine wpAny_bind (wpAny_pure ?_)
  rw [e]
  dsimp only
  refine wpAny_bind ?_
  refine wp_if_neg (by rw [sz2]; simp) ?_
  try refine wpAny_bind (wpAny_pure ?_)
  refine wpAny_pure ?_
  dsimp only
  refine wpAny_storeSet_of ho hd ?_ (by rw [sz2, sz, sizeLine_eq]; omega)
  have sb : Heap.SameBut a s.heap (s.heap.update a (Obj.putSet (order.filterMap (es[·]?)) t')) := Heap.SameBut.update ..
  exact q _ L2 _ (ep + 1) t' sb ⟨⟨_, store_at ho hd, ⟨hex.1, hex.2.1, hex.2.2⟩, rfl⟩, r1, T, (r2.map (·.2)).nodup_iff.mpr nd, fun p hm => tx_other (tup p (r2.mem_iff.mp hm)) ho hd sb, by rw [r2.length_eq, em]; exact room, by rw [r2.length_eq]; exact few⟩ r2
theorem add_tx (R : TxSet P w s.heap a L es ep t) {x : Addr} {k : List Str} (hx : TupTx P w s.heap k x) (hu : A.units < cLine) (few : L.length + 1 < 64) {Q : Bool → Shared → Prop}
    (q : ∀ b h' L' es' ep' t', Heap.SameBut a s.heap h' → TxSet P w h' a L' es' ep' t' → (k ∈ L.map (·.2) → L' = L) → (k ∉ L.map (·.2) → L'.Perm ((x, k) :: L)) → Q b { s with heap := h' }) :
    wpAny (model P w) A (setAddHashed a (.ref x) (hTx P w k)) Q E s := by
  obtain ⟨o, ho, hex, hd⟩ := R.ob
  have sz := rows_size R.rows
  have room := R.room
  unfold setAddHashed
  refine wpAny_holding ?_
  rw [show (100000 : Nat) = 99999 + 1 from rfl, setAddHashedIn_succ]
  refine wpAny_bind (wpAny_setState_of ho hd R.fits ?_)
  dsimp only
  refine wp_if_neg (by simp [byScan, Value.scannable]) ?_
  try refine wpAny_bind (wpAny_pure ?_)
  refine wpAny_bind (seek_add R hx hu (fun hm => ?_) fun K hm free full => ?_)
  · dsimp only
    exact wpAny_pure (q false s.heap L es ep t (Heap.SameBut.refl a s.heap) R (fun _ => rfl) fun z => absurd hm z)
  dsimp only
  refine wpAny_bind (wpAny_setState_of ho hd R.fits ?_)
  dsimp only
  obtain ⟨q1, _, q3, q4, _, _, _, _, q9⟩ := R.tab.put free full
  generalize hpt : t.put (way t.mask (hTx P w k) K) = pt at q1 q3 q4 q9 ⊢
  obtain ⟨t1, p⟩ := pt
  dsimp only at q1 q3 q4 q9 ⊢
  subst q1
  have go : ∀ t2 : SetTable, t2.place = t1.place → t2.dummies = t1.dummies → t2.mask = t1.mask → wpAny (model P w) A (do
      storeSet a (SetTable.insertAt es (SetTable.below t.place (way t.mask (hTx P w k) K)) (hTx P w k, Value.ref x)) t2
      if (!false && t2.tooFull) = true then setRelay a (SetTable.grown (es.size + 1))
      return true) Q E s := by
    intro t2 e1 e2 e3
    have hin : (SetTable.insertAt es (SetTable.below t.place (way t.mask (hTx P w k) K)) (hTx P w k, Value.ref x)).toList = (L.take (SetTable.below t.place (way t.mask (hTx P w k) K)) ++ (x, k) :: L.drop (SetTable.below t.place (way t.mask (hTx P w k) K))).map (rowTx P w) := by
      rw [SetTable.toList_insertAt, R.rows, List.map_append, List.map_cons, List.map_take, List.map_drop]
    have hhs : (L.take (SetTable.below t.place (way t.mask (hTx P w k) K)) ++ (x, k) :: L.drop (SetTable.below t.place (way t.mask (hTx P w k) K))).map (fun p => hTx P w p.2) =
        (L.map fun p => hTx P w p.2).take (SetTable.below t.place (way t.mask (hTx P w k) K)) ++ hTx P w k :: (L.map fun p => hTx P w p.2).drop (SetTable.below t.place (way t.mask (hTx P w k) K)) := by
      rw [List.map_append, List.map_cons, List.map_take, List.map_drop]
    rw [← hhs] at q3
    have pm := perm_into L (SetTable.below t.place (way t.mask (hTx P w k) K)) (x, k)
    generalize L.take (SetTable.below t.place (way t.mask (hTx P w k) K)) ++ (x, k) :: L.drop (SetTable.below t.place (way t.mask (hTx P w k) K)) = L1 at pm q3 hin
    generalize SetTable.insertAt es (SetTable.below t.place (way t.mask (hTx P w k) K)) (hTx P w k, Value.ref x) = es1 at hin ⊢
    have hlen : L1.length = L.length + 1 := pm.length_eq
    have hes : es1.size = L.length + 1 := by rw [rows_size hin, hlen]
    have nd1 : (L1.map (·.2)).Nodup := (pm.map (·.2)).nodup_iff.mpr (List.nodup_cons.mpr ⟨hm, R.nd⟩)
    have q3' : TabOk t2 (L1.map fun p => hTx P w p.2) := by
      refine ⟨by rw [e1]; exact q3.ris, by rw [e2]; exact q3.dm, by rw [e1]; exact q3.sz, by rw [e3]; exact q3.mok, fun y hy => by rw [e3]; rw [e1] at hy; exact q3.bd y hy, fun i h j h1 h2 => ?_⟩
      rw [e1] at h2 ⊢
      rw [e3]
      exact q3.reach i h j h1 h2
    refine wpAny_bind (wpAny_storeSet_of ho hd ?_ (by rw [hes, sizeLine_eq]; omega))
    have sb : Heap.SameBut a s.heap (s.heap.update a (Obj.putSet es1 t2)) := Heap.SameBut.update ..
    have ho1 := store_at (es' := es1) (t' := t2) ho hd
    generalize s.heap.update a (Obj.putSet es1 t2) = h1 at sb ho1 ⊢
    have tup1 : ∀ p ∈ L1, TupTx P w h1 p.2 p.1 := fun p hp => by
      rcases List.mem_cons.mp (pm.mem_iff.mp hp) with rfl | hp
      · exact tx_other hx ho hd sb
      · exact tx_other (R.tup p hp) ho hd sb
    have psz : t2.place.size = es1.size := by
      have h := q3'.sz
      rw [List.length_map] at h
      rw [h, hes, hlen]
    have fill : t2.fill = L.length + 1 := by
      unfold SetTable.fill
      rw [psz, q3'.dm, hes]
      rfl
    have ful : t2.tooFull = decide ((L.length + 1) * 5 ≥ t.mask * 3) := by
      unfold SetTable.tooFull
      rw [fill, e3, q4]
    by_cases hf : (L.length + 1) * 5 ≥ t.mask * 3
    · have hf2 : t2.tooFull = true := by rw [ful]; exact decide_eq_true hf
      first
        | (refine wpAny_bind ?_; refine wp_if_pos (by simp [hf2]) ?_)
        | (refine wp_if_pos (by simp [hf2]) ?_; refine wpAny_bind ?_)
      rw [sz]
      have two : (t.mask = 7 ∧ L.length = 4) ∨ (t.mask = 31 ∧ L.length = 18) := by
        rcases R.tab.mok with e | e | e
        · left; rw [e] at hf room; exact ⟨e, by omega⟩
        · right; rw [e] at hf room; exact ⟨e, by omega⟩
        · exfalso; rw [e] at hf; omega
      have lay : ∀ M, SetTable.sizeAbove (SetTable.grown (L.length + 1)) - 1 = M → MaskOk M → SetTable.sizeAbove (SetTable.grown (L.length + 1)) ≤ 128 → (L.length + 1) * 5 < M * 3 →
          wpAny (model P w) A (setRelay a (SetTable.grown (L.length + 1))) (fun _ s' => wpAny (model P w) A (pure true) Q E s') E { s with heap := h1 } := fun M m1 m2 m3 m4 => by
        refine relay_tx (s := { s with heap := h1 }) ho1 ⟨hex.1, hex.2.1, hex.2.2⟩ rfl hin psz q3'.dm (by rw [hes, e3, q4]; rcases two with ⟨z, z2⟩ | ⟨z, z2⟩ <;> omega) nd1 tup1 (by rw [hlen]; exact few) m1 m2 m3 (by rw [hlen]; exact m4) ?_
        intro h2 L2 es2 ep2 t3 sb2 R2 pm2
        exact wpAny_pure (q true h2 L2 es2 ep2 t3 (sb.trans sb2) R2 (fun z => absurd z hm) fun _ => pm2.trans pm)
      rcases two with ⟨_, z⟩ | ⟨_, z⟩
      · exact lay 31 (by rw [z, size_20]) (.inr (.inl rfl)) (by rw [z, size_20]; decide) (by omega)
      · exact lay 127 (by rw [z, size_76]) (.inr (.inr rfl)) (by rw [z, size_76]; decide) (by omega)
    · have hf2 : t2.tooFull = false := by rw [ful]; exact decide_eq_false hf
      first
        | refine wp_if_neg (by simp [hf2]) ?_
        | (refine wpAny_bind ?_; refine wp_if_neg (by simp [hf2]) ?_; refine wpAny_pure ?_)
      exact wpAny_pure (q true h1 L1 es1 (ep + 1) t2 sb ⟨⟨_, ho1, ⟨hex.1, hex.2.1, hex.2.2⟩, rfl⟩, hin, q3', nd1, tup1, by rw [e3, q4, hlen]; omega, by rw [hlen]; exact few⟩ (fun z => absurd z hm) fun _ => pm)
  by_cases hp1 : t1.plain = true
  · first
      | (refine wpAny_bind ?_; refine wp_if_pos hp1 ?_; refine hv_tx hx fun y => ?_)
      | refine wp_if_pos hp1 (wpAny_bind (hv_tx hx fun y => ?_))
    cases y
    · simp only [Bool.false_eq_true, if_false]
      exact go { t1 with plain := false } rfl rfl rfl
    · simp only [if_true]
      exact go t1 rfl rfl rfl
  · first
      | (refine wpAny_bind ?_; refine wp_if_neg hp1 ?_; refine wpAny_pure ?_)
      | refine wp_if_neg hp1 (wpAny_bind (wpAny_pure ?_))
    simp only [if_true]
    exact go t1 rfl rfl rfl
end
end Nv
set_option maxHeartbeats 4000000
namespace Nv
open PySem PySem.Spec PyProof.Rows L2
/-- what a set has of the first i items -/
structure Has (ks : List (Addr × List Str)) (i : Nat) (L : List (Addr × List Str)) : Prop where
  sub : ∀ p ∈ L, p ∈ ks.take i
  all : ∀ p ∈ ks.take i, p.2 ∈ L.map (·.2)
  len : L.length ≤ i
theorem Has.step {ks L L' : List (Addr × List Str)} {i : Nat} {x : Addr × List Str} (g : Has ks i L) (h : ks[i]? = some x) (c1 : x.2 ∈ L.map (·.2) → L' = L) (c2 : x.2 ∉ L.map (·.2) → L'.Perm (x :: L)) : Has ks (i + 1) L' := by
  have e : ks.take (i + 1) = ks.take i ++ [x] := by rw [List.take_succ, h] <;> rfl
  by_cases m : x.2 ∈ L.map (·.2)
  · rw [c1 m]
    refine ⟨fun p hp => by rw [e]; exact List.mem_append_left _ (g.sub p hp), fun p hp => ?_, Nat.le_succ_of_le g.len⟩
    rw [e] at hp
    rcases List.mem_append.mp hp with z | z
    · exact g.all p z
    · rw [List.mem_singleton.mp z]
      exact m
  · have pm := c2 m
    refine ⟨fun p hp => ?_, fun p hp => ?_, by rw [pm.length_eq]; exact Nat.succ_le_succ g.len⟩
    · rw [e]
      rcases List.mem_cons.mp (pm.mem_iff.mp hp) with rfl | z
      · exact List.mem_append_right _ (List.mem_singleton.mpr rfl)
      · exact List.mem_append_left _ (g.sub p z)
    · rw [(pm.map (·.2)).mem_iff, List.map_cons]
      rw [e] at hp
      rcases List.mem_append.mp hp with z | z
      · exact List.mem_cons_of_mem _ (g.all p z)
      · rw [List.mem_singleton.mp z]
        exact List.mem_cons_self
section
variable {κ : Type} [DecidableEq κ]
theorem pig : ∀ (l D : List κ), l.Nodup → (∀ x ∈ l, x ∈ D) → l.length ≤ D.length
  | [], _, _, _ => Nat.zero_le _
  | x :: l, D, hn, hs => by
    obtain ⟨h1, h2⟩ := List.nodup_cons.mp hn
    have hx := hs x List.mem_cons_self
    have ih := pig l (D.erase x) h2 fun y hy => (List.mem_erase_of_ne (fun e : y = x => h1 (by rw [← e]; exact hy))).2 (hs y (List.mem_cons_of_mem _ hy))
    rw [List.length_erase_of_mem hx] at ih
    have := List.length_pos_of_mem hx
    rw [List.length_cons]
    omega
theorem pig_nd : ∀ (l D : List κ), l.Nodup → (∀ x ∈ l, x ∈ D) → D.length ≤ l.length → D.Nodup
  | [], D, _, _, h => by
    rw [List.length_eq_zero_iff.mp (Nat.le_zero.mp h)]
    exact List.nodup_nil
  | x :: l, D, hn, hs, h => by
    obtain ⟨h1, h2⟩ := List.nodup_cons.mp hn
    have hx := hs x List.mem_cons_self
    have sub : ∀ y ∈ l, y ∈ D.erase x := fun y hy => (List.mem_erase_of_ne (fun e : y = x => h1 (by rw [← e]; exact hy))).2 (hs y (List.mem_cons_of_mem _ hy))
    have len := List.length_erase_of_mem hx
    have pos := List.length_pos_of_mem hx
    rw [List.length_cons] at h
    refine (List.perm_cons_erase hx).nodup_iff.mpr (List.nodup_cons.mpr ⟨fun z => ?_, pig_nd l _ h2 sub (by omega)⟩)
    have := pig (x :: l) (D.erase x) hn fun y hy => by
      rcases List.mem_cons.mp hy with rfl | hy
      · exact z
      · exact sub y hy
    rw [List.length_cons] at this
    omega
end
/-- how many there are -/
theorem Has.count {ks L : List (Addr × List Str)} (g : Has ks ks.length L) (nd : (L.map (·.2)).Nodup) : L.length ≤ ks.length ∧ (L.length = ks.length ↔ (ks.map (·.2)).Nodup) := by
  have sub : ∀ k ∈ L.map (·.2), k ∈ ks.map (·.2) := fun k hk => by
    obtain ⟨p, hp, rfl⟩ := List.mem_map.mp hk
    exact List.mem_map.mpr ⟨p, List.mem_of_mem_take (g.sub p hp), rfl⟩
  have all : ∀ k ∈ ks.map (·.2), k ∈ L.map (·.2) := fun k hk => by
    obtain ⟨p, hp, rfl⟩ := List.mem_map.mp hk
    exact g.all p (by rw [List.take_length]; exact hp)
  refine ⟨g.len, fun e => pig_nd _ _ nd sub (by rw [List.length_map, List.length_map, e]; exact Nat.le_refl _), fun h => Nat.le_antisymm g.len ?_⟩
  have := pig _ _ h all
  rwa [List.length_map, List.length_map] at this
section
variable {prog : Program} {w : World} {A : Around} {R : Result → Shared → Prop} {J : Addr} {fp wr : List Addr} {G : Array GenState → Array GenState → Prop} {n : Nat} {P : Nat → Value → Prop} {St : Nat → Shared → Prop}
theorem TxSet.move {h h' : Heap} {a : Addr} {L : List (Addr × List Str)} {es : Array (Int × Value)} {ep : Nat} {t : SetTable} (S : TxSet prog w h a L es ep t) (ha : ∀ o, h.get? a = some o → h'.get? a = some o) (ht : ∀ p ∈ L, TupTx prog w h' p.2 p.1) : TxSet prog w h' a L es ep t := by
  obtain ⟨o, ho, r⟩ := S.ob
  exact ⟨⟨o, ha o ho, r⟩, S.rows, S.tab, S.nd, ht, S.room, S.few⟩
theorem tx_ext {h h' : Heap} {k : List Str} {b : Addr} (x : TupTx prog w h k b) (e : ∀ c o, h.get? c = some o → h'.get? c = some o) : TupTx prog w h' k b := by
  obtain ⟨o, its, n, ho, r⟩ := x
  exact ⟨o, its, n, e b o ho, r⟩
/-- a set is filled from a walk over tuples of texts -/
theorem fillTx (W : WalksS prog w A.in1 J fp wr G n P St) (b : Addr) (hb : b ∉ fp) (ks : List (Addr × List Str)) (hn : n = ks.length) (few : ks.length < 64) (hP : ∀ i v, P i v → ∃ p, ks[i]? = some p ∧ v = .ref p.1) (h0 : Heap)
    (hk : ∀ p ∈ ks, TupTx prog w h0 p.2 p.1) (nb : h0.get? b = none) (nw : ∀ c ∈ wr, h0.get? c = none) (hu : A.in1.units < cLine) :
    ∀ (k i : Nat) (s : Shared), n - i = k → i ≤ n → St i s → (∀ c o, h0.get? c = some o → s.heap.get? c = some o) → (∃ L es ep t, TxSet prog w s.heap b L es ep t ∧ Has ks i L) →
      (∀ s' L es ep t, Moved (b :: wr) G s s' → TxSet prog w s'.heap b L es ep t → Has ks n L → R (.ok (.ret .none)) s') →
      codeAny (model prog w) A (.builtin "set.update.loop" ⟨[.ref b, .ref J], []⟩) R s := by
  have hbw : b ∉ wr := fun h => hb (W.sub _ h)
  have more : ∀ c ∈ wr, c ∈ b :: wr := fun c hc => List.mem_cons_of_mem _ hc
  have old : ∀ {s s' : Shared}, Moved wr G s s' → (∀ c o, h0.get? c = some o → s.heap.get? c = some o) → ∀ c o, h0.get? c = some o → s'.heap.get? c = some o := fun m e c o z =>
    m.heap c o (fun q => by rw [nw c q] at z; cases z) (e c o z)
  intro k
  induction k with
  | zero =>
    intro i s hk' hi hst e0 ⟨L, es, ep, t, S, g⟩ hR
    obtain rfl : i = n := by omega
    refine codeAny_builtin PyProof.Rows.F.entry_set_update_loop ?_
    rw [Around.under_plainId PyProof.Rows.F.plain_set_update_loop _]
    show wpAny _ A.in1 (pyNext (.ref J) >>= _) _ _ s
    refine wpAny_bind (W.done s _ _ hst fun s1 m1 => ?_)
    show wpAny _ A.in1 (ret Value.none) _ _ s1
    exact wpAny_pure (hR s1 L es ep t (m1.mono more) (S.move (fun o e => m1.heap b o hbw e) fun p hp => tx_ext (hk p (List.mem_of_mem_take (g.sub p hp))) (old m1 e0)) g)
  | succ k ih =>
    intro i s hk' hi hst e0 ⟨L, es, ep, t, S, g⟩ hR
    have lt : i < n := by omega
    refine codeAny_builtin PyProof.Rows.F.entry_set_update_loop ?_
    rw [Around.under_plainId PyProof.Rows.F.plain_set_update_loop _]
    show wpAny _ A.in1 (pyNext (.ref J) >>= _) _ _ s
    refine wpAny_bind (W.item i s _ _ lt hst fun v s1 hPv st1 m1 => ?_)
    obtain ⟨p, hp, rfl⟩ := hP i v hPv
    have e1 := old m1 e0
    have S1 : TxSet prog w s1.heap b L es ep t := S.move (fun o e => m1.heap b o hbw e) fun q hq => tx_ext (hk q (List.mem_of_mem_take (g.sub q hq))) e1
    have hx : TupTx prog w s1.heap p.2 p.1 := tx_ext (hk p (List.mem_of_getElem? hp)) e1
    show wpAny _ A.in1 (holding [Value.ref p.1] (setAdd b (.ref p.1)) >>= _) _ _ s1
    refine wpAny_bind (wpAny_holding ?_)
    unfold setAdd
    refine wpAny_holding (wpAny_bind (wpAny_pyHash_tuple hu hx ?_))
    refine add_tx (s := { s1 with toks := s1.toks + (p.2.length + 1) }) S1 hx hu (by have := g.len; omega) fun y h2 L2 es2 ep2 t2 sb S2 c1 c2 => ?_
    have e2 : ∀ c o, h0.get? c = some o → h2.get? c = some o := fun c o z => (sb.2 c fun q => by rw [q, nb] at z; cases z).trans (e1 c o z)
    refine wpAny_pure ⟨plainId_quiet PyProof.Rows.F.plain_set_update_loop _, ih (i + 1) _ (by omega) lt (W.frame _ s1 _ _ st1 (Nat.le_add_right _ _) fun c hc o e => ?_) e2 ⟨L2, es2, ep2, t2, S2, g.step hp c1 c2⟩ fun s3 L3 es3 ep3 t3 m3 S3 g3 => ?_⟩
    · rw [sb.2 c fun z => hb (z ▸ hc)]
      exact e
    · refine hR s3 L3 es3 ep3 t3 (Moved.trans W.gtrans ((m1.mono more).then_heap (Nat.le_add_right _ _) fun c o hc e => ?_) m3) S3 g3
      rw [sb.2 c fun z => hc (by rw [z]; exact List.mem_cons_self)]
      exact e
end
/-- a new set -/
theorem tx_fresh {prog : Program} {w : World} {h : Heap} {a : Addr} {b : Bool} (ho : h.get? a = some { cls := .type "set", dict := none, data := .set #[] 0 (.fresh 0 0 b) }) : TxSet prog w h a [] #[] 0 (.fresh 0 0 b) where
  ob := ⟨_, ho, ⟨rfl, rfl, rfl⟩, rfl⟩
  rows := rfl
  tab := ⟨List.Pairwise.nil, rfl, rfl, .inl rfl, fun x hx => (by cases hx), fun i h j hi => (by simp at hi)⟩
  nd := List.nodup_nil
  tup := fun p hp => (by cases hp)
  room := by
    show 0 * 5 < 7 * 3
    decide
  few := by
    show 0 < 64
    decide
end Nv
set_option maxHeartbeats 4000000
namespace Nv
open PySem PySem.Spec PyProof.Rows
section
variable {prog : Program} {w : World} {A : Around} {E : Value → Shared → Prop} {s : Shared}
/-- the set at b, of the tuples ks, laid behind all that stood -/
abbrev FilledT (prog : Program) (w : World) (ks : List (Addr × List Str)) (b : Addr) (h0 h1 : Heap) : Prop :=
  (∃ L es ep t, TxSet prog w h1 b L es ep t ∧ Has ks ks.length L) ∧ ∀ c o, c < b → h0.get? c = some o → h1.get? c = some o
/-- set(xs), xs a list of tuples of texts -/
theorem set_of_tx {l : Addr} {its : Array Value} {ks : List (Addr × List Str)} {Q : Value → Shared → Prop} (calm : A.handled = none) (hl : s.heap.IsList l its) (hz : its.toList = ks.map fun p => Value.ref p.1) (hk : ∀ p ∈ ks, TupTx prog w s.heap p.2 p.1) (few : ks.length < 64) (hu : A.units + 3 < cLine)
    (hq : ∀ (h1 : Heap) (tk : Nat), FilledT prog w ks s.heap.objs.size s.heap h1 → Q (.ref s.heap.objs.size) { s with heap := h1, toks := tk }) : wpAny (model prog w) A (call (.type "set") [.ref l]) Q E s := by
  obtain ⟨c, tl, m0⟩ := PySem.F.called_set.mro
  have m1 := PySem.F.called_set.made; have m2 := PySem.F.called_set.sub; have m3 := PySem.F.called_set.notType; have m4 := PySem.F.called_set.canCreate
  have m5 := PySem.F.typeCall_set_1 (.ref l)
  have size : its.size = ks.length := by rw [← Array.length_toList, hz, List.length_map]
  refine wpAny_call (codeAny_of_tree (show wpAny _ _ (callAny (.type "set") _) _ _ _ from wpAny_pure ⟨Code.quiet_builtin _ (by decide +kernel), codeAny_builtin PySem.F.entry_type_call ?_⟩))
  rw [Around.under_plain (weight_type_call_type "set" [.ref l] []) rfl]
  repeat (any_goals (first | assumption | wp_step))
  refine codeAny_mono (code_set_new_1 (.ref l) (E := E) (Q₁ := fun v s1 => ∃ led : Bool, v = .ref s.heap.objs.size ∧ s1 = { s with heap := s.heap.push (freshSet led) }) fun led => ⟨led, rfl, rfl⟩) fun r s1 hr => ?_
  rcases r with e | fl
  · exact hr
  cases fl with
  | ret v =>
    obtain ⟨led, rfl, rfl⟩ := hr
    have at0 : (s.heap.push (freshSet led)).get? s.heap.objs.size = some (freshSet led) := Heap.get?_push_size _ rfl
    have ty : Shared.TypeIs { s with heap := s.heap.push (freshSet led) } (.ref s.heap.objs.size) "set" := ⟨_, at0, rfl⟩
    have i1 := PySem.F.called_set.init.lookup; have i2 := PySem.F.called_set.init.bind (.ref s.heap.objs.size)
    repeat (any_goals (first | assumption | wp_step))
    refine codeAny_mono (codeAny_call_builtin (R := wants (fun v s2 => v = .none ∧ ∃ h1 tk, s2 = { s with heap := h1, toks := tk } ∧ FilledT prog w ks s.heap.objs.size s.heap h1) E) PySem.F.called_set.init.plain PySem.F.entry_set_init (check_set_init_1 ty ?_)) fun r2 s2 hr2 => ?_
    · obtain ⟨⟨oc, od, odt, osl⟩, ho, e1, nl, e2⟩ := hl
      simp only at e1 e2; subst e1; subst e2
      have ho1 : (s.heap.push (freshSet led)).get? l = some { cls := .type "list", dict := od, data := .seq its nl, slots := osl } := Heap.get?_push_of_some _ ho
      have f1 := PySem.F.sub_list_set; have f2 := PySem.F.sub_list_frozenset; have f3 : (Value.type "list" == Value.type "dict") = false := by decide
      have lst : (s.heap.push (freshSet led)).IsList l its := ⟨_, ho1, rfl, nl, rfl⟩
      have lt : l < s.heap.objs.size := Heap.lt_size ho
      unfold Builtin.«set.__init__» noKeywords Builtin.Frozenset.updateFrom; generalize hI : pyIter = PI
      wp_walk; subst hI
      refine wpAny_pyIter_list lst (wpAny_bind (wpAny_runValue ?_))
      have n1 : l ≠ (s.heap.push (freshSet led)).objs.size := by rw [Heap.size_push]; exact Nat.ne_of_lt (Nat.lt_succ_of_lt lt)
      have n2 : s.heap.objs.size ∉ [(s.heap.push (freshSet led)).objs.size, l] := by
        rw [Heap.size_push]; simp only [List.mem_cons, List.not_mem_nil, or_false, not_or]; exact ⟨Nat.ne_of_lt (Nat.lt_succ_self _), Nat.ne_of_gt lt⟩
      have at1 : ((s.heap.push (freshSet led)).push { cls := .type "list_iterator", data := .fields #[.ref l, .int 0 0] }).get? s.heap.objs.size = some (freshSet led) := Heap.get?_push_of_some _ at0
      have fresh : ∀ b, s.heap.objs.size ≤ b → s.heap.get? b = none := fun b hb => by
        cases z : s.heap.get? b with
        | none => rfl
        | some o => exact absurd (Nat.lt_of_lt_of_le (Heap.lt_size z) hb) (Nat.lt_irrefl _)
      refine fillTx ((Walks.list (by simp [calm]) _ l n1 its).toS) s.heap.objs.size n2 ks size few (fun i v hv => ?_) s.heap hk (fresh _ (Nat.le_refl _)) (fun c hc => fresh c ?_) hu (its.size - 0) 0 _ (by omega) (Nat.zero_le _) ⟨⟨_, Heap.get?_push_size _ rfl, rfl, rfl⟩, lst.push _⟩ (fun c o e => Heap.get?_push_of_some _ (Heap.get?_push_of_some _ e)) ⟨[], #[], 0, _, tx_fresh at1, ⟨fun p h => (by cases h), fun p h => (by simp at h), Nat.le_refl _⟩⟩ ?_
      · have q : its.toList[i]? = some v := by rw [Array.getElem?_toList]; exact hv
        rw [hz, List.getElem?_map] at q
        obtain ⟨p, hp, rfl⟩ := Option.map_eq_some_iff.mp q
        exact ⟨p, hp, rfl⟩
      · rw [List.mem_singleton.mp hc, Heap.size_push]
        exact Nat.le_succ _
      · intro s3 L es ep t m S g
        obtain ⟨h3, g3, d3, t3, o3⟩ := s3
        have eg : g3 = s.gens := m.gens; have ed : d3 = s.drawn := m.drawn; have eo : o3 = s.os := m.os
        subst eg; subst ed; subst eo
        rw [size] at g
        refine show wpAny _ _ _ _ _ _ from wpAny_pure (show wpAny _ _ (ret Value.none) _ _ _ from wpAny_pure ⟨rfl, h3, t3, rfl, ⟨L, es, ep, t, S, g⟩, fun c o hc e => ?_⟩)
        refine m.heap c o ?_ (Heap.get?_push_of_some _ (Heap.get?_push_of_some _ e))
        rw [Heap.size_push]; simp only [List.mem_cons, List.not_mem_nil, or_false, not_or]; exact ⟨Nat.ne_of_lt hc, Nat.ne_of_lt (Nat.lt_succ_of_lt hc)⟩
    · rcases r2 with e | fl2
      · exact hr2
      cases fl2 with
      | ret v2 =>
        obtain ⟨rfl, h1, tk, rfl, hF⟩ := hr2
        repeat (any_goals (first | assumption | wp_step))
        exact hq _ _ hF
      | _ => exact hr2.elim
  | _ => exact hr.elim
end
end Nv
set_option maxHeartbeats 4000000
namespace Nv
open PySem PySem.Spec PyProof.Rows L2
theorem vals_tx {P : Program} {w : World} : ∀ {k : List Str} {us : List Value}, Vals (k.map V.str) us → ItemsAre (PySem.strKind P w) k us
  | [], _, .nil => .nil
  | z :: k, _, .cons r t => by
    obtain ⟨tk, rfl⟩ := r
    exact .cons (PySem.strKind_is P w z tk) (vals_tx t)
theorem vals_refs : ∀ {ks : List (Addr × List Str)} {us : List Value}, Vals (ks.map fun p => V.ref p.1) us → us = ks.map fun p => Value.ref p.1
  | [], _, .nil => rfl
  | p :: ks, _, .cons r t => by
    cases r
    rw [vals_refs t] <;> rfl
/-- tuples of texts, with their addresses -/
theorem PaL.addrs {H : Hp} {vs : List V} {ps : List (List Str)} (h : PaL H vs ps) : ∃ ks : List (Addr × List Str), vs = ks.map (fun p => V.ref p.1) ∧ ps = ks.map (·.2) ∧ ∀ p ∈ ks, H p.1 = some (.tup (p.2.map V.str)) := by
  induction h with
  | nil => exact ⟨[], rfl, rfl, fun p hp => (by cases hp)⟩
  | cons e _ ih =>
    obtain ⟨ks, h1, h2, h3⟩ := ih
    refine ⟨(_, _) :: ks, by rw [h1] <;> rfl, by rw [h2] <;> rfl, fun p hp => ?_⟩
    rcases List.mem_cons.mp hp with rfl | hp
    · exact e
    · exact h3 p hp
/-- len(set(xs)), xs a list of tuples of texts -/
def tDistT (K : PySem.W.Frag) (ta : TE) : TE := fun σ H Q => ta σ H fun x H1 => ∃ (l : Addr) (vs : List V) (ps : List (List Str)), x = .ref l ∧ SqL K H1 l vs ∧ PaL H1 vs ps ∧ ps.length < 64 ∧
  ∀ n : Nat, n ≤ ps.length → (n = ps.length ↔ ps.Nodup) → Q (.int (n : Nat)) H1
theorem pe_distT {X : Cx} {a : Expr} {ta : TE} {p p2 q pos : Pos} (hu : X.A.units + 64 < cLine) (gl : Gl X "len") (ml : X.mg "len" = none) (gs : Gl X "set") (ms : X.mg "set" = none) (ha : PE X a ta) (calm : X.calm = true := by rfl)
    (na : starEach [a] X.env = (false, eval a X.env) :: starEach [] X.env := by rfl) : PE X (.Call (.Name "len" p) [.Call (.Name "set" p2) [a] [] q] [] pos) (tDistT X.K ta) := by
  refine ⟨fun pins s σ H Q I h => ?_⟩
  refine Call_ (ld_blt I gl ml boot_len (PyProof.Rows.callWith_builtin1 (PyProof.Rows.args_cons (Call_ (ld_blt I gs ms boot_set ?_)) rfl) rfl rfl))
  refine PyProof.Rows.callWith_type1 (PyProof.Rows.args_cons (thn (ha.run pins s σ H _ I h) fun v s1 ⟨x, H1, I1, r1, q1⟩ => PyProof.Rows.args_nil ?_) na) na rfl
  obtain ⟨l, vs, ps, rfl, hl, hp, few, q1⟩ := q1
  cases r1
  obtain ⟨its, r, pl, _⟩ := I1.list hl
  obtain ⟨ks, rfl, rfl, hk⟩ := hp.addrs
  rw [List.length_map] at few
  refine set_of_tx (ks := ks) (I1.ok.hd calm) pl.isList (by simpa using vals_refs r) (fun p hp => ?_) few (by omega) fun h1 tk hF => PyProof.Rows.args_nil ?_
  · obtain ⟨its2, r2, ⟨o, ho, hc, n, hd⟩, _⟩ := I1.tuple (SqT.of (K := X.K) (hk p hp))
    exact ⟨o, its2.toArray, n, ho, hc, hd, by simpa using vals_tx r2⟩
  obtain ⟨⟨L, es, ep, t, S, g⟩, kept⟩ := hF
  obtain ⟨o, ho, hex, hd⟩ := S.ob
  have I2 : Inv X pins σ H1 { s1 with heap := h1, toks := tk } := I1.kept fun b o e => kept b o (Heap.lt_size e) e
  obtain ⟨c1, c2⟩ := g.count S.nd
  have sz := rows_size S.rows
  have sf := S.few
  refine call_len_set ho hex hd (TxSet.fits (s := { s1 with heap := h1, toks := tk }) S) (by rw [sz]; omega) ⟨.int ((L.length : Nat) : Int), H1, I2.tok _, ⟨_, by rw [sz]⟩, q1 L.length (by rw [List.length_map]; exact c1) (by rw [List.length_map]; exact c2)⟩
end Nv
set_option maxHeartbeats 4000000
namespace Nv
open PySem PySem.Spec PyProof.Rows L2
/-! # facts and stores -/
def factB : Option (List (Option Str)) → Bool
  | some os => decide (1 ≤ os.length ∧ os.length ≤ 4) && os.all nmO
  | none => false
/-- a fact -/
def FactOk (p : List Str) : Prop := (1 ≤ p.length ∧ p.length ≤ 4) ∧ ∀ z ∈ p, IsNm z
instance {p : List Str} : Decidable (FactOk p) := inferInstanceAs (Decidable ((1 ≤ p.length ∧ p.length ≤ 4) ∧ ∀ z ∈ p, IsNm z))
theorem factB_strs {p : List Str} : factB (some (p.map some)) = decide (FactOk p) := by
  show (decide (1 ≤ (p.map some).length ∧ (p.map some).length ≤ 4) && (p.map some).all nmO) = _
  rw [List.length_map, List.all_map]
  by_cases h : FactOk p
  · rw [decide_eq_true h, decide_eq_true h.1, Bool.true_and, List.all_eq_true]
    exact fun z hz => decide_eq_true (h.2 z hz)
  · rw [decide_eq_false h]
    by_cases h1 : 1 ≤ p.length ∧ p.length ≤ 4
    · rw [decide_eq_true h1, Bool.true_and, List.all_eq_false]
      obtain ⟨z, hz⟩ := Classical.not_forall.mp fun q => h ⟨h1, q⟩
      obtain ⟨m, n⟩ := Classical.not_imp.mp hz
      exact ⟨z, m, by
        show ¬ decide (IsNm z) = true
        rw [decide_eq_false n]
        exact Bool.false_ne_true⟩
    · rw [decide_eq_false h1, Bool.false_and]
/-- what stands in a store -/
theorem facts_of {K : PySem.W.Frag} {H : Hp} {xs : List V} {ls : List (Option (List (Option Str)))} (h : All2 (Tp K H) xs ls) (hb : ls.all factB = true) : ∃ ps : List (List Str), PaL H xs ps ∧ ls = ps.map (fun p => some (p.map some)) ∧ ∀ p ∈ ps, FactOk p := by
  have item : ∀ {us : List V} {os : List (Option Str)}, All2 (Tv K H) us os → os.all nmO = true → ∃ zs : List Str, us = zs.map V.str ∧ os = zs.map some := by
    intro us os h
    induction h with
    | nil => exact fun _ => ⟨[], rfl, rfl⟩
    | @cons u o us os h t ih =>
      intro hb
      rw [List.all_cons, Bool.and_eq_true] at hb
      obtain ⟨zs, e1, e2⟩ := ih hb.2
      cases o with
      | none => cases hb.1
      | some z => exact ⟨z :: zs, by rw [h.1, e1] <;> rfl, by rw [e2] <;> rfl⟩
  induction h with
  | nil => exact ⟨[], .nil, rfl, fun p hp => (by cases hp)⟩
  | @cons x l xs ls h t ih =>
    rw [List.all_cons, Bool.and_eq_true] at hb
    obtain ⟨ps, e1, e2, e3⟩ := ih hb.2
    cases l with
    | none => cases hb.1
    | some os =>
      obtain ⟨a, us, rfl, ea, hu, hl⟩ := h
      have hb1 := hb.1
      unfold factB at hb1
      rw [Bool.and_eq_true] at hb1
      obtain ⟨zs, rfl, rfl⟩ := item hu hb1.2
      refine ⟨zs :: ps, .cons ea e1, by rw [e2] <;> rfl, fun p hp => ?_⟩
      rcases List.mem_cons.mp hp with rfl | hp
      · have := hb.1
        rw [factB_strs] at this
        exact of_decide_eq_true this
      · exact e3 p hp
section
variable {P : Program} {w : World} {K : PySem.W.Frag} {mg : Str → Option Value} {base : Heap}
theorem scIsFact : FnScope ["value", "part"] ["value"] (defScope sIsFact) := ⟨rfl, rfl, rfl, by decide +kernel, rfl, by decide +kernel, by decide +kernel⟩
theorem ok_isFact {f fN : Addr} {fd fdN : FuncData} (F : Fun K "is_fact" "is_fact" sIsFact f fd) (B : Bp mg)
    (GN : FnOk P w K mg base CX0 1 fN fdN ["value"] (spTxt K fun z => decide (IsNm z))) (kN : PySem.W.keepIn K (.ref fN) = true) (gN : mg "is_name" = some (.ref fN)) (bN : Binds K fdN ["value"] []) :
    FnOk P w K mg base CX0 3 f fd ["value"] (spTup K factB) := by
  refine F.ok scIsFact (fun vs H Q E h => ?_) (fun cdv A outer s H vs Q E hr h => ?_)
  · obtain ⟨v, o, rfl, _⟩ := h
    rfl
  · obtain ⟨v, o, rfl, h, q⟩ := h
    have hr1 : Room 1 _ := hr.mono (by decide)
    refine ⟨_, pss_one (ps_ret (pe_and (pe_callB call_isi (by rfl) B.isi bootIsi (pa_cons (pv 0) (pa_cons (pe_bltn (v := V.ty "tuple") (by rfl) B.tup PyProof.Rows.boot_tuple rfl) pa_nil)))
      (pe_and (pe_chain op_le op_le pe_int (pe_callB call_len_seq (by rfl) B.len PySem.boot_len (pa_cons (pv 0) pa_nil)) pe_int)
      (pe_one (pe_callB (cr_all rfl) (by rfl) B.all bootAll (pa_cons (by exact (pe_lc (own := [("part", 1)]) (g := gName 1) (tt := tYes) rfl scIsFact.nd (pi_tup (pv 0))
        (blkOk_by (own := [("part", 1)]) (N := ["value", "part"]) (sc := defScope sIsFact) (by decide +kernel))
        (fun _ _ _ _ _ => pg_name (i := 1) scIsFact.nd rfl (Or.inl rfl)) (fun _ _ _ _ _ => pts_nil)
        (fun _ _ _ _ _ => by exact (pe_call GN hr1 (by rfl) gN kN bN .nil pass0 (pa_cons (pv 1) pa_nil))))) pa_nil)))))), ?_⟩
    cases o with
    | none =>
      obtain ⟨t, ht, hk⟩ := h
      refine ⟨_, rfl, _, _, _, _, false, rfl, .ty _, ht, hk, false, rfl, iteF ?_⟩
      exact q H (Same.refl H)
    | some os =>
      obtain ⟨t, xs, rfl, e, ha, hl⟩ := h
      have hxl := ha.len
      refine ⟨_, rfl, _, _, _, _, true, rfl, .ty _, tyx_tup e, kit_ty (by decide +kernel), true, rfl, iteT ?_⟩
      refine ⟨_, rfl, t, xs, rfl, .inr (SqT.of e), _, _, rfl, rfl, _, rfl, ?_⟩
      have q : ∀ H', Same H H' → Q (.bl (decide (1 ≤ os.length ∧ os.length ≤ 4) && os.all nmO)) H' := q
      by_cases h1 : (1 : Int) ≤ (xs.length : Int)
      · rw [decide_eq_true h1]
        refine iteT ⟨_, _, rfl, rfl, ?_⟩
        refine ⟨decide ((xs.length : Int) ≤ 4), rfl, ?_⟩
        by_cases h2 : (xs.length : Int) ≤ 4
        · rw [decide_eq_true h2]
          rw [decide_eq_true (show 1 ≤ os.length ∧ os.length ≤ 4 by omega)] at q
          refine iteT ?_
          refine ⟨_, rfl, t, rfl, ⟨_, SqT.of e⟩, fun D nD => ?_⟩
          refine lc_tup (K := K) (a := t) (xs := xs) (fun i H' => Same H H' ∧ H' D = some (.lst ((os.take i).map fun o => V.bl (nmO o)))) ⟨same_new nD, upd_same⟩ (fun i H' _ y => SqT.of (y.1 _ _ e)) ?_ ?_
          · rintro i y H3 hi ⟨s3, e3⟩
            obtain ⟨o2, ho2, hy⟩ := ha.at_ hi
            refine ⟨rfl, _, rfl, ?_⟩
            dsimp only [tNil]
            refine spTxt.of (hy.same s3) fun H4 s4 => ?_
            refine ⟨_, s4 _ _ e3, ?_, same_put (s3.trans s4) nD, ?_⟩
            · rw [List.length_map, List.length_take]
              exact Nat.lt_of_le_of_lt (by omega : _ ≤ 1000) (by decide)
            · rw [upd_same, take_one ho2, List.map_append] <;> rfl
          · rintro H3 ⟨s3, e3⟩
            rw [hxl, List.take_length] at e3
            refine ⟨D, os.map nmO, rfl, SqL.of (by rw [e3, List.map_map] <;> rfl), ?_⟩
            rw [List.all_map]
            exact q H3 s3
        · rw [decide_eq_false h2]
          rw [decide_eq_false (show ¬ (1 ≤ os.length ∧ os.length ≤ 4) by omega)] at q
          exact iteF (q H (Same.refl H))
      · rw [decide_eq_false h1]
        rw [decide_eq_false (show ¬ (1 ≤ os.length ∧ os.length ≤ 4) by omega)] at q
        exact iteF ⟨false, rfl, iteF (q H (Same.refl H))⟩
end
end Nv
set_option maxHeartbeats 4000000
namespace Nv
open PySem PySem.Spec PyProof.Rows L2 TL
/-! # a rule's text read whole; how long the texts are -/
def rIn (z : Str) : Rl :=
  if (Txt.partition (Txt.partition z ": ").2.2 " if ").2.1 = "" then ⟨(Txt.partition z ": ").1, pIn (Txt.partition (Txt.partition z ": ").2.2 " if ").1, [], [], []⟩
  else ⟨(Txt.partition z ": ").1, pIn (Txt.partition (Txt.partition z ": ").2.2 " if ").1, cTold (unb (Txt.partition (Txt.partition z ": ").2.2 " if ").2.2), cPairs (unb (Txt.partition (Txt.partition z ": ").2.2 " if ").2.2), cDenied (unb (Txt.partition (Txt.partition z ": ").2.2 " if ").2.2)⟩
theorem cond_nil {ps qs ds : List (List Str)} (h : condT ps qs ds = []) : ps = [] ∧ qs = [] ∧ ds = [] := by
  unfold condT at h
  have h1 := List.append_eq_nil_iff.mp h
  have h2 := List.append_eq_nil_iff.mp h1.1
  exact ⟨List.map_eq_nil_iff.mp h2.1, List.map_eq_nil_iff.mp h2.2, List.map_eq_nil_iff.mp h1.2⟩
theorem app_nil (z : Str) : z ++ ("" : Str) = z := ext_tl (by rw [tl_append]; exact List.append_nil _)
/-- where the text has no conditions -/
theorem cutIf0 {x : Rl} (ok : x.Ok) (h : condT x.ps x.qs x.ds = []) : Txt.partition (patT x.h ++ tailT x.ps x.qs x.ds) " if " = (patT x.h, Str.empty, Str.empty) := by
  unfold tailT
  rw [if_pos h, app_nil, part_if0 ok.h]
theorem cutIf1 {x : Rl} (ok : x.Ok) (h : condT x.ps x.qs x.ds ≠ []) : Txt.partition (patT x.h ++ tailT x.ps x.qs x.ds) " if " = (patT x.h, (" if " : Str), Txt.join ", " (condT x.ps x.qs x.ds)) := by
  unfold tailT
  rw [if_neg h, part_if ok.h]
theorem rIn_ruleT {x : Rl} (ok : x.Ok) : rIn (ruleT x) = x := by
  unfold rIn
  rw [part_label ok]
  dsimp only
  by_cases h : condT x.ps x.qs x.ds = []
  · rw [cutIf0 ok h, if_pos (show (Str.empty : Str) = "" by decide +kernel), pIn_patT ok.h]
    obtain ⟨h1, h2, h3⟩ := cond_nil h
    obtain ⟨l, hd, ps, qs, ds⟩ := x
    dsimp only at h1 h2 h3 ⊢
    rw [h1, h2, h3]
  · rw [cutIf1 ok h, if_neg (show ¬ ((" if " : Str) = "") by decide +kernel), pIn_patT ok.h]
    dsimp only
    rw [unb_cond ok.ps ok.qs ok.ds h, told_back ok.ps ok.qs ok.ds, pairs_back ok.ps ok.qs ok.ds, denied_back ok.ps ok.qs ok.ds]
/-- no two unlike rules have one text -/
theorem ruleT_inj {x y : Rl} (hx : x.Ok) (hy : y.Ok) (h : ruleT x = ruleT y) : x = y := by rw [← rIn_ruleT hx, h, rIn_ruleT hy]
/-! ### how long -/
/-- a short pattern -/
structure Sht (p : List Str) : Prop where
  one : 1 ≤ p.length
  four : p.length ≤ 4
  short : ∀ z ∈ p, z.length ≤ 10
theorem PatOk.sht {p : List Str} (h : PatOk p) : Sht p := by
  obtain ⟨w, ts, rfl, hw, h3, ht⟩ := h
  refine ⟨by rw [List.length_cons]; omega, by rw [List.length_cons]; omega, fun z hz => ?_⟩
  rcases List.mem_cons.mp hz with rfl | hz
  · exact hw.2.1
  · rcases ht z hz with k | k
    · have := k.2.1
      omega
    · exact k.2.1
theorem FactOk.sht {p : List Str} (h : FactOk p) : Sht p := ⟨h.1.1, h.1.2, fun z hz => (h.2 z hz).2.1⟩
theorem FactOk.pat {p : List Str} (h : FactOk p) : PatOk p := by
  match p, h with
  | [], h => exact absurd h.1.1 (by decide)
  | w :: ts, h => exact ⟨w, ts, rfl, h.2 w List.mem_cons_self, by have := h.1.2; rw [List.length_cons] at this; omega, fun x hx => .inr (h.2 x (List.mem_cons_of_mem _ hx))⟩
theorem len_app (x y : Str) : (x ++ y).length = x.length + y.length := by rw [len_tl, tl_append, List.length_append, ← len_tl, ← len_tl]
theorem sum_le {c : Nat} : ∀ {l : List Str}, (∀ z ∈ l, z.length ≤ c) → (l.map (·.length)).sum ≤ l.length * c
  | [], _ => Nat.zero_le _
  | z :: l, h => by
    have h1 := h z List.mem_cons_self
    have h2 := sum_le (l := l) fun y hy => h y (List.mem_cons_of_mem _ hy)
    show z.length + (l.map (·.length)).sum ≤ (l.length + 1) * c
    rw [Nat.add_mul]
    omega
theorem joinL_len (S : List Nat) : ∀ l : List (List Nat), (joinL S l).length ≤ (l.map (·.length)).sum + l.length * S.length
  | [] => Nat.zero_le _
  | [p] => by
    show p.length ≤ (p.length + 0) + 1 * S.length
    exact Nat.le_trans (Nat.le_add_right _ 0) (Nat.le_add_right _ _)
  | p :: q :: r => by
    have ih := joinL_len S (q :: r)
    show (p ++ (S ++ joinL S (q :: r))).length ≤ p.length + ((q :: r).map (·.length)).sum + ((q :: r).length + 1) * S.length
    rw [List.length_append, List.length_append, Nat.add_mul]
    omega
theorem join_len (y : Str) (l : List Str) : (Txt.join y l).length ≤ (l.map (·.length)).sum + l.length * y.length := by
  have h := joinL_len (tl y) (l.map tl)
  rw [join_eq, len_tl, tl_join]
  rw [List.map_map, List.length_map] at h
  have e : (l.map ((fun x => x.length) ∘ tl)).sum = (l.map (·.length)).sum := by
    congr 1
  rw [e, ← len_tl] at h
  exact h
theorem patT_len {p : List Str} (h : Sht p) : (patT p).length ≤ 60 := by
  match p, h with
  | [], h => exact absurd h.one (by decide)
  | [w], h => exact Nat.le_trans (h.short w List.mem_cons_self) (by decide)
  | w :: t :: ts, h =>
    have h1 := h.short w List.mem_cons_self
    have h2 := join_len ", " (t :: ts)
    have h3 := sum_le (c := 10) (l := t :: ts) fun z hz => h.short z (List.mem_cons_of_mem _ hz)
    have h4 := h.four
    rw [List.length_cons] at h4
    show (w ++ "(" ++ Txt.join ", " (t :: ts) ++ ")").length ≤ 60
    rw [len_app, len_app, len_app]
    rw [show ("(" : Str).length = 1 by rfl, show (")" : Str).length = 1 by rfl]
    rw [show (", " : Str).length = 2 by rfl] at h2
    have h5 : (t :: ts).length * 10 ≤ 3 * 10 := Nat.mul_le_mul_right _ (by omega)
    have h6 : (t :: ts).length * 2 ≤ 3 * 2 := Nat.mul_le_mul_right _ (by omega)
    omega
end Nv
set_option maxHeartbeats 4000000
namespace Nv
open PySem PySem.Spec PyProof.Rows L2 TL
/-! # pattern_text -/
def spPatT (K : PySem.W.Frag) : Sp := fun vs H Q _ => ∃ (a : Addr) (p : List Str), vs = [.ref a] ∧ H a = some (.tup (p.map V.str)) ∧ Sht p ∧ ∀ H', Same H H' → Q (.str (patT p)) H'
section
variable {P : Program} {w : World} {K : PySem.W.Frag} {mg : Str → Option Value} {base : Heap}
/-- pattern_text(pattern) -/
theorem scPatternText : FnScope ["pattern"] ["pattern"] (defScope sPatternText) := ⟨rfl, rfl, rfl, by decide +kernel, rfl, by decide +kernel, by decide +kernel⟩
theorem ok_patternText {f : Addr} {fd : FuncData} (F : Fun K "pattern_text" "pattern_text" sPatternText f fd) (B : Bp mg) : FnOk P w K mg base CX0 1 f fd ["pattern"] (spPatT K) := by
  refine F.ok scPatternText (fun vs H Q E h => ?_) (fun cdv A outer s H vs Q E hr h => ?_)
  · obtain ⟨a, p, rfl, _⟩ := h
    rfl
  · obtain ⟨a, p, rfl, e, sh, q⟩ := h
    refine ⟨_, pss_cons (ps_if (pt_cmpR op_eq (pe_callB call_len_seq (by rfl) B.len PySem.boot_len (pa_cons (pv 0) pa_nil)) pe_int (nomark _)) (pss_one (ps_ret (pe_ix ix_tup (pv 0) pe_int (fun _ _ => rfl)))) pss_nil)
      (pss_one (ps_ret (pe_op op_add_str (pe_op op_add_str (pe_op op_add_str (pe_ix ix_tup (pv 0) pe_int (fun _ _ => rfl)) pe_str) (by exact (pe_join pe_str (pe_slice sl_tup (pv 0) (po_some pe_int) po_none)))) pe_str))), ?_⟩
    match p, sh, e with
    | [wd], sh, e =>
      refine ⟨_, rfl, a, _, rfl, .inr (SqT.of e), rfl, true, congrArg V.bl (decide_eq_true (by simp)), iteT ?_⟩
      refine ⟨_, rfl, a, _, _, V.str wd, rfl, rfl, SqT.of e, atI_nat (j := 0) rfl, ?_⟩
      exact q H (Same.refl H)
    | wd :: t :: ts, sh, e =>
      refine ⟨_, rfl, a, _, rfl, .inr (SqT.of e), rfl, false, congrArg V.bl (decide_eq_false (by simp; omega)), iteF ?_⟩
      refine ⟨_, rfl, a, _, _, V.str wd, rfl, rfl, SqT.of e, atI_nat (j := 0) rfl, ?_⟩
      have h1 := sh.short wd List.mem_cons_self
      have h4 := sh.four
      rw [List.length_cons, List.length_cons] at h4
      refine ⟨wd, "(", rfl, rfl, ?_, ?_⟩
      · exact Nat.le_trans (Nat.add_le_add_right h1 _) (by decide)
      have tl1 : cutV ((wd :: t :: ts).map V.str) (some 1) none = (t :: ts).map V.str := by
        unfold cutV
        have e := HT.sIx_nat ((wd :: t :: ts).map V.str).length 0 1
        rw [show ((1 : Nat) : Int) = 1 by rfl] at e
        rw [e, List.length_map, List.length_cons, show min 1 ((t :: ts).length + 1) = 1 by omega, HT.sIx_none]
        exact List.take_of_length_le (by simp)
      have h2 := join_len ", " (t :: ts)
      have h3 := sum_le (c := 10) (l := t :: ts) fun z hz => sh.short z (List.mem_cons_of_mem _ hz)
      rw [show (", " : Str).length = 2 by rfl] at h2
      have h5 : (t :: ts).length * 10 ≤ 3 * 10 := Nat.mul_le_mul_right _ (by rw [List.length_cons]; omega)
      have h6 : (t :: ts).length * 2 ≤ 3 * 2 := Nat.mul_le_mul_right _ (by rw [List.length_cons]; omega)
      have hs : 400 ≤ sizeLine := by decide
      refine ⟨⟨_, rfl⟩, _, rfl, 1, rfl, a, _, rfl, SqT.of e, ?_, fun t1 n1 => ?_⟩
      · rintro ⟨h, _⟩
        have e := HT.sIx_nat ((wd :: t :: ts).map V.str).length 0 1
        rw [show ((1 : Nat) : Int) = 1 by rfl] at e
        rw [e, List.length_map, List.length_cons, show min 1 ((t :: ts).length + 1) = 1 by omega] at h
        exact absurd h (by decide)
      rw [tl1]
      have s1 : Same H (upd H t1 (.tup ((t :: ts).map V.str))) := same_new n1
      have e1 : upd H t1 (.tup ((t :: ts).map V.str)) t1 = some (.tup ((t :: ts).map V.str)) := upd_same
      generalize upd H t1 (.tup ((t :: ts).map V.str)) = H1 at s1 e1 ⊢
      refine ⟨", ", t1, t :: ts, rfl, rfl, .inr (SqT.of e1), ?_, ?_⟩
      · rw [show (", " : Str).length = 2 by rfl]
        omega
      refine ⟨_, _, rfl, rfl, ?_, ?_⟩
      · rw [len_app, show ("(" : Str).length = 1 by rfl]
        omega
      refine ⟨_, _, rfl, rfl, ?_, ?_⟩
      · rw [len_app, len_app, show ("(" : Str).length = 1 by rfl, show (")" : Str).length = 1 by rfl]
        omega
      exact q H1 s1
/-- _law_pattern_text(pattern) -/
theorem scLPatternText : FnScope ["_law_pattern_here"] ["_law_pattern_here"] (defScope sLPatternText) := ⟨rfl, rfl, rfl, by decide +kernel, rfl, by decide +kernel, by decide +kernel⟩
theorem ok_lPatternText {f : Addr} {fd : FuncData} (F : Fun K "_law_pattern_text" "_law_pattern_text" sLPatternText f fd) (B : Bp mg) : FnOk P w K mg base CX0 1 f fd ["_law_pattern_here"] (spPatT K) := by
  refine F.ok scLPatternText (fun vs H Q E h => ?_) (fun cdv A outer s H vs Q E hr h => ?_)
  · obtain ⟨a, p, rfl, _⟩ := h
    rfl
  · obtain ⟨a, p, rfl, e, sh, q⟩ := h
    refine ⟨_, pss_cons (ps_if (pt_cmpR op_eq (pe_callB call_len_seq (by rfl) B.len PySem.boot_len (pa_cons (pv 0) pa_nil)) pe_int (nomark _)) (pss_one (ps_ret (pe_ix ix_tup (pv 0) pe_int (fun _ _ => rfl)))) pss_nil)
      (pss_one (ps_ret (pe_op op_add_str (pe_op op_add_str (pe_op op_add_str (pe_ix ix_tup (pv 0) pe_int (fun _ _ => rfl)) pe_str) (by exact (pe_join pe_str (pe_slice sl_tup (pv 0) (po_some pe_int) po_none)))) pe_str))), ?_⟩
    match p, sh, e with
    | [wd], sh, e =>
      refine ⟨_, rfl, a, _, rfl, .inr (SqT.of e), rfl, true, congrArg V.bl (decide_eq_true (by simp)), iteT ?_⟩
      refine ⟨_, rfl, a, _, _, V.str wd, rfl, rfl, SqT.of e, atI_nat (j := 0) rfl, ?_⟩
      exact q H (Same.refl H)
    | wd :: t :: ts, sh, e =>
      refine ⟨_, rfl, a, _, rfl, .inr (SqT.of e), rfl, false, congrArg V.bl (decide_eq_false (by simp; omega)), iteF ?_⟩
      refine ⟨_, rfl, a, _, _, V.str wd, rfl, rfl, SqT.of e, atI_nat (j := 0) rfl, ?_⟩
      have h1 := sh.short wd List.mem_cons_self
      have h4 := sh.four
      rw [List.length_cons, List.length_cons] at h4
      refine ⟨wd, "(", rfl, rfl, ?_, ?_⟩
      · exact Nat.le_trans (Nat.add_le_add_right h1 _) (by decide)
      have tl1 : cutV ((wd :: t :: ts).map V.str) (some 1) none = (t :: ts).map V.str := by
        unfold cutV
        have e := HT.sIx_nat ((wd :: t :: ts).map V.str).length 0 1
        rw [show ((1 : Nat) : Int) = 1 by rfl] at e
        rw [e, List.length_map, List.length_cons, show min 1 ((t :: ts).length + 1) = 1 by omega, HT.sIx_none]
        exact List.take_of_length_le (by simp)
      have h2 := join_len ", " (t :: ts)
      have h3 := sum_le (c := 10) (l := t :: ts) fun z hz => sh.short z (List.mem_cons_of_mem _ hz)
      rw [show (", " : Str).length = 2 by rfl] at h2
      have h5 : (t :: ts).length * 10 ≤ 3 * 10 := Nat.mul_le_mul_right _ (by rw [List.length_cons]; omega)
      have h6 : (t :: ts).length * 2 ≤ 3 * 2 := Nat.mul_le_mul_right _ (by rw [List.length_cons]; omega)
      have hs : 400 ≤ sizeLine := by decide
      refine ⟨⟨_, rfl⟩, _, rfl, 1, rfl, a, _, rfl, SqT.of e, ?_, fun t1 n1 => ?_⟩
      · rintro ⟨h, _⟩
        have e := HT.sIx_nat ((wd :: t :: ts).map V.str).length 0 1
        rw [show ((1 : Nat) : Int) = 1 by rfl] at e
        rw [e, List.length_map, List.length_cons, show min 1 ((t :: ts).length + 1) = 1 by omega] at h
        exact absurd h (by decide)
      rw [tl1]
      have s1 : Same H (upd H t1 (.tup ((t :: ts).map V.str))) := same_new n1
      have e1 : upd H t1 (.tup ((t :: ts).map V.str)) t1 = some (.tup ((t :: ts).map V.str)) := upd_same
      generalize upd H t1 (.tup ((t :: ts).map V.str)) = H1 at s1 e1 ⊢
      refine ⟨", ", t1, t :: ts, rfl, rfl, .inr (SqT.of e1), ?_, ?_⟩
      · rw [show (", " : Str).length = 2 by rfl]
        omega
      refine ⟨_, _, rfl, rfl, ?_, ?_⟩
      · rw [len_app, show ("(" : Str).length = 1 by rfl]
        omega
      refine ⟨_, _, rfl, rfl, ?_, ?_⟩
      · rw [len_app, len_app, show ("(" : Str).length = 1 by rfl, show (")" : Str).length = 1 by rfl]
        omega
      exact q H1 s1
end
end Nv
set_option maxHeartbeats 4000000
namespace Nv
open PySem PySem.Spec PyProof.Rows L2 TL
/-! # pattern_in -/
theorem part_len (x y : Str) (hy : tl y ≠ []) : (Txt.partition x y).1.length ≤ x.length ∧ (Txt.partition x y).2.2.length ≤ x.length := by
  rcases PyProof.Rows.partition_whole x y with ⟨e, hn⟩ | ⟨i, e, hi, hn⟩
  · rw [e]
    exact ⟨Nat.le_refl _, Nat.zero_le _⟩
  · rw [e]
    constructor
    · show (Builtin.Str.strSub x 0 i).length ≤ _
      rw [len_tl, tl_strSub, List.drop_zero, List.length_take, len_tl x]
      exact Nat.min_le_right _ _
    · show (Builtin.Str.strSub x (i + y.length) x.length).length ≤ _
      rw [len_tl, tl_strSub_end, List.length_drop, len_tl x]
      exact Nat.sub_le _ _
def spPatIn (K : PySem.W.Frag) : Sp := fun vs H Q _ => ∃ z : Str, vs = [.str z] ∧ z.length ≤ 100000 ∧ ∀ (t : Addr) (H' : Hp), H t = none → Same H H' → H' t = some (.tup ((pIn z).map V.str)) → Q (.ref t) H'
section
variable {P : Program} {w : World} {K : PySem.W.Frag} {mg : Str → Option Value} {base : Heap}
theorem scPatternIn : FnScope ["text", "word", "bracket", "terms"] ["text"] (defScope sPatternIn) := ⟨rfl, rfl, rfl, by decide +kernel, rfl, by decide +kernel, by decide +kernel⟩
theorem ok_patternIn {f : Addr} {fd : FuncData} (F : Fun K "pattern_in" "pattern_in" sPatternIn f fd) : FnOk P w K mg base CX0 1 f fd ["text"] (spPatIn K) := by
  refine F.ok scPatternIn (fun vs H Q E h => ?_) (fun cdv A outer s H vs Q E hr h => ?_)
  · obtain ⟨z, rfl, _⟩ := h
    rfl
  · obtain ⟨z, rfl, hz, q⟩ := h
    refine ⟨_, pss_cons (ps_asg (by exact (pe_partition (pv 0) pe_str)) (pg_tup (by rfl) (pgs_cons (pg_name (i := 1) scPatternIn.nd rfl (Or.inl rfl)) (pgs_cons (pg_name (i := 2) scPatternIn.nd rfl (Or.inl rfl)) (pgs_cons (pg_name (i := 3) scPatternIn.nd rfl (Or.inl rfl)) pgs_nil)))))
      (pss_cons (ps_if (pt_cmpR op_eq (pv 2) pe_str (nomark _)) (pss_one (ps_ret (pe_tup (pa_cons (pv 1) pa_nil)))) pss_nil)
      (pss_one (ps_ret (pe_tup (pa_cons (pv 1) (by exact (StX.pa_star (by exact (pe_split (pe_slice sl_str (pv 3) po_none (po_some (pe_un un_neg pe_int))) pe_str)) pa_nil))))))), ?_⟩
    have hs : 200000 ≤ sizeLine := by decide
    have hl := part_len z "(" (by decide)
    refine ⟨_, rfl, ⟨_, rfl⟩, z, "(", rfl, rfl, by decide, by omega, fun p np => ?_⟩
    generalize e0 : upd H p (.tup [.str (Txt.partition z "(").1, .str (Txt.partition z "(").2.1, .str (Txt.partition z "(").2.2]) = H1
    have s1 : Same H H1 := e0 ▸ same_new np
    have e1 : H1 p = some (.tup [.str (Txt.partition z "(").1, .str (Txt.partition z "(").2.1, .str (Txt.partition z "(").2.2]) := e0 ▸ upd_same
    clear e0
    refine ⟨p, _, rfl, SqT.of e1, rfl, _, _, rfl, _, _, rfl, _, _, rfl, rfl, ?_⟩
    have q1 : ∀ (t : Addr) (H' : Hp), H1 t = none → Same H1 H' → H' t = some (.tup ((pIn z).map V.str)) → Q (.ref t) H' := fun t H' n s e => q t H' (s1.free n) (s1.trans s) e
    clear q
    show tSeq _ _ _ _ _
    refine ⟨_, rfl, rfl, ?_⟩
    have hp : pIn z = if (Txt.partition z "(").2.1 = "" then [(Txt.partition z "(").1] else (Txt.partition z "(").1 :: Txt.split (cutS (Txt.partition z "(").2.2 none (some (-1))) ", " := rfl
    by_cases hb : (Txt.partition z "(").2.1 = ""
    · rw [if_pos hb] at hp
      refine ⟨true, congrArg V.bl (decide_eq_true (congrArg V.str hb)), iteT ?_⟩
      refine ⟨_, rfl, by show 1 ≤ _; decide, fun t nt => ?_⟩
      refine q1 t _ nt (same_new nt) ?_
      rw [hp]
      exact upd_same
    · rw [if_neg hb] at hp
      refine ⟨false, congrArg V.bl (decide_eq_false fun e => hb (by injection e)), iteF ?_⟩
      have hc := cutS_length (Txt.partition z "(").2.2 none (some (-1))
      refine ⟨_, rfl, _, rfl, 1, rfl, -1, rfl, _, rfl, by omega, ⟨_, rfl⟩, _, _, rfl, rfl, by decide, by omega, fun l nl => ?_⟩
      generalize e0 : upd H1 l (.lst ((Txt.split (cutS (Txt.partition z "(").2.2 none (some (-1))) ", ").map V.str)) = H2
      have s2 : Same H1 H2 := e0 ▸ same_new nl
      have e2 : H2 l = some (.lst ((Txt.split (cutS (Txt.partition z "(").2.2 none (some (-1))) ", ").map V.str)) := e0 ▸ upd_same
      clear e0
      have hsl := PyProof.Rows.split_le (cutS (Txt.partition z "(").2.2 none (some (-1))) ", "
      refine ⟨l, _, rfl, .inr (SqL.of e2), ?_⟩
      dsimp only [tNil]
      refine ⟨?_, fun t nt => ?_⟩
      · rw [List.append_nil, List.length_cons, List.length_map]
        omega
      refine q1 t _ (s2.free nt) (s2.trans (same_new nt)) ?_
      rw [hp, List.append_nil]
      exact upd_same
end
end Nv
set_option maxHeartbeats 4000000
namespace Nv
open PySem PySem.Spec PyProof.Rows L2 TL
/-! # _unbracketed -/
theorem spl_wt {S : List Nat} (hS : S ≠ []) : ∀ (n : Nat) (L acc : List Nat), L.length ≤ n → ((spl S 0 acc L).map fun p => p.length + S.length).sum = acc.length + L.length + S.length
  | n, [], acc, _ => by
    rw [spl_nil]
    simp
  | 0, c :: r, acc, h => by simp at h
  | n + 1, c :: r, acc, h => by
    rw [List.length_cons] at h
    cases hp : pre S (c :: r) with
    | true =>
      have e : (c :: r).take S.length = S := eq_of_beq hp
      have e1 := congrArg List.length e
      rw [List.length_take, List.length_cons] at e1
      have e2 : 0 < S.length := List.length_pos_iff.mpr hS
      have ih := spl_wt hS n (r.drop (S.length - 1)) [] (by rw [List.length_drop]; omega)
      rw [spl_hit hp, spl_pass, List.map_cons, List.sum_cons, ih, List.length_drop, List.length_cons]
      simp only [List.length_nil]
      omega
    | false =>
      rw [spl_miss hp, spl_wt hS n r (acc ++ [c]) (by omega), List.length_append, List.length_cons, List.length_cons]
      simp only [List.length_nil]
      omega
/-- the signs of texts, two more for each -/
def wt (l : List Str) : Nat := (l.map fun z => z.length + 2).sum
theorem wt_append (l m : List Str) : wt (l ++ m) = wt l + wt m := by
  unfold wt
  rw [List.map_append, List.sum_append]
theorem wt_one (z : Str) : wt [z] = z.length + 2 := by
  unfold wt
  simp
theorem wt_split (z : Str) : wt (Txt.split z ", ") = z.length + 2 := by
  have h := spl_wt (S := [44, 32]) (by simp) (tl z).length (tl z) [] (Nat.le_refl _)
  have e := split_spl z ", " (by decide) (kind_ok (by decide +kernel))
  rw [show tl (", " : Str) = [44, 32] by decide] at e
  rw [← e, List.map_map] at h
  unfold wt
  rw [len_tl z]
  have : ((Txt.split z ", ").map ((fun p => p.length + [44, 32].length) ∘ tl)) = ((Txt.split z ", ").map fun z => z.length + 2) := List.map_congr_left fun y _ => by
    show (tl y).length + 2 = y.length + 2
    rw [len_tl y]
  rw [this] at h
  rw [h]
  simp
theorem glue_wt (acc : List Str) (z : Str) : wt (glue acc z) = wt acc + (z.length + 2) := by
  unfold glue
  cases e : acc.getLast? with
  | none => rw [wt_append, wt_one]
  | some q =>
    dsimp only
    by_cases h : 40 ∈ tl q ∧ 41 ∉ tl q
    · have ea : acc = acc.dropLast ++ [q] := by
        obtain ⟨ys, rfl⟩ := List.getLast?_eq_some_iff.mp e
        rw [List.dropLast_concat]
      rw [if_pos h, wt_append, wt_one, len_app, len_app, show (", " : Str).length = 2 by rfl]
      conv => rhs; rw [ea, wt_append, wt_one]
      omega
    · rw [if_neg h, wt_append, wt_one]
theorem glues_wt : ∀ (xs acc : List Str), wt (xs.foldl glue acc) = wt acc + wt xs
  | [], acc => rfl
  | x :: xs, acc => by
    rw [List.foldl_cons, glues_wt xs, glue_wt, show wt (x :: xs) = (x.length + 2) + wt xs from by unfold wt; simp]
    omega
theorem wt_mem {l : List Str} {z : Str} (h : z ∈ l) : z.length + 2 ≤ wt l := by
  induction l with
  | nil => cases h
  | cons x xs ih =>
    rw [show wt (x :: xs) = (x.length + 2) + wt xs from by unfold wt; simp]
    rcases List.mem_cons.mp h with rfl | h
    · omega
    · have := ih h
      omega
theorem wt_len (l : List Str) : l.length * 2 ≤ wt l := by
  induction l with
  | nil => exact Nat.zero_le _
  | cons x xs ih =>
    rw [show wt (x :: xs) = (x.length + 2) + wt xs from by unfold wt; simp, List.length_cons]
    omega
def spUnb (K : PySem.W.Frag) : Sp := fun vs H Q _ => ∃ z : Str, vs = [.str z] ∧ z.length ≤ 100000 ∧ ∀ (l : Addr) (H' : Hp), H l = none → Same H H' → H' l = some (.lst ((unb z).map V.str)) → Q (.ref l) H'
section
variable {P : Program} {w : World} {K : PySem.W.Frag} {mg : Str → Option Value} {base : Heap}
theorem scUnbracketed : FnScope ["text", "pieces", "piece"] ["text"] (defScope sUnbracketed) := ⟨rfl, rfl, rfl, by decide +kernel, rfl, by decide +kernel, by decide +kernel⟩
theorem ok_unbracketed {f : Addr} {fd : FuncData} (F : Fun K "_unbracketed" "_unbracketed" sUnbracketed f fd) : FnOk P w K mg base CX0 1 f fd ["text"] (spUnb K) := by
  refine F.ok scUnbracketed (fun vs H Q E h => ?_) (fun cdv A outer s H vs Q E hr h => ?_)
  · obtain ⟨z, rfl, _⟩ := h
    rfl
  · obtain ⟨z, rfl, hz, q⟩ := h
    refine ⟨_, pss_cons (ps_set (i := 1) scUnbracketed.nd rfl (Or.inl rfl) (pe_lst pa_nil))
      (pss_cons (ps_for PassesOwn.never rfl (pi_list (by exact (pe_split (pv 0) pe_str))) (pg_name (i := 2) scUnbracketed.nd rfl (Or.inl rfl))
        (pss_one (ps_if (PW.pt (pw_and (pt_truth (pv 1) (by intro _; rfl)) (pw_and (pt_cmpR op_in_sign pe_str (pe_ix ix_list (pv 1) (pe_un un_neg pe_int) (fun _ _ => rfl)) (by rfl)) (pw_and1 (pt_cmpR op_notIn_sign pe_str (pe_ix ix_list (pv 1) (pe_un un_neg pe_int) (fun _ _ => rfl)) (by rfl))))))
          (pss_one (ps_asg (pe_op op_add_str (pe_op op_add_str (pe_ix ix_list (pv 1) (pe_un un_neg pe_int) (fun _ _ => rfl)) pe_str) (pv 2)) (pg_sub (pv 1) (pe_un un_neg pe_int) set_list)))
          (pss_one (ps_expr (pe_bm PySem.F.plainAttrs_list PySem.F.slot_list_append PySem.F.type_list_append mt_append (pv 1) (pa_cons (pv 2) pa_nil)))))))
      (pss_one (ps_ret (pv 1)))), ?_⟩
    have hs : 200000 ≤ sizeLine := by decide
    have hw := wt_split z
    refine ⟨by show 0 ≤ _; decide, fun p np => ?_⟩
    generalize e0 : upd H p (.lst []) = H1
    have s1 : Same H H1 := e0 ▸ same_new np
    have e1 : H1 p = some (.lst []) := e0 ▸ upd_same
    clear e0
    refine ⟨_, rfl, ⟨_, rfl⟩, z, ", ", rfl, rfl, by decide, by omega, fun l nl => ?_⟩
    generalize hx : Txt.split z ", " = xs at hw
    have hlp : l ≠ p := fun e => by rw [e, e1] at nl; cases nl
    generalize e0 : upd H1 l (.lst (xs.map V.str)) = H2
    have s2 : Same H1 H2 := e0 ▸ same_new nl
    have e2 : H2 l = some (.lst (xs.map V.str)) := e0 ▸ upd_same
    clear e0
    have hunb : unb z = xs.foldl glue [] := by
      unfold unb
      rw [hx]
    refine ⟨l, rfl, ⟨_, SqL.of e2⟩, for_list (K := K) (a := l) (xs := xs.map V.str) (fun k σ G => ∃ o : Option V, σ = [some (.str z), some (.ref p), o] ∧ Same H G ∧ G p = some (.lst (((xs.take k).foldl glue []).map V.str)) ∧ G l = some (.lst (xs.map V.str))) ⟨none, rfl, s1.trans s2, s2 _ _ e1, e2⟩ (fun k σ G _ y => ?_) ?_ ?_⟩
    · obtain ⟨_, _, _, _, y⟩ := y
      exact SqL.of y
    · rintro k v σ G hk ⟨o, rfl, sG, ep, el⟩
      obtain ⟨x, hxk, rfl⟩ : ∃ x, xs[k]? = some x ∧ v = V.str x := by
        rw [List.getElem?_map] at hk
        cases hg : xs[k]? with
        | none => rw [hg] at hk; cases hk
        | some x =>
          rw [hg] at hk
          exact ⟨x, rfl, (Option.some.inj hk).symm⟩
      have htk : (xs.take (k + 1)).foldl glue [] = glue ((xs.take k).foldl glue []) x := by
        rw [List.take_add_one, hxk, List.foldl_append]
        rfl
      have hwk : wt ((xs.take k).foldl glue []) + (x.length + 2) ≤ wt xs := by
        rw [← glue_wt, ← htk, glues_wt]
        have : wt xs = wt (xs.take (k + 1)) + wt (xs.drop (k + 1)) := by rw [← wt_append, List.take_append_drop]
        show wt [] + _ ≤ _
        rw [show wt [] = 0 by rfl]
        omega
      rw [htk]
      generalize (xs.take k).foldl glue [] = acc at ep hwk ⊢
      have done : ∀ ys : List V, ys = (glue acc x).map V.str → ∃ o : Option V, [some (.str z), some (.ref p), some (V.str x)] = [some (.str z), some (.ref p), o] ∧ Same H (upd G p (.lst ys)) ∧ upd G p (.lst ys) p = some (.lst ((glue acc x).map V.str)) ∧ upd G p (.lst ys) l = some (.lst (xs.map V.str)) := fun ys hy =>
        ⟨_, rfl, same_put sG np, by rw [upd_same, hy], by rw [upd_ne hlp]; exact el⟩
      have hacc := wt_len acc
      refine ⟨_, rfl, !(acc.map V.str).isEmpty, .inl ⟨_, SqL.of ep, rfl⟩, ?_⟩
      cases e : acc.getLast? with
      | none =>
        obtain rfl : acc = [] := List.getLast?_eq_none_iff.mp e
        refine iteF (iteF ⟨_, rfl, .inl ⟨rfl, _, SqL.of ep⟩, _, rfl, ?_⟩)
        dsimp only [tNil]
        exact ⟨p, _, _, rfl, rfl, ep, by show 0 < sizeLine; omega, done _ rfl⟩
      | some qq =>
        obtain ⟨ys, rfl⟩ := List.getLast?_eq_some_iff.mp e
        rw [List.map_append, List.map_cons, List.map_nil] at ep ⊢
        have hat := atI_last (ys.map V.str) (V.str qq)
        rw [show (!(ys.map V.str ++ [V.str qq]).isEmpty) = true by simp]
        have hlen : ((ys.map V.str ++ [V.str qq]).length : Nat) < sizeLine := by
          rw [List.length_append, List.length_map]
          rw [List.length_append] at hacc
          simp only [List.length_cons, List.length_nil] at hacc ⊢
          omega
        have app : ¬ (40 ∈ tl qq ∧ 41 ∉ tl qq) → (ys.map V.str ++ [V.str qq]) ++ [V.str x] = (glue (ys ++ [qq]) x).map V.str := fun h => by
          unfold glue
          rw [List.getLast?_concat]
          dsimp only
          rw [if_neg h]
          simp
        refine iteT ⟨_, rfl, 1, rfl, p, _, _, V.str qq, rfl, rfl, SqL.of ep, hat, 40, qq, rfl, rfl, ?_⟩
        by_cases h1 : 40 ∈ tl qq
        · refine ⟨true, congrArg V.bl (decide_eq_true h1), iteT ⟨_, rfl, 1, rfl, p, _, _, V.str qq, rfl, rfl, SqL.of ep, hat, 41, qq, rfl, rfl, ?_⟩⟩
          by_cases h2 : 41 ∈ tl qq
          · refine ⟨false, congrArg V.bl (by rw [decide_eq_true h2]; rfl), iteF ⟨_, rfl, .inl ⟨rfl, _, SqL.of ep⟩, _, rfl, ?_⟩⟩
            dsimp only [tNil]
            exact ⟨p, _, _, rfl, rfl, ep, hlen, done _ (app fun z => z.2 h2)⟩
          · have hq1 : qq.length + 2 ≤ wt (ys ++ [qq]) := wt_mem (List.mem_append_right _ (List.mem_singleton.mpr rfl))
            have h3 : (qq ++ (", " : Str)).length = qq.length + 2 := by rw [len_app]; rfl
            refine ⟨true, congrArg V.bl (by rw [decide_eq_false h2]; rfl), iteT ⟨_, rfl, 1, rfl, p, _, _, V.str qq, rfl, rfl, SqL.of ep, hat, qq, ", ", rfl, rfl, by rw [show (", " : Str).length = 2 by rfl]; omega, _, rfl, _, _, rfl, rfl, by rw [h3]; omega, _, rfl, 1, rfl, p, _, -1, ys.length, rfl, rfl, ep, ?_, done _ ?_⟩⟩
            · rw [List.length_append, List.length_map]
              unfold ixN
              rw [if_neg (by decide), if_pos (by simp; omega)]
              congr 1
              simp
              omega
            · unfold glue
              rw [List.getLast?_concat]
              dsimp only
              rw [if_pos ⟨h1, h2⟩, List.dropLast_concat]
              have hl : ys.length = (ys.map V.str).length := (List.length_map _).symm
              rw [hl, List.set_append_right _ _ (Nat.le_refl _)]
              simp
        · refine ⟨false, congrArg V.bl (decide_eq_false h1), iteF (iteF ⟨_, rfl, .inl ⟨rfl, _, SqL.of ep⟩, _, rfl, ?_⟩)⟩
          dsimp only [tNil]
          exact ⟨p, _, _, rfl, rfl, ep, hlen, done _ (app fun z => h1 z.1)⟩
    · rintro σ G ⟨o, rfl, sG, ep, el⟩
      rw [List.length_map, List.take_length, ← hunb] at ep
      exact ⟨_, rfl, q p G np sG ep⟩
end
end Nv
set_option maxHeartbeats 4000000
namespace Nv
open PySem PySem.Spec PyProof.Rows L2
def storeB : Option (List (Option (List (Option Str)))) → Bool
  | some ls => ls.all factB && decide ls.Nodup
  | none => false
theorem map_inj_nd {α β : Type} {f : α → β} (hf : ∀ x y, f x = f y → x = y) : ∀ {l : List α}, (l.map f).Nodup ↔ l.Nodup
  | [] => by simp
  | x :: l => by
    rw [List.map_cons, List.nodup_cons, List.nodup_cons, map_inj_nd hf]
    constructor
    · exact fun ⟨a, b⟩ => ⟨fun m => a (List.mem_map.mpr ⟨x, m, rfl⟩), b⟩
    · refine fun ⟨a, b⟩ => ⟨fun m => ?_, b⟩
      obtain ⟨y, hy, e⟩ := List.mem_map.mp m
      rw [hf _ _ e] at hy
      exact a hy
theorem some_map_inj {p q : List Str} (h : some (p.map some) = some (q.map some)) : p = q := by
  have h2 := congrArg (List.map fun o : Option Str => o.getD "") (Option.some.inj h)
  simpa [List.map_map, Function.comp_def] using h2
section
variable {P : Program} {w : World} {K : PySem.W.Frag} {mg : Str → Option Value} {base : Heap}
def spIsStore (K : PySem.W.Frag) : Sp := fun vs H Q _ => ∃ (v : V) (o : Option (List (Option (List (Option Str))))), vs = [v] ∧ Tps K H v o ∧ (∀ ls, o = some ls → ls.length < 64) ∧ ∀ H', Same H H' → Q (.bl (storeB o)) H'
theorem scIsStore : FnScope ["value", "part"] ["value"] (defScope sIsStore) := ⟨rfl, rfl, rfl, by decide +kernel, rfl, by decide +kernel, by decide +kernel⟩
theorem ok_isStore {f fN : Addr} {fd fdN : FuncData} (F : Fun K "is_store" "is_store" sIsStore f fd) (B : Bp mg)
    (GN : FnOk P w K mg base CX0 3 fN fdN ["value"] (spTup K factB)) (kN : PySem.W.keepIn K (.ref fN) = true) (gN : mg "is_fact" = some (.ref fN)) (bN : Binds K fdN ["value"] []) :
    FnOk P w K mg base CX0 4 f fd ["value"] (spIsStore K) := by
  refine F.ok scIsStore (fun vs H Q E h => ?_) (fun cdv A outer s H vs Q E hr h => ?_)
  · obtain ⟨v, o, rfl, _⟩ := h
    rfl
  · obtain ⟨v, o, rfl, h, few, q⟩ := h
    refine ⟨_, pss_one (ps_ret (pe_and (pe_callB call_isi (by rfl) B.isi bootIsi (pa_cons (pv 0) (pa_cons (pe_bltn (v := V.ty "list") (by rfl) B.lst PyProof.Rows.boot_list rfl) pa_nil)))
      (pe_and (pe_callB (cr_all rfl) (by rfl) B.all bootAll (pa_cons (by exact (pe_lc (own := [("part", 1)]) (g := gName 1) (tt := tYes) rfl scIsStore.nd (pi_list (pv 0))
          (blkOk_by (own := [("part", 1)]) (N := ["value", "part"]) (sc := defScope sIsStore) (by decide +kernel))
          (fun _ _ _ _ _ => pg_name (i := 1) scIsStore.nd rfl (Or.inl rfl)) (fun _ _ _ _ _ => pts_nil)
          (fun _ _ _ _ _ => by exact (pe_call GN hr (by rfl) gN kN bN .nil pass0 (pa_cons (pv 1) pa_nil))))) pa_nil))
      (pe_one (pe_cmpR op_eq (pe_distT hr.units (by rfl) B.len (by rfl) B.set (pv 0)) (pe_callB call_len (by rfl) B.len PySem.boot_len (pa_cons (pv 0) pa_nil)) (nomark _))))) ), ?_⟩
    cases o with
    | none =>
      obtain ⟨t, ht, hk⟩ := h
      refine ⟨_, rfl, _, _, _, _, false, rfl, .ty _, ht, hk, false, rfl, iteF ?_⟩
      exact q H (Same.refl H)
    | some ls =>
      obtain ⟨a, xs, rfl, e, ha, hl⟩ := h
      have hxl := ha.len
      have few := few ls rfl
      refine ⟨_, rfl, _, _, _, _, true, rfl, .ty _, tyx_lst e, kit_ty (by decide +kernel), true, rfl, iteT ?_⟩
      refine ⟨_, rfl, a, rfl, ⟨_, SqL.of e⟩, fun D nD => ?_⟩
      refine lc_list (K := K) (a := a) (xs := xs) (fun i H' => Same H H' ∧ H' D = some (.lst ((ls.take i).map fun o => V.bl (factB o)))) ⟨same_new nD, upd_same⟩ (fun i H' _ y => SqL.of (y.1 _ _ e)) ?_ ?_
      · rintro i y H3 hi ⟨s3, e3⟩
        obtain ⟨o2, ho2, hy⟩ := ha.at_ hi
        refine ⟨rfl, _, rfl, y, o2, rfl, hy.same s3, fun H4 s4 => ?_⟩
        refine ⟨_, s4 _ _ e3, ?_, same_put (s3.trans s4) nD, ?_⟩
        · rw [List.length_map, List.length_take]
          exact Nat.lt_of_le_of_lt (by omega : _ ≤ 1000) (by decide)
        · rw [upd_same, take_one ho2, List.map_append] <;> rfl
      · rintro H3 ⟨s3, e3⟩
        rw [hxl, List.take_length] at e3
        refine ⟨D, ls.map factB, rfl, SqL.of (by rw [e3, List.map_map] <;> rfl), ?_⟩
        rw [List.all_map]
        have q := q H3 s3
        have e0 : storeB (some ls) = (ls.all factB && decide ls.Nodup) := rfl
        rw [e0] at q
        refine ⟨_, rfl, ?_⟩
        have hall : (ls.all (id ∘ factB)) = ls.all factB := rfl
        rw [hall]
        cases hb : ls.all factB with
        | false =>
          rw [hb] at q
          exact iteF q
        | true =>
          rw [hb] at q
          refine iteT ?_
          obtain ⟨ps, hp, hps, _⟩ := facts_of ha hb
          have nd : ls.Nodup ↔ ps.Nodup := by
            rw [hps]
            exact map_inj_nd fun x y => some_map_inj
          have lp : ps.length = ls.length := by rw [hps, List.length_map]
          refine ⟨_, rfl, a, xs, ps, rfl, SqL.of (s3 _ _ e), hp.same s3, by omega, fun n h1 h2 => ?_⟩
          refine ⟨_, rfl, _, _, rfl, .inl ⟨xs, SqL.of (s3 _ _ e), rfl⟩, ?_⟩
          have ev : decide (V.int (n : Int) = V.int (xs.length : Int)) = decide ls.Nodup := by
            refine decide_eq_decide.mpr ?_
            rw [nd, ← h2]
            constructor
            · intro z
              injection z with z
              omega
            · intro z
              rw [z, lp, hxl]
          refine ⟨rfl, ?_⟩
          show Q (V.bl (decide (V.int (n : Int) = V.int (xs.length : Int)))) H3
          rw [ev]
          exact q
end
end Nv
set_option maxHeartbeats 4000000
namespace Nv
open PySem PySem.Spec PyProof.Rows L2 TL
/-! # comprehensions over a list, element by element: into texts, into tuples of texts -/
theorem PaL.over {H : Hp} {D : Addr} {xs : List V} {o : HO} {vs : List V} {ps : List (List Str)} (h : PaL H vs ps) (e : H D = some (.lst xs)) : PaL (upd H D o) vs ps := by
  induction h with
  | nil => exact .nil
  | cons e1 _ ih => exact .cons (by rw [upd_ne (fun z => by rw [z, e] at e1; cases e1)]; exact e1) ih
theorem getD_str {p : List Str} {i : Nat} (h : i < p.length) : (p.map V.str)[i]? = some (.str (p.getD i "")) := by
  rw [List.getElem?_map, List.getD_eq_getElem?_getD, List.getElem?_eq_getElem h] <;> rfl
theorem filter_take {α : Type} {f : α → Bool} {l : List α} {i : Nat} {x : α} (h : l[i]? = some x) : (l.take (i + 1)).filter f = (l.take i).filter f ++ if f x = true then [x] else [] := by
  rw [take_one h, List.filter_append]
  cases hf : f x
  · rw [List.filter_cons_of_neg (by rw [hf]; exact Bool.false_ne_true), if_neg Bool.false_ne_true] <;> rfl
  · rw [List.filter_cons_of_pos hf, if_pos rfl] <;> rfl
section
variable {K : PySem.W.Frag} {a D : Addr} {xs : List V} {g : TG} {tt : TT} {te : TE} {vs : List Nat} {σ : L2.St} {H1 : Hp} {Qd : Hp → Prop} {α : Type} {ds : List α} {S : V → α → Prop} {b : α → Bool}
theorem lc_txt {f : α → Str} (ha : SqL K H1 a xs) (nD : H1 D = none) (few : ds.length ≤ 100000) (le : xs.length = ds.length) (at_ : ∀ (i : Nat) (v : V), xs[i]? = some v → ∃ d, ds[i]? = some d ∧ S v d)
    (hs : ∀ v d (H : Hp) (R : V → Hp → Prop) (N : Hp → Prop), d ∈ ds → S v d → Same H1 H → (b d = true → ∀ H', Same H H' → R (.str (f d)) H') → (b d = false → ∀ H', Same H H' → N H') →
      g v (wipe σ vs) H fun σ2 H2 => wipe σ2 vs = wipe σ vs ∧ tt σ2 H2 fun c H3 => if c = true then te σ2 H3 R else N H3)
    (hd : ∀ H, Same H1 H → H D = some (.lst (((ds.filter b).map f).map V.str)) → Qd H) :
    ∃ W : Nat → Nat → Hp → Prop, (∃ m, W 0 m (upd H1 D (.lst []))) ∧ ∀ i m H, W i m H →
      ((Itl K a).stop i H ∧ Qd H) ∨ ((Itl K a).go i H ∧ ∃ Nx : Hp → Prop, (∀ H', Nx H' → ∃ m', m' < m ∧ W (i + 1) m' H') ∧ ∀ x H', (Itl K a).yld i H x H' → g x (wipe σ vs) H' fun σ2 H2 => wipe σ2 vs = wipe σ vs ∧ tt σ2 H2 fun b H3 =>
        if b = true then te σ2 H3 fun y H4 => ∃ acc, H4 D = some (.lst acc) ∧ acc.length < sizeLine ∧ Nx (upd H4 D (.lst (acc ++ [y]))) else Nx H3) := by
  refine lc_list (K := K) (a := a) (xs := xs) (fun i H => Same H1 H ∧ H D = some (.lst ((((ds.take i).filter b).map f).map V.str))) ⟨same_new nD, upd_same⟩ (fun i H _ y => y.1.seq ha) ?_ ?_
  · rintro i v H hi ⟨s, e⟩
    obtain ⟨d, hd, sv⟩ := at_ i v hi
    have ft := filter_take (f := b) hd
    refine hs v d H _ _ (List.mem_of_getElem? hd) sv s (fun hb H' s' => ⟨_, s' _ _ e, ?_, same_put (s.trans s') nD, ?_⟩) fun hb H' s' => ⟨s.trans s', ?_⟩
    · rw [List.length_map, List.length_map]
      have h2 := List.length_filter_le b (ds.take i)
      rw [List.length_take] at h2
      exact Nat.lt_of_le_of_lt (by omega : _ ≤ 100000) (by decide)
    · rw [upd_same, ft, if_pos hb, List.map_append, List.map_append]
      rfl
    · rw [s' _ _ e, ft, if_neg (by rw [hb]; exact Bool.false_ne_true), List.append_nil]
  · rintro H ⟨s, e⟩
    rw [le, List.take_length] at e
    exact hd H s e
theorem lc_pat {f : α → List Str} (ha : SqL K H1 a xs) (nD : H1 D = none) (few : ds.length ≤ 100000) (le : xs.length = ds.length) (at_ : ∀ (i : Nat) (v : V), xs[i]? = some v → ∃ d, ds[i]? = some d ∧ S v d)
    (hs : ∀ v d (H : Hp) (R : V → Hp → Prop) (N : Hp → Prop), d ∈ ds → S v d → Same H1 H → (b d = true → ∀ t H', Same H H' → H' t = some (.tup ((f d).map V.str)) → R (.ref t) H') → (b d = false → ∀ H', Same H H' → N H') →
      g v (wipe σ vs) H fun σ2 H2 => wipe σ2 vs = wipe σ vs ∧ tt σ2 H2 fun c H3 => if c = true then te σ2 H3 R else N H3)
    (hd : ∀ H ws, Same H1 H → H D = some (.lst ws) → PaL H ws ((ds.filter b).map f) → Qd H) :
    ∃ W : Nat → Nat → Hp → Prop, (∃ m, W 0 m (upd H1 D (.lst []))) ∧ ∀ i m H, W i m H →
      ((Itl K a).stop i H ∧ Qd H) ∨ ((Itl K a).go i H ∧ ∃ Nx : Hp → Prop, (∀ H', Nx H' → ∃ m', m' < m ∧ W (i + 1) m' H') ∧ ∀ x H', (Itl K a).yld i H x H' → g x (wipe σ vs) H' fun σ2 H2 => wipe σ2 vs = wipe σ vs ∧ tt σ2 H2 fun b H3 =>
        if b = true then te σ2 H3 fun y H4 => ∃ acc, H4 D = some (.lst acc) ∧ acc.length < sizeLine ∧ Nx (upd H4 D (.lst (acc ++ [y]))) else Nx H3) := by
  refine lc_list (K := K) (a := a) (xs := xs) (fun i H => Same H1 H ∧ ∃ ws, H D = some (.lst ws) ∧ PaL H ws (((ds.take i).filter b).map f)) ⟨same_new nD, [], upd_same, .nil⟩ (fun i H _ y => y.1.seq ha) ?_ ?_
  · rintro i v H hi ⟨s, ws, e, hw⟩
    obtain ⟨d, hd, sv⟩ := at_ i v hi
    have ft := filter_take (f := b) hd
    refine hs v d H _ _ (List.mem_of_getElem? hd) sv s (fun hb t H' s' et => ⟨_, s' _ _ e, ?_, same_put (s.trans s') nD, _, upd_same, ?_⟩) fun hb H' s' => ⟨s.trans s', ws, s' _ _ e, ?_⟩
    · have h1 := hw.len
      rw [List.length_map] at h1
      have h2 := List.length_filter_le b (ds.take i)
      rw [List.length_take] at h2
      exact Nat.lt_of_le_of_lt (by omega : _ ≤ 100000) (by decide)
    · rw [ft, if_pos hb, List.map_append]
      exact ((hw.same s').over (s' _ _ e)).app (.cons (by rw [upd_ne (fun w => by rw [w, s' _ _ e] at et; cases et)]; exact et) .nil)
    · rw [ft, if_neg (by rw [hb]; exact Bool.false_ne_true), List.append_nil]
      exact hw.same s'
  · rintro H ⟨s, ws, e, hw⟩
    rw [le, List.take_length] at hw
    exact hd H ws s e hw
end
/-- a list's texts, its tuples, as the lemmas above want them -/
theorem at_strs {xs : List Str} : ∀ (i : Nat) (v : V), (xs.map V.str)[i]? = some v → ∃ d, xs[i]? = some d ∧ v = V.str d := fun i v h => by
  rw [List.getElem?_map] at h
  cases hg : xs[i]? with
  | none => rw [hg] at h; cases h
  | some x =>
    rw [hg] at h
    exact ⟨x, rfl, (Option.some.inj h).symm⟩
def TupAt (H : Hp) (v : V) (p : List Str) : Prop := ∃ t, v = .ref t ∧ H t = some (.tup (p.map V.str))
theorem PaL.ats {H : Hp} {vs : List V} {ps : List (List Str)} (h : PaL H vs ps) : ∀ (i : Nat) (v : V), vs[i]? = some v → ∃ p, ps[i]? = some p ∧ TupAt H v p := fun i v hi => by
  obtain ⟨t, p, e, hp, et⟩ := h.at_ hi
  exact ⟨p, hp, t, e, et⟩
end Nv
set_option maxHeartbeats 4000000
namespace Nv
open PySem PySem.Spec PyProof.Rows L2 TL
/-! # conditions_in -/
theorem unb_wt (z : Str) : wt (unb z) = z.length + 2 := by
  unfold unb
  rw [glues_wt, wt_split]
  show wt [] + _ = _
  rw [show wt [] = 0 by rfl, Nat.zero_add]
abbrev nCin : List Str := ["text", "conditions", "pairs", "others", "denied", "told", "piece"]
/-- lists of tuples of texts in a triple -/
def spCondIn (K : PySem.W.Frag) : Sp := fun vs H Q _ => ∃ z : Str, vs = [.str z] ∧ z.length ≤ 100000 ∧
  ∀ (t l1 l2 l3 : Addr) (us us2 us3 : List V) (H' : Hp), Same H H' → H' t = some (.tup [.ref l1, .ref l2, .ref l3]) → (H' l1 = some (.lst us) ∧ PaL H' us (cTold (unb z))) → (H' l2 = some (.lst us2) ∧ PaL H' us2 (cPairs (unb z))) → (H' l3 = some (.lst us3) ∧ PaL H' us3 (cDenied (unb z))) → Q (.ref t) H'
section
variable {P : Program} {w : World} {K : PySem.W.Frag} {mg : Str → Option Value} {base : Heap}
theorem scConditionsIn : FnScope nCin ["text"] (defScope sConditionsIn) := ⟨rfl, rfl, rfl, by decide +kernel, rfl, by decide +kernel, by decide +kernel⟩
theorem ok_conditionsIn {f fU fP : Addr} {fd dU dP : FuncData} (F : Fun K "conditions_in" "conditions_in" sConditionsIn f fd) (B : Bp mg)
    (GU : FnOk P w K mg base CX0 1 fU dU ["text"] (spUnb K)) (kU : PySem.W.keepIn K (.ref fU) = true) (gU : mg "_unbracketed" = some (.ref fU)) (bU : Binds K dU ["text"] [])
    (GP : FnOk P w K mg base CX0 1 fP dP ["text"] (spPatIn K)) (kP : PySem.W.keepIn K (.ref fP) = true) (gP : mg "pattern_in" = some (.ref fP)) (bP : Binds K dP ["text"] []) :
    FnOk P w K mg base CX0 2 f fd ["text"] (spCondIn K) := by
  refine F.ok scConditionsIn (fun vs H Q E h => ?_) (fun cdv A outer s H vs Q E hr h => ?_)
  · obtain ⟨z, rfl, _⟩ := h
    rfl
  · obtain ⟨z, rfl, hz, q⟩ := h
    refine ⟨_, pss_cons (ps_set (i := 1) scConditionsIn.nd rfl (Or.inl rfl) (by exact (pe_call GU hr (by rfl) gU kU bU .nil pass0 (pa_cons (pv 0) pa_nil))))
      (pss_cons (by exact (ps_setLc (i := 2) (own := [("piece", 6)]) (g := gName 6) (tt := tTest (tOp (fun x y H Q => ∃ i j, x = .str i ∧ y = .str j ∧ Q (.bl (!(Builtin.Str.occurrences j i 0 j.length 1).isEmpty)) H) (tC (.str " unlike ")) (tVar 6)))
          (te := tCB (fun xs H Q => ∃ p ys, xs = [.ref p] ∧ ((SqL K H p ys ∧ ∀ l, H l = none → Q (.ref l) (upd H l (.tup ys))) ∨ (SqT K H p ys ∧ Q (.ref p) H))) (tCons (tM1 (fun x xs H Q => ∃ a b, x = .str a ∧ xs = [.str b] ∧ (b.length == 0) = false ∧ a.length + 2 ≤ sizeLine ∧ rNewStrs (Txt.split a b) H Q) (tVar 6) (tC (.str " unlike "))) tNil)) rfl scConditionsIn.nd rfl rfl (sw_true rfl rfl rfl (by decide +kernel))
          (pi_list (pv 1))
          (blkOk_by (own := [("piece", 6)]) (N := nCin) (sc := defScope sConditionsIn) (by decide +kernel))
          (fun _ _ _ _ _ => pg_name (i := 6) scConditionsIn.nd rfl (Or.inl rfl)) (fun _ _ _ _ _ => pts_one (by exact (pt_cmpR op_in_str pe_str (pv 6) (by rfl))))
          (fun _ _ _ _ _ => by exact (pe_callTy call_tuple_of (by rfl) B.tup PyProof.Rows.boot_tuple (pa_cons (by exact (pe_split (pv 6) pe_str)) pa_nil)))))
      (pss_cons (by exact (ps_setLc (i := 3) (own := [("piece", 6)]) (g := gName 6) (tt := tTest (tOp (fun x y H Q => ∃ i j, x = .str i ∧ y = .str j ∧ Q (.bl (!(!(Builtin.Str.occurrences j i 0 j.length 1).isEmpty))) H) (tC (.str " unlike ")) (tVar 6)))
          (te := tVar 6) rfl scConditionsIn.nd rfl rfl (sw_true rfl rfl rfl (by decide +kernel))
          (pi_list (pv 1))
          (blkOk_by (own := [("piece", 6)]) (N := nCin) (sc := defScope sConditionsIn) (by decide +kernel))
          (fun _ _ _ _ _ => pg_name (i := 6) scConditionsIn.nd rfl (Or.inl rfl)) (fun _ _ _ _ _ => pts_one (by exact (pt_cmpR op_notin_str pe_str (pv 6) (by rfl))))
          (fun _ _ _ _ _ => by exact (pv 6))))
      (pss_cons (by exact (ps_setLc (i := 4) (own := [("piece", 6)]) (g := gName 6) (tt := tB (tM1 (fun x xs H Q => ∃ a b, x = .str a ∧ xs = [.str b] ∧ Q (.bl (Txt.startswith a b)) H) (tVar 6) (tC (.str "not "))))
          (te := tCall (spPatIn K) [] E0 (tCons (tSl rSlS (tVar 6) (tPart (tCB (fun xs H Q => ∃ z, xs = [.str z] ∧ z.length ≤ sizeLine ∧ Q (.int z.length) H) (tCons (tC (.str "not ")) tNil))) tNoPart) tNil)) rfl scConditionsIn.nd rfl rfl (sw_true rfl rfl rfl (by decide +kernel))
          (pi_list (pv 3))
          (blkOk_by (own := [("piece", 6)]) (N := nCin) (sc := defScope sConditionsIn) (by decide +kernel))
          (fun _ _ _ _ _ => pg_name (i := 6) scConditionsIn.nd rfl (Or.inl rfl)) (fun _ _ _ _ _ => pts_one (by exact (pt_val (pe_m1 PySem.F.slot_str_startswith PySem.F.type_str_startswith mt_startswith (pv 6) pe_str))))
          (fun _ _ _ _ _ => by exact (pe_call GP hr (by rfl) gP kP bP .nil pass0 (pa_cons (pe_slice sl_str (pv 6) (po_some (pe_callB call_len_str (by rfl) B.len PySem.boot_len (pa_cons pe_str pa_nil))) po_none) pa_nil)))))
      (pss_cons (by exact (ps_setLc (i := 5) (own := [("piece", 6)]) (g := gName 6) (tt := tNot (tB (tM1 (fun x xs H Q => ∃ a b, x = .str a ∧ xs = [.str b] ∧ Q (.bl (Txt.startswith a b)) H) (tVar 6) (tC (.str "not ")))))
          (te := tCall (spPatIn K) [] E0 (tCons (tVar 6) tNil)) rfl scConditionsIn.nd rfl rfl (sw_true rfl rfl rfl (by decide +kernel))
          (pi_list (pv 3))
          (blkOk_by (own := [("piece", 6)]) (N := nCin) (sc := defScope sConditionsIn) (by decide +kernel))
          (fun _ _ _ _ _ => pg_name (i := 6) scConditionsIn.nd rfl (Or.inl rfl)) (fun _ _ _ _ _ => pts_one (by exact (pt_not (pt_val (pe_m1 PySem.F.slot_str_startswith PySem.F.type_str_startswith mt_startswith (pv 6) pe_str)))))
          (fun _ _ _ _ _ => by exact (pe_call GP hr (by rfl) gP kP bP .nil pass0 (pa_cons (pv 6) pa_nil)))))
      (pss_one (ps_ret (pe_tup (pa_cons (pv 5) (pa_cons (pv 2) (pa_cons (pv 4) pa_nil)))))))))), ?_⟩
    have hs : 200000 ≤ sizeLine := by decide
    have hw := unb_wt z
    have hu : ∀ c ∈ unb z, c.length ≤ 100000 := fun c hc => by
      have := wt_mem hc
      omega
    have hl : (unb z).length ≤ 100000 := by
      have := wt_len (unb z)
      omega
    refine ⟨_, rfl, ?_⟩
    dsimp only [tNil]
    refine ⟨z, rfl, hz, fun l1 H1 n1 s1 e1 => ?_⟩
    generalize unb z = cs at q e1 hw hu hl
    show tSeq _ _ _ _ _
    refine ⟨_, rfl, l1, rfl, ⟨_, SqL.of e1⟩, fun D nD => ?_⟩
    refine lc_pat (K := K) (a := l1) (xs := cs.map V.str) (ds := cs) (S := fun v d => v = V.str d) (b := hasU) (f := fun c => Txt.split c " unlike ") (SqL.of e1) nD hl (List.length_map _) at_strs ?_ ?_
    · rintro v d H R N hd rfl sm hR hN
      refine ⟨rfl, _, rfl, _, _, rfl, rfl, _, rfl, ?_⟩
      show if hasU d = true then _ else _
      cases hb : hasU d with
      | false => exact iteF (hN hb H (Same.refl H))
      | true =>
        have hdl := hu d hd
        refine iteT ⟨_, rfl, ⟨_, rfl⟩, _, _, rfl, rfl, by decide, by omega, fun l nl => ?_⟩
        dsimp only [tNil]
        refine ⟨l, _, rfl, .inl ⟨SqL.of upd_same, fun t nt => ?_⟩⟩
        exact hR hb t _ ((same_new nl).trans (same_new nt)) upd_same
    intro H2 us2 s2 e2 p2
    have s02 := s1.trans s2
    have e12 := s2 _ _ e1
    show tSeq _ _ _ _ _
    refine ⟨_, rfl, l1, rfl, ⟨_, SqL.of e12⟩, fun D3 nD3 => ?_⟩
    refine lc_txt (K := K) (a := l1) (xs := cs.map V.str) (ds := cs) (S := fun v d => v = V.str d) (b := fun c => !hasU c) (f := id) (SqL.of e12) nD3 hl (List.length_map _) at_strs ?_ ?_
    · rintro v d H R N hd rfl sm hR hN
      refine ⟨rfl, _, rfl, _, _, rfl, rfl, _, rfl, ?_⟩
      show if (!hasU d) = true then _ else _
      cases hb : (!hasU d) with
      | false => exact iteF (hN hb H (Same.refl H))
      | true => exact iteT ⟨_, rfl, hR hb H (Same.refl H)⟩
    intro H3 s3 e3
    have s03 := s02.trans s3
    rw [List.map_id] at e3
    have hrest : (cs.filter fun c => !hasU c) = cRest cs := rfl
    rw [hrest] at e3
    have hul : ∀ c ∈ cRest cs, c.length ≤ 100000 := fun c hc => hu c (List.mem_filter.mp hc).1
    have hll : (cRest cs).length ≤ 100000 := Nat.le_trans (List.length_filter_le _ _) hl
    have q3 : ∀ (t : Addr) (us us3 : List V) (H' : Hp) (l l3 : Addr), Same H3 H' → H' t = some (.tup [.ref l, .ref D, .ref l3]) → (H' l = some (.lst us) ∧ PaL H' us (((cRest cs).filter fun c => !hasN c).map pIn)) → (H' l3 = some (.lst us3) ∧ PaL H' us3 (((cRest cs).filter hasN).map fun c => pIn (cutS c (some 4) none))) → Q (.ref t) H' := fun t us us3 H' l l3 s et h1 h3 =>
      q t l D l3 us us2 us3 H' (s03.trans s) et h1 ⟨s _ _ (s3 _ _ e2), p2.same (s3.trans s)⟩ h3
    clear q
    generalize cRest cs = rs at e3 hul hll q3
    show tSeq _ _ _ _ _
    refine ⟨_, rfl, D3, rfl, ⟨_, SqL.of e3⟩, fun D4 nD4 => ?_⟩
    refine lc_pat (K := K) (a := D3) (xs := rs.map V.str) (ds := rs) (S := fun v d => v = V.str d) (b := hasN) (f := fun c => pIn (cutS c (some 4) none)) (SqL.of e3) nD4 hll (List.length_map _) at_strs ?_ ?_
    · rintro v d H R N hd rfl sm hR hN
      refine ⟨rfl, _, rfl, ⟨_, rfl⟩, _, _, rfl, rfl, _, rfl, ?_⟩
      show if hasN d = true then _ else _
      cases hb : hasN d with
      | false => exact iteF (hN hb H (Same.refl H))
      | true =>
        have hdl := hul d hd
        have hc := cutS_length d (some 4) none
        refine iteT ⟨_, rfl, _, rfl, by decide, _, rfl, _, rfl, by omega, ?_⟩
        dsimp only [tNil]
        exact ⟨_, rfl, Nat.le_trans hc hdl, fun t H' n s e => hR hb t H' s e⟩
    intro H4 us4 s4 e4 p4
    have e34 := s4 _ _ e3
    show tSeq _ _ _ _ _
    refine ⟨_, rfl, D3, rfl, ⟨_, SqL.of e34⟩, fun D5 nD5 => ?_⟩
    refine lc_pat (K := K) (a := D3) (xs := rs.map V.str) (ds := rs) (S := fun v d => v = V.str d) (b := fun c => !hasN c) (f := pIn) (SqL.of e34) nD5 hll (List.length_map _) at_strs ?_ ?_
    · rintro v d H R N hd rfl sm hR hN
      refine ⟨rfl, _, rfl, ⟨_, rfl⟩, _, _, rfl, rfl, _, rfl, ?_⟩
      show if (!hasN d) = true then _ else _
      cases hb : (!hasN d) with
      | false => exact iteF (hN hb H (Same.refl H))
      | true =>
        refine iteT ⟨_, rfl, ?_⟩
        dsimp only [tNil]
        exact ⟨_, rfl, hul d hd, fun t H' n s e => hR hb t H' s e⟩
    intro H5 us5 s5 e5 p5
    refine ⟨_, rfl, _, rfl, _, rfl, ?_⟩
    dsimp only [tNil]
    refine ⟨by show 3 ≤ _; decide, fun t nt => ?_⟩
    have s6 := same_new (H := H5) (p := t) (o := HO.tup [.ref D5, .ref D, .ref D4]) nt
    exact q3 t us5 us4 _ D5 D4 ((s4.trans s5).trans s6) upd_same ⟨s6 _ _ e5, p5.same s6⟩ ⟨s6 _ _ (s5 _ _ e4), p4.same (s5.trans s6)⟩
end
end Nv
set_option maxHeartbeats 4000000
namespace Nv
open PySem PySem.Spec PyProof.Rows L2 TL
/-! # conditions_text -/
theorem tm10 {z : Str} (h : IsTm z) : z.length ≤ 10 := tm_len h
theorem pairT_len {q : List Str} (h : PairOk q) : (pairT q).length ≤ 64 := by
  obtain ⟨x, y, rfl, _, hx, hy, _⟩ := h
  show (x ++ " unlike " ++ y).length ≤ 64
  rw [len_app, len_app, show (" unlike " : Str).length = 8 by decide +kernel]
  have := tm10 hx
  have := tm10 hy
  omega
theorem notT_len {d : List Str} (h : PatOk d) : (notT d).length ≤ 64 := by
  show (("not " : Str) ++ patT d).length ≤ 64
  rw [len_app, show ("not " : Str).length = 4 by decide +kernel]
  have := patT_len h.sht
  omega
theorem condT_len {ps qs ds : List (List Str)} (hp : ∀ p ∈ ps, PatOk p) (hq : ∀ q ∈ qs, PairOk q) (hd : ∀ d ∈ ds, PatOk d) : ∀ c ∈ condT ps qs ds, c.length ≤ 64 := by
  intro c hc
  unfold condT at hc
  rcases List.mem_append.mp hc with hc | hc
  · rcases List.mem_append.mp hc with hc | hc
    · obtain ⟨p, h, rfl⟩ := List.mem_map.mp hc
      have := patT_len (hp p h).sht
      omega
    · obtain ⟨q, h, rfl⟩ := List.mem_map.mp hc
      exact pairT_len (hq q h)
  · obtain ⟨d, h, rfl⟩ := List.mem_map.mp hc
    exact notT_len (hd d h)
theorem condT_num {ps qs ds : List (List Str)} : (condT ps qs ds).length = ps.length + qs.length + ds.length := by
  unfold condT
  rw [List.length_append, List.length_append, List.length_map, List.length_map, List.length_map]
theorem joinC_len {ps qs ds : List (List Str)} (hp : ∀ p ∈ ps, PatOk p) (hq : ∀ q ∈ qs, PairOk q) (hd : ∀ d ∈ ds, PatOk d) (l1 : ps.length ≤ 300) (l2 : qs.length ≤ 300) (l3 : ds.length ≤ 300) :
    ((condT ps qs ds).map (·.length)).sum + (condT ps qs ds).length * (", " : Str).length ≤ 60000 := by
  have h1 := sum_le (c := 64) (condT_len hp hq hd)
  rw [show (", " : Str).length = 2 by decide +kernel]
  have h2 := condT_num (ps := ps) (qs := qs) (ds := ds)
  omega
theorem fil_true {α : Type} (l : List α) : l.filter (fun _ => true) = l := List.filter_eq_self.mpr fun _ _ => rfl
abbrev nCtx : List Str := ["told", "pairs", "denied", "texts", "pattern", "one", "other"]
def spCondT (K : PySem.W.Frag) : Sp := fun vs H Q _ => ∃ (l1 l2 l3 : Addr) (us us2 us3 : List V) (ps qs ds : List (List Str)), vs = [.ref l1, .ref l2, .ref l3] ∧ (H l1 = some (.lst us) ∧ PaL H us ps) ∧ (H l2 = some (.lst us2) ∧ PaL H us2 qs) ∧ (H l3 = some (.lst us3) ∧ PaL H us3 ds) ∧
  ((∀ p ∈ ps, PatOk p) ∧ ps.length ≤ 300) ∧ ((∀ q ∈ qs, PairOk q) ∧ qs.length ≤ 300) ∧ ((∀ d ∈ ds, PatOk d) ∧ ds.length ≤ 300) ∧ ∀ H', Same H H' → Q (.str (tailT ps qs ds)) H'
section
variable {P : Program} {w : World} {K : PySem.W.Frag} {mg : Str → Option Value} {base : Heap}
theorem scConditionsText : FnScope nCtx ["told", "pairs", "denied"] (defScope sConditionsText) := ⟨rfl, rfl, rfl, by decide +kernel, rfl, by decide +kernel, by decide +kernel⟩
theorem ok_conditionsText {f fT : Addr} {fd dT : FuncData} (F : Fun K "conditions_text" "conditions_text" sConditionsText f fd)
    (GT : FnOk P w K mg base CX0 1 fT dT ["pattern"] (spPatT K)) (kT : PySem.W.keepIn K (.ref fT) = true) (gT : mg "pattern_text" = some (.ref fT)) (bT : Binds K dT ["pattern"] []) :
    FnOk P w K mg base CX0 2 f fd ["told", "pairs", "denied"] (spCondT K) := by
  refine F.ok scConditionsText (fun vs H Q E h => ?_) (fun cdv A outer s H vs Q E hr h => ?_)
  · obtain ⟨l1, l2, l3, us, us2, us3, ps, qs, ds, rfl, _⟩ := h
    rfl
  · obtain ⟨l1, l2, l3, us, us2, us3, ps, qs, ds, rfl, ⟨e1, p1⟩, ⟨e2, p2⟩, ⟨e3, p3⟩, ⟨hp, lp⟩, ⟨hq, lq⟩, ⟨hd, ld⟩, q⟩ := h
    refine ⟨_, pss_cons (by exact (ps_setLc (i := 3) (own := [("pattern", 4)]) (g := gName 4) (tt := tYes) (te := tCall (spPatT K) [] E0 (tCons (tVar 4) tNil)) rfl scConditionsText.nd rfl rfl (sw_true rfl rfl rfl (by decide +kernel))
          (pi_list (pv 0))
          (blkOk_by (own := [("pattern", 4)]) (N := nCtx) (sc := defScope sConditionsText) (by decide +kernel))
          (fun _ _ _ _ _ => pg_name (i := 4) scConditionsText.nd rfl (Or.inl rfl)) (fun _ _ _ _ _ => pts_nil)
          (fun _ _ _ _ _ => by exact (pe_call GT hr (by rfl) gT kT bT .nil pass0 (pa_cons (pv 4) pa_nil)))))
      (pss_cons (ps_set (i := 3) scConditionsText.nd rfl (Or.inl rfl) (pe_op op_cat (pv 3) (by exact (pe_lc (own := [("one", 5), ("other", 6)]) (g := gTup K 2 (gCons (gName 5) (gCons (gName 6) gNil))) (tt := tYes)
          (te := tOp (fun x y H Q => ∃ i j, x = .str i ∧ y = .str j ∧ i.length + j.length ≤ sizeLine ∧ Q (.str (i ++ j)) H) (tOp (fun x y H Q => ∃ i j, x = .str i ∧ y = .str j ∧ i.length + j.length ≤ sizeLine ∧ Q (.str (i ++ j)) H) (tVar 5) (tC (.str " unlike "))) (tVar 6)) rfl scConditionsText.nd (pi_list (pv 1))
          (blkOk_by (own := [("one", 5), ("other", 6)]) (N := nCtx) (sc := defScope sConditionsText) (by decide +kernel))
          (fun _ _ _ _ _ => pg_tup rfl (pgs_cons (pg_name (i := 5) scConditionsText.nd rfl (Or.inl rfl)) (pgs_cons (pg_name (i := 6) scConditionsText.nd rfl (Or.inl rfl)) pgs_nil))) (fun _ _ _ _ _ => pts_nil)
          (fun _ _ _ _ _ => by exact (pe_op op_add_str (pe_op op_add_str (pv 5) pe_str) (pv 6)))))))
      (pss_cons (ps_set (i := 3) scConditionsText.nd rfl (Or.inl rfl) (pe_op op_cat (pv 3) (by exact (pe_lc (own := [("pattern", 4)]) (g := gName 4) (tt := tYes)
          (te := tOp (fun x y H Q => ∃ i j, x = .str i ∧ y = .str j ∧ i.length + j.length ≤ sizeLine ∧ Q (.str (i ++ j)) H) (tC (.str "not ")) (tCall (spPatT K) [] E0 (tCons (tVar 4) tNil))) rfl scConditionsText.nd (pi_list (pv 2))
          (blkOk_by (own := [("pattern", 4)]) (N := nCtx) (sc := defScope sConditionsText) (by decide +kernel))
          (fun _ _ _ _ _ => pg_name (i := 4) scConditionsText.nd rfl (Or.inl rfl)) (fun _ _ _ _ _ => pts_nil)
          (fun _ _ _ _ _ => by exact (pe_op op_add_str pe_str (by exact (pe_call GT hr (by rfl) gT kT bT .nil pass0 (pa_cons (pv 4) pa_nil)))))))))
      (pss_one (ps_ret (pe_ifExp (pt_truth (pv 3) (by intro _; rfl)) (pe_op op_add_str pe_str (by exact (pe_join pe_str (pv 3)))) pe_str))))), ?_⟩
    have hs : 200000 ≤ sizeLine := by decide
    refine ⟨_, rfl, l1, rfl, ⟨_, SqL.of e1⟩, fun D1 nD1 => ?_⟩
    refine lc_txt (K := K) (a := l1) (xs := us) (ds := ps) (S := TupAt H) (b := fun _ => true) (f := patT) (SqL.of e1) nD1 (by omega) p1.len p1.ats ?_ ?_
    · rintro v d H R N hd ⟨t, rfl, et⟩ sm hR hN
      refine ⟨rfl, _, rfl, ?_⟩
      dsimp only [tNil]
      exact ⟨t, d, rfl, sm _ _ et, (hp d hd).sht, fun H' s => hR rfl H' s⟩
    intro H1 s1 t1
    rw [fil_true] at t1
    show tSeq _ _ _ _ _
    refine ⟨_, rfl, _, rfl, l2, rfl, ⟨_, SqL.of (s1 _ _ e2)⟩, fun D2 nD2 => ?_⟩
    refine lc_txt (K := K) (a := l2) (xs := us2) (ds := qs) (S := TupAt H) (b := fun _ => true) (f := pairT) (SqL.of (s1 _ _ e2)) nD2 (by omega) p2.len p2.ats ?_ ?_
    · rintro v d G R N hdq ⟨t, rfl, et⟩ sm hR hN
      obtain ⟨x, y, rfl, _, hx, hy, _⟩ := hq d hdq
      have hx1 := tm10 hx
      have hy1 := tm10 hy
      refine ⟨t, _, rfl, SqT.of (sm _ _ (s1 _ _ et)), rfl, _, _, rfl, _, _, rfl, rfl, rfl, _, rfl, _, _, rfl, rfl, ?_, _, rfl, _, _, rfl, rfl, ?_, ?_⟩
      · rw [show (" unlike " : Str).length = 8 by decide +kernel]
        omega
      · rw [len_app, show (" unlike " : Str).length = 8 by decide +kernel]
        omega
      · exact hR rfl G (Same.refl G)
    intro H2 s2 t2
    rw [fil_true] at t2
    have s02 := s1.trans s2
    refine ⟨D1, D2, _, _, rfl, rfl, s2 _ _ t1, t2, by rw [List.length_map, List.length_map, List.length_map, List.length_map]; omega, fun r nr => ?_⟩
    rw [← List.map_append]
    have s3 := same_new (o := HO.lst ((ps.map patT ++ qs.map pairT).map V.str)) nr
    have t3 : upd H2 r (HO.lst ((ps.map patT ++ qs.map pairT).map V.str)) r = some _ := upd_same
    generalize upd H2 r (HO.lst ((ps.map patT ++ qs.map pairT).map V.str)) = H3 at s3 t3 ⊢
    have s03 := s02.trans s3
    show tSeq _ _ _ _ _
    refine ⟨_, rfl, _, rfl, l3, rfl, ⟨_, SqL.of (s03 _ _ e3)⟩, fun D4 nD4 => ?_⟩
    refine lc_txt (K := K) (a := l3) (xs := us3) (ds := ds) (S := TupAt H) (b := fun _ => true) (f := notT) (SqL.of (s03 _ _ e3)) nD4 (by omega) p3.len p3.ats ?_ ?_
    · rintro v d G R N hdd ⟨t, rfl, et⟩ sm hR hN
      have hl := patT_len (hd d hdd).sht
      refine ⟨rfl, _, rfl, ?_⟩
      dsimp only [tNil]
      refine ⟨t, d, rfl, sm _ _ (s03 _ _ et), (hd d hdd).sht, fun H' s => ⟨_, _, rfl, rfl, ?_, hR rfl H' s⟩⟩
      rw [show ("not " : Str).length = 4 by decide +kernel]
      omega
    intro H4 s4 t4
    rw [fil_true] at t4
    have s04 := s03.trans s4
    refine ⟨r, D4, _, _, rfl, rfl, s4 _ _ t3, t4, by rw [List.length_map, List.length_append, List.length_map, List.length_map, List.length_map, List.length_map]; omega, fun r5 nr5 => ?_⟩
    rw [← List.map_append]
    have hc : ps.map patT ++ qs.map pairT ++ ds.map notT = condT ps qs ds := rfl
    rw [hc]
    have s5 := same_new (o := HO.lst ((condT ps qs ds).map V.str)) nr5
    have t5 : upd H4 r5 (HO.lst ((condT ps qs ds).map V.str)) r5 = some _ := upd_same
    generalize upd H4 r5 (HO.lst ((condT ps qs ds).map V.str)) = H5 at s5 t5 ⊢
    have s05 := s04.trans s5
    have hj := joinC_len hp hq hd lp lq ld
    have hj2 := join_len ", " (condT ps qs ds)
    have q5 := q H5 s05
    refine ⟨_, rfl, !((condT ps qs ds).map V.str).isEmpty, .inl ⟨_, SqL.of t5, rfl⟩, ?_⟩
    unfold tailT at q5
    by_cases h : condT ps qs ds = []
    · rw [if_pos h] at q5
      rw [h]
      exact iteF q5
    · rw [if_neg h] at q5
      have he : (!((condT ps qs ds).map V.str).isEmpty) = true := by
        cases hh : condT ps qs ds with
        | nil => exact absurd hh h
        | cons a b => rfl
      rw [he]
      refine iteT ⟨⟨_, rfl⟩, _, rfl, ", ", r5, condT ps qs ds, rfl, rfl, .inl (SqL.of t5), by omega, " if ", _, rfl, rfl, ?_, q5⟩
      rw [show (" if " : Str).length = 4 by decide +kernel]
      omega
end
end Nv
set_option maxHeartbeats 4000000
namespace Nv
open PySem PySem.Spec PyProof.Rows L2
abbrev sBookInit : Stmt := inClass cBook 0
abbrev sBookEq : Stmt := inClass cBook 1
abbrev sBookLen : Stmt := inClass cBook 2
abbrev sBookAdd : Stmt := inClass cBook 3
abbrev sBookRules : Stmt := inClass cBook 4
abbrev sBookLabels : Stmt := inClass cBook 5
abbrev sBookRule : Stmt := inClass cBook 6
abbrev sBookWithout : Stmt := inClass cBook 7
abbrev sBookPlain : Stmt := inClass cBook 8
theorem RA.sbo {C C2 : Addr} {H H1 : Hp} {a r dx : Addr} {x : Rl} (h : RA C H a x) (e : H r = some (.ins C2 dx [])) (s : Sb r H H1) : RA C H1 a x := by
  obtain ⟨dx, th, l1, l2, l3, us, us2, us3, e0, e1, ⟨e2, p2⟩, ⟨e3, p3⟩, e4, p4⟩ := h
  refine ⟨dx, th, l1, l2, l3, us, us2, us3, s _ _ (fun z => ?_) e0, s _ _ (fun z => ?_) e1, ⟨s _ _ (fun z => ?_) e2, p2.sbo e s⟩, ⟨s _ _ (fun z => ?_) e3, p3.sbo e s⟩, s _ _ (fun z => ?_) e4, p4.sbo e s⟩
  · rw [z, e] at e0
    injection e0 with e0
    injection e0 with _ _ e0
    cases e0
  · rw [z, e] at e1
    cases e1
  · rw [z, e] at e2
    cases e2
  · rw [z, e] at e3
    cases e3
  · rw [z, e] at e4
    cases e4
section
variable {P : Program} {w : World} {K : PySem.W.Frag} {mg : Str → Option Value} {base : Heap}
theorem ok_get {name qual f : Str} {st : Stmt} {fa C : Addr} {fd : FuncData} {p2 p3 p5 : Pos} (F : Fun K name qual st fa fd) (S : FnScope ["self"] ["self"] (defScope st)) (hb : defBody st = [.Return (some (.Attribute (.Name "self" p2) f p3)) p5])
    (cl : Cls K C) (na : NoAttr K C f) : FnOk P w K mg base CX0 1 fa fd ["self"] (getSp C f) := by
  refine F.ok S (fun vs H Q E h => ?_) (fun cdv A outer s H vs Q E hr h => ?_)
  · obtain ⟨a, dx, fs, v, rfl, _⟩ := h
    rfl
  · obtain ⟨a, dx, fs, v, rfl, ea, l, q⟩ := h
    rw [hb]
    refine ⟨_, pss_one (ps_ret (pe_fld (pe_var (i := 0) rfl ((S.par "self" (List.Mem.head _)).elim (fun z => .inl z) (fun z => .inr (.inl z)))) rfl)), ?_⟩
    exact ⟨.ref a, rfl, a, C, dx, fs, v, rfl, ea, cl, na, l, q⟩
/-- the property Rule.label -/
structure PL (P : Program) (w : World) (K : PySem.W.Frag) (mg : Str → Option Value) (base : Heap) (C : Addr) (x f : Str) : Prop where
  ex : ∃ p g fd, PropOf K C x p g ∧ FnOk P w K mg base CX0 1 g fd ["self"] (getSp C f) ∧ Binds K fd ["self"] []
/-- rules, as a list of the heap -/
def RAs (C : Addr) (H : Hp) (rs : List Addr) (xs : List Rl) : Prop := All2 (fun r x => RA C H r x) rs xs
theorem RAs.same {C : Addr} {H H1 : Hp} {rs : List Addr} {xs : List Rl} (h : RAs C H rs xs) (s : Same H H1) : RAs C H1 rs xs := h.imp fun _ _ z => z.same s
theorem at_ref {rs : List Addr} {i : Nat} {x : V} (hx : (rs.map V.ref)[i]? = some x) : ∃ r, rs[i]? = some r ∧ x = V.ref r := by
  rw [List.getElem?_map] at hx
  cases g : rs[i]? with
  | none =>
    rw [g] at hx
    cases hx
  | some z =>
    rw [g] at hx
    exact ⟨z, rfl, (Option.some.inj hx).symm⟩
theorem spHasDouble.no {H : Hp} {a : Addr} {zs : List Str} {Q : VK} {E : XK} (e : SqL K H a (zs.map V.str)) (hl : zs.length ≤ 4000) (nd : zs.Nodup) (q : Q (.bl false) H) : spHasDouble K [.ref a] H Q E := ⟨a, zs, rfl, e, hl, by rw [decide_eq_true nd]; exact q⟩
def spBookInit (CR C : Addr) : Sp := fun vs H Q _ => ∃ (r dx a : Addr) (rs : List Addr) (xs : List Rl), vs = [.ref r, .ref a] ∧ H r = some (.ins C dx []) ∧ H a = some (.lst (rs.map V.ref)) ∧ RAs CR H rs xs ∧ (xs.map Rl.l).Nodup ∧ xs.length ≤ 100 ∧
  ∀ (l1 : Addr) (H' : Hp), H l1 = none → Sb r H H' → H' r = some (.ins C dx [("_rules", .ref l1)]) → H' l1 = some (.lst (rs.map V.ref)) → Q .non H'
theorem scBookInit : FnScope ["self", "rules", "part"] ["self", "rules"] (defScope sBookInit) := ⟨rfl, rfl, rfl, by decide +kernel, rfl, by decide +kernel, by decide +kernel⟩
theorem ok_bookInit {f C CR fH : Addr} {fd dH : FuncData} (F : Fun K "__init__" "Book.__init__" sBookInit f fd) (B : Bp mg) (cl : Cls K C) (na : NoAttr K C "_rules") (R : RC K CR) (I : IC K CR) (gR : mg "Rule" = some (.ref CR)) (L : PL P w K mg base CR "label" "_label")
    (GH : FnOk P w K mg base CX0 1 fH dH ["labels"] (spHasDouble K)) (kH : PySem.W.keepIn K (.ref fH) = true) (gH : mg "_has_double" = some (.ref fH)) (bH : Binds K dH ["labels"] []) :
    FnOk P w K mg base CX0 3 f fd ["self", "rules"] (spBookInit CR C) := by
  obtain ⟨pp, pg, pd, PO, PF, PB⟩ := L.ex
  refine F.ok scBookInit (fun vs H Q E h => ?_) (fun cdv A outer s H vs Q E hr h => ?_)
  · obtain ⟨r, dx, a, rs, xs, rfl, _⟩ := h
    rfl
  · obtain ⟨r, dx, a, rs, xs, rfl, er, ea, hx, nd, hl, q⟩ := h
    have hr1 : Room 1 _ := hr.mono (by decide)
    have hxl := hx.len
    refine ⟨_, pss_cons (ps_if (PW.pt (pw_or (pt_not (pt_val (pe_callB call_isi (by rfl) B.isi bootIsi (pa_cons (pv 1) (pa_cons (pe_bltn (v := V.ty "list") (by rfl) B.lst PyProof.Rows.boot_list rfl) pa_nil)))))
        (pw_or1 (pt_not (pt_val (pe_callB (cr_all rfl) (by rfl) B.all bootAll (pa_cons (by exact (pe_lc (own := [("part", 2)]) (g := gName 2) (tt := tYes) (te := tCB (rIsi K) (tCons (tVar 2) (tCons (tC (.ref CR)) tNil))) rfl scBookInit.nd (pi_list (pv 1))
          (blkOk_by (own := [("part", 2)]) (N := ["self", "rules", "part"]) (sc := defScope sBookInit) (by decide +kernel))
          (fun _ _ _ _ _ => pg_name (i := 2) scBookInit.nd rfl (Or.inl rfl)) (fun _ _ _ _ _ => pts_nil)
          (fun _ _ _ _ _ => by exact (pe_callB call_isi (by rfl) B.isi bootIsi (pa_cons (pv 2) (pa_cons (pe_glob (v := V.ref CR) (by rfl) gR rfl) pa_nil)))))) pa_nil))))))) (pss_one ps_never) pss_nil)
      (pss_cons (ps_if (pt_val (by exact (pe_call GH hr1 (by rfl) gH kH bH .nil pass0 (pa_cons (by exact (pe_lc (own := [("part", 2)]) (g := gName 2) (tt := tYes) (te := tProp CR (getSp CR "_label") [] E0 (tVar 2)) rfl scBookInit.nd (pi_list (pv 1))
          (blkOk_by (own := [("part", 2)]) (N := ["self", "rules", "part"]) (sc := defScope sBookInit) (by decide +kernel))
          (fun _ _ _ _ _ => pg_name (i := 2) scBookInit.nd rfl (Or.inl rfl)) (fun _ _ _ _ _ => pts_nil)
          (fun _ _ _ _ _ => by exact (pe_prop (pv 2) R.cl PO PF hr PB .nil pass0 rfl)))) pa_nil)))) (pss_one ps_never) pss_nil)
      (pss_one (ps_fld (pv 0) (pe_callTy call_list_of (by rfl) B.lst PyProof.Rows.boot_list (pa_cons (pv 1) pa_nil)) rfl))), ?_⟩
    refine ⟨_, rfl, _, _, _, _, true, rfl, .ty _, tyx_lst ea, kit_ty (by decide +kernel), true, rfl, iteF ?_⟩
    refine ⟨_, rfl, a, rfl, ⟨_, SqL.of ea⟩, fun D nD => ?_⟩
    refine lc_list (K := K) (a := a) (xs := rs.map V.ref) (fun i H' => Same H H' ∧ H' D = some (.lst ((rs.take i).map fun _ => V.bl true))) ⟨same_new nD, upd_same⟩ (fun i H' _ y => SqL.of (y.1 _ _ ea)) ?_ ?_
    · rintro i v H1 hi ⟨s1, e1⟩
      obtain ⟨ri, hri, rfl⟩ := at_ref hi
      obtain ⟨x, hxi, ra⟩ := hx.at_ hri
      obtain ⟨dx2, th, l1, l2, l3, us, us2, us3, g, _⟩ := ra.same s1
      refine ⟨rfl, _, rfl, _, _, _, _, true, rfl, .own _, .base (.ins g R.cl I.ha I.hn I.ht I.hm), I.me, ?_⟩
      refine ⟨_, e1, ?_, same_put s1 nD, ?_⟩
      · rw [List.length_map, List.length_take]
        exact Nat.lt_of_le_of_lt (by omega : _ ≤ 100) (by decide)
      · rw [upd_same, take_one hri, List.map_append] <;> rfl
    · rintro H1 ⟨s1, e1⟩
      rw [List.length_map, List.take_length] at e1
      refine ⟨D, rs.map fun _ => true, rfl, SqL.of (by rw [e1, List.map_map] <;> rfl), _, rfl, ?_⟩
      have eall : (rs.map fun _ => true).all id = true := by simp
      rw [eall]
      refine iteF ?_
      refine ⟨_, rfl, a, rfl, ⟨_, SqL.of (s1 _ _ ea)⟩, fun D2 nD2 => ?_⟩
      refine lc_list (K := K) (a := a) (xs := rs.map V.ref) (fun i H' => Same H H' ∧ H' D2 = some (.lst (((xs.map Rl.l).take i).map V.str))) ⟨same_put s1 (s1.free nD2), upd_same⟩ (fun i H' _ y => SqL.of (y.1 _ _ ea)) ?_ ?_
      · rintro i v H2 hi ⟨s2, e2⟩
        obtain ⟨ri, hri, rfl⟩ := at_ref hi
        obtain ⟨x, hxi, ra⟩ := hx.at_ hri
        obtain ⟨dx2, th, l1, l2, l3, us, us2, us3, g, _⟩ := ra.same s2
        have hz : (xs.map Rl.l)[i]? = some x.l := by rw [List.getElem?_map, hxi] <;> rfl
        refine ⟨rfl, _, rfl, ri, dx2, _, rfl, g, ri, dx2, _, _, rfl, g, lk1, ?_⟩
        refine ⟨_, e2, ?_, same_put s2 (s1.free nD2), ?_⟩
        · rw [List.length_map, List.length_take, List.length_map]
          exact Nat.lt_of_le_of_lt (by omega : _ ≤ 100) (by decide)
        · rw [upd_same, take_one hz, List.map_append] <;> rfl
      · rintro H2 ⟨s2, e2⟩
        have hfull : (xs.map Rl.l).take (rs.map V.ref).length = xs.map Rl.l := List.take_of_length_le (by rw [List.length_map, List.length_map]; omega)
        rw [hfull] at e2
        refine ⟨D2, xs.map Rl.l, rfl, SqL.of e2, by rw [List.length_map]; omega, _, rfl, ?_⟩
        rw [decide_eq_true nd]
        refine iteF ?_
        refine ⟨_, rfl, a, _, rfl, .inl (SqL.of (s2 _ _ ea)), fun l1 n1 => ⟨_, rfl, r, C, dx, [], rfl, same_new n1 _ _ (s2 _ _ er), cl, na, (by show 0 < 1000; decide), ?_⟩⟩
        have n1r : l1 ≠ r := fun z => by
          rw [z, s2 _ _ er] at n1
          cases n1
        exact q l1 _ (s2.free n1) ((Sb.of (same_put s2 (s2.free n1))).trans Sb.upd) upd_same (by rw [upd_ne n1r, upd_same])
end
end Nv
set_option maxHeartbeats 4000000
namespace Nv
open PySem PySem.Spec PyProof.Rows L2
/-- the book of the rules rs stands at b -/
def BA (C : Addr) (H : Hp) (b : Addr) (rs : List Addr) : Prop := ∃ dx l : Addr, H b = some (.ins C dx [("_rules", .ref l)]) ∧ H l = some (.lst (rs.map V.ref))
theorem BA.same {C : Addr} {H H1 : Hp} {b : Addr} {rs : List Addr} (h : BA C H b rs) (s : Same H H1) : BA C H1 b rs := by
  obtain ⟨dx, l, e1, e2⟩ := h
  exact ⟨dx, l, s _ _ e1, s _ _ e2⟩
theorem lkR {l : Addr} : List.lookup ("_rules" : Str) ([("_rules", V.ref l)] : Flds) = some (V.ref l) := lk_yes
section
variable {P : Program} {w : World} {K : PySem.W.Frag} {mg : Str → Option Value} {base : Heap}
/-- Book.labels() -/
def spBookLabels (CR C : Addr) : Sp := fun vs H Q _ => ∃ (b : Addr) (rs : List Addr) (xs : List Rl), vs = [.ref b] ∧ BA C H b rs ∧ RAs CR H rs xs ∧ xs.length ≤ 1000 ∧ ∀ (p : Addr) (H' : Hp), H p = none → Same H H' → H' p = some (.lst ((xs.map Rl.l).map V.str)) → Q (.ref p) H'
theorem scBookLabels : FnScope ["self", "part"] ["self"] (defScope sBookLabels) := ⟨rfl, rfl, rfl, by decide +kernel, rfl, by decide +kernel, by decide +kernel⟩
theorem ok_bookLabels {f C CR : Addr} {fd : FuncData} (F : Fun K "labels" "Book.labels" sBookLabels f fd) (cl : Cls K C) (na : NoAttr K C "_rules") (R : RC K CR) (L : PL P w K mg base CR "label" "_label") : FnOk P w K mg base CX0 3 f fd ["self"] (spBookLabels CR C) := by
  obtain ⟨pp, pg, pd, PO, PF, PB⟩ := L.ex
  refine F.ok scBookLabels (fun vs H Q E h => ?_) (fun cdv A outer s H vs Q E hr h => ?_)
  · obtain ⟨b, rs, xs, rfl, _⟩ := h
    rfl
  · obtain ⟨b, rs, xs, rfl, ⟨dx, l, eb, el⟩, hx, hl, q⟩ := h
    have hxl := hx.len
    refine ⟨_, pss_one (ps_ret (by exact (pe_lc (own := [("part", 1)]) (g := gName 1) (tt := tYes) (te := tProp CR (getSp CR "_label") [] E0 (tVar 1)) rfl scBookLabels.nd (pi_list (pe_fld (pv 0) rfl))
      (blkOk_by (own := [("part", 1)]) (N := ["self", "part"]) (sc := defScope sBookLabels) (by decide +kernel))
      (fun _ _ _ _ _ => pg_name (i := 1) scBookLabels.nd rfl (Or.inl rfl)) (fun _ _ _ _ _ => pts_nil)
      (fun _ _ _ _ _ => by exact (pe_prop (pv 1) R.cl PO PF hr PB .nil pass0 rfl))))), ?_⟩
    refine ⟨_, rfl, b, C, dx, _, _, rfl, eb, cl, na, lkR, l, rfl, ⟨_, SqL.of el⟩, fun D nD => ?_⟩
    refine lc_list (K := K) (a := l) (xs := rs.map V.ref) (fun i H' => Same H H' ∧ H' D = some (.lst (((xs.map Rl.l).take i).map V.str))) ⟨same_new nD, upd_same⟩ (fun i H' _ y => SqL.of (y.1 _ _ el)) ?_ ?_
    · rintro i v H2 hi ⟨s2, e2⟩
      obtain ⟨ri, hri, rfl⟩ := at_ref hi
      obtain ⟨x, hxi, ra⟩ := hx.at_ hri
      obtain ⟨dx2, th, l1, l2, l3, us, us2, us3, g, _⟩ := ra.same s2
      have hz : (xs.map Rl.l)[i]? = some x.l := by rw [List.getElem?_map, hxi] <;> rfl
      refine ⟨rfl, _, rfl, ri, dx2, _, rfl, g, ri, dx2, _, _, rfl, g, lk1, ?_⟩
      refine ⟨_, e2, ?_, same_put s2 nD, ?_⟩
      · rw [List.length_map, List.length_take, List.length_map]
        exact Nat.lt_of_le_of_lt (by omega : _ ≤ 1000) (by decide)
      · rw [upd_same, take_one hz, List.map_append] <;> rfl
    · rintro H2 ⟨s2, e2⟩
      have hfull : (xs.map Rl.l).take (rs.map V.ref).length = xs.map Rl.l := List.take_of_length_le (by rw [List.length_map, List.length_map]; omega)
      rw [hfull] at e2
      exact q D H2 nD s2 e2
/-- Book.rule(label), a label that is there -/
def spBookRule (CR C : Addr) : Sp := fun vs H Q _ => ∃ (b : Addr) (z : Str) (rs : List Addr) (xs : List Rl) (j : Nat) (r : Addr), vs = [.ref b, .str z] ∧ BA C H b rs ∧ RAs CR H rs xs ∧ xs.length ≤ 1000 ∧ (xs.map Rl.l).Nodup ∧ (xs.map Rl.l)[j]? = some z ∧ rs[j]? = some r ∧ ∀ H', Same H H' → Q (.ref r) H'
theorem scBookRule : FnScope ["self", "label"] ["self", "label"] (defScope sBookRule) := ⟨rfl, rfl, rfl, by decide +kernel, rfl, by decide +kernel, by decide +kernel⟩
theorem ok_bookRule {f C CR fL fP : Addr} {fd dL dP : FuncData} (F : Fun K "rule" "Book.rule" sBookRule f fd) (cl : Cls K C) (na : NoAttr K C "_rules")
    (GL : FnOk P w K mg base CX0 3 fL dL ["self"] (spBookLabels CR C)) (mL : Meth K C "labels" fL) (bL : Binds K dL ["self"] [])
    (GP : FnOk P w K mg base CX0 1 fP dP ["label", "labels"] (spPlace K)) (kP : PySem.W.keepIn K (.ref fP) = true) (gP : mg "_place" = some (.ref fP)) (bP : Binds K dP ["label", "labels"] []) : FnOk P w K mg base CX0 4 f fd ["self", "label"] (spBookRule CR C) := by
  refine F.ok scBookRule (fun vs H Q E h => ?_) (fun cdv A outer s H vs Q E hr h => ?_)
  · obtain ⟨b, z, rs, xs, j, r, rfl, _⟩ := h
    rfl
  · obtain ⟨b, z, rs, xs, j, r, rfl, ba, hx, hl, nd, hj, hrj, q⟩ := h
    obtain ⟨dx, l, eb, el⟩ := id ba
    have hr1 : Room 1 _ := hr.mono (by decide)
    refine ⟨_, pss_one (ps_ret (pe_ix ix_list (pe_fld (pv 0) rfl) (by exact (pe_call GP hr1 (by rfl) gP kP bP .nil pass0 (pa_cons (pv 1) (pa_cons (by exact (pe_meth0 (pv 0) cl mL GL hr bL .nil pass0)) pa_nil)))) (fun _ _ => rfl))), ?_⟩
    refine ⟨_, rfl, b, C, dx, _, _, rfl, eb, cl, na, lkR, _, rfl, _, rfl, b, dx, _, rfl, eb, (lk_no (by decide +kernel)), b, rs, xs, rfl, ba, hx, hl, fun p H1 np s1 e1 => ?_⟩
    refine ⟨z, p, xs.map Rl.l, j, rfl, SqL.of e1, hj, nd, ?_⟩
    refine ⟨l, _, _, .ref r, rfl, rfl, SqL.of (s1 _ _ el), atI_nat (by rw [List.getElem?_map, hrj] <;> rfl), q H1 s1⟩
end
end Nv
set_option maxHeartbeats 4000000
namespace Nv
open PySem PySem.Spec PyProof.Rows L2
section
variable {P : Program} {w : World} {K : PySem.W.Frag} {mg : Str → Option Value} {base : Heap}
theorem All2.split {α β : Type} {R : α → β → Prop} {xs : List α} {ys : List β} (h : All2 R xs ys) : ∀ j, All2 R (xs.take j) (ys.take j) ∧ All2 R (xs.drop j) (ys.drop j) := by
  induction h with
  | nil =>
    intro j
    rw [List.take_nil, List.drop_nil, List.take_nil, List.drop_nil]
    exact ⟨All2.nil, All2.nil⟩
  | cons a _ ih =>
    intro j
    cases j with
    | zero => exact ⟨.nil, .cons a (by simpa using (ih 0).2)⟩
    | succ j => exact ⟨.cons a (ih j).1, (ih j).2⟩
theorem All2.app {α β : Type} {R : α → β → Prop} {xs xs' : List α} {ys ys' : List β} (h : All2 R xs ys) (h' : All2 R xs' ys') : All2 R (xs ++ xs') (ys ++ ys') := by
  induction h with
  | nil => exact h'
  | cons a _ ih => exact .cons a ih
def less {α : Type} (xs : List α) (j : Nat) : List α := xs.take j ++ xs.drop (j + 1)
theorem less_sub {α : Type} (xs : List α) (j : Nat) : (less xs j).Sublist xs := by
  have h : (xs.take j ++ xs.drop (j + 1)).Sublist (xs.take j ++ xs.drop j) := by
    refine List.Sublist.append (List.Sublist.refl _) ?_
    rw [← List.drop_drop]
    exact List.drop_sublist _ _
  rw [List.take_append_drop] at h
  exact h
theorem less_map {α β : Type} (f : α → β) (xs : List α) (j : Nat) : (less xs j).map f = less (xs.map f) j := by
  unfold less
  rw [List.map_append, List.map_take, List.map_drop]
/-- a new instance: what stood stands -/
theorem made_same {H H1 H2 : Hp} {x dx C : Addr} (s : Same H H1) (nx : H1 x = none) (nd : H1 dx = none) (sb : Sb x (upd (upd H1 dx (.own x)) x (.ins C dx [])) H2) : Same H H2 := by
  intro b o e
  have e1 := s b o e
  have n1 : b ≠ x := ne_of_none e1 nx
  refine sb b o n1 ?_
  rw [upd_ne n1, upd_ne (ne_of_none e1 nd)]
  exact e1
end
end Nv
set_option maxHeartbeats 4000000
namespace Nv
open PySem PySem.Spec PyProof.Rows L2
section
variable {X : Cx} {C f : Addr} {k : Nat} {fd : FuncData} {ps : List Str} {sp : Sp}
/-- a def of the text, called at values from below the running body -/
theorem call_own {A : Around} {pins : List (Addr × Obj)} {σ : L2.St} {H : Hp} {s : Shared} {vs : List V} {us : List Value} {Q : VK} {E2 : Value → Shared → Prop} (F : FnOk X.prog X.w X.K X.mg X.base CX0 k f fd ps sp) (hr : Room k A) (fr : A.frames = X.A.frames) (hb : Binds X.K fd ps [])
    (I : Inv X pins σ H s) (r : Vals vs us) (h : sp vs H Q E0) : wpAny (model X.prog X.w) A (call (.ref f) us) (EP X pins σ Q) E2 s := by
  have e0 : Env0 X.prog X.w X.K X.mg X.base A X.stack s H := by
    have e := I.env0
    exact ⟨by rw [fr]; exact e.frames, e.mod, e.bs, e.bsz, e.funs, e.frf, e.hok, e.bare⟩
  have hl : us.length = ps.length := by rw [← F.len _ _ _ _ h, r.length]
  refine wpAny_call (codeAny_mono (F.run A X.stack s H ⟨us, []⟩ us vs Q E0 hr e0 (by simpa using hb s us I.kIn (by simpa using hl)) r h) fun q s1 hq => ?_)
  rcases q with e | fl
  · exact hq.elim
  cases fl with
  | ret w => exact I.after hq
  | _ => exact hq.elim
/-- x == y by the own __eq__ of x's class -/
def rOwnEq (K : PySem.W.Frag) (C : Addr) (sp : Sp) : R2 := fun x y H Q => ∃ (a dx : Addr) (fs : List (Str × V)) (t : Value), x = .ref a ∧ H a = some (.ins C dx fs) ∧ TyX K H y t ∧ PySem.W.notFirst K C t = true ∧ sp [x, y] H (fun v H' => ∃ b, v = .bl b ∧ Q (.bl b) H') E0
theorem op_ownEq (F : FnOk X.prog X.w X.K X.mg X.base CX0 k f fd ps sp) (hr : Room k X.A) (hs : PySem.W.findIn X.K (.ref C) "__eq__" = some (some (.ref f))) (hf : PySem.W.isFn X.K (.ref f) = true) (hb : Binds X.K fd ps []) : OpR X (compareOp .Eq) (rOwnEq X.K C sp) := by
  intro pins s σ H x y v u Q I rx ry hq
  obtain ⟨a, dx, fs, t, rfl, ha, ht, hn, hsp⟩ := hq
  obtain ⟨P, Z, p, _⟩ := kit_of I ry ht
  have ty := Z.ty (model X.prog X.w) s.heap I.kIn p
  cases rx
  obtain ⟨mA, J, _⟩ := ins_get I.hok ha
  obtain ⟨od, J, _⟩ := J.look
  obtain ⟨m, hF⟩ := I.fr
  show wpAny (model X.prog X.w) X.A (richCompare .Eq (.ref a) u) (EP X pins σ Q) X.xe s
  refine PySem.W.cmp_K (op := .Eq) (tb := t) hr.units0 hF I.ok.mod.kin J ty hn hs hf ?_
  refine wpAny_mono (call_own (X := X) F hr rfl hb I (vs := [.ref a, y]) (.cons rfl (.cons ry .nil)) hsp) (fun w s1 h => ?_) fun _ _ e => e
  obtain ⟨z, H1, I1, rz, b, rfl, q⟩ := h
  cases rz
  exact ⟨.bl b, H1, I1, rfl, q⟩
/-- len(x) by an own __len__ -/
def rOwnLen (C : Addr) (sp : Sp) : List V → Hp → VK → Prop := fun xs H Q => ∃ (a dx : Addr) (fs : List (Str × V)), xs = [.ref a] ∧ H a = some (.ins C dx fs) ∧ sp [.ref a] H (fun v H' => ∃ n : Int, v = .int n ∧ (0 ≤ n ∧ n < 2 ^ 63) ∧ Q (.int n) H') E0
theorem call_ownLen (F : FnOk X.prog X.w X.K X.mg X.base CX0 k f fd ps sp) (hr : Room k X.A.in1) (hs : PySem.W.findIn X.K (.ref C) "__len__" = some (some (.ref f))) (hf : PySem.W.isFn X.K (.ref f) = true) (hb : Binds X.K fd ps []) : CallR X (.builtin "len") (rOwnLen C sp) := by
  intro pins s σ H xs us Q I r hq
  obtain ⟨a, dx, fs, rfl, ha, hsp⟩ := hq
  obtain ⟨u, rfl, rx⟩ := vals1 r
  cases rx
  obtain ⟨mA, J, _⟩ := ins_get I.hok ha
  obtain ⟨od, J, _⟩ := J.look
  obtain ⟨m, hF⟩ := I.fr
  refine PySem.W.len_K hF I.ok.mod.kin J hs hf ?_
  refine wpAny_mono (call_own (X := X) F hr rfl hb I (vs := [.ref a]) (.cons rfl .nil) hsp) (fun w s1 h => ?_) fun _ _ e => e
  obtain ⟨z, H1, I1, rz, n, rfl, hn, q⟩ := h
  obtain ⟨t, rfl⟩ := rz
  exact ⟨hn, .int n, H1, I1.tok _, ⟨_, rfl⟩, q⟩
/-- x + y by an own __add__, both of one class -/
def rOwnAdd (C : Addr) (sp : Sp) : R2 := fun x y H Q => ∃ (a b dx dy : Addr) (fs gs : List (Str × V)), x = .ref a ∧ y = .ref b ∧ H a = some (.ins C dx fs) ∧ H b = some (.ins C dy gs) ∧ sp [x, y] H (fun v H' => ∃ c, v = .ref c ∧ Q (.ref c) H') E0
theorem op_ownAdd (F : FnOk X.prog X.w X.K X.mg X.base CX0 k f fd ps sp) (hr : Room k X.A) (hc : PySem.W.selfFirst X.K C = true) (hs : PySem.W.findIn X.K (.ref C) "__add__" = some (some (.ref f))) (hf : PySem.W.isFn X.K (.ref f) = true) (hb : Binds X.K fd ps []) : OpR X (binaryOp .Add) (rOwnAdd C sp) := by
  intro pins s σ H x y v u Q I rx ry hq
  obtain ⟨a, b, dx, dy, fs, gs, rfl, rfl, ha, hb2, hsp⟩ := hq
  cases rx
  cases ry
  obtain ⟨mA, J, _⟩ := ins_get I.hok ha
  obtain ⟨od, J, _⟩ := J.look
  obtain ⟨mB, J2, _⟩ := ins_get I.hok hb2
  obtain ⟨od2, J2, _⟩ := J2.look
  obtain ⟨m, hF⟩ := I.fr
  refine PySem.W.binop_K (op := .Add) hF I.ok.mod.kin J J2.type hc hs hf ?_
  refine wpAny_mono (call_own (X := X) F hr rfl hb I (vs := [.ref a, .ref b]) (.cons rfl (.cons rfl .nil)) hsp) (fun w s1 h => ?_) fun _ _ e => e
  obtain ⟨z, H1, I1, rz, c, rfl, q⟩ := h
  cases rz
  exact ⟨.ref c, H1, I1, rfl, q⟩
end
end Nv
set_option maxHeartbeats 4000000
namespace Nv
open PySem PySem.Spec PyProof.Rows L2 PySem.W
section
variable {prog : Program} {w : World} {A : Around} {E : Value → Shared → Prop} {s : Shared} {K : PySem.W.Frag} {x C f : Addr} {ox : Obj} {od : Option Obj} {b tb : Value}
/-- the body of the built-in != of an instance with an own ==, at another around -/
theorem ne_body {Q : Fin → Shared → Prop} (X : K.In s.heap) (I : InstAt s.heap x ox C od) (he : findIn K (.ref C) "__eq__" = some (some (.ref f))) (hf : isFn K (.ref f) = true) (hu : A.units < cLine)
    (h : wpAny (model prog w) A (call (.ref f) [.ref x, b]) (fun v s' => ∃ c, v = .bool c ∧ Q (.done (.ret (.bool (!c)))) s') E s) : wpAny (model prog w) A (Builtin.«object.__ne__» ⟨[.ref x, b], []⟩) Q E s := by
  have eq : wpAny (model prog w) A (callSpecialIfBound? (.ref x) "__eq__" [b]) (fun r s' => ∃ c, r = some (.bool c) ∧ Q (.done (.ret (.bool (!c)))) s') E s :=
    ifBound_K X I he hf (wpAny_mono h (fun v s' ⟨c, e, q⟩ => ⟨c, by rw [e], q⟩) fun _ _ e => e)
  unfold Builtin.«object.__ne__»
  repeat (first
    | with_reducible refine wpAny_cRoomFor hu ?_
    | (refine wpAny_bind (m := callSpecialIfBound? (.ref x) (Str.ofString "__eq__") [b]) (wpAny_mono eq (fun r s' hr => by
        obtain ⟨c, rfl, hq⟩ := hr
        repeat (first | exact hq | exact wpAny_pure hq | exact wpAny_truthy_bool hq | (refine wpAny_bind (m := truthy (.bool _)) (wpAny_truthy_bool ?_)) | wp_step)) fun _ _ e => e))
    | wp_step)
theorem ifBound_ne {args : List Value} {Q : Option Value → Shared → Prop} (X : K.In s.heap) (I : InstAt s.heap x ox C od) (hs : findIn K (.ref C) "__ne__" = some (some (.builtin "object.__ne__")))
    (h : wpAny (model prog w) A (call (.builtin "object.__ne__") (.ref x :: args)) (fun v => Q (some v)) E s) : wpAny (model prog w) A (callSpecialIfBound? (.ref x) "__ne__" args) Q E s := by
  simp only [callSpecialIfBound?, bindSpecialIfBound?]
  refine wpAny_holding (wpAny_bind (wpAny_bind (wpAny_bind (I.type.here ((looks_findIn X hs).here (wpAny_bind (wpAny_askSetting (wpAny_ite ?_))))))))
  have fin2 : wpAny (model prog w) A (call (.builtin "object.__ne__") ([.ref x] ++ args) >>= fun v => pure (some v)) Q E s := wpAny_bind (wpAny_mono h (fun v s' q => wpAny_pure q) fun _ _ q => q)
  split
  · exact wpAny_bind (wpAny_of_eq (F.cmp_object.ne.bind _) (wpAny_pure (by exact fin2)))
  · exact wpAny_tryCatch (wpAny_bind (wpAny_of_eq (F.cmp_object.ne.bind _) (wpAny_pure (by exact fin2))))
theorem rich_ne {Q : Value → Shared → Prop} (hu : A.units + 1 < cLine) (X : K.In s.heap) (I : InstAt s.heap x ox C od) (hm : mroIn K C (.type "object") = some true) (hb : Looks (model prog w) s.heap (typeOf b) tb) (hn : notFirst K C tb = true)
    (hne : findIn K (.ref C) "__ne__" = some (some (.builtin "object.__ne__"))) (he : findIn K (.ref C) "__eq__" = some (some (.ref f))) (hf : isFn K (.ref f) = true)
    (h : wpAny (model prog w) A.in1 (call (.ref f) [.ref x, b]) (fun v s' => ∃ c, v = .bool c ∧ Q (.bool (!c)) s') E s) : wpAny (model prog w) A (richCompare .NotEq (.ref x) b) Q E s := by
  have one : wpAny (model prog w) A (tryCompare (.ref x) "__ne__" b) (fun r s' => ∃ v, r = some v ∧ Q v s') E s := by
    unfold tryCompare
    refine wpAny_bind (ifBound_ne X I hne (wpAny_call (codeAny_call_builtin F.cmp_object.ne.plain F.cmpEntry_ne (check_slot F.cmpKind_ne F.cmpSplit_ne (I.type.andThen (looks_mroIn X hm)) (F.cmpArgs_ne _ _) (ne_body (A := A.in1) X I he hf hu (wpAny_mono h (fun v s' hv => ?_) fun _ _ e => e))))))
    obtain ⟨c, rfl, q⟩ := hv
    exact ⟨c, rfl, wpAny_pure ⟨_, rfl, q⟩⟩
  simp only [richCompare, cmpInfo_NotEq, oneThing_ref]
  refine wpAny_holding (wpAny_bind (wpAny_cRoomFor (Nat.lt_of_succ_lt hu) (wpAny_bind (I.type.here (wpAny_bind (hb.here ?_))))))
  split
  · rename_i z
    have e : subIn K tb (.ref C) = some false := by
      rcases Bool.or_eq_true_iff.mp hn with e | e
      · rw [beq_iff_eq.mp e] at z
        simp at z
      · exact beq_iff_eq.mp e
    refine wpAny_bind ((looks_subIn X e).here ?_)
    simp only [Bool.false_eq_true, if_false]
    refine wpAny_bind (wpAny_mono one (fun r s' ⟨v, e1, q⟩ => ?_) fun _ _ e => e)
    subst e1
    exact wpAny_pure q
  · refine wpAny_bind (wpAny_pure ?_)
    simp only [Bool.false_eq_true, if_false]
    refine wpAny_bind (wpAny_mono one (fun r s' ⟨v, e1, q⟩ => ?_) fun _ _ e => e)
    subst e1
    exact wpAny_pure q
end
section
variable {X : Cx} {C f : Addr} {k : Nat} {fd : FuncData} {ps : List Str} {sp : Sp}
/-- x != y by the own __eq__ of x's class -/
def rOwnNe (K : PySem.W.Frag) (C : Addr) (sp : Sp) : R2 := fun x y H Q => ∃ (a dx : Addr) (fs : List (Str × V)) (t : Value), x = .ref a ∧ H a = some (.ins C dx fs) ∧ TyX K H y t ∧ PySem.W.notFirst K C t = true ∧ sp [x, y] H (fun v H' => ∃ b, v = .bl b ∧ Q (.bl (!b)) H') E0
theorem op_ownNe (F : FnOk X.prog X.w X.K X.mg X.base CX0 k f fd ps sp) (hr : Room (k + 1) X.A) (hs : PySem.W.findIn X.K (.ref C) "__eq__" = some (some (.ref f))) (hne : PySem.W.findIn X.K (.ref C) "__ne__" = some (some (.builtin "object.__ne__"))) (hm : PySem.W.mroIn X.K C (.type "object") = some true)
    (hf : PySem.W.isFn X.K (.ref f) = true) (hb : Binds X.K fd ps []) : OpR X (compareOp .NotEq) (rOwnNe X.K C sp) := by
  intro pins s σ H x y v u Q I rx ry hq
  obtain ⟨a, dx, fs, t, rfl, ha, ht, hn, hsp⟩ := hq
  obtain ⟨P, Z, p, _⟩ := kit_of I ry ht
  have ty := Z.ty (model X.prog X.w) s.heap I.kIn p
  cases rx
  obtain ⟨mA, J, _⟩ := ins_get I.hok ha
  obtain ⟨od, J, _⟩ := J.look
  show wpAny (model X.prog X.w) X.A (richCompare .NotEq (.ref a) u) (EP X pins σ Q) X.xe s
  refine rich_ne (hu_of hr) I.kIn J hm ty hn hne hs hf ?_
  refine wpAny_mono (call_own (X := X) F hr.in1 rfl hb I (vs := [.ref a, y]) (.cons rfl (.cons ry .nil)) hsp) (fun w s1 h => ?_) fun _ _ e => e
  obtain ⟨z, H1, I1, rz, b, rfl, q⟩ := h
  cases rz
  exact ⟨b, rfl, .bl (!b), H1, I1, rfl, q⟩
end
end Nv
set_option maxHeartbeats 4000000
namespace Nv
open PySem PySem.Spec PyProof.Rows L2 PySem.SeqAt
open AutoSeq1 (wpAny_loadPart')
open MeetsSeq MeetsSeq2 MeetsSeq3 SeqRoads2
section
variable {prog : Program} {w : World} {A : Around} {R : Result → Shared → Prop}
/-- two lists of N items each are compared: at turn i the answer is ans i -/
def Turns (prog : Program) (w : World) (A : Around) (E : Value → Shared → Prop) (l b : Addr) (N : Nat) (ans : Nat → Bool) (J : Nat → Shared → Prop) : Prop :=
  ∀ i s, J i s → ∃ (xs ys : Array Value) (n m : Nat), s.heap.get? l = some { cls := .type "list", data := .seq xs n } ∧ s.heap.get? b = some { cls := .type "list", data := .seq ys m } ∧ xs.size = N ∧ ys.size = N ∧
    ∀ (h1 : i < xs.size) (h2 : i < ys.size), wpAny (model prog w) A.in1 (eqBool xs[i] ys[i]) (fun r s' => r = ans i ∧ J (i + 1) s') E s
theorem loopB (l b : Addr) (N : Nat) (ans : Nat → Bool) (J : Nat → Shared → Prop) (tn : Turns prog w A (fun e s' => R (.error e) s') l b N ans J) (yes : (∀ j, j < N → ans j = true) → ∀ s, J N s → R (.ok (.ret (.bool true))) s) (no : ∀ i s, i < N → ans i = false → J (i + 1) s → R (.ok (.ret (.bool false))) s) (k : Nat) :
    ∀ i : Nat, N - i = k → i ≤ N → (∀ j, j < i → ans j = true) → ∀ s, J i s → wpAny (model prog w) A.in1 (Builtin.«list.__eq__.loop» ⟨[.ref l, .ref b, rawInt i, rawInt 2], []⟩) (GQ.FinOf prog w A R) (fun e s' => R (.error e) s') s := by
  induction k with
  | zero =>
    intro i hk hi ht0 s h
    obtain ⟨xs, ys, n, m, g1, g2, z1, z2, _⟩ := tn _ _ h
    have e : i = N := by omega
    have done : R (.ok (.ret (.bool true))) s := yes (e ▸ ht0) s (e ▸ h)
    obtain ⟨hp, g, d, tk, os⟩ := s
    wp_walk using wpAny_loadPart' g1, wpAny_loadPart' g2
    have o1 : xs[((i : Nat) : Int).toNat]? = none := by simp; omega
    have o2 : ys[((i : Nat) : Int).toNat]? = none := by simp; omega
    rw [o1, o2]
    wp_walk using wpAny_loadPart' g1, wpAny_loadPart' g2
    show R (.ok (.ret (.bool (xs.size == ys.size)))) _
    rw [z1, z2]
    simpa using done
  | succ k ih =>
    intro i hk hi ht0 s h
    obtain ⟨xs, ys, n, m, g1, g2, z1, z2, turn⟩ := tn _ _ h
    have h1 : i < xs.size := by omega
    have h2 : i < ys.size := by omega
    have ht := turn h1 h2
    obtain ⟨hp, g, d, tk, os⟩ := s
    wp_walk using wpAny_loadPart' g1, wpAny_loadPart' g2
    have o1 : xs[((i : Nat) : Int).toNat]? = some xs[i] := by simp [h1]
    have o2 : ys[((i : Nat) : Int).toNat]? = some ys[i] := by simp [h2]
    have one : ((i : Int) + 1) = ((i + 1 : Nat) : Int) := by omega
    rw [o1, o2]
    refine wpAny_bind (wpAny_mono ht (fun r s2 q2 => ?_) fun _ _ x => x)
    obtain ⟨hr, q2⟩ := q2
    subst hr
    cases ha : ans i with
    | true =>
      have rec_ := ih (i + 1) (by omega) (by omega) (fun j hj => by
        rcases Nat.lt_or_ge j i with h | h
        · exact ht0 j h
        · have : j = i := by omega
          rw [this]
          exact ha) s2 q2
      obtain ⟨hp2, g', d2, tk2, os2⟩ := s2
      wp_walk
      rw [one]
      exact ⟨plainId_quiet plain_eq_loop _, codeAny_builtin entry_eq_loop (by
        rw [Around.under_plainId plain_eq_loop _]
        exact rec_)⟩
    | false =>
      have stop := no i s2 (by omega) ha q2
      obtain ⟨xs2, ys2, n2, m2, g3, g4, z3, z4, _⟩ := tn _ _ q2
      obtain ⟨hp2, g', d2, tk2, os2⟩ := s2
      have o3 : xs2[((i : Nat) : Int).toNat]? = some (xs2[i]'(by omega)) := by simp
      have o4 : ys2[((i : Nat) : Int).toNat]? = some (ys2[i]'(by omega)) := by simp
      wp_walk using wpAny_loadPart' g3, wpAny_loadPart' g4
      rw [o3, o4]
      wp_walk
      exact stop
theorem bodyB (l b : Addr) (N : Nat) (ans : Nat → Bool) (J : Nat → Shared → Prop) (tn : Turns prog w A (fun e s' => R (.error e) s') l b N ans J) (yes : (∀ j, j < N → ans j = true) → ∀ s, J N s → R (.ok (.ret (.bool true))) s) (no : ∀ i s, i < N → ans i = false → J (i + 1) s → R (.ok (.ret (.bool false))) s) {s : Shared} (h : J 0 s) :
    wpAny (model prog w) A.in1 (Builtin.«list.__eq__» ⟨[.ref l, .ref b], []⟩) (GQ.FinOf prog w A R) (fun e s' => R (.error e) s') s := by
  obtain ⟨xs, ys, n, m, g1, g2, z1, z2, _⟩ := tn _ _ h
  have rec_ := loopB (A := A) (R := R) l b N ans J tn yes no _ 0 rfl (Nat.zero_le _) (fun j hj => absurd hj (Nat.not_lt_zero _)) s h
  obtain ⟨hp, g, d, tk, os⟩ := s
  have sub := AutoSeq1.sub_list_list
  have same : ¬ (xs.size != ys.size) = true := by simp [z1, z2]
  wp_walk using wpAny_loadPart' g1, wpAny_loadPart' g2
  exact ⟨plainId_quiet plain_eq_loop _, codeAny_builtin entry_eq_loop (by
    rw [Around.under_plainId plain_eq_loop _]
    exact rec_)⟩
theorem bodyL (l b : Addr) {xs ys : Array Value} {n m : Nat} {s : Shared} (g1 : s.heap.get? l = some { cls := .type "list", data := .seq xs n }) (g2 : s.heap.get? b = some { cls := .type "list", data := .seq ys m }) (ne : xs.size ≠ ys.size) (q : R (.ok (.ret (.bool false))) s) :
    wpAny (model prog w) A.in1 (Builtin.«list.__eq__» ⟨[.ref l, .ref b], []⟩) (GQ.FinOf prog w A R) (fun e s' => R (.error e) s') s := by
  obtain ⟨hp, g, d, tk, os⟩ := s
  have sub := AutoSeq1.sub_list_list
  have unlike : (xs.size != ys.size) = true := by simp [ne]
  wp_walk using wpAny_loadPart' g1, wpAny_loadPart' g2
  exact q
end
section
variable {prog : Program} {w : World} {A : Around} {E : Value → Shared → Prop} {s : Shared}
theorem rcB {l b : Addr} {N : Nat} {ans : Nat → Bool} {Q : Value → Shared → Prop} (hu : A.units < cLine) (J : Nat → Shared → Prop) (tn : Turns prog w A E l b N ans J) (yes : (∀ j, j < N → ans j = true) → ∀ s, J N s → Q (.bool true) s) (no : ∀ i s, i < N → ans i = false → J (i + 1) s → Q (.bool false) s) (h : J 0 s) :
    wpAny (model prog w) A (richCompare .Eq (.ref l) (.ref b)) Q E s := by
  obtain ⟨xs, ys, n, m, g1, g2, _⟩ := tn _ _ h
  refine wpAny_richCompare_same_room (op := .Eq) ⟨_, g1, rfl⟩ ⟨_, g2, rfl⟩ F.slot_list_eq (GQ.call_here F.slot_list_eq ⟨_, g1, rfl⟩ F.entry_list_eq (F.args_list_eq_2 _ _) ?_) hu
  exact bodyB (R := wants (fun v s' => v ≠ .notImplemented ∧ Q v s') E) l b N ans J tn (fun ht s' q => ⟨(fun x => nomatch x), yes ht s' q⟩) (fun i s' hi ha q => ⟨(fun x => nomatch x), no i s' hi ha q⟩) h
theorem rcL {l b : Addr} {xs ys : Array Value} {n m : Nat} {Q : Value → Shared → Prop} (hu : A.units < cLine) (g1 : s.heap.get? l = some { cls := .type "list", data := .seq xs n }) (g2 : s.heap.get? b = some { cls := .type "list", data := .seq ys m }) (ne : xs.size ≠ ys.size) (q : Q (.bool false) s) :
    wpAny (model prog w) A (richCompare .Eq (.ref l) (.ref b)) Q E s := by
  refine wpAny_richCompare_same_room (op := .Eq) ⟨_, g1, rfl⟩ ⟨_, g2, rfl⟩ F.slot_list_eq (GQ.call_here F.slot_list_eq ⟨_, g1, rfl⟩ F.entry_list_eq (F.args_list_eq_2 _ _) ?_) hu
  exact bodyL (R := wants (fun v s' => v ≠ .notImplemented ∧ Q v s') E) l b g1 g2 ne ⟨(fun x => nomatch x), q⟩
end
/-- how two values compare, by the heap -/
abbrev EqD := V → V → Hp → Bool → Prop
def MonD (D : EqD) : Prop := ∀ x y H H' b, Same H H' → D x y H b → D x y H' b
/-- == inside a list gives what D says, and only makes objects -/
def EqB (X : Cx) (n : Nat) (D : EqD) : Prop :=
  ∀ (A : Around) (pins : List (Addr × Obj)) (s : Shared) (σ : L2.St) (H : Hp) (x y : V) (u v : Value) (b : Bool), Sub X n A → Inv X pins σ H s → RelV x u → RelV y v → D x y H b →
    wpAny (model X.prog X.w) A (eqBool u v) (fun r s' => r = b ∧ ∃ H', Inv X pins σ H' s' ∧ Same H H') X.xe s
def RcB (X : Cx) (n : Nat) (D : EqD) : Prop :=
  ∀ (A : Around) (pins : List (Addr × Obj)) (s : Shared) (σ : L2.St) (H : Hp) (x y : V) (u v : Value) (b : Bool), Sub X n A → Inv X pins σ H s → RelV x u → RelV y v → D x y H b →
    wpAny (model X.prog X.w) A (richCompare .Eq u v) (fun r s' => r = .bool b ∧ ∃ H', Inv X pins σ H' s' ∧ Same H H') X.xe s
/-- lists, item by item -/
def DLst (D : EqD) : EqD := fun x y H b => ∃ (a c : Addr) (xs ys : List V), x = .ref a ∧ y = .ref c ∧ H a = some (.lst xs) ∧ H c = some (.lst ys) ∧
  ((xs.length ≠ ys.length ∧ b = false) ∨ ∃ bs : List Bool, xs.length = ys.length ∧ bs.length = xs.length ∧ (∀ (i : Nat) u v t, xs[i]? = some u → ys[i]? = some v → bs[i]? = some t → D u v H t) ∧ b = bs.all id)
theorem mon_lst {D : EqD} (hD : MonD D) : MonD (DLst D) := fun x y H H' b s d => by
  obtain ⟨a, c, xs, ys, e1, e2, h1, h2, d⟩ := d
  refine ⟨a, c, xs, ys, e1, e2, s _ _ h1, s _ _ h2, ?_⟩
  rcases d with d | ⟨bs, l1, l2, k, e⟩
  · exact .inl d
  · exact .inr ⟨bs, l1, l2, fun i u v t hu hv ht => hD _ _ _ _ _ s (k i u v t hu hv ht), e⟩
section
variable {X : Cx} {n : Nat} {D : EqD}
theorem rcB_list (hD : MonD D) (h : EqB X n D) : RcB X (n + 1) (DLst D) := by
  intro A pins s σ H x y u v b sb I rx ry d
  obtain ⟨a, c, xs, ys, rfl, rfl, ha, hc, d⟩ := d
  cases rx
  cases ry
  rcases d with ⟨ne, rfl⟩ | ⟨bs, l1, l2, k, rfl⟩
  · obtain ⟨z, its, k1, r, e⟩ := I.hok a _ ha
    obtain ⟨z2, its2, k2, r2, e2⟩ := I.hok c _ hc
    refine rcL sb.room.units0 e e2 ?_ ⟨rfl, H, I, Same.refl H⟩
    rw [List.size_toArray, List.size_toArray, ← r.length, ← r2.length]
    exact ne
  · have at_ : ∀ i, i < xs.length → ∃ t, bs[i]? = some t ∧ bs.getD i true = t := fun i hi => by
      refine ⟨bs[i]'(by omega), List.getElem?_eq_getElem (by omega), ?_⟩
      rw [List.getD_eq_getElem?_getD, List.getElem?_eq_getElem (by omega)] <;> rfl
    refine rcB (N := xs.length) (ans := fun i => bs.getD i true) sb.room.units0 (fun i s' => ∃ H', Inv X pins σ H' s' ∧ Same H H') ?_ ?_ ?_ ⟨H, I, Same.refl H⟩
    · rintro i s' ⟨H1, I1, s1⟩
      obtain ⟨z, its, k1, r, e⟩ := I1.hok a _ (s1 _ _ ha)
      obtain ⟨z2, its2, k2, r2, e2⟩ := I1.hok c _ (s1 _ _ hc)
      refine ⟨its.toArray, its2.toArray, k1, k2, e, e2, by rw [List.size_toArray, ← r.length], by rw [List.size_toArray, ← r2.length, ← l1], fun h1 h2 => ?_⟩
      have m1 : i < xs.length := by rw [r.length]; simpa using h1
      have m2 : i < ys.length := by omega
      obtain ⟨u, hu, ru⟩ := r.get (List.getElem?_eq_getElem m1)
      obtain ⟨v, hv, rv⟩ := r2.get (List.getElem?_eq_getElem m2)
      have g1 : its[i]? = some its.toArray[i] := by
        rw [List.getElem?_eq_getElem (by simpa using h1)] <;> simp
      have g2 : its2[i]? = some its2.toArray[i] := by
        rw [List.getElem?_eq_getElem (by simpa using h2)] <;> simp
      rw [g1] at hu
      rw [g2] at hv
      rw [Option.some.inj hu, Option.some.inj hv]
      obtain ⟨t, ht, et⟩ := at_ i m1
      have dd := hD _ _ _ _ _ s1 (k i _ _ t (List.getElem?_eq_getElem m1) (List.getElem?_eq_getElem m2) ht)
      refine wpAny_mono (h A.in1 pins s' σ H1 _ _ u v t sb.in1 I1 ru rv dd) (fun q s2 w => ?_) fun _ _ w => w
      obtain ⟨e3, H2, I2, s2'⟩ := w
      exact ⟨e3.trans et.symm, H2, I2, s1.trans s2'⟩
    · rintro ht s' ⟨H1, I1, s1⟩
      refine ⟨?_, H1, I1, s1⟩
      refine congrArg Value.bool (Eq.symm ?_)
      rw [List.all_eq_true]
      intro t htm
      obtain ⟨i, hi⟩ := List.mem_iff_getElem?.mp htm
      have hil : i < xs.length := by
        rw [← l2]
        exact (List.getElem?_eq_some_iff.mp hi).1
      obtain ⟨t', h1, h2⟩ := at_ i hil
      rw [hi] at h1
      have := ht i hil
      rw [h2] at this
      rw [Option.some.inj h1, this] <;> rfl
    · rintro i s' hi ha2 ⟨H1, I1, s1⟩
      refine ⟨?_, H1, I1, s1⟩
      refine congrArg Value.bool (Eq.symm ?_)
      obtain ⟨t, h1, h2⟩ := at_ i hi
      have ha3 : bs.getD i true = false := ha2
      rw [h2] at ha3
      cases g : bs.all id with
      | false => rfl
      | true =>
        have := List.all_eq_true.mp g t (List.mem_of_getElem? h1)
        rw [ha3] at this
        cases this
end
end Nv
set_option maxHeartbeats 4000000
namespace Nv
open PySem PySem.Spec PyProof.Rows L2
/-- call_own, from anywhere below -/
theorem call_ownS {X : Cx} {f : Addr} {k : Nat} {fd : FuncData} {ps : List Str} {sp : Sp} {A : Around} {pins : List (Addr × Obj)} {σ : L2.St} {H : Hp} {s : Shared} {vs : List V} {us : List Value} {Q : VK} {E2 : Value → Shared → Prop} (F : FnOk X.prog X.w X.K X.mg X.base CX0 k f fd ps sp) (sb : Sub X k A) (hb : Binds X.K fd ps [])
    (I : Inv X pins σ H s) (r : Vals vs us) (h : sp vs H Q E0) : wpAny (model X.prog X.w) A (call (.ref f) us) (EP X pins σ Q) E2 s := call_own F sb.room sb.fr hb I r h
/-- two rules -/
def DRule (C : Addr) : EqD := fun u v H b => ∃ (a c : Addr) (x y : Rl), u = .ref a ∧ v = .ref c ∧ RA C H a x ∧ RA C H c y ∧ x.Ok ∧ y.Ok ∧ b = decide (x = y) ∧ (a = c → b = true)
theorem mon_rule {C : Addr} : MonD (DRule C) := fun u v H H' b s d => by
  obtain ⟨a, c, x, y, e1, e2, h1, h2, d⟩ := d
  exact ⟨a, c, x, y, e1, e2, h1.same s, h2.same s, d⟩
section
variable {X : Cx} {n : Nat} {D : EqD}
/-- from a rich comparison of references to == inside a list -/
theorem RcB.eqB (h : RcB X n D) (hr : ∀ x y H b, D x y H b → ∃ a c, x = .ref a ∧ y = .ref c ∧ (a = c → b = true)) : EqB X n D := by
  intro A pins s σ H x y u v b sb I rx ry d
  obtain ⟨a, c, rfl, rfl, hid⟩ := hr _ _ _ _ d
  cases rx
  cases ry
  by_cases hac : a = c
  · subst hac
    rw [hid rfl]
    exact SeqAt.EqAt.same (A := A) (s := s) (.ref a) X.prog X.w X.xe _ ⟨rfl, H, I, Same.refl H⟩
  · refine GQ.eqBool_refG hac (wpAny_mono (h A pins s σ H (.ref a) (.ref c) _ _ b sb I rfl rfl d) (fun r s' q => ?_) fun _ _ x => x)
    obtain ⟨hr', q⟩ := q
    exact ⟨b, hr', rfl, q⟩
theorem rcB_rule {C f : Addr} {fd : FuncData} (F : FnOk X.prog X.w X.K X.mg X.base CX0 1 f fd ["self", "other"] (spRuleEq X.K C)) (R : RC X.K C) (I0 : IC X.K C) (hs : PySem.W.findIn X.K (.ref C) "__eq__" = some (some (.ref f))) (hf : PySem.W.isFn X.K (.ref f) = true) (hb : Binds X.K fd ["self", "other"] []) : RcB X 1 (DRule C) := by
  intro A pins s σ H x y u v b sb I rx ry d
  obtain ⟨a, c, p, q, rfl, rfl, ra, rc, po, qo, rfl, _⟩ := d
  cases rx
  cases ry
  obtain ⟨dx, th, l1, l2, l3, us, us2, us3, e, _⟩ := id ra
  obtain ⟨dx', th', m1, m2, m3, ws, ws2, ws3, e', _⟩ := id rc
  obtain ⟨mA, J, _⟩ := ins_get I.hok e
  obtain ⟨od, J, _⟩ := J.look
  obtain ⟨mB, J', _⟩ := ins_get I.hok e'
  obtain ⟨od', J', _⟩ := J'.look
  obtain ⟨m, hF⟩ := I.fr
  refine PySem.W.cmp_K (op := .Eq) (tb := .ref C) sb.room.units0 hF I.ok.mod.kin J J'.type (by simp [PySem.W.notFirst]) hs hf ?_
  have hsp : spRuleEq X.K C [.ref a, .ref c] H (fun v H' => v = .bl (decide (p = q)) ∧ H' = H) E0 := ⟨a, p, .ref c, rfl, ra, po, .inl ⟨c, q, rfl, rc, qo, rfl, rfl⟩⟩
  refine wpAny_mono (call_ownS (X := X) F sb hb I (vs := [.ref a, .ref c]) (.cons rfl (.cons rfl .nil)) hsp) (fun w s1 h => ?_) fun _ _ e => e
  obtain ⟨z, H1, I1, rz, rfl, rfl⟩ := h
  cases rz
  exact ⟨rfl, H1, I1, Same.refl _⟩
theorem eqB_rule {C f : Addr} {fd : FuncData} (F : FnOk X.prog X.w X.K X.mg X.base CX0 1 f fd ["self", "other"] (spRuleEq X.K C)) (R : RC X.K C) (I0 : IC X.K C) (hs : PySem.W.findIn X.K (.ref C) "__eq__" = some (some (.ref f))) (hf : PySem.W.isFn X.K (.ref f) = true) (hb : Binds X.K fd ["self", "other"] []) : EqB X 1 (DRule C) :=
  (rcB_rule F R I0 hs hf hb).eqB fun _ _ _ _ d => by
    obtain ⟨a, c, p, q, e1, e2, _, _, _, _, _, hid⟩ := d
    exact ⟨a, c, e1, e2, hid⟩
/-- x == y of two such -/
def rEqB (D : EqD) : R2 := fun x y H Q => ∃ b, D x y H b ∧ ∀ H', Same H H' → Q (.bl b) H'
theorem op_eqB (h : RcB X n D) (hr : Room n X.A) : OpR X (compareOp .Eq) (rEqB D) := by
  intro pins s σ H x y v u Q I rx ry hq
  obtain ⟨b, d, q⟩ := hq
  show wpAny (model X.prog X.w) X.A (richCompare .Eq v u) (EP X pins σ Q) X.xe s
  refine wpAny_mono (h X.A pins s σ H x y v u b ⟨hr, rfl⟩ I rx ry d) (fun r s' z => ?_) fun _ _ x => x
  obtain ⟨hr', H', I', e⟩ := z
  subst hr'
  exact ⟨.bl b, H', I', rfl, q H' e⟩
end
/-- two lists of rules -/
theorem dlst_rules {C : Addr} {H : Hp} {a c : Addr} {rs ss : List Addr} {xs ys : List Rl} (ea : H a = some (.lst (rs.map V.ref))) (ec : H c = some (.lst (ss.map V.ref))) (hx : RAs C H rs xs) (hy : RAs C H ss ys) (ox : ∀ x ∈ xs, x.Ok) (oy : ∀ y ∈ ys, y.Ok)
    (same : ∀ (i : Nat) (r : Addr) (x y : Rl), rs[i]? = some r → ss[i]? = some r → xs[i]? = some x → ys[i]? = some y → x = y) : DLst (DRule C) (.ref a) (.ref c) H (decide (xs = ys)) := by
  refine ⟨a, c, _, _, rfl, rfl, ea, ec, ?_⟩
  have l1 := hx.len
  have l2 := hy.len
  by_cases hl : xs.length = ys.length
  · refine .inr ⟨(List.range xs.length).map fun i => decide (xs[i]? = ys[i]?), by rw [List.length_map, List.length_map]; omega, by rw [List.length_map, List.length_map, List.length_range]; omega, fun i u v t hu hv ht => ?_, ?_⟩
    · obtain ⟨r, hr, rfl⟩ := at_ref hu
      obtain ⟨s, hs, rfl⟩ := at_ref hv
      obtain ⟨x, hxi, rx⟩ := hx.at_ hr
      obtain ⟨y, hyi, ry⟩ := hy.at_ hs
      have hil : i < xs.length := (List.getElem?_eq_some_iff.mp hxi).1
      rw [List.getElem?_map, List.getElem?_range hil] at ht
      have ht2 : t = decide (x = y) := by
        have hd : decide (xs[i]? = ys[i]?) = t := Option.some.inj ht
        rw [← hd, hxi, hyi]
        exact decide_eq_decide.mpr ⟨fun e => Option.some.inj e, fun e => by rw [e]⟩
      exact ⟨r, s, x, y, rfl, rfl, rx, ry, ox x (List.mem_of_getElem? hxi), oy y (List.mem_of_getElem? hyi), ht2, fun e => by
        subst e
        rw [ht2]
        exact decide_eq_true (same i r x y hr hs hxi hyi)⟩
    · rw [List.all_map]
      by_cases e : xs = ys
      · subst e
        rw [decide_eq_true rfl]
        symm
        rw [List.all_eq_true]
        intro i _
        exact decide_eq_true rfl
      · rw [decide_eq_false e]
        cases g : (List.range xs.length).all (id ∘ fun i => decide (xs[i]? = ys[i]?)) with
        | false => rfl
        | true =>
          refine absurd (List.ext_getElem? fun i => ?_) e
          rcases Nat.lt_or_ge i xs.length with h | h
          · exact of_decide_eq_true (List.all_eq_true.mp g i (List.mem_range.mpr h))
          · rw [List.getElem?_eq_none h, List.getElem?_eq_none (by omega)]
  · exact .inl ⟨by rw [List.length_map, List.length_map]; omega, decide_eq_false fun e => hl (by rw [e])⟩
end Nv
set_option maxHeartbeats 4000000
namespace Nv
open PySem PySem.Spec PyProof.Rows L2 TL
/-! # rule_text, _law_rule_text; need_rule, need_book where they let pass -/
theorem asc_app {x y : Str} (h : Asc x) (k : Asc y) : Asc (x ++ y) := fun c hc => by
  rw [show (x ++ y).cps.toList = tl x ++ tl y from tl_append x y] at hc
  rcases List.mem_append.mp hc with z | z
  · exact h c z
  · exact k c z
theorem asc_joinL {S : List Nat} (hS : ∀ c ∈ S, c < 128) : ∀ {l : List (List Nat)}, (∀ p ∈ l, ∀ c ∈ p, c < 128) → ∀ c ∈ joinL S l, c < 128
  | [], _, c, hc => nomatch hc
  | [p], h, c, hc => h p (List.mem_singleton.mpr rfl) c hc
  | p :: q :: r, h, c, hc => by
    rcases List.mem_append.mp (show c ∈ p ++ (S ++ joinL S (q :: r)) from hc) with z | z
    · exact h p List.mem_cons_self c z
    · rcases List.mem_append.mp z with z | z
      · exact hS c z
      · exact asc_joinL hS (l := q :: r) (fun y hy => h y (List.mem_cons_of_mem _ hy)) c z
theorem asc_join {y : Str} {l : List Str} (hy : Asc y) (h : ∀ z ∈ l, Asc z) : Asc (Txt.join y l) := fun c hc => by
  rw [join_eq, show (Str.join y l).cps.toList = joinL (tl y) (l.map tl) from tl_join y l] at hc
  refine asc_joinL hy (fun p hp => ?_) c hc
  obtain ⟨z, hz, rfl⟩ := List.mem_map.mp hp
  exact h z hz
theorem asc_lit {s : Str} (h : (tl s).all (fun c => decide (c < 128)) = true) : Asc s := fun c hc => of_decide_eq_true (List.all_eq_true.mp h c hc)
theorem asc_patT {p : List Str} (h : ∀ z ∈ p, Asc z) : Asc (patT p) := by
  match p, h with
  | [], _ => exact fun c hc => nomatch hc
  | [w], h => exact h w List.mem_cons_self
  | w :: t :: ts, h => exact asc_app (asc_app (asc_app (h w List.mem_cons_self) (asc_lit (by decide +kernel))) (asc_join (asc_lit (by decide +kernel)) fun z hz => h z (List.mem_cons_of_mem _ hz))) (asc_lit (by decide +kernel))
theorem asc_cond {ps qs ds : List (List Str)} (hp : ∀ p ∈ ps, PatOk p) (hq : ∀ q ∈ qs, PairOk q) (hd : ∀ d ∈ ds, PatOk d) : ∀ c ∈ condT ps qs ds, Asc c := by
  intro c hc
  unfold condT at hc
  rcases List.mem_append.mp hc with hc | hc
  · rcases List.mem_append.mp hc with hc | hc
    · obtain ⟨p, h, rfl⟩ := List.mem_map.mp hc
      exact asc_patT (hp p h).asc
    · obtain ⟨q, h, rfl⟩ := List.mem_map.mp hc
      have k := (hq q h).asc
      obtain ⟨x, y, rfl, _⟩ := hq q h
      exact asc_app (asc_app (k x List.mem_cons_self) (asc_lit (by decide +kernel))) (k y (List.mem_cons_of_mem _ List.mem_cons_self))
  · obtain ⟨d, h, rfl⟩ := List.mem_map.mp hc
    exact asc_app (asc_lit (by decide +kernel)) (asc_patT (hd d h).asc)
theorem asc_ruleT {x : Rl} (ok : x.Ok) : Asc (ruleT x) := by
  refine asc_app (asc_app (asc_app ok.l.asc (asc_lit (by decide +kernel))) (asc_patT ok.h.asc)) ?_
  unfold tailT
  by_cases h : condT x.ps x.qs x.ds = []
  · rw [if_pos h]
    exact asc_lit (by decide +kernel)
  · rw [if_neg h]
    exact asc_app (asc_lit (by decide +kernel)) (asc_join (asc_lit (by decide +kernel)) (asc_cond ok.ps ok.qs ok.ds))
theorem ruleT_len {x : Rl} (ok : x.Ok) : (ruleT x).length ≤ 61000 ∧ (tailT x.ps x.qs x.ds).length ≤ 60100 := by
  have h1 := joinC_len ok.ps ok.qs ok.ds ok.pl ok.ql ok.dl
  have h2 := join_len ", " (condT x.ps x.qs x.ds)
  have h3 := patT_len ok.h.sht
  have h4 := ok.l.2.1
  have h5 : (tailT x.ps x.qs x.ds).length ≤ 60100 := by
    unfold tailT
    by_cases h : condT x.ps x.qs x.ds = []
    · rw [if_pos h]
      exact Nat.zero_le _
    · rw [if_neg h, len_app, show (" if " : Str).length = 4 by decide +kernel]
      omega
  refine ⟨?_, h5⟩
  unfold ruleT
  rw [len_app, len_app, len_app, show (": " : Str).length = 2 by decide +kernel]
  omega
section
variable (P : Program) (w : World) (K : PySem.W.Frag) (mg : Str → Option Value) (base : Heap)
/-- a property that tells a list anew -/
structure PropL (C : Addr) (x f : Str) : Prop where
  ex : ∃ p g fd, PropOf K C x p g ∧ FnOk P w K mg base CX0 1 g fd ["self"] (spGetL C f) ∧ Binds K fd ["self"] []
/-- a def of the text by its name -/
structure CallA (x : Str) (k : Nat) (ps : List Str) (sp : Sp) : Prop where
  ex : ∃ f fd, FnOk P w K mg base CX0 k f fd ps sp ∧ PySem.W.keepIn K (.ref f) = true ∧ mg x = some (.ref f) ∧ Binds K fd ps []
/-- Rule's properties -/
structure RPs (C : Addr) : Prop where
  rc : RC K C
  label : PL P w K mg base C "label" "_label"
  head : PL P w K mg base C "head" "_head"
  told : PropL P w K mg base C "told" "_told"
  pairs : PropL P w K mg base C "pairs" "_pairs"
  denied : PropL P w K mg base C "denied" "_denied"
end
section
variable {P : Program} {w : World} {K : PySem.W.Frag} {mg : Str → Option Value} {base : Heap}
def spNeedI (C : Addr) : Sp := fun vs H Q _ => ∃ (r dx : Addr) (fs : List (Str × V)), vs = [.ref r] ∧ H r = some (.ins C dx fs) ∧ Q .non H
theorem scNeedRule : FnScope ["value"] ["value"] (defScope sNeedRule) := ⟨rfl, rfl, rfl, by decide +kernel, rfl, by decide +kernel, by decide +kernel⟩
theorem ok_needRule {f C : Addr} {fd : FuncData} (F : Fun K "need_rule" "need_rule" sNeedRule f fd) (B : Bp mg) (cl : Cls K C) (I : IC K C) (gQ : mg "Rule" = some (.ref C)) :
    FnOk P w K mg base CX0 1 f fd ["value"] (spNeedI C) := by
  refine F.ok scNeedRule (fun vs H Q E h => ?_) (fun cdv A outer s H vs Q E hr h => ?_)
  · obtain ⟨r, dx, fs, rfl, _⟩ := h
    rfl
  · obtain ⟨r, dx, fs, rfl, e, q⟩ := h
    refine ⟨_, pss_one (ps_if (pt_not (pt_val (pe_callB call_isi (by rfl) B.isi bootIsi (pa_cons (pv 0) (pa_cons (pe_glob (v := V.ref C) (by rfl) gQ rfl) pa_nil))))) (pss_one ps_never) pss_nil), ?_⟩
    refine ⟨_, rfl, _, _, _, _, true, rfl, .own _, .base (.ins e cl I.ha I.hn I.ht I.hm), I.me, ?_⟩
    exact ⟨true, rfl, iteF q⟩
theorem scNeedBook : FnScope ["value"] ["value"] (defScope sNeedBook) := ⟨rfl, rfl, rfl, by decide +kernel, rfl, by decide +kernel, by decide +kernel⟩
theorem ok_needBook {f C : Addr} {fd : FuncData} (F : Fun K "need_book" "need_book" sNeedBook f fd) (B : Bp mg) (cl : Cls K C) (I : IC K C) (gQ : mg "Book" = some (.ref C)) :
    FnOk P w K mg base CX0 1 f fd ["value"] (spNeedI C) := by
  refine F.ok scNeedBook (fun vs H Q E h => ?_) (fun cdv A outer s H vs Q E hr h => ?_)
  · obtain ⟨r, dx, fs, rfl, _⟩ := h
    rfl
  · obtain ⟨r, dx, fs, rfl, e, q⟩ := h
    refine ⟨_, pss_one (ps_if (pt_not (pt_val (pe_callB call_isi (by rfl) B.isi bootIsi (pa_cons (pv 0) (pa_cons (pe_glob (v := V.ref C) (by rfl) gQ rfl) pa_nil))))) (pss_one ps_never) pss_nil), ?_⟩
    refine ⟨_, rfl, _, _, _, _, true, rfl, .own _, .base (.ins e cl I.ha I.hn I.ht I.hm), I.me, ?_⟩
    exact ⟨true, rfl, iteF q⟩
def spRuleT (C : Addr) : Sp := fun vs H Q _ => ∃ (r : Addr) (x : Rl), vs = [.ref r] ∧ RA C H r x ∧ x.Ok ∧ ∀ H', Same H H' → Q (.str (ruleT x)) H'
theorem scRuleText : FnScope ["rule", "conditions"] ["rule"] (defScope sRuleText) := ⟨rfl, rfl, rfl, by decide +kernel, rfl, by decide +kernel, by decide +kernel⟩
theorem ok_ruleText {f CR : Addr} {fd : FuncData} (F : Fun K "rule_text" "rule_text" sRuleText f fd) (R : RPs P w K mg base CR) (GN : CallA P w K mg base "need_rule" 1 ["value"] (spNeedI CR)) (GC : CallA P w K mg base "conditions_text" 2 ["told", "pairs", "denied"] (spCondT K)) (GT : CallA P w K mg base "pattern_text" 1 ["pattern"] (spPatT K)) :
    FnOk P w K mg base CX0 3 f fd ["rule"] (spRuleT CR) := by
  obtain ⟨fN, dN, GN, kN, gN, bN⟩ := GN.ex
  obtain ⟨fC, dC, GC, kC, gC, bC⟩ := GC.ex
  obtain ⟨fT, dT', GT, kT, gT, bT⟩ := GT.ex
  obtain ⟨p1, g1, d1, PO1, PF1, PB1⟩ := R.label.ex
  obtain ⟨p2, g2, d2, PO2, PF2, PB2⟩ := R.head.ex
  obtain ⟨p3, g3, d3, PO3, PF3, PB3⟩ := R.told.ex
  obtain ⟨p4, g4, d4, PO4, PF4, PB4⟩ := R.pairs.ex
  obtain ⟨p5, g5, d5, PO5, PF5, PB5⟩ := R.denied.ex
  refine F.ok scRuleText (fun vs H Q E h => ?_) (fun cdv A outer s H vs Q E hr h => ?_)
  · obtain ⟨r, x, rfl, _⟩ := h
    rfl
  · obtain ⟨r, x, rfl, ra, ok, q⟩ := h
    have hr1 : Room 1 _ := hr.mono (by decide)
    have cl := R.rc.cl
    refine ⟨_, pss_cons (ps_expr (by exact (pe_call GN hr1 (by rfl) gN kN bN .nil pass0 (pa_cons (pv 0) pa_nil))))
      (pss_cons (ps_set (i := 1) scRuleText.nd rfl (Or.inl rfl) (by exact (pe_call GC hr (by rfl) gC kC bC .nil pass0 (pa_cons (pe_prop (pv 0) cl PO3 PF3 hr PB3 .nil pass0 rfl) (pa_cons (pe_prop (pv 0) cl PO4 PF4 hr PB4 .nil pass0 rfl) (pa_cons (pe_prop (pv 0) cl PO5 PF5 hr PB5 .nil pass0 rfl) pa_nil))))))
      (pss_one (ps_ret (pe_op op_add_str (pe_op op_add_str (pe_op op_add_str (pe_prop (pv 0) cl PO1 PF1 hr PB1 .nil pass0 rfl) pe_str) (by exact (pe_call GT hr1 (by rfl) gT kT bT .nil pass0 (pa_cons (pe_prop (pv 0) cl PO2 PF2 hr PB2 .nil pass0 rfl) pa_nil)))) (pv 1))))), ?_⟩
    have hs : 200000 ≤ sizeLine := by decide
    have hl := (ruleT_len ok).2
    have hp := patT_len ok.h.sht
    have hll := ok.l.2.1
    obtain ⟨dx, th, l1, l2, l3, us, us2, us3, e, e1, ⟨e2, q2⟩, ⟨e3, q3⟩, e4, q4⟩ := id ra
    refine ⟨_, rfl, ?_⟩
    dsimp only [tNil]
    refine ⟨r, dx, _, rfl, e, ?_⟩
    show tSeq _ _ _ _ _
    refine ⟨_, rfl, r, dx, _, rfl, e, r, dx, l1, _, us, rfl, e, lk3, e2, fun a na => ?_⟩
    have s1 : Same H (upd H a (.lst us)) := same_new na
    have ea : upd H a (.lst us) a = some (.lst us) := upd_same
    generalize upd H a (.lst us) = H1 at s1 ea ⊢
    refine ⟨_, rfl, r, dx, _, rfl, s1 _ _ e, r, dx, l2, _, us2, rfl, s1 _ _ e, lk4, s1 _ _ e3, fun b nb => ?_⟩
    have s2 : Same H1 (upd H1 b (.lst us2)) := same_new nb
    have eb : upd H1 b (.lst us2) b = some (.lst us2) := upd_same
    generalize upd H1 b (.lst us2) = H2 at s2 eb ⊢
    have s02 := s1.trans s2
    refine ⟨_, rfl, r, dx, _, rfl, s02 _ _ e, r, dx, l3, _, us3, rfl, s02 _ _ e, lk5, s02 _ _ e4, fun c nc => ?_⟩
    have s3 : Same H2 (upd H2 c (.lst us3)) := same_new nc
    have ec : upd H2 c (.lst us3) c = some (.lst us3) := upd_same
    generalize upd H2 c (.lst us3) = H3 at s3 ec ⊢
    have s03 := s02.trans s3
    dsimp only [tNil]
    refine ⟨a, b, c, us, us2, us3, x.ps, x.qs, x.ds, rfl, ⟨s3 _ _ (s2 _ _ ea), q2.same s03⟩, ⟨s3 _ _ eb, q3.same s03⟩, ⟨ec, q4.same s03⟩, ⟨ok.ps, ok.pl⟩, ⟨ok.qs, ok.ql⟩, ⟨ok.ds, ok.dl⟩, fun H4 s4 => ?_⟩
    have s04 := s03.trans s4
    refine ⟨_, rfl, r, dx, _, rfl, s04 _ _ e, r, dx, _, _, rfl, s04 _ _ e, lk1, _, _, rfl, rfl, by rw [show (": " : Str).length = 2 by decide +kernel]; omega, ?_⟩
    refine ⟨_, rfl, r, dx, _, rfl, s04 _ _ e, r, dx, _, _, rfl, s04 _ _ e, lk2, ?_⟩
    dsimp only [tNil]
    refine ⟨th, x.h, rfl, s04 _ _ e1, ok.h.sht, fun H5 s5 => ⟨_, _, rfl, rfl, ?_, _, rfl, _, _, rfl, rfl, ?_, q H5 (s04.trans s5)⟩⟩
    · rw [len_app, show (": " : Str).length = 2 by decide +kernel]
      omega
    · rw [len_app, len_app, show (": " : Str).length = 2 by decide +kernel]
      omega
end
end Nv
set_option maxHeartbeats 4000000
namespace Nv
open PySem PySem.Spec PyProof.Rows L2 TL
/-! # _law_rule_text -/
abbrev nLrt : List Str := ["_law_rule_here", "_law_parts", "_law_text", "_law_pattern_here", "_law_one", "_law_other"]
theorem ruleT_nil {x : Rl} (h : condT x.ps x.qs x.ds = []) : ruleT x = x.l ++ ": " ++ patT x.h := by
  unfold ruleT tailT
  rw [if_pos h, app_nil]
theorem ruleT_more {x : Rl} (h : condT x.ps x.qs x.ds ≠ []) : ruleT x = x.l ++ ": " ++ patT x.h ++ " if " ++ Txt.join ", " (condT x.ps x.qs x.ds) := by
  unfold ruleT tailT
  rw [if_neg h, app_tl (a := x.l ++ ": " ++ patT x.h)]
section
variable {P : Program} {w : World} {K : PySem.W.Frag} {mg : Str → Option Value} {base : Heap}
theorem scLRuleText : FnScope nLrt ["_law_rule_here"] (defScope sLRuleText) := ⟨rfl, rfl, rfl, by decide +kernel, rfl, by decide +kernel, by decide +kernel⟩
theorem ok_lRuleText {f CR : Addr} {fd : FuncData} (F : Fun K "_law_rule_text" "_law_rule_text" sLRuleText f fd) (R : RPs P w K mg base CR) (GT : CallA P w K mg base "_law_pattern_text" 1 ["_law_pattern_here"] (spPatT K)) :
    FnOk P w K mg base CX0 3 f fd ["_law_rule_here"] (spRuleT CR) := by
  obtain ⟨fT, dT', GT, kT, gT, bT⟩ := GT.ex
  obtain ⟨p1, g1, d1, PO1, PF1, PB1⟩ := R.label.ex
  obtain ⟨p2, g2, d2, PO2, PF2, PB2⟩ := R.head.ex
  obtain ⟨p3, g3, d3, PO3, PF3, PB3⟩ := R.told.ex
  obtain ⟨p4, g4, d4, PO4, PF4, PB4⟩ := R.pairs.ex
  obtain ⟨p5, g5, d5, PO5, PF5, PB5⟩ := R.denied.ex
  refine F.ok scLRuleText (fun vs H Q E h => ?_) (fun cdv A outer s H vs Q E hr h => ?_)
  · obtain ⟨r, x, rfl, _⟩ := h
    rfl
  · obtain ⟨r, x, rfl, ra, ok, q⟩ := h
    have hr1 : Room 1 _ := hr.mono (by decide)
    have cl := R.rc.cl
    have hu : (A.deeper (envOfC "_law_rule_text" (defScope sLRuleText) s.heap.objs.size f cdv)).units + 64 < cLine := hr.units
    refine ⟨_, pss_cons (by exact (ps_setLc (i := 1) (own := [("_law_pattern_here", 3)]) (g := gName 3) (tt := tYes) (te := tCall (spPatT K) [] E0 (tCons (tVar 3) tNil)) rfl scLRuleText.nd rfl rfl (sw_true rfl rfl rfl (by decide +kernel))
          (pi_list (pe_prop (pv 0) cl PO3 PF3 hr PB3 .nil pass0 rfl))
          (blkOk_by (own := [("_law_pattern_here", 3)]) (N := nLrt) (sc := defScope sLRuleText) (by decide +kernel))
          (fun _ _ _ _ _ => pg_name (i := 3) scLRuleText.nd rfl (Or.inl rfl)) (fun _ _ _ _ _ => pts_nil)
          (fun _ _ _ _ _ => by exact (pe_call GT hr1 (by rfl) gT kT bT .nil pass0 (pa_cons (pv 3) pa_nil)))))
      (pss_cons (ps_set (i := 1) scLRuleText.nd rfl (Or.inl rfl) (pe_op op_cat (pv 1) (by exact (pe_lc (own := [("_law_one", 4), ("_law_other", 5)]) (g := gTup K 2 (gCons (gName 4) (gCons (gName 5) gNil))) (tt := tYes)
          (te := tOp (fun x y H Q => ∃ i j, x = .str i ∧ y = .str j ∧ i.length + j.length ≤ sizeLine ∧ Q (.str (i ++ j)) H) (tOp (fun x y H Q => ∃ i j, x = .str i ∧ y = .str j ∧ i.length + j.length ≤ sizeLine ∧ Q (.str (i ++ j)) H) (tVar 4) (tC (.str " unlike "))) (tVar 5)) rfl scLRuleText.nd (pi_list (pe_prop (pv 0) cl PO4 PF4 hr PB4 .nil pass0 rfl))
          (blkOk_by (own := [("_law_one", 4), ("_law_other", 5)]) (N := nLrt) (sc := defScope sLRuleText) (by decide +kernel))
          (fun _ _ _ _ _ => pg_tup rfl (pgs_cons (pg_name (i := 4) scLRuleText.nd rfl (Or.inl rfl)) (pgs_cons (pg_name (i := 5) scLRuleText.nd rfl (Or.inl rfl)) pgs_nil))) (fun _ _ _ _ _ => pts_nil)
          (fun _ _ _ _ _ => by exact (pe_op op_add_str (pe_op op_add_str (pv 4) pe_str) (pv 5)))))))
      (pss_cons (ps_set (i := 1) scLRuleText.nd rfl (Or.inl rfl) (pe_op op_cat (pv 1) (by exact (pe_lc (own := [("_law_pattern_here", 3)]) (g := gName 3) (tt := tYes)
          (te := tOp (fun x y H Q => ∃ i j, x = .str i ∧ y = .str j ∧ i.length + j.length ≤ sizeLine ∧ Q (.str (i ++ j)) H) (tC (.str "not ")) (tCall (spPatT K) [] E0 (tCons (tVar 3) tNil))) rfl scLRuleText.nd (pi_list (pe_prop (pv 0) cl PO5 PF5 hr PB5 .nil pass0 rfl))
          (blkOk_by (own := [("_law_pattern_here", 3)]) (N := nLrt) (sc := defScope sLRuleText) (by decide +kernel))
          (fun _ _ _ _ _ => pg_name (i := 3) scLRuleText.nd rfl (Or.inl rfl)) (fun _ _ _ _ _ => pts_nil)
          (fun _ _ _ _ _ => by exact (pe_op op_add_str pe_str (by exact (pe_call GT hr1 (by rfl) gT kT bT .nil pass0 (pa_cons (pv 3) pa_nil)))))))))
      (pss_cons (ps_set (i := 2) scLRuleText.nd rfl (Or.inl rfl) (pe_op op_add_str (pe_op op_add_str (pe_prop (pv 0) cl PO1 PF1 hr PB1 .nil pass0 rfl) pe_str) (by exact (pe_call GT hr1 (by rfl) gT kT bT .nil pass0 (pa_cons (pe_prop (pv 0) cl PO2 PF2 hr PB2 .nil pass0 rfl) pa_nil)))))
      (pss_cons (ps_if (pt_cmpR (op_eqD hu) (pv 1) (pe_lst pa_nil) (nomark _)) (pss_one (ps_ret (pv 2))) pss_nil)
      (pss_one (ps_ret (pe_op op_add_str (pe_op op_add_str (pv 2) pe_str) (by exact (pe_join pe_str (pv 1)))))))))), ?_⟩
    have hs : 200000 ≤ sizeLine := by decide
    have hp := patT_len ok.h.sht
    have hll := ok.l.2.1
    have okp := ok.ps
    have okq := ok.qs
    have okd := ok.ds
    have lp := ok.pl
    have lq := ok.ql
    have ld := ok.dl
    obtain ⟨dx, th, l1, l2, l3, us, us2, us3, e, e1, ⟨e2, q2⟩, ⟨e3, q3⟩, e4, q4⟩ := id ra
    refine ⟨_, rfl, r, dx, _, rfl, e, r, dx, l1, _, us, rfl, e, lk3, e2, fun a na => ?_⟩
    have s1 : Same H (upd H a (.lst us)) := same_new na
    have ea : upd H a (.lst us) a = some (.lst us) := upd_same
    generalize upd H a (.lst us) = H1 at s1 ea ⊢
    refine ⟨a, rfl, ⟨_, SqL.of ea⟩, fun D1 nD1 => ?_⟩
    refine lc_txt (K := K) (a := a) (xs := us) (ds := x.ps) (S := TupAt H) (b := fun _ => true) (f := patT) (SqL.of ea) nD1 (by omega) q2.len q2.ats ?_ ?_
    · rintro v d G R N hd ⟨t, rfl, et⟩ sm hR hN
      refine ⟨rfl, _, rfl, ?_⟩
      dsimp only [tNil]
      exact ⟨t, d, rfl, sm _ _ (s1 _ _ et), (okp d hd).sht, fun H' s => hR rfl H' s⟩
    intro H2 s2 t2
    rw [fil_true] at t2
    have s02 := s1.trans s2
    show tSeq _ _ _ _ _
    refine ⟨_, rfl, _, rfl, r, dx, _, rfl, s02 _ _ e, r, dx, l2, _, us2, rfl, s02 _ _ e, lk4, s02 _ _ e3, fun b nb => ?_⟩
    have s3 : Same H2 (upd H2 b (.lst us2)) := same_new nb
    have eb : upd H2 b (.lst us2) b = some (.lst us2) := upd_same
    generalize upd H2 b (.lst us2) = H3 at s3 eb ⊢
    have s03 := s02.trans s3
    refine ⟨b, rfl, ⟨_, SqL.of eb⟩, fun D2 nD2 => ?_⟩
    refine lc_txt (K := K) (a := b) (xs := us2) (ds := x.qs) (S := TupAt H) (b := fun _ => true) (f := pairT) (SqL.of eb) nD2 (by omega) q3.len q3.ats ?_ ?_
    · rintro v d G R N hdq ⟨t, rfl, et⟩ sm hR hN
      obtain ⟨y, z, rfl, _, hx, hy, _⟩ := okq d hdq
      have hx1 := tm10 hx
      have hy1 := tm10 hy
      refine ⟨t, _, rfl, SqT.of (sm _ _ (s03 _ _ et)), rfl, _, _, rfl, _, _, rfl, rfl, rfl, _, rfl, _, _, rfl, rfl, ?_, _, rfl, _, _, rfl, rfl, ?_, ?_⟩
      · rw [show (" unlike " : Str).length = 8 by decide +kernel]
        omega
      · rw [len_app, show (" unlike " : Str).length = 8 by decide +kernel]
        omega
      · exact hR rfl G (Same.refl G)
    intro H4 s4 t4
    rw [fil_true] at t4
    have s04 := s03.trans s4
    refine ⟨D1, D2, _, _, rfl, rfl, s4 _ _ (s3 _ _ t2), t4, by rw [List.length_map, List.length_map, List.length_map, List.length_map]; omega, fun c nc => ?_⟩
    rw [← List.map_append]
    have s5 := same_new (o := HO.lst ((x.ps.map patT ++ x.qs.map pairT).map V.str)) nc
    have t5 : upd H4 c (HO.lst ((x.ps.map patT ++ x.qs.map pairT).map V.str)) c = some _ := upd_same
    generalize upd H4 c (HO.lst ((x.ps.map patT ++ x.qs.map pairT).map V.str)) = H5 at s5 t5 ⊢
    have s05 := s04.trans s5
    show tSeq _ _ _ _ _
    refine ⟨_, rfl, _, rfl, r, dx, _, rfl, s05 _ _ e, r, dx, l3, _, us3, rfl, s05 _ _ e, lk5, s05 _ _ e4, fun k nk => ?_⟩
    have s6 : Same H5 (upd H5 k (.lst us3)) := same_new nk
    have ek : upd H5 k (.lst us3) k = some (.lst us3) := upd_same
    generalize upd H5 k (.lst us3) = H6 at s6 ek ⊢
    have s06 := s05.trans s6
    refine ⟨k, rfl, ⟨_, SqL.of ek⟩, fun D4 nD4 => ?_⟩
    refine lc_txt (K := K) (a := k) (xs := us3) (ds := x.ds) (S := TupAt H) (b := fun _ => true) (f := notT) (SqL.of ek) nD4 (by omega) q4.len q4.ats ?_ ?_
    · rintro v d G R N hdd ⟨t, rfl, et⟩ sm hR hN
      have hl := patT_len (okd d hdd).sht
      refine ⟨rfl, _, rfl, ?_⟩
      dsimp only [tNil]
      refine ⟨t, d, rfl, sm _ _ (s06 _ _ et), (okd d hdd).sht, fun H' s => ⟨_, _, rfl, rfl, ?_, hR rfl H' s⟩⟩
      rw [show ("not " : Str).length = 4 by decide +kernel]
      omega
    intro H7 s7 t7
    rw [fil_true] at t7
    have s07 := s06.trans s7
    refine ⟨c, D4, _, _, rfl, rfl, s7 _ _ (s6 _ _ t5), t7, by rw [List.length_map, List.length_append, List.length_map, List.length_map, List.length_map, List.length_map]; omega, fun m nm => ?_⟩
    rw [← List.map_append]
    have hc : x.ps.map patT ++ x.qs.map pairT ++ x.ds.map notT = condT x.ps x.qs x.ds := rfl
    rw [hc]
    have s8 := same_new (o := HO.lst ((condT x.ps x.qs x.ds).map V.str)) nm
    have t8 : upd H7 m (HO.lst ((condT x.ps x.qs x.ds).map V.str)) m = some _ := upd_same
    generalize upd H7 m (HO.lst ((condT x.ps x.qs x.ds).map V.str)) = H8 at s8 t8 ⊢
    have s08 := s07.trans s8
    show tSeq _ _ _ _ _
    refine ⟨_, rfl, r, dx, _, rfl, s08 _ _ e, r, dx, _, _, rfl, s08 _ _ e, lk1, _, _, rfl, rfl, by rw [show (": " : Str).length = 2 by decide +kernel]; omega, ?_⟩
    refine ⟨_, rfl, r, dx, _, rfl, s08 _ _ e, r, dx, _, _, rfl, s08 _ _ e, lk2, ?_⟩
    dsimp only [tNil]
    refine ⟨th, x.h, rfl, s08 _ _ e1, ok.h.sht, fun H9 s9 => ⟨_, _, rfl, rfl, ?_, ?_⟩⟩
    · rw [len_app, show (": " : Str).length = 2 by decide +kernel]
      omega
    have s09 := s08.trans s9
    have t9 := s9 _ _ t8
    have q9 : ∀ G, Same H9 G → Q (.str (ruleT x)) G := fun G s => q G (s09.trans s)
    have hj := joinC_len okp okq okd lp lq ld
    have hj2 := join_len ", " (condT x.ps x.qs x.ds)
    have hasc := asc_cond okp okq okd
    show tSeq _ _ _ _ _
    refine ⟨_, rfl, by decide, fun n nn => ?_⟩
    have s10 := same_new (o := HO.lst []) nn
    have t10 : upd H9 n (HO.lst []) n = some _ := upd_same
    generalize upd H9 n (HO.lst []) = G at s10 t10 ⊢
    refine ⟨dS (condT x.ps x.qs x.ds), dS [], dp_S (SqL.of (s10 _ _ t9)), .lst (SqL.of t10) .nil, (lay_dS hasc).shaped (by decide), (lay_dS (xs := []) (fun x hx => nomatch hx)).shaped (by decide), _, rfl, ?_⟩
    rw [eqv_S]
    by_cases h : condT x.ps x.qs x.ds = []
    · rw [decide_eq_true h]
      refine iteT ⟨_, rfl, ?_⟩
      have := q9 G s10
      rw [ruleT_nil h] at this
      exact this
    · rw [decide_eq_false h]
      have := q9 G s10
      rw [ruleT_more h] at this
      refine iteF ⟨_, rfl, _, _, rfl, rfl, ?_, ⟨_, rfl⟩, _, rfl, ", ", m, condT x.ps x.qs x.ds, rfl, rfl, .inl (SqL.of (s10 _ _ t9)), by omega, _, _, rfl, rfl, ?_, this⟩
      · rw [len_app, len_app, show (": " : Str).length = 2 by decide +kernel, show (" if " : Str).length = 4 by decide +kernel]
        omega
      · rw [len_app, len_app, len_app, show (": " : Str).length = 2 by decide +kernel, show (" if " : Str).length = 4 by decide +kernel]
        omega
end
end Nv
set_option maxHeartbeats 4000000
namespace Nv
open PySem PySem.Spec PyProof.Rows L2 TL
/-! # lines: texts joined by line ends, and read -/
/-- no sign below a blank: no line's end -/
def Big (z : Str) : Prop := ∀ c ∈ z.cps.toList, 32 ≤ c
theorem IsNm.big {z : Str} (h : IsNm z) : Big z := fun c hc => by
  have := h.2.2 c hc
  omega
theorem IsVr.big {z : Str} (h : IsVr z) : Big z := fun c hc => by
  have := h.2.2 c hc
  omega
theorem PatOk.big {p : List Str} (h : PatOk p) : ∀ x ∈ p, Big x := by
  obtain ⟨w, ts, rfl, hw, _, ht⟩ := h
  intro x hx
  rcases List.mem_cons.mp hx with rfl | hx
  · exact hw.big
  · rcases ht x hx with h | h
    · exact h.big
    · exact h.big
theorem PairOk.big {q : List Str} (h : PairOk q) : ∀ z ∈ q, Big z := by
  obtain ⟨x, y, rfl, _, hx, hy, _⟩ := h
  have a : ∀ {z : Str}, IsTm z → Big z := fun h => by
    rcases h with h | h
    · exact h.big
    · exact h.big
  intro z hz
  rcases List.mem_cons.mp hz with rfl | hz
  · exact a hx
  · rw [List.mem_singleton.mp hz]
    exact a hy
theorem big_app {x y : Str} (h : Big x) (k : Big y) : Big (x ++ y) := fun c hc => by
  rw [show (x ++ y).cps.toList = tl x ++ tl y from tl_append x y] at hc
  rcases List.mem_append.mp hc with z | z
  · exact h c z
  · exact k c z
theorem big_joinL {S : List Nat} (hS : ∀ c ∈ S, 32 ≤ c) : ∀ {l : List (List Nat)}, (∀ p ∈ l, ∀ c ∈ p, 32 ≤ c) → ∀ c ∈ joinL S l, 32 ≤ c
  | [], _, c, hc => nomatch hc
  | [p], h, c, hc => h p (List.mem_singleton.mpr rfl) c hc
  | p :: q :: r, h, c, hc => by
    rcases List.mem_append.mp (show c ∈ p ++ (S ++ joinL S (q :: r)) from hc) with z | z
    · exact h p List.mem_cons_self c z
    · rcases List.mem_append.mp z with z | z
      · exact hS c z
      · exact big_joinL hS (l := q :: r) (fun y hy => h y (List.mem_cons_of_mem _ hy)) c z
theorem big_join {y : Str} {l : List Str} (hy : Big y) (h : ∀ z ∈ l, Big z) : Big (Txt.join y l) := fun c hc => by
  rw [join_eq, show (Str.join y l).cps.toList = joinL (tl y) (l.map tl) from tl_join y l] at hc
  refine big_joinL hy (fun p hp => ?_) c hc
  obtain ⟨z, hz, rfl⟩ := List.mem_map.mp hp
  exact h z hz
theorem big_lit {s : Str} (h : (tl s).all (fun c => decide (32 ≤ c)) = true) : Big s := fun c hc => of_decide_eq_true (List.all_eq_true.mp h c hc)
theorem big_patT {p : List Str} (h : ∀ z ∈ p, Big z) : Big (patT p) := by
  match p, h with
  | [], _ => exact fun c hc => nomatch hc
  | [w], h => exact h w List.mem_cons_self
  | w :: t :: ts, h => exact big_app (big_app (big_app (h w List.mem_cons_self) (big_lit (by decide +kernel))) (big_join (big_lit (by decide +kernel)) fun z hz => h z (List.mem_cons_of_mem _ hz))) (big_lit (by decide +kernel))
theorem big_cond {ps qs ds : List (List Str)} (hp : ∀ p ∈ ps, PatOk p) (hq : ∀ q ∈ qs, PairOk q) (hd : ∀ d ∈ ds, PatOk d) : ∀ c ∈ condT ps qs ds, Big c := by
  intro c hc
  unfold condT at hc
  rcases List.mem_append.mp hc with hc | hc
  · rcases List.mem_append.mp hc with hc | hc
    · obtain ⟨p, h, rfl⟩ := List.mem_map.mp hc
      exact big_patT (hp p h).big
    · obtain ⟨q, h, rfl⟩ := List.mem_map.mp hc
      have k := (hq q h).big
      obtain ⟨x, y, rfl, _⟩ := hq q h
      exact big_app (big_app (k x List.mem_cons_self) (big_lit (by decide +kernel))) (k y (List.mem_cons_of_mem _ List.mem_cons_self))
  · obtain ⟨d, h, rfl⟩ := List.mem_map.mp hc
    exact big_app (big_lit (by decide +kernel)) (big_patT (hd d h).big)
theorem big_ruleT {x : Rl} (ok : x.Ok) : Big (ruleT x) := by
  refine big_app (big_app (big_app ok.l.big (big_lit (by decide +kernel))) (big_patT ok.h.big)) ?_
  unfold tailT
  by_cases h : condT x.ps x.qs x.ds = []
  · rw [if_pos h]
    exact big_lit (by decide +kernel)
  · rw [if_neg h]
    exact big_app (big_lit (by decide +kernel)) (big_join (big_lit (by decide +kernel)) (big_cond ok.ps ok.qs ok.ds))

theorem Big.no10 {z : Str} (h : Big z) : 10 ∉ tl z := fun m => by
  have := h 10 m
  omega
def linesOf (z : Str) : List Str := if z = "" then [] else Txt.split z "\n"
def joinN (l : List Str) : Str := Txt.join "\n" l
theorem tl_n : tl ("\n" : Str) = [10] := by decide +kernel
theorem lines_back {l : List Str} (h : ∀ z ∈ l, Big z) (hn : ∀ z ∈ l, z ≠ "") : linesOf (joinN l) = l := by
  unfold linesOf joinN
  cases l with
  | nil => rw [if_pos (by rw [join_eq]; decide +kernel)]
  | cons x r =>
    have hne : Txt.join "\n" (x :: r) ≠ "" := fun z => by
      have hx : tl x ≠ [] := fun y => hn x List.mem_cons_self (ext_tl (by rw [y]; decide +kernel))
      have e := congrArg tl z
      rw [join_eq, tl_join] at e
      cases r with
      | nil => exact hx e
      | cons y r =>
        have e2 : tl x ++ (tl ("\n" : Str) ++ joinL (tl ("\n" : Str)) ((y :: r).map tl)) = [] := e
        exact hx (List.append_eq_nil_iff.mp e2).1
    rw [if_neg hne]
    exact split_join (s := 10) (S := []) tl_n (by decide +kernel) (by simp) fun z hz => (h z hz).no10
theorem patT_ne {p : List Str} (h : PatOk p) : patT p ≠ "" := fun z => by
  obtain ⟨w, ts, rfl, hw, _⟩ := h
  have e := congrArg tl z
  rw [tl_patT] at e
  have hl := hw.1
  rw [len_tl] at hl
  have hw0 : tl w ≠ [] := fun y => by
    rw [y] at hl
    simp at hl
  cases ts with
  | nil => exact hw0 e
  | cons t ts => exact hw0 (List.append_eq_nil_iff.mp (show tl w ++ 40 :: (tl t ++ resL (ts.map tl)) = [] from e)).1
theorem ruleT_ne {x : Rl} (h : x.Ok) : ruleT x ≠ "" := fun z => by
  have e := congrArg tl z
  unfold ruleT at e
  rw [tl_append, tl_append, tl_append] at e
  have hl := h.l.1
  rw [len_tl] at hl
  have h1 := (List.append_eq_nil_iff.mp (List.append_eq_nil_iff.mp (List.append_eq_nil_iff.mp (show tl x.l ++ tl (": " : Str) ++ tl (patT x.h) ++ tl (tailT x.ps x.qs x.ds) = [] from e)).1).1).1
  rw [h1] at hl
  simp at hl
/-- a book's text, a store's text -/
def bookT (xs : List Rl) : Str := joinN (xs.map ruleT)
def storeT (ps : List (List Str)) : Str := joinN (ps.map patT)
theorem bookT_back {xs : List Rl} (h : ∀ x ∈ xs, x.Ok) : linesOf (bookT xs) = xs.map ruleT := lines_back (fun z hz => by
  obtain ⟨x, hx, rfl⟩ := List.mem_map.mp hz
  exact big_ruleT (h x hx)) fun z hz => by
  obtain ⟨x, hx, rfl⟩ := List.mem_map.mp hz
  exact ruleT_ne (h x hx)
theorem storeT_back {ps : List (List Str)} (h : ∀ p ∈ ps, PatOk p) : linesOf (storeT ps) = ps.map patT := lines_back (fun z hz => by
  obtain ⟨x, hx, rfl⟩ := List.mem_map.mp hz
  exact big_patT (h x hx).big) fun z hz => by
  obtain ⟨x, hx, rfl⟩ := List.mem_map.mp hz
  exact patT_ne (h x hx)
theorem joinN_len {c : Nat} {l : List Str} (h : ∀ z ∈ l, z.length ≤ c) : (l.map (·.length)).sum + l.length * ("\n" : Str).length ≤ l.length * (c + 1) ∧ (joinN l).length ≤ l.length * (c + 1) := by
  have h1 := sum_le (c := c) h
  have h2 := join_len "\n" l
  rw [show ("\n" : Str).length = 1 by decide +kernel] at h2 ⊢
  rw [Nat.mul_add]
  unfold joinN
  omega
end Nv
set_option maxHeartbeats 4000000
namespace Nv
open PySem PySem.Spec PyProof.Rows L2
/-! # need_fact, need_store, where they let pass -/
section
variable {P : Program} {w : World} {K : PySem.W.Frag} {mg : Str → Option Value} {base : Heap}
def spNeedFact (K : PySem.W.Frag) : Sp := fun vs H Q _ => ∃ (v : V) (o : Option (List (Option Str))), vs = [v] ∧ Tp K H v o ∧ factB o = true ∧ ∀ H', Same H H' → Q .non H'
def spNeedStore (K : PySem.W.Frag) : Sp := fun vs H Q _ => ∃ (v : V) (o : Option (List (Option (List (Option Str))))), vs = [v] ∧ Tps K H v o ∧ (∀ ls, o = some ls → ls.length < 64) ∧ storeB o = true ∧ ∀ H', Same H H' → Q .non H'
theorem scNeedFact : FnScope ["value"] ["value"] (defScope sNeedFact) := ⟨rfl, rfl, rfl, by decide +kernel, rfl, by decide +kernel, by decide +kernel⟩
theorem scNeedStore : FnScope ["value"] ["value"] (defScope sNeedStore) := ⟨rfl, rfl, rfl, by decide +kernel, rfl, by decide +kernel, by decide +kernel⟩
theorem ok_needFact {f fI : Addr} {fd dI : FuncData} (F : Fun K "need_fact" "need_fact" sNeedFact f fd)
    (GI : FnOk P w K mg base CX0 3 fI dI ["value"] (spTup K factB)) (kI : PySem.W.keepIn K (.ref fI) = true) (gI : mg "is_fact" = some (.ref fI)) (bI : Binds K dI ["value"] []) :
    FnOk P w K mg base CX0 4 f fd ["value"] (spNeedFact K) := by
  refine F.ok scNeedFact (fun vs H Q E h => ?_) (fun cdv A outer s H vs Q E hr h => ?_)
  · obtain ⟨v, o, rfl, _⟩ := h
    rfl
  · obtain ⟨v, o, rfl, h, good, q⟩ := h
    refine ⟨_, pss_one (ps_if (pt_not (pt_val (by exact (pe_call GI hr (by rfl) gI kI bI .nil pass0 (pa_cons (pv 0) pa_nil))))) (pss_one ps_never) pss_nil), ?_⟩
    refine ⟨_, rfl, ?_⟩
    dsimp only [tNil]
    refine ⟨v, o, rfl, h, fun H' s' => ?_⟩
    rw [good]
    exact ⟨true, rfl, iteF (q H' s')⟩
theorem ok_needStore {f fI : Addr} {fd dI : FuncData} (F : Fun K "need_store" "need_store" sNeedStore f fd)
    (GI : FnOk P w K mg base CX0 4 fI dI ["value"] (spIsStore K)) (kI : PySem.W.keepIn K (.ref fI) = true) (gI : mg "is_store" = some (.ref fI)) (bI : Binds K dI ["value"] []) :
    FnOk P w K mg base CX0 5 f fd ["value"] (spNeedStore K) := by
  refine F.ok scNeedStore (fun vs H Q E h => ?_) (fun cdv A outer s H vs Q E hr h => ?_)
  · obtain ⟨v, o, rfl, _⟩ := h
    rfl
  · obtain ⟨v, o, rfl, h, few, good, q⟩ := h
    refine ⟨_, pss_one (ps_if (pt_not (pt_val (by exact (pe_call GI hr (by rfl) gI kI bI .nil pass0 (pa_cons (pv 0) pa_nil))))) (pss_one ps_never) pss_nil), ?_⟩
    refine ⟨_, rfl, ?_⟩
    dsimp only [tNil]
    refine ⟨v, o, rfl, h, few, fun H' s' => ?_⟩
    rw [good]
    exact ⟨true, rfl, iteF (q H' s')⟩
end
end Nv
set_option maxHeartbeats 4000000
namespace Nv
open PySem PySem.Spec PyProof.Rows L2
/-! # sorted of a list of tuples of texts -/
def encT (p : List Str) : PyData := .tuple (p.map PyData.str)
/-- the list in ascending order -/
def sortT (ps : List (List Str)) : List (List Str) := ps.mergeSort (PySem.W.dataLe false encT)
theorem alike_strs : ∀ p q : List Str, PySem.W.alikeAll (p.map PyData.str) (q.map PyData.str) = true
  | [], _ => by unfold PySem.W.alikeAll; rfl
  | _ :: _, [] => by unfold PySem.W.alikeAll; rfl
  | x :: p, y :: q => by
    show (PySem.W.alike (.str x) (.str y) && PySem.W.alikeAll (p.map PyData.str) (q.map PyData.str)) = true
    rw [alike_strs p q] <;> rfl
theorem encT_depth (p : List Str) : (encT p).depth ≤ 1 := by
  have h : ∀ p : List Str, PyData.depthAll (p.map PyData.str) = 0 := fun p => by
    induction p with
    | nil => rfl
    | cons x p ih =>
      show max 0 (PyData.depthAll (p.map PyData.str)) = 0
      rw [ih] <;> rfl
  show PyData.depthAll (p.map PyData.str) + 1 ≤ 1
  rw [h]
  exact Nat.le_refl _
theorem reads_strs {h : Heap} : ∀ {p : List Str} {us : List Value}, Vals (p.map V.str) us → ∃ as, ReadsAll h us (p.map PyData.str) as
  | [], _, .nil => ⟨[], .nil⟩
  | x :: p, _, .cons r t => by
    obtain ⟨k, rfl⟩ := r
    obtain ⟨as, ih⟩ := reads_strs (h := h) t
    exact ⟨_, .cons (.str x k) ih⟩
/-- refs of tuples, item by item -/
def RefT (H : Hp) (v : Value) (p : List Str) : Prop := ∃ a, v = .ref a ∧ H a = some (.tup (p.map V.str))
theorem refT_of {H : Hp} : ∀ {us : List V} {ps : List (List Str)} {its : List Value}, PaL H us ps → Vals us its → PySem.W.EachIs (RefT H) its ps
  | _, _, _, .nil, .nil => .nil
  | _, _, _, .cons e h, .cons r t => by
    cases r
    exact .cons ⟨_, rfl, e⟩ (refT_of h t)
theorem refT_back {H : Hp} : ∀ {out : List Value} {ps : List (List Str)}, PySem.W.EachIs (RefT H) out ps → ∃ us, Vals us out ∧ PaL H us ps
  | _, _, .nil => ⟨[], .nil, .nil⟩
  | _, _, .cons ⟨a, e, h⟩ t => by
    obtain ⟨us, h1, h2⟩ := refT_back t
    subst e
    exact ⟨.ref a :: us, .cons rfl h1, .cons h h2⟩
def rSortTx (K : PySem.W.Frag) : List V → Hp → VK → Prop := fun vs H Q => ∃ (a : Addr) (us : List V) (ps : List (List Str)), vs = [V.ref a] ∧ SqL K H a us ∧ PaL H us ps ∧ (∀ p ∈ ps, p ≠ []) ∧
  ∀ (p : Addr) (us' : List V), H p = none → PaL H us' (sortT ps) → us'.length = ps.length → Q (.ref p) (upd H p (.lst us'))
theorem cr_sortTx {X : Cx} (hu : X.A.units + 64 < cLine) : CallR X (.builtin "sorted") (rSortTx X.K) := by
  intro pins s σ H vs us0 Q I r h
  obtain ⟨a, us, ps, rfl, hs, hp, hne, q⟩ := h
  rw [Vals.ref1 r]
  obtain ⟨its, rv, pl, hz⟩ := I.list hs
  have e := refT_of hp rv
  have hl := hp.len
  have er : PySem.W.EachIs (fun v b => ∃ as, Reads s.heap v (encT b) as) its ps := e.mono fun v b ⟨t, ev, et⟩ => by
    subst ev
    obtain ⟨its2, r2, ⟨o, ho, hc, n, hd⟩, _⟩ := I.tuple (SqT.of (K := X.K) et)
    obtain ⟨as, h2⟩ := reads_strs (h := s.heap) r2
    exact ⟨as, .tuple ho hc hd (by simpa using h2)⟩
  refine PySem.W.sorted_data (enc := encT) (R := RefT H) (bs := ps) pl.isList e er (fun d hd d' hd' => ?_) (.inl fun d hd => ?_) (by rw [← hl]; exact hz) (fun b _ => ?_) fun out ho eo => ?_
  · obtain ⟨x, _, rfl⟩ := List.mem_map.mp hd
    obtain ⟨y, _, rfl⟩ := List.mem_map.mp hd'
    exact alike_strs x y
  · obtain ⟨x, hx, rfl⟩ := List.mem_map.mp hd
    cases x with
    | nil => exact absurd rfl (hne _ hx)
    | cons y x => exact ⟨_, _, rfl⟩
  · have := encT_depth b
    omega
  · obtain ⟨us', h1, h2⟩ := refT_back eo
    have hlen : us'.length = ps.length := by rw [h1.length, ho]
    obtain ⟨ep, he'⟩ := PyProof.Rows.sortedAll_at s.heap its out.toArray
    exact ⟨.ref _, upd H (s.heap.objs.size + 1) (.lst us'), I.laid (t' := s.toks) (fun _ _ => PyProof.Rows.sortedAll_old) (Nat.le_succ _) ⟨by rw [hlen, ← hl]; exact hz, out, ep, h1, he'⟩, rfl, q _ us' (I.hok.fresh (Nat.le_succ _)) h2 hlen⟩
end Nv
set_option maxHeartbeats 4000000
namespace Nv
open PySem PySem.Spec PyProof.Rows L2
section
variable {P : Program} {w : World} {K : PySem.W.Frag} {mg : Str → Option Value} {base : Heap}
/-- one rule, one making -/
def One (rs ss : List Addr) (xs ys : List Rl) : Prop := ∀ (i : Nat) (r : Addr) (x y : Rl), rs[i]? = some r → ss[i]? = some r → xs[i]? = some x → ys[i]? = some y → x = y
def spBookEq (K : PySem.W.Frag) (CR C : Addr) : Sp := fun vs H Q _ => ∃ (a : Addr) (rs : List Addr) (xs : List Rl) (v : V), vs = [.ref a, v] ∧ BA C H a rs ∧ RAs CR H rs xs ∧ (∀ x ∈ xs, x.Ok) ∧
  ((∃ (b : Addr) (ss : List Addr) (ys : List Rl), v = .ref b ∧ BA C H b ss ∧ RAs CR H ss ys ∧ (∀ y ∈ ys, y.Ok) ∧ One rs ss xs ys ∧ ∀ H', Same H H' → Q (.bl (decide (xs = ys))) H') ∨ (∃ t : Value, TyX K H v t ∧ PySem.W.kitOne K t (.ref C) = some false ∧ Q (.bl false) H))
theorem scBookEq : FnScope ["self", "other"] ["self", "other"] (defScope sBookEq) := ⟨rfl, rfl, rfl, by decide +kernel, rfl, by decide +kernel, by decide +kernel⟩
theorem ok_bookEq {f C CR fE : Addr} {fd dE : FuncData} (F : Fun K "__eq__" "Book.__eq__" sBookEq f fd) (B : Bp mg) (cl : Cls K C) (na : NoAttr K C "_rules") (I : IC K C) (gB : mg "Book" = some (.ref C)) (R : RC K CR) (IR : IC K CR)
    (FE : FnOk P w K mg base CX0 1 fE dE ["self", "other"] (spRuleEq K CR)) (hs : PySem.W.findIn K (.ref CR) "__eq__" = some (some (.ref fE))) (hf : PySem.W.isFn K (.ref fE) = true) (hb : Binds K dE ["self", "other"] []) : FnOk P w K mg base CX0 3 f fd ["self", "other"] (spBookEq K CR C) := by
  refine F.ok scBookEq (fun vs H Q E h => ?_) (fun cdv A outer s H vs Q E hr h => ?_)
  · obtain ⟨a, rs, xs, v, rfl, _⟩ := h
    rfl
  · obtain ⟨a, rs, xs, v, rfl, ⟨dx, l, eb, el⟩, hx, ox, h⟩ := h
    refine ⟨_, pss_one (ps_ret (pe_and (pe_callB call_isi (by rfl) B.isi bootIsi (pa_cons (pv 1) (pa_cons (pe_glob (v := V.ref C) (by rfl) gB rfl) pa_nil)))
      (pe_one (pe_cmpR (op_eqB (rcB_list mon_rule (eqB_rule FE R IR hs hf hb)) hr) (pe_fld (pv 0) rfl) (pe_fld (pv 1) rfl) (nomark _))))), ?_⟩
    rcases h with ⟨b, ss, ys, rfl, ⟨dy, m, eb2, el2⟩, hy, oy, one, q⟩ | ⟨t, ht, hk, q⟩
    · refine ⟨_, rfl, _, _, _, _, true, rfl, .own _, .base (.ins eb2 cl I.ha I.hn I.ht I.hm), I.me, true, rfl, iteT ?_⟩
      refine ⟨_, rfl, a, C, dx, _, _, rfl, eb, cl, na, lkR, _, rfl, b, C, dy, _, _, rfl, eb2, cl, na, lkR, _, dlst_rules el el2 hx hy ox oy one, fun H' s => q H' s⟩
    · refine ⟨_, rfl, _, _, _, _, false, rfl, .own _, ht, hk, false, rfl, iteF ?_⟩
      exact q
/-- Book.__len__ -/
def spBookLen (C : Addr) : Sp := fun vs H Q _ => ∃ (a : Addr) (rs : List Addr), vs = [.ref a] ∧ BA C H a rs ∧ Q (.int (rs.length : Nat)) H
theorem scBookLen : FnScope ["self"] ["self"] (defScope sBookLen) := ⟨rfl, rfl, rfl, by decide +kernel, rfl, by decide +kernel, by decide +kernel⟩
theorem ok_bookLen {f C : Addr} {fd : FuncData} (F : Fun K "__len__" "Book.__len__" sBookLen f fd) (B : Bp mg) (cl : Cls K C) (na : NoAttr K C "_rules") : FnOk P w K mg base CX0 1 f fd ["self"] (spBookLen C) := by
  refine F.ok scBookLen (fun vs H Q E h => ?_) (fun cdv A outer s H vs Q E hr h => ?_)
  · obtain ⟨a, rs, rfl, _⟩ := h
    rfl
  · obtain ⟨a, rs, rfl, ⟨dx, l, eb, el⟩, q⟩ := h
    refine ⟨_, pss_one (ps_ret (pe_callB call_len_seq (by rfl) B.len PySem.boot_len (pa_cons (pe_fld (pv 0) rfl) pa_nil))), ?_⟩
    refine ⟨_, rfl, a, C, dx, _, _, rfl, eb, cl, na, lkR, l, _, rfl, .inl (SqL.of el), ?_⟩
    rw [List.length_map]
    exact q
/-- Book.__add__ of two books without a label in common -/
def spBookAdd (CR C : Addr) : Sp := fun vs H Q _ => ∃ (a b : Addr) (rs ss : List Addr) (xs ys : List Rl), vs = [.ref a, .ref b] ∧ BA C H a rs ∧ RAs CR H rs xs ∧ BA C H b ss ∧ RAs CR H ss ys ∧ ((xs ++ ys).map Rl.l).Nodup ∧ xs.length + ys.length ≤ 100 ∧
  ∀ (b2 : Addr) (H' : Hp), H b2 = none → BA C H' b2 (rs ++ ss) → Same H H' → Q (.ref b2) H'
theorem scBookAdd : FnScope ["self", "other"] ["self", "other"] (defScope sBookAdd) := ⟨rfl, rfl, rfl, by decide +kernel, rfl, by decide +kernel, by decide +kernel⟩
theorem ok_bookAdd {f C CR fL fI fH fR : Addr} {fd dL dI dH dR : FuncData} (F : Fun K "__add__" "Book.__add__" sBookAdd f fd) (B : Bp mg) (cl : Cls K C) (na : NoAttr K C "_rules") (I : IC K C) (gB : mg "Book" = some (.ref C))
    (GL : FnOk P w K mg base CX0 3 fL dL ["self"] (spBookLabels CR C)) (mL : Meth K C "labels" fL) (bL : Binds K dL ["self"] [])
    (GR : FnOk P w K mg base CX0 1 fR dR ["self"] (spGetL C "_rules")) (mR : Meth K C "rules" fR) (bR : Binds K dR ["self"] [])
    (GH : FnOk P w K mg base CX0 1 fH dH ["labels"] (spHasDouble K)) (kH : PySem.W.keepIn K (.ref fH) = true) (gH : mg "_has_double" = some (.ref fH)) (bH : Binds K dH ["labels"] [])
    (GI : FnOk P w K mg base CX0 3 fI dI ["self", "rules"] (spBookInit CR C)) (MI : Mk K C fI) (bI : Binds K dI ["self", "rules"] []) : FnOk P w K mg base CX0 5 f fd ["self", "other"] (spBookAdd CR C) := by
  refine F.ok scBookAdd (fun vs H Q E h => ?_) (fun cdv A outer s H vs Q E hr h => ?_)
  · obtain ⟨a, b, rs, ss, xs, ys, rfl, _⟩ := h
    rfl
  · obtain ⟨a, b, rs, ss, xs, ys, rfl, ba, hx, bb, hy, nd, hl, q⟩ := h
    obtain ⟨dx, l, eb, el⟩ := id ba
    obtain ⟨dy, m, eb2, el2⟩ := id bb
    have hr1 : Room 1 _ := hr.mono (by decide)
    have hr3 : Room 3 _ := hr.mono (by decide)
    have lx := hx.len
    have ly := hy.len
    refine ⟨_, pss_cons (ps_if (PW.pt (pw_or (pt_not (pt_val (pe_callB call_isi (by rfl) B.isi bootIsi (pa_cons (pv 1) (pa_cons (pe_glob (v := V.ref C) (by rfl) gB rfl) pa_nil)))))
        (pw_or1 (pt_val (by exact (pe_call GH hr1 (by rfl) gH kH bH .nil pass0 (pa_cons (pe_op op_cat (by exact (pe_meth0 (pv 0) cl mL GL hr3 bL .nil pass0)) (by exact (pe_meth0 (pv 1) cl mL GL hr3 bL .nil pass0))) pa_nil))))))) (pss_one ps_never) pss_nil)
      (pss_one (ps_ret (by exact (pe_make MI GI hr (by rfl) gB bI .nil pass0 (pa_cons (pe_op op_cat (by exact (pe_meth0 (pv 0) cl mR GR hr1 bR .nil pass0)) (by exact (pe_meth0 (pv 1) cl mR GR hr1 bR .nil pass0))) pa_nil))))), ?_⟩
    refine ⟨_, rfl, _, _, _, _, true, rfl, .own _, .base (.ins eb2 cl I.ha I.hn I.ht I.hm), I.me, true, rfl, iteF ?_⟩
    refine ⟨_, rfl, a, dx, _, rfl, eb, (lk_no (by decide +kernel)), a, rs, xs, rfl, ba, hx, by omega, fun p1 H1 n1 s1 e1 => ?_⟩
    refine ⟨_, rfl, b, dy, _, rfl, s1 _ _ eb2, (lk_no (by decide +kernel)), b, ss, ys, rfl, bb.same s1, hy.same s1, by omega, fun p2 H2 n2 s2 e2 => ?_⟩
    refine ⟨_, _, _, _, rfl, rfl, s2 _ _ e1, e2, ?_, fun p3 n3 => ?_⟩
    · rw [List.length_map, List.length_map, List.length_map, List.length_map]
      exact Nat.le_trans (by omega : _ ≤ 1000) (by decide)
    · have s12 := s1.trans s2
      have s3 : Same H (upd H2 p3 (.lst ((xs.map Rl.l).map V.str ++ (ys.map Rl.l).map V.str))) := same_put s12 (s12.free n3)
      have e3 : upd H2 p3 (.lst ((xs.map Rl.l).map V.str ++ (ys.map Rl.l).map V.str)) p3 = some (.lst (((xs ++ ys).map Rl.l).map V.str)) := by rw [upd_same, List.map_append, List.map_append]
      generalize upd H2 p3 (.lst ((xs.map Rl.l).map V.str ++ (ys.map Rl.l).map V.str)) = G at s3 e3 ⊢
      refine ⟨p3, (xs ++ ys).map Rl.l, rfl, SqL.of e3, by rw [List.length_map, List.length_append]; omega, _, rfl, ?_⟩
      rw [decide_eq_true nd]
      refine iteF ?_
      refine ⟨_, rfl, a, dx, _, rfl, s3 _ _ eb, (lk_no (by decide +kernel)), a, dx, l, _, _, rfl, s3 _ _ eb, lkR, s3 _ _ el, fun p4 n4 => ?_⟩
      have s4 : Same H (upd G p4 (.lst (rs.map V.ref))) := same_put s3 (s3.free n4)
      have e4 : upd G p4 (.lst (rs.map V.ref)) p4 = some (.lst (rs.map V.ref)) := upd_same
      generalize upd G p4 (.lst (rs.map V.ref)) = G4 at s4 e4 ⊢
      refine ⟨_, rfl, b, dy, _, rfl, s4 _ _ eb2, (lk_no (by decide +kernel)), b, dy, m, _, _, rfl, s4 _ _ eb2, lkR, s4 _ _ el2, fun p5 n5 => ?_⟩
      have s5 : Same H (upd G4 p5 (.lst (ss.map V.ref))) := same_put s4 (s4.free n5)
      have e5 : upd G4 p5 (.lst (ss.map V.ref)) p5 = some (.lst (ss.map V.ref)) := upd_same
      have e45 : upd G4 p5 (.lst (ss.map V.ref)) p4 = some (.lst (rs.map V.ref)) := same_new n5 _ _ e4
      generalize upd G4 p5 (.lst (ss.map V.ref)) = G5 at s5 e5 e45 ⊢
      refine ⟨_, _, _, _, rfl, rfl, e45, e5, ?_, fun p6 n6 => ?_⟩
      · rw [List.length_map, List.length_map]
        exact Nat.le_trans (by omega : _ ≤ 1000) (by decide)
      · rw [← List.map_append]
        have s6 : Same H (upd G5 p6 (.lst ((rs ++ ss).map V.ref))) := same_put s5 (s5.free n6)
        have e6 : upd G5 p6 (.lst ((rs ++ ss).map V.ref)) p6 = some (.lst ((rs ++ ss).map V.ref)) := upd_same
        generalize upd G5 p6 (.lst ((rs ++ ss).map V.ref)) = G6 at s6 e6 ⊢
        intro x dx2 nx ndx ne
        have s7 : Same G6 (upd (upd G6 dx2 (.own x)) x (.ins C dx2 [])) := fun b o e => by
          rw [upd_ne (ne_of_none e nx), upd_ne (ne_of_none e ndx)]
          exact e
        refine ⟨x, dx2, p6, rs ++ ss, xs ++ ys, rfl, upd_same, s7 _ _ e6, RAs.same (RAs.same (hx.app hy) s6) s7, nd, by rw [List.length_append]; omega, fun l1 H8 n8 sb e8 e9 => ⟨rfl, ?_⟩⟩
        exact q x H8 (s6.free nx) ⟨dx2, l1, e8, e9⟩ (made_same s6 nx ndx sb)
end
end Nv
set_option maxHeartbeats 4000000
namespace Nv
open PySem PySem.Spec PyProof.Rows L2 TL
/-! # fact_text, store_text, book_text, lines_of -/
/-- a store at b -/
structure StoreAt (H : Hp) (b : Addr) (us : List V) (ps : List (List Str)) : Prop where
  at_ : H b = some (.lst us)
  pal : PaL H us ps
  ok : ∀ p ∈ ps, FactOk p
  nd : ps.Nodup
  few : ps.length < 64
theorem StoreAt.same {H H' : Hp} {b : Addr} {us : List V} {ps : List (List Str)} (h : StoreAt H b us ps) (s : Same H H') : StoreAt H' b us ps := ⟨s _ _ h.at_, h.pal.same s, h.ok, h.nd, h.few⟩
theorem FactOk.small {p : List Str} (h : FactOk p) : p.length ≤ 1000 ∧ ∀ x ∈ p, x.length ≤ 1000 := ⟨by have := h.1.2; omega, fun x hx => by have := (h.2 x hx).2.1; omega⟩
theorem FactOk.tp {K : PySem.W.Frag} {H : Hp} {t : Addr} {p : List Str} (h : FactOk p) (e : H t = some (.tup (p.map V.str))) : Tp K H (.ref t) (some (p.map some)) := tp_strs e h.small.2 h.small.1
theorem StoreAt.tps {K : PySem.W.Frag} {H : Hp} {b : Addr} {us : List V} {ps : List (List Str)} (h : StoreAt H b us ps) : Tps K H (.ref b) (some (ps.map fun q => some (q.map some))) :=
  ⟨b, us, rfl, h.at_, h.pal.tps fun p hp => (h.ok p hp).small, by rw [List.length_map]; have := h.few; omega⟩
theorem storeB_of {ps : List (List Str)} (ok : ∀ p ∈ ps, FactOk p) (nd : ps.Nodup) : storeB (some (ps.map fun q => some (q.map some))) = true := by
  show ((ps.map _).all factB && decide (ps.map _).Nodup) = true
  rw [Bool.and_eq_true]
  refine ⟨?_, decide_eq_true ((map_inj_nd fun x y e => some_map_inj e).mpr nd)⟩
  rw [List.all_map, List.all_eq_true]
  exact fun p hp => factB_strs.trans (decide_eq_true (ok p hp))
theorem StoreAt.need {K : PySem.W.Frag} {H : Hp} {b : Addr} {us : List V} {ps : List (List Str)} {Q : VK} {E : XK} (h : StoreAt H b us ps) (q : ∀ H', Same H H' → Q .non H') : spNeedStore K [.ref b] H Q E :=
  ⟨.ref b, _, rfl, h.tps, fun ls e => by cases e; rw [List.length_map]; exact h.few, storeB_of h.ok h.nd, q⟩
theorem bootSorted : bootBuiltins "sorted" = some (.builtin "sorted") := by decide +kernel
theorem FactOk.ne {p : List Str} (h : FactOk p) : p ≠ [] := fun z => by
  rw [z] at h
  exact absurd h.1.1 (by decide)
theorem sort_mem {ps : List (List Str)} {p : List Str} : p ∈ sortT ps ↔ p ∈ ps := (List.mergeSort_perm _ _).mem_iff
theorem sort_len {ps : List (List Str)} : (sortT ps).length = ps.length := (List.mergeSort_perm _ _).length_eq
section
variable (P : Program) (w : World) (K : PySem.W.Frag) (mg : Str → Option Value) (base : Heap)
/-- a method that tells a list anew -/
structure MethL (C : Addr) (x f : Str) : Prop where
  ex : ∃ g fd, Meth K C x g ∧ FnOk P w K mg base CX0 1 g fd ["self"] (spGetL C f) ∧ Binds K fd ["self"] []
end
section
variable {P : Program} {w : World} {K : PySem.W.Frag} {mg : Str → Option Value} {base : Heap}
def spFactT (K : PySem.W.Frag) : Sp := fun vs H Q _ => ∃ (t : Addr) (p : List Str), vs = [.ref t] ∧ H t = some (.tup (p.map V.str)) ∧ FactOk p ∧ ∀ H', Same H H' → Q (.str (patT p)) H'
theorem scFactText : FnScope ["fact"] ["fact"] (defScope sFactText) := ⟨rfl, rfl, rfl, by decide +kernel, rfl, by decide +kernel, by decide +kernel⟩
theorem ok_factText {f : Addr} {fd : FuncData} (F : Fun K "fact_text" "fact_text" sFactText f fd) (GN : CallA P w K mg base "need_fact" 4 ["value"] (spNeedFact K)) (GT : CallA P w K mg base "pattern_text" 1 ["pattern"] (spPatT K)) :
    FnOk P w K mg base CX0 5 f fd ["fact"] (spFactT K) := by
  obtain ⟨fN, dN, GN, kN, gN, bN⟩ := GN.ex
  obtain ⟨fT, dT', GT, kT, gT, bT⟩ := GT.ex
  refine F.ok scFactText (fun vs H Q E h => ?_) (fun cdv A outer s H vs Q E hr h => ?_)
  · obtain ⟨t, p, rfl, _⟩ := h
    rfl
  · obtain ⟨t, p, rfl, e, ok, q⟩ := h
    have hr1 : Room 1 _ := hr.mono (by decide)
    refine ⟨_, pss_cons (ps_expr (by exact (pe_call GN hr (by rfl) gN kN bN .nil pass0 (pa_cons (pv 0) pa_nil)))) (pss_one (ps_ret (by exact (pe_call GT hr1 (by rfl) gT kT bT .nil pass0 (pa_cons (pv 0) pa_nil))))), ?_⟩
    refine ⟨_, rfl, ?_⟩
    dsimp only [tNil]
    refine ⟨_, _, rfl, ok.tp e, factB_strs.trans (decide_eq_true ok), fun H1 s1 => ?_⟩
    refine ⟨_, rfl, ?_⟩
    dsimp only [tNil]
    exact ⟨t, p, rfl, s1 _ _ e, ok.sht, fun H2 s2 => q H2 (s1.trans s2)⟩
def spStoreT (K : PySem.W.Frag) : Sp := fun vs H Q _ => ∃ (b : Addr) (us : List V) (ps : List (List Str)), vs = [.ref b] ∧ StoreAt H b us ps ∧ ∀ H', Same H H' → Q (.str (storeT (sortT ps))) H'
theorem scStoreText : FnScope ["store", "fact"] ["store"] (defScope sStoreText) := ⟨rfl, rfl, rfl, by decide +kernel, rfl, by decide +kernel, by decide +kernel⟩
theorem ok_storeText {f : Addr} {fd : FuncData} (F : Fun K "store_text" "store_text" sStoreText f fd) (so : mg "sorted" = none) (GN : CallA P w K mg base "need_store" 5 ["value"] (spNeedStore K)) (GT : CallA P w K mg base "pattern_text" 1 ["pattern"] (spPatT K)) :
    FnOk P w K mg base CX0 6 f fd ["store"] (spStoreT K) := by
  obtain ⟨fN, dN, GN, kN, gN, bN⟩ := GN.ex
  obtain ⟨fT, dT', GT, kT, gT, bT⟩ := GT.ex
  refine F.ok scStoreText (fun vs H Q E h => ?_) (fun cdv A outer s H vs Q E hr h => ?_)
  · obtain ⟨b, us, ps, rfl, _⟩ := h
    rfl
  · obtain ⟨b, us, ps, rfl, st, q⟩ := h
    have hr1 : Room 1 _ := hr.mono (by decide)
    have hu : (A.deeper (envOfC "store_text" (defScope sStoreText) s.heap.objs.size f cdv)).units + 64 < cLine := hr.units
    refine ⟨_, pss_cons (ps_expr (by exact (pe_call GN hr (by rfl) gN kN bN .nil pass0 (pa_cons (pv 0) pa_nil))))
      (pss_one (ps_ret (by exact (pe_join pe_str (by exact (pe_lc (own := [("fact", 1)]) (g := gName 1) (tt := tYes) (te := tCall (spPatT K) [] E0 (tCons (tVar 1) tNil)) rfl scStoreText.nd (pi_list (pe_callB (cr_sortTx hu) (by rfl) so bootSorted (pa_cons (pv 0) pa_nil)))
          (blkOk_by (own := [("fact", 1)]) (N := ["store", "fact"]) (sc := defScope sStoreText) (by decide +kernel))
          (fun _ _ _ _ _ => pg_name (i := 1) scStoreText.nd rfl (Or.inl rfl)) (fun _ _ _ _ _ => pts_nil)
          (fun _ _ _ _ _ => by exact (pe_call GT hr1 (by rfl) gT kT bT .nil pass0 (pa_cons (pv 1) pa_nil))))))))), ?_⟩
    refine ⟨_, rfl, ?_⟩
    dsimp only [tNil]
    refine st.need fun H1 s1 => ?_
    have st1 := st.same s1
    have few := st.few
    refine ⟨⟨_, rfl⟩, _, rfl, b, us, ps, rfl, SqL.of st1.at_, st1.pal, fun p hp => (st.ok p hp).ne, fun a us2 na p2 l2 => ?_⟩
    have s2 : Same H1 (upd H1 a (.lst us2)) := same_new na
    have ea : upd H1 a (.lst us2) a = some (.lst us2) := upd_same
    generalize upd H1 a (.lst us2) = H2 at s2 ea ⊢
    have p2' := p2.same s2
    refine ⟨a, rfl, ⟨_, SqL.of ea⟩, fun D nD => ?_⟩
    refine lc_txt (K := K) (a := a) (xs := us2) (ds := sortT ps) (S := TupAt H2) (b := fun _ => true) (f := patT) (SqL.of ea) nD (by rw [sort_len]; omega) p2'.len p2'.ats ?_ ?_
    · rintro v d G R N hd ⟨t, rfl, et⟩ sm hR hN
      refine ⟨rfl, _, rfl, ?_⟩
      dsimp only [tNil]
      exact ⟨t, d, rfl, sm _ _ et, (st.ok d (sort_mem.mp hd)).sht, fun H' s => hR rfl H' s⟩
    intro H3 s3 t3
    rw [fil_true] at t3
    have hb := joinN_len (c := 60) (l := (sortT ps).map patT) fun z hz => by
      obtain ⟨p, hp, rfl⟩ := List.mem_map.mp hz
      exact patT_len (st.ok p (sort_mem.mp hp)).sht
    rw [List.length_map, sort_len] at hb
    refine ⟨"\n", D, (sortT ps).map patT, rfl, rfl, .inl (SqL.of t3), ?_, q H3 ((s1.trans s2).trans s3)⟩
    rw [List.length_map, sort_len]
    omega
def RuleAt (C : Addr) (H : Hp) (v : V) (x : Rl) : Prop := ∃ r, v = .ref r ∧ RA C H r x
theorem RAs.ats {C : Addr} {H : Hp} {rs : List Addr} {xs : List Rl} (h : RAs C H rs xs) : ∀ (i : Nat) (v : V), (rs.map V.ref)[i]? = some v → ∃ x, xs[i]? = some x ∧ RuleAt C H v x := fun i v hi => by
  rw [List.getElem?_map] at hi
  cases hg : rs[i]? with
  | none => rw [hg] at hi; cases hi
  | some r =>
    rw [hg] at hi
    obtain ⟨x, hx, ra⟩ := h.at_ hg
    exact ⟨x, hx, r, (Option.some.inj hi).symm, ra⟩
def spBookT (CR CB : Addr) : Sp := fun vs H Q _ => ∃ (b : Addr) (rs : List Addr) (xs : List Rl), vs = [.ref b] ∧ BA CB H b rs ∧ RAs CR H rs xs ∧ (∀ x ∈ xs, x.Ok) ∧ xs.length ≤ 100 ∧ ∀ H', Same H H' → Q (.str (bookT xs)) H'
theorem scBookText : FnScope ["book", "rule"] ["book"] (defScope sBookText) := ⟨rfl, rfl, rfl, by decide +kernel, rfl, by decide +kernel, by decide +kernel⟩
theorem ok_bookText {f CR CB : Addr} {fd : FuncData} (F : Fun K "book_text" "book_text" sBookText f fd) (cl : Cls K CB) (M : MethL P w K mg base CB "rules" "_rules") (GN : CallA P w K mg base "need_book" 1 ["value"] (spNeedI CB)) (GT : CallA P w K mg base "rule_text" 3 ["rule"] (spRuleT CR)) :
    FnOk P w K mg base CX0 4 f fd ["book"] (spBookT CR CB) := by
  obtain ⟨fN, dN, GN, kN, gN, bN⟩ := GN.ex
  obtain ⟨fT, dT', GT, kT, gT, bT⟩ := GT.ex
  obtain ⟨fM, dM, mM, GM, bM⟩ := M.ex
  refine F.ok scBookText (fun vs H Q E h => ?_) (fun cdv A outer s H vs Q E hr h => ?_)
  · obtain ⟨b, rs, xs, rfl, _⟩ := h
    rfl
  · obtain ⟨b, rs, xs, rfl, ba, hx, ok, few, q⟩ := h
    have hr1 : Room 1 _ := hr.mono (by decide)
    refine ⟨_, pss_cons (ps_expr (by exact (pe_call GN hr1 (by rfl) gN kN bN .nil pass0 (pa_cons (pv 0) pa_nil))))
      (pss_one (ps_ret (by exact (pe_join pe_str (by exact (pe_lc (own := [("rule", 1)]) (g := gName 1) (tt := tYes) (te := tCall (spRuleT CR) [] E0 (tCons (tVar 1) tNil)) rfl scBookText.nd (pi_list (by exact (pe_meth0 (pv 0) cl mM GM hr1 bM .nil pass0)))
          (blkOk_by (own := [("rule", 1)]) (N := ["book", "rule"]) (sc := defScope sBookText) (by decide +kernel))
          (fun _ _ _ _ _ => pg_name (i := 1) scBookText.nd rfl (Or.inl rfl)) (fun _ _ _ _ _ => pts_nil)
          (fun _ _ _ _ _ => by exact (pe_call GT hr (by rfl) gT kT bT .nil pass0 (pa_cons (pv 1) pa_nil))))))))), ?_⟩
    obtain ⟨dx, l, eb, el⟩ := id ba
    refine ⟨_, rfl, ?_⟩
    dsimp only [tNil]
    refine ⟨b, dx, _, rfl, eb, ?_⟩
    refine ⟨⟨_, rfl⟩, _, rfl, b, dx, _, rfl, eb, rfl, b, dx, l, _, _, rfl, eb, lkR, el, fun a na => ?_⟩
    have s1 : Same H (upd H a (.lst (rs.map V.ref))) := same_new na
    have ea : upd H a (.lst (rs.map V.ref)) a = some (.lst (rs.map V.ref)) := upd_same
    generalize upd H a (.lst (rs.map V.ref)) = H1 at s1 ea ⊢
    have hx1 := hx.same s1
    refine ⟨a, rfl, ⟨_, SqL.of ea⟩, fun D nD => ?_⟩
    refine lc_txt (K := K) (a := a) (xs := rs.map V.ref) (ds := xs) (S := RuleAt CR H1) (b := fun _ => true) (f := ruleT) (SqL.of ea) nD (by omega) (by rw [List.length_map, hx.len]) hx1.ats ?_ ?_
    · rintro v d G R N hd ⟨r, rfl, ra⟩ sm hR hN
      refine ⟨rfl, _, rfl, ?_⟩
      dsimp only [tNil]
      exact ⟨r, d, rfl, ra.same sm, ok d hd, fun H' s => hR rfl H' s⟩
    intro H3 s3 t3
    rw [fil_true] at t3
    have hb := joinN_len (c := 61000) (l := xs.map ruleT) fun z hz => by
      obtain ⟨p, hp, rfl⟩ := List.mem_map.mp hz
      exact (ruleT_len (ok p hp)).1
    rw [List.length_map] at hb
    refine ⟨"\n", D, xs.map ruleT, rfl, rfl, .inl (SqL.of t3), ?_, q H3 (s1.trans s3)⟩
    rw [List.length_map]
    omega
end
end Nv
set_option maxHeartbeats 4000000
namespace Nv
open PySem PySem.Spec PyProof.Rows L2
/-- a pair of unlike terms, one of them at least among the variables vs -/
def PrOk (vs : List Str) (q : List Str) : Prop := ∃ x y, q = [x, y] ∧ x ≠ y ∧ (x ∈ vs ∨ IsNm x) ∧ (y ∈ vs ∨ IsNm y) ∧ (x ∈ vs ∨ y ∈ vs)
section
variable {P : Program} {w : World} {K : PySem.W.Frag} {mg : Str → Option Value} {base : Heap}
/-- _law_pairs(purse, told, names) -/
def spPairs (K : PySem.W.Frag) : Sp := fun vs H Q _ => ∃ (a b c : Addr) (n : Nat) (us : List V) (ps : List (List Str)) (zs : List Str), vs = [.ref a, .ref b, .ref c] ∧ Pu H a (n + 5) ∧ (SqL K H b us ∧ PaL H us ps ∧ (∀ x ∈ ps, PatOk x) ∧ ps.length ≤ 300) ∧
  (SqL K H c (zs.map V.str) ∧ c ≠ a ∧ zs.length ≤ 100 ∧ ∀ z ∈ zs, IsNm z) ∧
  ∀ (p : Addr) (ws : List V) (qs : List (List Str)) (H' : Hp), PaL H' ws qs → qs.length ≤ 1 → (∀ x ∈ qs, PrOk (varsIn (tails ps)) x) → H p = none → Pu H' a n → Sb a H H' → H' p = some (.lst ws) → Q (.ref p) H'
theorem scPairs : FnScope ["_law_purse_here", "_law_told_here", "_law_names_here", "_law_some", "_law_one", "_law_others", "_law_term"] ["_law_purse_here", "_law_told_here", "_law_names_here"] (defScope sPairs) := ⟨rfl, rfl, rfl, by decide +kernel, rfl, by decide +kernel, by decide +kernel⟩
theorem two_perm {α : Type} {x y : α} {zs : List α} (h : zs.Perm [x, y]) : zs = [x, y] ∨ zs = [y, x] := by
  have hl := h.length_eq
  match zs, hl with
  | [u, v], _ =>
    have hu : u = x ∨ u = y := by
      have := h.mem_iff.mp (List.mem_cons_self (a := u))
      simpa using this
    rcases hu with rfl | rfl
    · have h2 := (List.perm_cons u).mp h
      have := h2.mem_iff.mp (List.mem_singleton.mpr rfl : v ∈ [v])
      rw [List.mem_singleton.mp this]
      exact .inl rfl
    · have h2 : [v].Perm [x] := by
        have h3 : (u :: [v]).Perm (u :: [x]) := h.trans (List.Perm.swap _ _ _)
        exact (List.perm_cons u).mp h3
      have := h2.mem_iff.mp (List.mem_singleton.mpr rfl : v ∈ [v])
      rw [List.mem_singleton.mp this]
      exact .inr rfl
theorem ok_pairs {f fV fD fO fS : Addr} {fd fdV fdD fdO fdS : FuncData} (F : Fun K "_law_pairs" "_law_pairs" sPairs f fd)
    (GV : FnOk P w K mg base CX0 1 fV fdV ["_law_told_here"] (spVariables K)) (kV : PySem.W.keepIn K (.ref fV) = true) (gV : mg "_law_variables" = some (.ref fV)) (bV : Binds K fdV ["_law_told_here"] [])
    (GD : FnOk P w K mg base CX0 2 fD fdD ["_law_purse_here", "_law_many"] spDraw) (kD : PySem.W.keepIn K (.ref fD) = true) (gD : mg "_law_draw" = some (.ref fD)) (bD : Binds K fdD ["_law_purse_here", "_law_many"] [])
    (GO : FnOk P w K mg base CX0 3 fO fdO ["_law_purse_here", "_law_some"] (spOneOf K)) (kO : PySem.W.keepIn K (.ref fO) = true) (gO : mg "_law_one_of" = some (.ref fO)) (bO : Binds K fdO ["_law_purse_here", "_law_some"] [])
    (GS : FnOk P w K mg base CX0 3 fS fdS ["_law_purse_here", "_law_some"] (spShuffled K)) (kS : PySem.W.keepIn K (.ref fS) = true) (gS : mg "_law_shuffled" = some (.ref fS)) (bS : Binds K fdS ["_law_purse_here", "_law_some"] []) (B : Bl mg) :
    FnOk P w K mg base CX0 4 f fd ["_law_purse_here", "_law_told_here", "_law_names_here"] (spPairs K) := by
  refine F.ok scPairs (fun vs H Q E h => ?_) (fun cdv A outer s H vs Q E hr h => ?_)
  · obtain ⟨a, b, c, n, us, ps, zs, rfl, _⟩ := h
    rfl
  · obtain ⟨a, b, c, n, us, ps, zs, rfl, pu, ⟨hb, hps, hok, hpl⟩, ⟨hc, hca, hz1, hz2⟩, q⟩ := h
    have hr1 : Room 1 _ := hr.mono (by decide)
    have hr2 : Room 2 _ := hr.mono (by decide)
    refine ⟨_, pss_cons (ps_set (i := 3) scPairs.nd rfl (Or.inl rfl) (by exact (pe_call GV hr1 (by rfl) gV kV bV .nil pass0 (pa_cons (pv 1) pa_nil))))
      (pss_cons (ps_if (PW.pt (pw_or (pt_cmpR (op_eqD hr.units) (pv 3) (pe_lst pa_nil) (nomark _)) (pw_or1 (pt_cmpR op_gt (by exact (pe_call GD hr2 (by rfl) gD kD bD .nil pass0 (pa_cons (pv 0) (pa_cons pe_int pa_nil)))) pe_int (nomark _)))))
        (pss_one (ps_ret (pe_lst pa_nil))) pss_nil)
      (pss_cons (ps_set (i := 4) scPairs.nd rfl (Or.inr rfl) (by exact (pe_call GO hr (by rfl) gO kO bO .nil pass0 (pa_cons (pv 0) (pa_cons (pv 3) pa_nil)))))
      (pss_cons (ps_setLc (i := 5) (own := [("_law_term", 6)]) (g := gName 6) (tt := tTest (tOp rNe (tVar 6) (tVar 4))) (te := tVar 6) rfl scPairs.nd rfl rfl (sw_true rfl rfl rfl (by decide +kernel))
        (pi_list (pe_op op_cat (pv 3) (pe_slice sl_list (pv 2) po_none (po_some pe_int))))
        (blkOk_by (own := [("_law_term", 6)]) (N := ["_law_purse_here", "_law_told_here", "_law_names_here", "_law_some", "_law_one", "_law_others", "_law_term"]) (sc := defScope sPairs) (by decide +kernel))
        (fun _ _ _ _ _ => pg_name (i := 6) scPairs.nd rfl (Or.inl rfl)) (fun _ _ _ _ _ => pts_one (by exact (pt_cmpR op_ne (pv 6) (pv 4) (nomark _)))) (fun _ _ _ _ _ => by exact (pv 6)))
      (pss_one (ps_ret (pe_ifExp (pt_cmpR (op_neD hr.units) (pv 5) (pe_lst pa_nil) (nomark _))
        (pe_lst (pa_cons (pe_callTy call_tuple_of (by rfl) B.tup PyProof.Rows.boot_tuple (pa_cons (by exact (pe_call GS hr (by rfl) gS kS bS .nil pass0 (pa_cons (pv 0) (pa_cons
          (pe_lst (pa_cons (pv 4) (pa_cons (by exact (pe_call GO hr (by rfl) gO kO bO .nil pass0 (pa_cons (pv 0) (pa_cons (pv 5) pa_nil)))) pa_nil))) pa_nil)))) pa_nil)) pa_nil))
        (pe_lst pa_nil))))))), ?_⟩
    refine ⟨_, rfl, b, us, ps, rfl, hb, hps, hok, (by omega), fun p1 H1 np1 sm1 e1 => ?_⟩
    refine (show ∀ vs : List Str, varsIn (tails ps) = vs → H1 p1 = some (.lst (vs.map V.str)) → tSeq _ _ { nx := fun _ H' => Q .non H', rt := Q } [some (.ref a), some (.ref b), some (.ref c), some (.ref p1), none, none, none] H1 from fun vs hvs e1 => ?_) _ rfl e1
    have hv : ∀ x ∈ vs, IsVr x := fun x hx => by
      rw [← hvs] at hx
      exact (varsIn_mem.mp hx).2
    have hvl : vs.length ≤ 900 := by
      rw [← hvs]
      have h1 := varsIn_len (tails ps)
      have h2 := tails_len hok
      omega
    rw [hvs] at q
    have pu1 := pu.same sm1
    have p1a : p1 ≠ a := pu.ne np1
    refine ⟨_, rfl, by decide, fun l nl => ?_⟩
    have pu2 := pu1.put (o := .lst []) (pu1.ne nl)
    have sm2 : Same H (upd H1 l (.lst [])) := same_put sm1 (sm1.free nl)
    have e2 : upd H1 l (.lst []) p1 = some (.lst (vs.map V.str)) := same_new nl _ _ e1
    refine ⟨dS vs, dS [], dp_S (SqL.of e2), .lst (SqL.of upd_same) .nil, (lay_dS fun x hx => (hv x hx).asc).shaped (by decide), (lay_dS (xs := []) (fun x hx => nomatch hx)).shaped (by decide), _, rfl, ?_⟩
    rw [eqv_S]
    generalize upd H1 l (.lst []) = G2 at pu2 sm2 e2 ⊢
    by_cases hvs0 : vs = []
    · rw [decide_eq_true hvs0]
      refine iteT (iteT ?_)
      refine ⟨by decide, fun p np => ?_⟩
      exact q p [] [] _ .nil (by decide) (fun x hx => nomatch hx) (sm2.free np) ((pu2.put (pu2.ne np)).le (by omega)) (Sb.of (same_put sm2 (sm2.free np))) upd_same
    · rw [decide_eq_false hvs0]
      refine iteF ?_
      refine ⟨_, rfl, a, n + 4, 3, rfl, pu2, ⟨by decide, by decide⟩, fun r H3 h0 h1 pu3 sb3 => ?_⟩
      have e3 := sb3 _ _ p1a e2
      have sb3' : Sb a H H3 := (Sb.of sm2).trans sb3
      refine ⟨_, _, rfl, rfl, _, rfl, ?_⟩
      by_cases hr0 : r > 0
      · rw [decide_eq_true hr0]
        refine iteT ?_
        refine ⟨by decide, fun p np => ?_⟩
        exact q p [] [] _ .nil (by decide) (fun x hx => nomatch hx) (sb3'.free pu3 np) ((pu3.put (pu3.ne np)).le (by omega)) (sb3'.put (sb3'.free pu3 np)) upd_same
      · rw [decide_eq_false hr0]
        refine iteF ?_
        have hv1 : 1 ≤ (vs.map V.str).length := by
          rw [List.length_map]
          cases vs with
          | nil => exact absurd rfl hvs0
          | cons x xs => simp
        refine ⟨_, rfl, _, rfl, a, p1, n + 3, vs.map V.str, rfl, pu3, SqL.of e3, p1a, ⟨hv1, ?_⟩, fun v1 H4 hv4 pu4 sb4 => ?_⟩
        · rw [List.length_map]
          omega
        · obtain ⟨one, hone, rfl⟩ := List.mem_map.mp hv4
          have e4 := sb4 _ _ p1a e3
          have sb4' := sb3'.trans sb4
          refine (show ∀ G : Hp, G = H4 → tSeq _ _ { nx := fun _ H' => Q .non H', rt := Q } [some (.ref a), some (.ref b), some (.ref c), some (.ref p1), some (.str one), none, none] G from fun G hG => ?_) _ rfl
          subst hG
          refine ⟨_, rfl, _, rfl, 1, rfl, c, _, rfl, sb4'.seq hca hc, fun l2 nl2 => ?_⟩
          have hcz : cutV (zs.map V.str) none (some 1) = (zs.take 1).map V.str := by
            unfold cutV
            have hx := HT.sIx_nat (zs.map V.str).length (zs.map V.str).length 1
            rw [show ((1 : Nat) : Int) = 1 by rfl] at hx
            rw [HT.sIx_none, hx, List.drop_zero, Nat.sub_zero, List.length_map, List.map_take]
            cases zs with
            | nil => rfl
            | cons z zs =>
              rw [List.length_cons, Nat.min_eq_left (by omega)]
          rw [hcz]
          have pu5 := pu4.put (o := .lst ((zs.take 1).map V.str)) (pu4.ne nl2)
          have sb5 : Sb a H (upd G l2 (.lst ((zs.take 1).map V.str))) := sb4'.put (sb4'.free pu4 nl2)
          have e5 : upd G l2 (.lst ((zs.take 1).map V.str)) p1 = some (.lst (vs.map V.str)) := same_new nl2 _ _ e4
          have e6 : upd G l2 (.lst ((zs.take 1).map V.str)) l2 = some (.lst ((zs.take 1).map V.str)) := upd_same
          generalize upd G l2 (.lst ((zs.take 1).map V.str)) = G5 at pu5 sb5 e5 e6 ⊢
          refine ⟨_, _, _, _, rfl, rfl, e5, e6, ?_, fun l3 nl3 => ?_⟩
          · rw [List.length_map, List.length_map, List.length_take]
            exact Nat.le_trans (by omega : _ ≤ 3001) (by decide)
          · rw [← List.map_append]
            have hx : ∀ x ∈ vs ++ zs.take 1, x ∈ vs ∨ IsNm x := fun x hx => by
              rcases List.mem_append.mp hx with h | h
              · exact .inl h
              · exact .inr (hz2 x (List.mem_of_mem_take h))
            have hxl : (vs ++ zs.take 1).length ≤ 901 := by
              rw [List.length_append, List.length_take]
              omega
            generalize vs ++ zs.take 1 = xs at hx hxl ⊢
            have pu6 := pu5.put (o := .lst (xs.map V.str)) (pu5.ne nl3)
            have sb6 : Sb a H (upd G5 l3 (.lst (xs.map V.str))) := sb5.put (sb5.free pu5 nl3)
            have e7 : upd G5 l3 (.lst (xs.map V.str)) l3 = some (.lst (xs.map V.str)) := upd_same
            generalize upd G5 l3 (.lst (xs.map V.str)) = G6 at pu6 sb6 e7 ⊢
            refine ⟨l3, rfl, ⟨_, SqL.of e7⟩, fun D nD => ?_⟩
            have Da := pu6.ne nD
            refine lc_list (K := K) (a := l3) (xs := xs.map V.str) (fun i H' => Same G6 H' ∧ H' D = some (.lst (((xs.take i).filter fun x => decide (x ≠ one)).map V.str))) ⟨same_new nD, upd_same⟩ (fun i H' _ y => SqL.of (y.1 _ _ e7)) ?_ ?_
            · rintro i x H5 hi ⟨sm5, e8⟩
              rw [List.getElem?_map] at hi
              obtain ⟨z, hz, rfl⟩ : ∃ z, xs[i]? = some z ∧ x = V.str z := by
                cases g : xs[i]? with
                | none =>
                  rw [g] at hi
                  cases hi
                | some z =>
                  rw [g] at hi
                  exact ⟨z, rfl, (Option.some.inj hi).symm⟩
              have htk : (xs.take (i + 1)).filter (fun x => decide (x ≠ one)) = (xs.take i).filter (fun x => decide (x ≠ one)) ++ (if z = one then [] else [z]) := by
                rw [List.take_add_one, hz, List.filter_append]
                by_cases h : z = one
                · simp [h]
                · simp [h]
              rw [htk]
              refine ⟨rfl, _, rfl, _, rfl, rfl, _, rfl, ?_⟩
              by_cases h : z = one
              · rw [decide_eq_true (by rw [h] : V.str z = V.str one)]
                refine iteF ⟨sm5, ?_⟩
                rw [if_pos h, List.append_nil]
                exact e8
              · rw [decide_eq_false (fun e => h (by injection e) : ¬ V.str z = V.str one)]
                refine iteT ⟨_, rfl, _, e8, ?_, same_put sm5 nD, ?_⟩
                · rw [List.length_map]
                  have h1 := List.length_filter_le (fun x => decide (x ≠ one)) (xs.take i)
                  rw [List.length_take] at h1
                  exact Nat.lt_of_le_of_lt (by omega : _ ≤ 3001) (by decide)
                · rw [upd_same, if_neg h, List.map_append] <;> rfl
            · rintro H5 ⟨sm5, e8⟩
              rw [List.length_map, List.take_length] at e8
              have hy : ∀ y ∈ xs.filter (fun x => decide (x ≠ one)), (y ∈ vs ∨ IsNm y) ∧ y ≠ one := fun y hy => by
                obtain ⟨h1, h2⟩ := List.mem_filter.mp hy
                exact ⟨hx y h1, of_decide_eq_true h2⟩
              have hyl := List.length_filter_le (fun x => decide (x ≠ one)) xs
              generalize xs.filter (fun x => decide (x ≠ one)) = ys at e8 hy hyl
              have pu7 := pu6.same sm5
              have sb7 := sb6.then sm5
              refine (show ∀ G : Hp, G = H5 → tSeq _ _ { nx := fun _ H' => Q .non H', rt := Q } [some (.ref a), some (.ref b), some (.ref c), some (.ref p1), some (.str one), some (.ref D), none] G from fun G hG => ?_) _ rfl
              subst hG
              have D2a : D ≠ a := Da
              refine ⟨_, rfl, by decide, fun l4 nl4 => ?_⟩
              have e9 : upd G l4 (.lst []) D = some (.lst (ys.map V.str)) := same_new nl4 _ _ e8
              have sb8 : Sb a H (upd G l4 (.lst [])) := sb7.put (sb7.free pu7 nl4)
              have pu8 := pu7.put (o := .lst []) (pu7.ne nl4)
              have yasc : ∀ y ∈ ys, Asc y := fun y hh => by
                rcases (hy y hh).1 with h | h
                · exact (hv y h).asc
                · exact h.asc
              refine ⟨dS ys, dS [], dp_S (SqL.of e9), .lst (SqL.of upd_same) .nil, (lay_dS yasc).shaped (by decide), (lay_dS (xs := []) (fun x hx => nomatch hx)).shaped (by decide), _, rfl, ?_⟩
              rw [eqv_S]
              generalize upd G l4 (.lst []) = G7 at e9 sb8 pu8 ⊢
              by_cases hys : ys = []
              · rw [decide_eq_true hys]
                refine iteF ?_
                refine ⟨by decide, fun p np => ?_⟩
                exact q p [] [] _ .nil (by decide) (fun x hx => nomatch hx) (sb8.free pu8 np) ((pu8.put (pu8.ne np)).le (by omega)) (sb8.put (sb8.free pu8 np)) upd_same
              · rw [decide_eq_false hys]
                refine iteT ?_
                have hy1 : 1 ≤ (ys.map V.str).length := by
                  rw [List.length_map]
                  cases ys with
                  | nil => exact absurd rfl hys
                  | cons x xs => simp
                refine ⟨_, rfl, _, rfl, _, rfl, _, rfl, a, D, n + 2, ys.map V.str, rfl, pu8, SqL.of e9, Da, ⟨hy1, by rw [List.length_map]; omega⟩, fun v2 H8 hv2 pu9 sb9 => ?_⟩
                obtain ⟨two, htwo, rfl⟩ := List.mem_map.mp hv2
                obtain ⟨hto, htne⟩ := hy two htwo
                have sb10 := sb8.trans sb9
                refine ⟨(by show 2 ≤ sizeLine; decide), fun l5 nl5 => ?_⟩
                have l5a := pu9.ne nl5
                have pu10 := pu9.put (o := .lst [.str one, .str two]) l5a
                have sb11 : Sb a H (upd H8 l5 (.lst [.str one, .str two])) := sb10.put (sb10.free pu9 nl5)
                refine ⟨a, l5, n, [.str one, .str two], rfl, pu10, SqL.of upd_same, l5a, by show 2 ≤ 1000; decide, fun p2 ws H9 pm np2 pu11 sb12 e10 => ?_⟩
                have sb13 := sb11.trans sb12
                refine ⟨p2, ws, rfl, .inl ⟨SqL.of e10, fun t nt => ?_⟩⟩
                have pu12 := pu11.put (o := .tup ws) (pu11.ne nt)
                have sb14 : Sb a H (upd H9 t (.tup ws)) := sb13.put (sb13.free pu11 nt)
                refine ⟨(by show 1 ≤ sizeLine; decide), fun p3 np3 => ?_⟩
                have hne : t ≠ p3 := fun z => by
                  rw [← z, upd_same] at np3
                  cases np3
                have done : ∀ x y : Str, ws = [V.str x, V.str y] → PrOk vs [x, y] → Q (.ref p3) (upd (upd H9 t (.tup ws)) p3 (.lst [.ref t])) := fun x y hw hp => by
                  refine q p3 [.ref t] [[x, y]] _ (.cons ?_ .nil) (by show 1 ≤ 1; decide) (fun z hz => by rw [List.mem_singleton.mp hz]; exact hp) (sb14.free pu12 np3) ((pu12.put (pu12.ne np3)).le (by omega)) (sb14.put (sb14.free pu12 np3)) upd_same
                  rw [upd_ne hne, upd_same, hw] <;> rfl
                rcases two_perm pm with h | h
                · exact done one two h ⟨one, two, rfl, Ne.symm htne, .inl hone, hto, .inl hone⟩
                · exact done two one h ⟨two, one, rfl, htne, hto, .inl hone, .inr hone⟩
end
end Nv
set_option maxHeartbeats 4000000
namespace Nv
open PySem PySem.Spec PyProof.Rows L2
theorem cutA (ks : List V) (h : 1 ≤ ks.length) : cutV ks none (some 1) = ks.take 1 := by
  unfold cutV
  have e : HT.sIx ks.length ks.length (some (1 : Int)) = min 1 ks.length := HT.sIx_nat ks.length ks.length 1
  rw [e, HT.sIx_none, List.drop_zero, Nat.sub_zero, Nat.min_eq_left h]
theorem cutB (ks : List V) (h : 2 ≤ ks.length) : cutV ks (some 1) (some 2) = (ks.drop 1).take 1 := by
  unfold cutV
  have e : HT.sIx ks.length ks.length (some (2 : Int)) = min 2 ks.length := HT.sIx_nat ks.length ks.length 2
  have e2 : HT.sIx ks.length 0 (some (1 : Int)) = min 1 ks.length := HT.sIx_nat ks.length 0 1
  rw [e, e2, Nat.min_eq_left h, Nat.min_eq_left (by omega)]
theorem rep_mem {l : List V} {v : V} (h : v ∈ (List.replicate (4 : Int).toNat l).flatten) : v ∈ l := by
  obtain ⟨m, hm, hv⟩ := List.mem_flatten.mp h
  rw [List.eq_of_mem_replicate hm] at hv
  exact hv
theorem rep_len {l : List V} : (List.replicate (4 : Int).toNat l).flatten.length = 4 * l.length := by
  show (List.replicate 4 l).flatten.length = _
  simp [List.replicate]
  omega
theorem take_names {zs : List Str} : cutV (zs.map V.str) none (some 1) = (zs.take 1).map V.str := by
  unfold cutV
  have hx : HT.sIx (zs.map V.str).length (zs.map V.str).length (some (1 : Int)) = min 1 (zs.map V.str).length := HT.sIx_nat _ _ 1
  rw [HT.sIx_none, hx, List.drop_zero, Nat.sub_zero, List.length_map, List.map_take]
  cases zs with
  | nil => rfl
  | cons z zs =>
    rw [List.length_cons, Nat.min_eq_left (by omega)]
theorem lst_ne {H : Hp} {a p : Addr} {n : Nat} {o : HO} (pu : Pu H a n) (h : ∀ s d t k : Int, o ≠ .lst [.int s, .int d, .int t, .int k]) (e : H p = some o) : p ≠ a := fun z => by
  obtain ⟨s, d, t, k, e2, _⟩ := pu.ex
  rw [z, e2] at e
  exact h s d t k (Option.some.inj e).symm
theorem hasMore_no {ts : List Str} {ps : List (List Str)} (h : ∀ x ∈ ts, x ∈ varsIn (tails ps) ∨ IsNm x) : hasMore ts ps = false := by
  unfold hasMore
  rw [List.any_eq_false]
  intro x hx
  obtain ⟨h1, h2⟩ := varsIn_mem.mp hx
  rcases h x h1 with h3 | h3
  · rw [decide_eq_true h3]
    decide
  · exact absurd h2 (nm_not_vr h3)
theorem PrOk.pair {vs q : List Str} (h : PrOk vs q) (hv : ∀ x ∈ vs, IsVr x) : PairOk q := by
  obtain ⟨x, y, rfl, ne, h1, h2, h3⟩ := h
  have tm : ∀ z, z ∈ vs ∨ IsNm z → IsTm z := fun z h => h.elim (fun h => .inr (hv z h)) .inl
  exact ⟨x, y, rfl, ne, tm x h1, tm y h2, h3.elim (fun h => .inl (hv x h)) fun h => .inr (hv y h)⟩
/-- the rule y, made since H -/
def RAn (C : Addr) (H H' : Hp) (r : Addr) (x : Rl) : Prop := ∃ (dx th l1 l2 l3 : Addr) (us us2 us3 : List V), (H r = none ∧ H l1 = none ∧ H l2 = none ∧ H l3 = none) ∧ (H' r = some (.ins C dx (ruleF x.l th l1 l2 l3)) ∧ H' th = some (.tup (x.h.map V.str)) ∧ (H' l1 = some (.lst us) ∧ PaL H' us x.ps) ∧ (H' l2 = some (.lst us2) ∧ PaL H' us2 x.qs) ∧ H' l3 = some (.lst us3) ∧ PaL H' us3 x.ds)
/-- no variable stands elsewhere that doesn't stand in the told patterns -/
structure Clo (y : Rl) : Prop where
  h : hasMore y.h.tail y.ps = false
  q : hasMore y.qs.flatten y.ps = false
  d : hasMore (tails y.ds) y.ps = false
section
variable {P : Program} {w : World} {K : PySem.W.Frag} {mg : Str → Option Value} {base : Heap}
/-- _law_rule(purse, label, kinds, names, denied) -/
def spRule (CR : Addr) : Sp := fun vs H Q _ => ∃ (a b c : Addr) (z : Str) (d : Bool) (n : Nat) (ks : List V) (zs : List Str), vs = [.ref a, .str z, .ref b, .ref c, .bl d] ∧ Pu H a (n + 30) ∧ IsNm z ∧ (H b = some (.lst ks) ∧ b ≠ a ∧ 2 ≤ ks.length ∧ ks.length ≤ 100 ∧ ∀ v ∈ ks, Kd H v) ∧
  (H c = some (.lst (zs.map V.str)) ∧ c ≠ a ∧ 1 ≤ zs.length ∧ zs.length ≤ 100 ∧ ∀ y ∈ zs, IsNm y) ∧
  ∀ (r : Addr) (x : Rl) (H' : Hp), x.Ok → Clo x → x.h ≠ (["never", "a"] : List Str) → x.l = z → RAn CR H H' r x → Pu H' a n → Sb a H H' → Q (.ref r) H'
theorem scRule : FnScope ["_law_purse_here", "_law_label", "_law_kinds_here", "_law_names_here", "_law_denied", "_law_told_here", "_law_some", "_law_none", "_law_head"] ["_law_purse_here", "_law_label", "_law_kinds_here", "_law_names_here", "_law_denied"] (defScope sRule) := ⟨rfl, rfl, rfl, by decide +kernel, rfl, by decide +kernel, by decide +kernel⟩
theorem if_den {a b p6 p7 c pt : Addr} {z : Str} {d : Bool} {n : Nat} {ks : List V} {so : List Str} {D : Ends} {G : Hp} (pu : Pu G a (n + 5)) (hb : SqL K G b ks ∧ b ≠ a ∧ 1 ≤ ks.length ∧ ks.length ≤ 1000 ∧ ∀ v ∈ ks, Kd G v) (hc : SqL K G p6 (so.map V.str) ∧ p6 ≠ a ∧ 1 ≤ so.length ∧ so.length ≤ 1000) (tm : ∀ y ∈ so, IsVr y ∨ IsNm y)
    (e7 : G p7 = some (.lst [])) (k : ∀ (pd : Addr) (us3 : List V) (ds : List (List Str)) (G' : Hp), Pu G' a n → Sb a G G' → G' pd = some (.lst us3) → PaL G' us3 ds → (∀ x ∈ ds, PatOk x) → ds.length ≤ 1 → (∀ y ∈ tails ds, y ∈ so) →
      D.nx [some (.ref a), some (.str z), some (.ref b), some (.ref c), some (.bl d), some (.ref pt), some (.ref p6), some (.ref pd), none] G') :
    tIfS (tAnd (tB (tVar 4)) (tTest (tOp rEq (tCall spDraw [] E0 (tCons (tVar 0) (tCons (tC (V.int 2)) tNil))) (tC (V.int 0))))) (tAsg (tLst (tCons (tCall (spPattern K) [] E0 (tCons (tVar 0) (tCons (tVar 2) (tCons (tVar 6) tNil)))) tNil)) (gName 7)) tNext D
      [some (.ref a), some (.str z), some (.ref b), some (.ref c), some (.bl d), some (.ref pt), some (.ref p6), some (.ref p7), none] G := by
  have nil : ∀ G', Pu G' a n → Sb a G G' → D.nx [some (.ref a), some (.str z), some (.ref b), some (.ref c), some (.bl d), some (.ref pt), some (.ref p6), some (.ref p7), none] G' := fun G' p' s' =>
    k p7 [] [] G' p' s' (s' _ _ (lst_ne pu (fun _ _ _ _ e => by cases e) e7) e7) .nil (fun x hx => nomatch hx) (Nat.zero_le _) (fun y hy => nomatch hy)
  refine ⟨_, rfl, d, rfl, ?_⟩
  cases d with
  | false => exact iteF (iteF (nil G (pu.le (by omega)) (Sb.refl a G)))
  | true =>
    refine iteT ⟨_, rfl, a, n + 4, 2, rfl, pu, ⟨by decide, by decide⟩, fun r H1 r0 r1 pu1 sb1 => ⟨rfl, _, rfl, ?_⟩⟩
    by_cases hr0 : r = 0
    · rw [decide_eq_true (by rw [hr0] : V.int r = V.int 0)]
      refine iteT ?_
      refine ⟨_, rfl, _, rfl, _, rfl, a, b, p6, n, ks, so, rfl, pu1, ⟨sb1.seq hb.2.1 hb.1, hb.2.1, hb.2.2.1, hb.2.2.2.1, fun v hv => (hb.2.2.2.2 v hv).sb pu sb1⟩, ⟨sb1.seq hc.2.1 hc.1, hc.2⟩, fun t wd ts H2 hw h3 hts nt pu2 sb2 et => ?_⟩
      refine ⟨(by show 1 ≤ sizeLine; decide), fun pd nd => ?_⟩
      have tne : t ≠ pd := fun z => by
        rw [z, nd] at et
        cases et
      refine k pd [.ref t] [wd :: ts] _ (pu2.put (pu2.ne nd)) ((sb1.trans sb2).put ((sb1.trans sb2).free pu2 nd)) upd_same (.cons (by rw [upd_ne tne]; exact et) .nil) (fun x hx => ?_) (by show 1 ≤ 1; decide) (fun y hy => ?_)
      · rw [List.mem_singleton.mp hx]
        exact ⟨wd, ts, rfl, hw.1, h3, fun y hy => tm y (hts y hy)⟩
      · have : y ∈ ts := by simpa [tails] using hy
        exact hts y this
    · rw [decide_eq_false (fun e => hr0 (by injection e) : ¬ V.int r = V.int 0)]
      exact iteF (nil H1 (pu1.le (by omega)) sb1)
theorem ok_rule {f fD fT fV fP fQ fI CR : Addr} {fd dD dT dV dP dQ dI : FuncData} (F : Fun K "_law_rule" "_law_rule" sRule f fd)
    (GD : FnOk P w K mg base CX0 2 fD dD ["_law_purse_here", "_law_many"] spDraw) (kD : PySem.W.keepIn K (.ref fD) = true) (gD : mg "_law_draw" = some (.ref fD)) (bD : Binds K dD ["_law_purse_here", "_law_many"] [])
    (GT : FnOk P w K mg base CX0 5 fT dT ["_law_purse_here", "_law_kinds_here", "_law_names_here", "_law_most", "_law_few"] (spTold K)) (kT : PySem.W.keepIn K (.ref fT) = true) (gT : mg "_law_told" = some (.ref fT)) (bT : Binds K dT ["_law_purse_here", "_law_kinds_here", "_law_names_here", "_law_most", "_law_few"] [])
    (GV : FnOk P w K mg base CX0 1 fV dV ["_law_told_here"] (spVariables K)) (kV : PySem.W.keepIn K (.ref fV) = true) (gV : mg "_law_variables" = some (.ref fV)) (bV : Binds K dV ["_law_told_here"] [])
    (GP : FnOk P w K mg base CX0 4 fP dP ["_law_purse_here", "_law_kinds_here", "_law_terms"] (spPattern K)) (kP : PySem.W.keepIn K (.ref fP) = true) (gP : mg "_law_pattern" = some (.ref fP)) (bP : Binds K dP ["_law_purse_here", "_law_kinds_here", "_law_terms"] [])
    (GQ : FnOk P w K mg base CX0 4 fQ dQ ["_law_purse_here", "_law_told_here", "_law_names_here"] (spPairs K)) (kQ : PySem.W.keepIn K (.ref fQ) = true) (gQ : mg "_law_pairs" = some (.ref fQ)) (bQ : Binds K dQ ["_law_purse_here", "_law_told_here", "_law_names_here"] [])
    (GI : FnOk P w K mg base CX0 5 fI dI ["self", "label", "head", "told", "pairs", "denied"] (spRuleInit CR)) (MI : Mk K CR fI) (gR : mg "Rule" = some (.ref CR)) (bI : Binds K dI ["self", "label", "head", "told", "pairs", "denied"] []) :
    FnOk P w K mg base CX0 7 f fd ["_law_purse_here", "_law_label", "_law_kinds_here", "_law_names_here", "_law_denied"] (spRule CR) := by
  refine F.ok scRule (fun vs H Q E h => ?_) (fun cdv A outer s H vs Q E hr h => ?_)
  · obtain ⟨a, b, c, z, d, n, ks, zs, rfl, _⟩ := h
    rfl
  · obtain ⟨a, b, c, z, d, n, ks, zs, rfl, pu, hz, ⟨eb, hba, k2, kl, kd⟩, ⟨ec, hca, z1, zl, zn⟩, q⟩ := h
    have hr1 : Room 1 _ := hr.mono (by decide)
    have hr2 : Room 2 _ := hr.mono (by decide)
    have hr4 : Room 4 _ := hr.mono (by decide)
    have hr5 : Room 5 _ := hr.mono (by decide)
    refine ⟨_, pss_cons (ps_set (i := 5) scRule.nd rfl (Or.inl rfl) (by exact (pe_call GT hr5 (by rfl) gT kT bT .nil pass0 (pa_cons (pv 0) (pa_cons (pe_op op_cat (pe_op op_rep (pe_slice sl_list (pv 2) po_none (po_some pe_int)) pe_int) (pv 2)) (pa_cons (pv 3) (pa_cons pe_int (pa_cons (pe_op op_add pe_int (by exact (pe_call GD hr2 (by rfl) gD kD bD .nil pass0 (pa_cons (pv 0) (pa_cons pe_int pa_nil))))) pa_nil))))))))
      (pss_cons (ps_par (i := 6) (j := 7) (by rfl) scRule.nd rfl rfl (by decide) rfl rfl (pa_cons (pe_op op_cat (by exact (pe_call GV hr1 (by rfl) gV kV bV .nil pass0 (pa_cons (pv 5) pa_nil))) (pe_slice sl_list (pv 3) po_none (po_some pe_int))) (pa_cons (pe_lst pa_nil) pa_nil)) (by rfl))
      (pss_cons (ps_if (PW.pt (pw_and (pt_val (pv 4)) (pw_and1 (pt_cmpR op_eq (by exact (pe_call GD hr2 (by rfl) gD kD bD .nil pass0 (pa_cons (pv 0) (pa_cons pe_int pa_nil)))) pe_int (nomark _)))))
        (pss_one (ps_set (i := 7) scRule.nd rfl (Or.inl rfl) (pe_lst (pa_cons (by exact (pe_call GP hr4 (by rfl) gP kP bP .nil pass0 (pa_cons (pv 0) (pa_cons (pv 2) (pa_cons (pv 6) pa_nil))))) pa_nil)))) pss_nil)
      (pss_cons (ps_set (i := 8) scRule.nd rfl (Or.inl rfl) (by exact (pe_call GP hr4 (by rfl) gP kP bP .nil pass0 (pa_cons (pv 0) (pa_cons (pe_op op_cat (pe_op op_rep (pe_slice sl_list (pv 2) (po_some pe_int) (po_some pe_int)) pe_int) (pv 2)) (pa_cons (pv 6) pa_nil))))))
      (pss_one (ps_ret (by exact (pe_make MI GI hr (by rfl) gR bI .nil pass0 (pa_cons (pv 1) (pa_cons (pv 8) (pa_cons (pv 5) (pa_cons (by exact (pe_call GQ hr4 (by rfl) gQ kQ bQ .nil pass0 (pa_cons (pv 0) (pa_cons (pv 5) (pa_cons (pv 3) pa_nil))))) (pa_cons (pv 7) pa_nil)))))))))))), ?_⟩
    -- told
    refine ⟨_, rfl, _, rfl, 1, rfl, b, ks, rfl, SqL.of eb, fun p1 n1 => ?_⟩
    rw [cutA ks (by omega)]
    have s1 : Same H (upd H p1 (.lst (ks.take 1))) := same_new n1
    have e1 : upd H p1 (.lst (ks.take 1)) p1 = some (.lst (ks.take 1)) := upd_same
    generalize upd H p1 (.lst (ks.take 1)) = G1 at s1 e1 ⊢
    refine ⟨p1, 4, _, rfl, rfl, e1, by decide, by decide, ?_, fun p2 n2 => ?_⟩
    · rw [List.length_take]
      exact Nat.le_trans (by show min 1 ks.length * 4 ≤ 1000; omega) (by decide)
    have s2 : Same H (upd G1 p2 (.lst (List.replicate (4 : Int).toNat (ks.take 1)).flatten)) := same_put s1 (s1.free n2)
    have e2 : upd G1 p2 (.lst (List.replicate (4 : Int).toNat (ks.take 1)).flatten) p2 = some (.lst (List.replicate (4 : Int).toNat (ks.take 1)).flatten) := upd_same
    have hm1 : ∀ v ∈ (List.replicate (4 : Int).toNat (ks.take 1)).flatten, v ∈ ks := fun v hv => List.mem_of_mem_take (rep_mem hv)
    have hl1 : (List.replicate (4 : Int).toNat (ks.take 1)).flatten.length ≤ 400 := by
      rw [rep_len, List.length_take]
      omega
    generalize (List.replicate (4 : Int).toNat (ks.take 1)).flatten = k4 at s2 e2 hm1 hl1 ⊢
    generalize upd G1 p2 (.lst k4) = G2 at s2 e2 ⊢
    refine ⟨_, rfl, _, _, _, _, rfl, rfl, e2, s2 _ _ eb, Nat.le_trans (by omega : _ ≤ 1000) (by decide), fun p3 n3 => ?_⟩
    have s3 : Same H (upd G2 p3 (.lst (k4 ++ ks))) := same_put s2 (s2.free n3)
    have e3 : upd G2 p3 (.lst (k4 ++ ks)) p3 = some (.lst (k4 ++ ks)) := upd_same
    have n3H := s2.free n3
    generalize upd G2 p3 (.lst (k4 ++ ks)) = G3 at s3 e3 ⊢
    have hk3 : ∀ v ∈ k4 ++ ks, v ∈ ks := fun v hv => (List.mem_append.mp hv).elim (hm1 v) id
    have hl3 : 1 ≤ (k4 ++ ks).length ∧ (k4 ++ ks).length ≤ 1000 := by
      rw [List.length_append]
      omega
    generalize k4 ++ ks = kk at e3 hk3 hl3
    have pu3 := pu.same s3
    have p3a : p3 ≠ a := pu.ne n3H
    refine ⟨_, rfl, _, rfl, a, n + 29, 2, rfl, pu3, ⟨by decide, by decide⟩, fun r H4 r0 r1 pu4 sb4 => ⟨_, _, rfl, rfl, ?_⟩⟩
    obtain ⟨j, rfl⟩ : ∃ j : Nat, r = (j : Int) := ⟨r.toNat, by omega⟩
    have sbA : Sb a H H4 := (Sb.of s3).trans sb4
    refine ⟨a, p3, c, n + 15, 3, 2 + j, kk, zs, by rw [show ((2 + j : Nat) : Int) = 2 + (j : Int) by omega]; rfl, pu4.le (by omega), ⟨by omega, by omega, by decide⟩, ⟨SqL.of (sb4 _ _ p3a e3), p3a, hl3.1, hl3.2, fun v hv => (kd v (hk3 v hv)).sb pu sbA⟩, ⟨SqL.of (sbA _ _ hca ec), hca, by omega, zn⟩, fun pt us ps H5 hps hok hpl npt pu5 sb5 ept => ?_⟩
    have sbB := sbA.trans sb5
    have nptH : H pt = none := sbA.free pu4 npt
    have pta : pt ≠ a := pu4.ne npt
    clear sb5 pu4 sb4 pu3
    refine (show ∀ G : Hp, G = H5 → tSeq _ _ { nx := fun _ H' => Q .non H', rt := Q } [some (.ref a), some (.str z), some (.ref b), some (.ref c), some (.bl d), some (.ref pt), none, none, none] G from fun G hG => ?_) _ rfl
    subst hG
    have ec5 := sbB _ _ hca ec
    refine ⟨_, rfl, pt, us, ps, rfl, SqL.of ept, hps, hok, by omega, fun p6 H6 n6 s6 e6 => ?_⟩
    have sb6 := sbB.then s6
    have pu6 := pu5.same s6
    refine ⟨_, rfl, 1, rfl, c, _, rfl, SqL.of (s6 _ _ ec5), fun p7 n7 => ?_⟩
    rw [take_names]
    have s7 : Same G (upd H6 p7 (.lst ((zs.take 1).map V.str))) := same_put s6 (s6.free n7)
    have e7 : upd H6 p7 (.lst ((zs.take 1).map V.str)) p7 = some (.lst ((zs.take 1).map V.str)) := upd_same
    have e67 : upd H6 p7 (.lst ((zs.take 1).map V.str)) p6 = some (.lst ((varsIn (tails ps)).map V.str)) := same_new n7 _ _ e6
    generalize upd H6 p7 (.lst ((zs.take 1).map V.str)) = H7 at s7 e7 e67 ⊢
    have hvl : (varsIn (tails ps)).length ≤ 9 := by
      have h1 := varsIn_len (tails ps)
      have h2 := tails_len hok
      omega
    refine ⟨_, _, _, _, rfl, rfl, e67, e7, ?_, fun p8 n8 => ?_⟩
    · rw [List.length_map, List.length_map, List.length_take]
      exact Nat.le_trans (by omega : _ ≤ 1000) (by decide)
    rw [← List.map_append]
    have hso : ∀ y ∈ varsIn (tails ps) ++ zs.take 1, y ∈ varsIn (tails ps) ∨ IsNm y := fun y hy => (List.mem_append.mp hy).elim .inl fun h => .inr (zn y (List.mem_of_mem_take h))
    have hsl : 1 ≤ (varsIn (tails ps) ++ zs.take 1).length ∧ (varsIn (tails ps) ++ zs.take 1).length ≤ 1000 := by
      rw [List.length_append, List.length_take]
      omega
    generalize varsIn (tails ps) ++ zs.take 1 = so at hso hsl ⊢
    have s8 : Same G (upd H7 p8 (.lst (so.map V.str))) := same_put s7 (s7.free n8)
    have e8 : upd H7 p8 (.lst (so.map V.str)) p8 = some (.lst (so.map V.str)) := upd_same
    have n8G := s7.free n8
    generalize upd H7 p8 (.lst (so.map V.str)) = H8 at s8 e8 ⊢
    refine ⟨by decide, fun p9 n9 => ?_⟩
    have s9 : Same G (upd H8 p9 (.lst [])) := same_put s8 (s8.free n9)
    have e89 : upd H8 p9 (.lst []) p8 = some (.lst (so.map V.str)) := same_new n9 _ _ e8
    have e9 : upd H8 p9 (.lst []) p9 = some (.lst []) := upd_same
    generalize upd H8 p9 (.lst []) = H9 at s9 e89 e9 ⊢
    refine ⟨_, _, rfl, ?_⟩
    have pu9 := pu5.same s9
    have sb9 := sbB.then s9
    have p8a : p8 ≠ a := pu5.ne n8G
    have vt : ∀ y ∈ so, IsVr y ∨ IsNm y := fun y hy => (hso y hy).elim (fun h => .inl (varsIn_mem.mp h).2) .inr
    show tSeq _ _ _ _ _
    refine if_den (K := K) (n := n + 10) (ks := ks) (so := so) pu9 ⟨SqL.of (sb9 _ _ hba eb), hba, by omega, by omega, fun v hv => (kd v hv).sb pu sb9⟩ ⟨SqL.of e89, p8a, hsl.1, hsl.2⟩ vt e9 fun pd us3 ds H10 pu10 sb10 ed pds dok dl dso => ?_
    have sbC := sb9.trans sb10
    have ept10 : H10 pt = some (.lst us) := sb10 _ _ pta (s9 _ _ ept)
    have pps10 : PaL H10 us ps := (hps.same s9).sb pu9 sb10
    have e8x := sb10 _ _ p8a e89
    have eb10 := sbC _ _ hba eb
    refine (show ∀ G : Hp, G = H10 → tSeq _ _ { nx := fun _ H' => Q .non H', rt := Q } [some (.ref a), some (.str z), some (.ref b), some (.ref c), some (.bl d), some (.ref pt), some (.ref p8), some (.ref pd), none] G from fun G hG => ?_) _ rfl
    subst hG
    refine ⟨_, rfl, _, rfl, 1, rfl, 2, rfl, b, ks, rfl, SqL.of eb10, fun q1 m1 => ?_⟩
    rw [cutB ks k2]
    have t1 : Same G (upd G q1 (.lst ((ks.drop 1).take 1))) := same_new m1
    have g1 : upd G q1 (.lst ((ks.drop 1).take 1)) q1 = some (.lst ((ks.drop 1).take 1)) := upd_same
    generalize upd G q1 (.lst ((ks.drop 1).take 1)) = F1 at t1 g1 ⊢
    refine ⟨q1, 4, _, rfl, rfl, g1, by decide, by decide, ?_, fun q2 m2 => ?_⟩
    · rw [List.length_take]
      exact Nat.le_trans (by show min 1 (ks.drop 1).length * 4 ≤ 1000; omega) (by decide)
    have t2 : Same G (upd F1 q2 (.lst (List.replicate (4 : Int).toNat ((ks.drop 1).take 1)).flatten)) := same_put t1 (t1.free m2)
    have g2 : upd F1 q2 (.lst (List.replicate (4 : Int).toNat ((ks.drop 1).take 1)).flatten) q2 = some (.lst (List.replicate (4 : Int).toNat ((ks.drop 1).take 1)).flatten) := upd_same
    have hm2 : ∀ v ∈ (List.replicate (4 : Int).toNat ((ks.drop 1).take 1)).flatten, v ∈ ks := fun v hv => List.mem_of_mem_drop (List.mem_of_mem_take (rep_mem hv))
    have hl2 : (List.replicate (4 : Int).toNat ((ks.drop 1).take 1)).flatten.length ≤ 400 := by
      rw [rep_len, List.length_take]
      omega
    generalize (List.replicate (4 : Int).toNat ((ks.drop 1).take 1)).flatten = k5 at t2 g2 hm2 hl2 ⊢
    generalize upd F1 q2 (.lst k5) = F2 at t2 g2 ⊢
    refine ⟨_, rfl, _, _, _, _, rfl, rfl, g2, t2 _ _ eb10, Nat.le_trans (by omega : _ ≤ 1000) (by decide), fun q3 m3 => ?_⟩
    have t3 : Same G (upd F2 q3 (.lst (k5 ++ ks))) := same_put t2 (t2.free m3)
    have g3 : upd F2 q3 (.lst (k5 ++ ks)) q3 = some (.lst (k5 ++ ks)) := upd_same
    have q3a : q3 ≠ a := pu10.ne (t2.free m3)
    generalize upd F2 q3 (.lst (k5 ++ ks)) = F3 at t3 g3 ⊢
    have hk4 : ∀ v ∈ k5 ++ ks, v ∈ ks := fun v hv => (List.mem_append.mp hv).elim (hm2 v) id
    have hl4 : 1 ≤ (k5 ++ ks).length ∧ (k5 ++ ks).length ≤ 1000 := by
      rw [List.length_append]
      omega
    generalize k5 ++ ks = kk2 at g3 hk4 hl4
    have sbD := sbC.then t3
    refine ⟨_, rfl, a, q3, p8, n + 6, kk2, so, rfl, (pu10.same t3).le (by omega), ⟨SqL.of g3, q3a, hl4.1, hl4.2, fun v hv => (kd v (hk4 v hv)).sb pu sbD⟩, ⟨SqL.of (t3 _ _ e8x), p8a, hsl.1, hsl.2⟩, fun th wd tms J1 hw h3 hts nth puJ sbJ eth => ?_⟩
    have sbE := sbD.trans sbJ
    have sGJ : Sb a G J1 := (Sb.of t3).trans sbJ
    have puF3 := pu10.same t3
    have eptJ := sGJ _ _ pta ept10
    have ppsJ := pps10.sb pu10 sGJ
    have pda : pd ≠ a := lst_ne pu10 (fun s1 d1 t1 k1 e => by
      injection e with e
      cases pds with
      | nil => cases e
      | cons e1 h1 =>
        injection e with e _
        cases e) ed
    have edJ := sGJ _ _ pda ed
    have pdsJ := pds.sb pu10 sGJ
    clear sbJ t1 t2 t3 g1 g2 g3
    refine (show ∀ G : Hp, G = J1 → tSeq _ _ { nx := fun _ H' => Q .non H', rt := Q } [some (.ref a), some (.str z), some (.ref b), some (.ref c), some (.bl d), some (.ref pt), some (.ref p8), some (.ref pd), some (.ref th)] G from fun G hG => ?_) _ rfl
    subst hG
    have ecJ := sbE _ _ hca ec
    refine ⟨_, rfl, _, rfl, _, rfl, _, rfl, _, rfl, _, rfl, a, pt, c, n + 1, us, ps, zs, rfl, puJ, ⟨SqL.of eptJ, ppsJ, hok, by omega⟩, ⟨SqL.of ecJ, hca, zl, zn⟩, fun pq ws qs K1 hqs hql hqok npq puq sbq epq => ?_⟩
    refine ⟨_, rfl, fun x dx nx ndx ne => ?_⟩
    have sK : Same K1 (upd (upd K1 dx (.own x)) x (.ins CR dx [])) := fun b o e => by
      rw [upd_ne (ne_of_none e nx), upd_ne (ne_of_none e ndx)]
      exact e
    have ex : upd (upd K1 dx (.own x)) x (.ins CR dx []) x = some (.ins CR dx []) := upd_same
    have mk : ∀ {H2 : Hp}, Sb x (upd (upd K1 dx (.own x)) x (.ins CR dx [])) H2 → Same K1 H2 := fun sb => made_same (Same.refl K1) nx ndx sb
    generalize upd (upd K1 dx (.own x)) x (.ins CR dx []) = K2 at sK ex mk ⊢
    have tha : th ≠ a := tup_ne puJ eth
    have eth2 := sK _ _ (sbq _ _ tha eth)
    have ept2 := sK _ _ (sbq _ _ pta eptJ)
    have pps2 := (ppsJ.sb puJ sbq).same sK
    have ed2 := sK _ _ (sbq _ _ pda edJ)
    have pds2 := (pdsJ.sb puJ sbq).same sK
    have hvv : ∀ y ∈ varsIn (tails ps), IsVr y := fun y hy => (varsIn_mem.mp hy).2
    have hpat : PatOk (wd :: tms) := ⟨wd, tms, rfl, hw.1, h3, fun y hy => vt y (hts y hy)⟩
    have hpr : ∀ y ∈ qs, PairOk y := fun y hy => (hqok y hy).pair hvv
    have m1 : hasMore (wd :: tms).tail ps = false := hasMore_no fun y hy => hso y (hts y hy)
    have m2 : hasMore qs.flatten ps = false := by
      refine hasMore_no fun y hy => ?_
      obtain ⟨l, hl, hy⟩ := List.mem_flatten.mp hy
      obtain ⟨u, v, rfl, _, h1, h2, _⟩ := hqok l hl
      simp only [List.mem_cons, List.not_mem_nil, or_false] at hy
      rcases hy with rfl | rfl
      · exact h1
      · exact h2
    have m3 : hasMore (tails ds) ps = false := hasMore_no fun y hy => hso y (dso y hy)
    refine ⟨x, dx, z, th, pt, wd :: tms, us, ps, .ref pq, qs, .ref pd, ds, rfl, ex, hz, ⟨eth2, hpat⟩, ⟨ept2, pps2, hok, by omega⟩, ⟨.inr ⟨pq, ws, rfl, sK _ _ epq, hqs.same sK, by omega⟩, hpr⟩, ⟨.inr ⟨pd, us3, rfl, ed2, pds2, by omega⟩, dok⟩, ⟨m1, m2, m3⟩, ?_⟩
    intro l1 l2 l3 us2 us4 H' f1 f2 f3 sb er el1 el2 pl2 el3 pl3
    have sm := mk sb
    have thx : th ≠ x := fun y => by
      rw [y, ex] at eth2
      cases eth2
    refine ⟨rfl, q x ⟨z, wd :: tms, ps, qs, ds⟩ H' ⟨hz, hpat, hok, by show ps.length ≤ 300; omega, hpr, by show qs.length ≤ 300; omega, dok, by show ds.length ≤ 300; omega⟩ ⟨m1, m2, m3⟩ (fun z => hw.2 (by injection z)) rfl ?_ ((puq.same sm).le (by omega)) ((sbE.trans sbq).then sm)⟩
    exact ⟨dx, th, l1, l2, l3, us, us2, us4, ⟨(sbE.trans sbq).free puq nx, (sbE.trans sbq).free puq (sK.free f1), (sbE.trans sbq).free puq (sK.free f2), (sbE.trans sbq).free puq (sK.free f3)⟩, er, sb _ _ thx eth2, ⟨el1, pps2.sbo ex sb⟩, ⟨el2, pl2⟩, el3, pl3⟩
end
end Nv
set_option maxHeartbeats 4000000
namespace Nv
open PySem PySem.Spec PyProof.Rows L2
/-! # rules, questions, books made and compared (from Lr1, Mk1, Mk2, Mk5, Mk6, without what asks for draws or repr) -/
theorem RAn.ra {C : Addr} {H H' : Hp} {r : Addr} {x : Rl} (h : RAn C H H' r x) : RA C H' r x := by
  obtain ⟨dx, th, l1, l2, l3, us, us2, us3, _, h⟩ := h
  exact ⟨dx, th, l1, l2, l3, us, us2, us3, h⟩
theorem mk_rule {H : Hp} {C x dx th tt : Addr} {y : Rl} {us : List V} {vp vd : V} {Q : VK} (ok : y.Ok) (cl : Clo y) (nx : H x = none) (ndx : H dx = none) (eth : H th = some (.tup (y.h.map V.str))) (ett : H tt = some (.lst us)) (pp : PaL H us y.ps) (op : Opt H vp y.qs) (od : Opt H vd y.ds)
    (q : ∀ H', Same H H' → RAn C H H' x y → Q .non H') : spRuleInit C [.ref x, .str y.l, .ref th, .ref tt, vp, vd] (upd (upd H dx (.own x)) x (.ins C dx [])) Q E0 := by
  have sK : Same H (upd (upd H dx (.own x)) x (.ins C dx [])) := fun b o e => by
    rw [upd_ne (ne_of_none e nx), upd_ne (ne_of_none e ndx)]
    exact e
  have ex : upd (upd H dx (.own x)) x (.ins C dx []) x = some (.ins C dx []) := upd_same
  have mk : ∀ {H2 : Hp}, Sb x (upd (upd H dx (.own x)) x (.ins C dx [])) H2 → Same H H2 := fun sb => made_same (Same.refl H) nx ndx sb
  generalize upd (upd H dx (.own x)) x (.ins C dx []) = K2 at sK ex mk ⊢
  refine ⟨x, dx, y.l, th, tt, y.h, us, y.ps, vp, y.qs, vd, y.ds, rfl, ex, ok.l, ⟨sK _ _ eth, ok.h⟩, ⟨sK _ _ ett, pp.same sK, ok.ps, ok.pl⟩, ⟨op.same sK, ok.qs⟩, ⟨od.same sK, ok.ds⟩, ⟨cl.h, cl.q, cl.d⟩, ?_⟩
  intro l1 l2 l3 us2 us4 H' f1 f2 f3 sb er el1 el2 pl2 el3 pl3
  have thx : th ≠ x := fun z => by
    rw [z, nx] at eth
    cases eth
  refine q H' (mk sb) ⟨dx, th, l1, l2, l3, us, us2, us4, ⟨nx, sK.free f1, sK.free f2, sK.free f3⟩, er, sb _ _ thx (sK _ _ eth), ⟨el1, (pp.same sK).sbo ex sb⟩, ⟨el2, pl2⟩, el3, pl3⟩
theorem opt_of {H : Hp} {a : Addr} {us : List V} {ps : List (List Str)} (e : H a = some (.lst us)) (h : PaL H us ps) (l : ps.length ≤ 300) : Opt H (.ref a) ps := .inr ⟨a, us, rfl, e, h, l⟩
section
variable {K : PySem.W.Frag} {C : Addr} {H : Hp} {a c : Addr} {x y : Rl} {v : V} {Q : VK}
theorem eq_rules (R : RC K C) (I : IC K C) (ra : RA C H a x) (xo : x.Ok) (rc : RA C H c y) (yo : y.Ok) (q : Q (.bl (decide (x = y))) H) : rOwnEq K C (spRuleEq K C) (.ref a) (.ref c) H Q := by
  obtain ⟨dx, th, l1, l2, l3, us, us2, us3, e, _⟩ := id ra
  obtain ⟨dx', th', m1, m2, m3, ws, ws2, ws3, e', _⟩ := id rc
  exact ⟨a, dx, _, _, rfl, e, .base (.ins e' R.cl I.ha I.hn I.ht I.hm), by simp [PySem.W.notFirst], a, x, _, rfl, ra, xo, .inl ⟨c, y, rfl, rc, yo, _, rfl, q⟩⟩
theorem ne_rules (R : RC K C) (I : IC K C) (ra : RA C H a x) (xo : x.Ok) (rc : RA C H c y) (yo : y.Ok) (q : Q (.bl (!decide (x = y))) H) : rOwnNe K C (spRuleEq K C) (.ref a) (.ref c) H Q := by
  obtain ⟨dx, th, l1, l2, l3, us, us2, us3, e, _⟩ := id ra
  obtain ⟨dx', th', m1, m2, m3, ws, ws2, ws3, e', _⟩ := id rc
  exact ⟨a, dx, _, _, rfl, e, .base (.ins e' R.cl I.ha I.hn I.ht I.hm), by simp [PySem.W.notFirst], a, x, _, rfl, ra, xo, .inl ⟨c, y, rfl, rc, yo, _, rfl, q⟩⟩
end
section
variable {K : PySem.W.Frag} {C : Addr} {H : Hp} {a c : Addr} {x y : Ql} {v : V} {Q : VK}
end
theorem map_str_inj : ∀ {xs ys : List Str}, xs.map V.str = ys.map V.str → xs = ys
  | [], [], _ => rfl
  | [], _ :: _, h => nomatch h
  | _ :: _, [], h => nomatch h
  | x :: xs, y :: ys, h => by
    injection h with h1 h2
    injection h1 with h1
    rw [h1, map_str_inj h2]
theorem PaL.fn {H : Hp} {vs : List V} {ps qs : List (List Str)} (h : PaL H vs ps) (k : PaL H vs qs) : ps = qs := by
  induction h generalizing qs with
  | nil =>
    cases k
    rfl
  | cons e _ ih =>
    cases k with
    | cons e2 k2 =>
      rw [e] at e2
      injection e2 with e2
      injection e2 with e2
      rw [map_str_inj e2, ih k2]
theorem RA.fn {C : Addr} {H : Hp} {r : Addr} {x y : Rl} (h : RA C H r x) (k : RA C H r y) : x = y := by
  obtain ⟨dx, th, l1, l2, l3, us, us2, us3, e, et, ⟨e1, p1⟩, ⟨e2, p2⟩, e3, p3⟩ := h
  obtain ⟨dx', th', m1, m2, m3, ws, ws2, ws3, g, gt, ⟨g1, r1⟩, ⟨g2, r2⟩, g3, r3⟩ := k
  rw [e] at g
  injection g with g
  injection g with _ _ g
  injection g with ga g
  injection g with gb g
  injection g with gc g
  injection g with gd g
  injection g with ge g
  injection ga with _ ga
  injection ga with ga
  injection gb with _ gb
  injection gb with gb
  injection gc with _ gc
  injection gc with gc
  injection gd with _ gd
  injection gd with gd
  injection ge with _ ge
  injection ge with ge
  subst gb gc gd ge
  rw [et] at gt
  injection gt with gt
  injection gt with gt
  rw [e1] at g1
  injection g1 with g1
  injection g1 with g1
  subst g1
  rw [e2] at g2
  injection g2 with g2
  injection g2 with g2
  subst g2
  rw [e3] at g3
  injection g3 with g3
  injection g3 with g3
  subst g3
  obtain ⟨a, b, c, d, f⟩ := x
  obtain ⟨a', b', c', d', f'⟩ := y
  dsimp only at *
  rw [ga, map_str_inj gt, p1.fn r1, p2.fn r2, p3.fn r3]
theorem one_of {C : Addr} {H : Hp} {rs ss : List Addr} {xs ys : List Rl} (hx : RAs C H rs xs) (hy : RAs C H ss ys) : One rs ss xs ys := fun i r x y h1 h2 h3 h4 => by
  obtain ⟨x', e1, r1⟩ := hx.at_ h1
  obtain ⟨y', e2, r2⟩ := hy.at_ h2
  rw [h3] at e1
  rw [h4] at e2
  injection e1 with e1
  injection e2 with e2
  subst e1 e2
  exact r1.fn r2
def BAn (C : Addr) (H H' : Hp) (b : Addr) (rs : List Addr) : Prop := ∃ dx l : Addr, (H b = none ∧ H l = none) ∧ H' b = some (.ins C dx [("_rules", .ref l)]) ∧ H' l = some (.lst (rs.map V.ref))
section
variable {C CR : Addr} {H H1 : Hp} {b c x dx a : Addr} {rs ss : List Addr} {xs ys : List Rl} {Q : VK} {K : PySem.W.Frag}
theorem BAn.ba (h : BAn C H H1 b rs) : BA C H1 b rs := by
  obtain ⟨dx, l, _, h⟩ := h
  exact ⟨dx, l, h⟩
theorem mk_book (nx : H x = none) (ndx : H dx = none) (ea : H a = some (.lst (rs.map V.ref))) (hx : RAs CR H rs xs) (nd : (xs.map Rl.l).Nodup) (le : xs.length ≤ 100)
    (q : ∀ H', Same H H' → BAn C H H' x rs → Q .non H') : spBookInit CR C [.ref x, .ref a] (upd (upd H dx (.own x)) x (.ins C dx [])) Q E0 := by
  have sK : Same H (upd (upd H dx (.own x)) x (.ins C dx [])) := fun b o e => by
    rw [upd_ne (ne_of_none e nx), upd_ne (ne_of_none e ndx)]
    exact e
  have ex : upd (upd H dx (.own x)) x (.ins C dx []) x = some (.ins C dx []) := upd_same
  have mk : ∀ {H2 : Hp}, Sb x (upd (upd H dx (.own x)) x (.ins C dx [])) H2 → Same H H2 := fun sb => made_same (Same.refl H) nx ndx sb
  generalize upd (upd H dx (.own x)) x (.ins C dx []) = K2 at sK ex mk ⊢
  exact ⟨x, dx, a, rs, xs, rfl, ex, sK _ _ ea, hx.same sK, nd, le, fun l1 H' n1 sb e1 e2 => q H' (mk sb) ⟨dx, l1, ⟨nx, sK.free n1⟩, e1, e2⟩⟩
theorem eq_books (cl : Cls K C) (I : IC K C) (ba : BA C H b rs) (hx : RAs CR H rs xs) (ox : ∀ x ∈ xs, x.Ok) (bc : BA C H c ss) (hy : RAs CR H ss ys) (oy : ∀ y ∈ ys, y.Ok) (q : ∀ H', Same H H' → Q (.bl (decide (xs = ys))) H') : rOwnEq K C (spBookEq K CR C) (.ref b) (.ref c) H Q := by
  obtain ⟨dx, l, e, _⟩ := id ba
  obtain ⟨dy, m, e', _⟩ := id bc
  exact ⟨b, dx, _, _, rfl, e, .base (.ins e' cl I.ha I.hn I.ht I.hm), by simp [PySem.W.notFirst], b, rs, xs, _, rfl, ba, hx, ox, .inl ⟨c, ss, ys, rfl, bc, hy, oy, one_of hx hy, fun H' s => ⟨_, rfl, q H' s⟩⟩⟩
end
end Nv
set_option maxHeartbeats 4000000
namespace Nv
open PySem PySem.Spec PyProof.Rows L2 TL
/-! # lines_of, _fact_in, _rule_in -/
section
variable (P : Program) (w : World) (K : PySem.W.Frag) (mg : Str → Option Value) (base : Heap)
/-- a class made by its name, all arguments by place -/
structure MadeP (C : Addr) (x : Str) (k : Nat) (ps : List Str) (sp : Sp) : Prop where
  ex : ∃ f fd, FnOk P w K mg base CX0 k f fd ps sp ∧ Mk K C f ∧ mg x = some (.ref C) ∧ Binds K fd ps []
end
section
variable {P : Program} {w : World} {K : PySem.W.Frag} {mg : Str → Option Value} {base : Heap}
def spLines (K : PySem.W.Frag) : Sp := fun vs H Q _ => ∃ z : Str, vs = [.str z] ∧ z.length ≤ 7000000 ∧ ∀ (l : Addr) (H' : Hp), H l = none → Same H H' → H' l = some (.lst ((linesOf z).map V.str)) → Q (.ref l) H'
theorem scLinesOf : FnScope ["text"] ["text"] (defScope sLinesOf) := ⟨rfl, rfl, rfl, by decide +kernel, rfl, by decide +kernel, by decide +kernel⟩
theorem ok_linesOf {f : Addr} {fd : FuncData} (F : Fun K "lines_of" "lines_of" sLinesOf f fd) : FnOk P w K mg base CX0 1 f fd ["text"] (spLines K) := by
  refine F.ok scLinesOf (fun vs H Q E h => ?_) (fun cdv A outer s H vs Q E hr h => ?_)
  · obtain ⟨z, rfl, _⟩ := h
    rfl
  · obtain ⟨z, rfl, hz, q⟩ := h
    refine ⟨_, pss_one (ps_ret (pe_ifExp (pt_truth (pv 0) (by intro _; rfl)) (by exact (pe_split (pv 0) pe_str)) (pe_lst pa_nil))), ?_⟩
    have hs : 8000000 ≤ sizeLine := by decide
    unfold linesOf at q
    by_cases h : z = ""
    · rw [if_pos h] at q
      refine ⟨_, rfl, false, ⟨by omega, by rw [h]; decide +kernel⟩, iteF ⟨by show 0 ≤ _; decide, fun l nl => ?_⟩⟩
      exact q l _ nl (same_new nl) upd_same
    · rw [if_neg h] at q
      have hl : z.length ≠ 0 := fun e => h (ext_tl (by
        have := len_tl z
        rw [e] at this
        rw [List.length_eq_zero_iff.mp this.symm]
        decide +kernel))
      refine ⟨_, rfl, true, ⟨by omega, ?_⟩, iteT ⟨_, rfl, ⟨_, rfl⟩, z, "\n", rfl, rfl, by decide, by omega, fun l nl => ?_⟩⟩
      · have : ((z.length : Nat) : Int) ≠ 0 := by omega
        simpa using hl
      exact q l _ nl (same_new nl) upd_same
def spFactIn (K : PySem.W.Frag) : Sp := fun vs H Q _ => ∃ p : List Str, vs = [.str (patT p)] ∧ FactOk p ∧ ∀ (t : Addr) (H' : Hp), H t = none → Same H H' → H' t = some (.tup (p.map V.str)) → Q (.ref t) H'
theorem scFactIn : FnScope ["text", "fact"] ["text"] (defScope sFactIn) := ⟨rfl, rfl, rfl, by decide +kernel, rfl, by decide +kernel, by decide +kernel⟩
theorem ok_factIn {f : Addr} {fd : FuncData} (F : Fun K "_fact_in" "_fact_in" sFactIn f fd) (GP : CallA P w K mg base "pattern_in" 1 ["text"] (spPatIn K)) (GI : CallA P w K mg base "is_fact" 3 ["value"] (spTup K factB)) (GT : CallA P w K mg base "pattern_text" 1 ["pattern"] (spPatT K)) :
    FnOk P w K mg base CX0 4 f fd ["text"] (spFactIn K) := by
  obtain ⟨fP, dP, GP, kP, gP, bP⟩ := GP.ex
  obtain ⟨fI, dI, GI, kI, gI, bI⟩ := GI.ex
  obtain ⟨fT, dT', GT, kT, gT, bT⟩ := GT.ex
  refine F.ok scFactIn (fun vs H Q E h => ?_) (fun cdv A outer s H vs Q E hr h => ?_)
  · obtain ⟨p, rfl, _⟩ := h
    rfl
  · obtain ⟨p, rfl, ok, q⟩ := h
    have hr1 : Room 1 _ := hr.mono (by decide)
    refine ⟨_, pss_cons (ps_set (i := 1) scFactIn.nd rfl (Or.inl rfl) (by exact (pe_call GP hr1 (by rfl) gP kP bP .nil pass0 (pa_cons (pv 0) pa_nil))))
      (pss_one (ps_ret (pe_ifExp (PW.pt (pw_and (pt_val (by exact (pe_call GI hr (by rfl) gI kI bI .nil pass0 (pa_cons (pv 1) pa_nil)))) (pw_and1 (pt_cmpR op_eq (by exact (pe_call GT hr1 (by rfl) gT kT bT .nil pass0 (pa_cons (pv 1) pa_nil))) (pv 0) (nomark _))))) (pv 1) pe_non))), ?_⟩
    have hl := patT_len ok.sht
    refine ⟨_, rfl, ?_⟩
    dsimp only [tNil]
    refine ⟨_, rfl, by omega, fun t H1 nt s1 e1 => ?_⟩
    rw [pIn_patT ok.pat] at e1
    refine ⟨_, rfl, ?_⟩
    dsimp only [tNil]
    refine ⟨_, _, rfl, ok.tp e1, fun H2 s2 => ⟨_, rfl, ?_⟩⟩
    rw [factB_strs, decide_eq_true ok]
    refine iteT ⟨_, rfl, ?_⟩
    dsimp only [tNil]
    refine ⟨t, p, rfl, s2 _ _ e1, ok.sht, fun H3 s3 => ⟨_, rfl, rfl, true, congrArg V.bl (decide_eq_true rfl), iteT ⟨_, rfl, ?_⟩⟩⟩
    exact q t H3 nt ((s1.trans s2).trans s3) (s3 _ _ (s2 _ _ e1))
/-- name = a if c else b, both ways to what I says -/
theorem seq_if {A : TT} {B C : TE} {g : TG} {t2 : TS} {D : Ends} {σ : L2.St} {H : Hp} (I : V → Hp → Prop) (h : ∀ Q' : VK, (∀ v G, I v G → Q' v G) → tIf A B C σ H Q') (k : ∀ v G, I v G → g v σ G fun σ' G' => t2 D σ' G') : tSeq (tAsg (tIf A B C) g) t2 D σ H := h _ k
/-- where the head ends, and what stands behind -/
theorem cut_if {x : Rl} (ok : x.Ok) : ∃ (s z : Str), Txt.partition (patT x.h ++ tailT x.ps x.qs x.ds) " if " = (patT x.h, s, z) ∧ ((s = "" ∧ x.ps = [] ∧ x.qs = [] ∧ x.ds = []) ∨ (s = " if " ∧ z.length ≤ 60000 ∧ cTold (unb z) = x.ps ∧ cPairs (unb z) = x.qs ∧ cDenied (unb z) = x.ds)) := by
  by_cases h : condT x.ps x.qs x.ds = []
  · exact ⟨_, _, cutIf0 ok h, .inl ⟨by decide +kernel, cond_nil h⟩⟩
  · refine ⟨_, _, cutIf1 ok h, .inr ⟨rfl, ?_, ?_, ?_, ?_⟩⟩
    · have h1 := joinC_len ok.ps ok.qs ok.ds ok.pl ok.ql ok.dl
      have h2 := join_len ", " (condT x.ps x.qs x.ds)
      omega
    · rw [unb_cond ok.ps ok.qs ok.ds h, told_back ok.ps ok.qs ok.ds]
    · rw [unb_cond ok.ps ok.qs ok.ds h, pairs_back ok.ps ok.qs ok.ds]
    · rw [unb_cond ok.ps ok.qs ok.ds h, denied_back ok.ps ok.qs ok.ds]
theorem RAn.up {C : Addr} {H H4 H5 H6 : Hp} {r : Addr} {x : Rl} (h : RAn C H4 H5 r x) (s : Same H H4) (s2 : Same H5 H6) : RAn C H H6 r x := by
  obtain ⟨dx, th, l1, l2, l3, us, us2, us3, ⟨n1, n2, n3, n4⟩, e, e1, ⟨e2, q2⟩, ⟨e3, q3⟩, e4, q4⟩ := h
  exact ⟨dx, th, l1, l2, l3, us, us2, us3, ⟨s.free n1, s.free n2, s.free n3, s.free n4⟩, s2 _ _ e, s2 _ _ e1, ⟨s2 _ _ e2, q2.same s2⟩, ⟨s2 _ _ e3, q3.same s2⟩, s2 _ _ e4, q4.same s2⟩
abbrev nRin : List Str := ["text", "label", "_", "rest", "head", "word", "tail", "told", "pairs", "denied", "rule"]
def spRuleIn (K : PySem.W.Frag) (CR : Addr) : Sp := fun vs H Q _ => ∃ x : Rl, vs = [.str (ruleT x)] ∧ x.Ok ∧ Clo x ∧ ∀ (r : Addr) (H' : Hp), Same H H' → RAn CR H H' r x → Q (.ref r) H'
theorem scRuleIn : FnScope nRin ["text"] (defScope sRuleIn) := ⟨rfl, rfl, rfl, by decide +kernel, rfl, by decide +kernel, by decide +kernel⟩
theorem ok_ruleIn {f CR : Addr} {fd : FuncData} (F : Fun K "_rule_in" "_rule_in" sRuleIn f fd) (MR : MadeP P w K mg base CR "Rule" 5 ["self", "label", "head", "told", "pairs", "denied"] (spRuleInit CR))
    (GC : CallA P w K mg base "conditions_in" 2 ["text"] (spCondIn K)) (GP : CallA P w K mg base "pattern_in" 1 ["text"] (spPatIn K)) (GT : CallA P w K mg base "rule_text" 3 ["rule"] (spRuleT CR)) :
    FnOk P w K mg base CX0 7 f fd ["text"] (spRuleIn K CR) := by
  obtain ⟨fR, dR, GR, mkR, gR, bR⟩ := MR.ex
  obtain ⟨fC, dC, GC, kC, gC, bC⟩ := GC.ex
  obtain ⟨fP, dP, GP, kP, gP, bP⟩ := GP.ex
  obtain ⟨fT, dT', GT, kT, gT, bT⟩ := GT.ex
  refine F.ok scRuleIn (fun vs H Q E h => ?_) (fun cdv A outer s H vs Q E hr h => ?_)
  · obtain ⟨x, rfl, _⟩ := h
    rfl
  · obtain ⟨x, rfl, ok, clo, q⟩ := h
    have hr1 : Room 1 _ := hr.mono (by decide)
    have hr2 : Room 2 _ := hr.mono (by decide)
    have hr3 : Room 3 _ := hr.mono (by decide)
    refine ⟨_, pss_cons (ps_asg (by exact (pe_partition (pv 0) pe_str)) (pg_tup (by rfl) (pgs_cons (pg_name (i := 1) scRuleIn.nd rfl (Or.inl rfl)) (pgs_cons (pg_name (i := 2) scRuleIn.nd rfl (Or.inl rfl)) (pgs_cons (pg_name (i := 3) scRuleIn.nd rfl (Or.inl rfl)) pgs_nil)))))
      (pss_cons (ps_asg (by exact (pe_partition (pv 3) pe_str)) (pg_tup (by rfl) (pgs_cons (pg_name (i := 4) scRuleIn.nd rfl (Or.inl rfl)) (pgs_cons (pg_name (i := 5) scRuleIn.nd rfl (Or.inl rfl)) (pgs_cons (pg_name (i := 6) scRuleIn.nd rfl (Or.inl rfl)) pgs_nil)))))
      (pss_cons (ps_asg (pe_ifExp (pt_truth (pv 5) (by intro _; rfl)) (by exact (pe_call GC hr2 (by rfl) gC kC bC .nil pass0 (pa_cons (pv 6) pa_nil))) (pe_tup (pa_cons (pe_lst pa_nil) (pa_cons (pe_lst pa_nil) (pa_cons (pe_lst pa_nil) pa_nil)))))
        (pg_tup (by rfl) (pgs_cons (pg_name (i := 7) scRuleIn.nd rfl (Or.inl rfl)) (pgs_cons (pg_name (i := 8) scRuleIn.nd rfl (Or.inl rfl)) (pgs_cons (pg_name (i := 9) scRuleIn.nd rfl (Or.inl rfl)) pgs_nil)))))
      (pss_cons (by exact (ps_try_thru0 (pss_one (ps_set (i := 10) scRuleIn.nd rfl (Or.inl rfl) (by exact (pe_make mkR GR hr (by rfl) gR bR .nil pass0 (pa_cons (pv 1) (pa_cons (by exact (pe_call GP hr1 (by rfl) gP kP bP .nil pass0 (pa_cons (pv 4) pa_nil))) (pa_cons (pv 7) (pa_cons (pv 8) (pa_cons (pv 9) pa_nil)))))))))))
      (pss_one (ps_ret (pe_ifExp (pt_cmpR op_eq (by exact (pe_call GT hr3 (by rfl) gT kT bT .nil pass0 (pa_cons (pv 10) pa_nil))) (pv 0) (nomark _)) (pv 10) pe_non)))))), ?_⟩
    have hs : 200000 ≤ sizeLine := by decide
    have hl := (ruleT_len ok).1
    have hl2 := (ruleT_len ok).2
    have hph := patT_len ok.h.sht
    refine ⟨_, rfl, ⟨_, rfl⟩, _, ": ", rfl, rfl, by decide, by omega, fun p np => ?_⟩
    rw [part_label ok]
    dsimp only
    generalize e0 : upd H p (.tup [.str x.l, .str ": ", .str (patT x.h ++ tailT x.ps x.qs x.ds)]) = H1
    have s1 : Same H H1 := e0 ▸ same_new np
    have e1 : H1 p = some (.tup [.str x.l, .str ": ", .str (patT x.h ++ tailT x.ps x.qs x.ds)]) := e0 ▸ upd_same
    clear e0
    refine ⟨p, _, rfl, SqT.of e1, rfl, _, _, rfl, _, _, rfl, _, _, rfl, rfl, ?_⟩
    obtain ⟨sp, z, hc, cases_⟩ := cut_if ok
    show tSeq _ _ _ _ _
    refine ⟨_, rfl, ⟨_, rfl⟩, _, " if ", rfl, rfl, by decide, by rw [len_app]; omega, fun p2 np2 => ?_⟩
    rw [hc]
    dsimp only
    generalize e0 : upd H1 p2 (.tup [.str (patT x.h), .str sp, .str z]) = H2
    have s2 : Same H1 H2 := e0 ▸ same_new np2
    have e2 : H2 p2 = some (.tup [.str (patT x.h), .str sp, .str z]) := e0 ▸ upd_same
    clear e0
    have s02 := s1.trans s2
    refine ⟨p2, _, rfl, SqT.of e2, rfl, _, _, rfl, _, _, rfl, _, _, rfl, rfl, ?_⟩
    refine seq_if (fun v G => ∃ (t l1 l2 l3 : Addr) (us us2 us3 : List V), v = .ref t ∧ Same H2 G ∧ G t = some (.tup [.ref l1, .ref l2, .ref l3]) ∧ (G l1 = some (.lst us) ∧ PaL G us x.ps) ∧ (G l2 = some (.lst us2) ∧ PaL G us2 x.qs) ∧ (G l3 = some (.lst us3) ∧ PaL G us3 x.ds)) (fun Q' hQ => ?_) ?_
    · rcases cases_ with ⟨rfl, h1, h2, h3⟩ | ⟨rfl, hz, h1, h2, h3⟩
      · refine ⟨_, rfl, false, ⟨by decide, by decide +kernel⟩, iteF ?_⟩
        refine ⟨by decide, fun l1 n1 => ⟨by decide, fun l2 n2 => ⟨by decide, fun l3 n3 => ?_⟩⟩⟩
        dsimp only [tNil]
        have a1 := same_new (o := HO.lst []) n1
        have f1 : upd H2 l1 (HO.lst []) l1 = some _ := upd_same
        generalize upd H2 l1 (HO.lst []) = G1 at a1 f1 n2 n3 ⊢
        have a2 := same_new (o := HO.lst []) n2
        have f2 : upd G1 l2 (HO.lst []) l2 = some _ := upd_same
        generalize upd G1 l2 (HO.lst []) = G2 at a2 f2 n3 ⊢
        have a3 := same_new (o := HO.lst []) n3
        have f3 : upd G2 l3 (HO.lst []) l3 = some _ := upd_same
        generalize upd G2 l3 (HO.lst []) = G3 at a3 f3 ⊢
        refine ⟨by show 3 ≤ _; decide, fun t nt => ?_⟩
        have a4 := same_new (o := HO.tup [.ref l1, .ref l2, .ref l3]) nt
        rw [h1, h2, h3] at hQ
        exact hQ _ _ ⟨t, l1, l2, l3, [], [], [], rfl, ((a1.trans a2).trans a3).trans a4, upd_same, ⟨a4 _ _ (a3 _ _ (a2 _ _ f1)), .nil⟩, ⟨a4 _ _ (a3 _ _ f2), .nil⟩, ⟨a4 _ _ f3, .nil⟩⟩
      · refine ⟨_, rfl, true, ⟨by decide, by decide +kernel⟩, iteT ⟨_, rfl, ?_⟩⟩
        dsimp only [tNil]
        refine ⟨z, rfl, by omega, fun t l1 l2 l3 us us2 us3 G sG et k1 k2 k3 => ?_⟩
        rw [h1] at k1
        rw [h2] at k2
        rw [h3] at k3
        exact hQ _ _ ⟨t, l1, l2, l3, us, us2, us3, rfl, sG, et, k1, k2, k3⟩
    rintro v H3 ⟨t, l1, l2, l3, us, us2, us3, rfl, s3, et, ⟨k1, r1⟩, ⟨k2, r2⟩, ⟨k3, r3⟩⟩
    have s03 := s02.trans s3
    clear cases_ hc
    refine ⟨t, _, rfl, SqT.of et, rfl, _, _, rfl, _, _, rfl, _, _, rfl, rfl, ?_⟩
    show tSeq _ _ _ _ _
    refine ⟨_, rfl, _, rfl, ?_⟩
    dsimp only [tNil]
    refine ⟨_, rfl, by omega, fun th H4 nth s4 eth => ?_⟩
    rw [pIn_patT ok.h] at eth
    have s04 := s03.trans s4
    refine ⟨_, rfl, _, rfl, _, rfl, ?_⟩
    dsimp only [tNil]
    intro r dx nr ndx ner
    refine mk_rule (y := x) ok clo nr ndx eth (s4 _ _ k1) (r1.same s4) (opt_of (s4 _ _ k2) (r2.same s4) ok.ql) (opt_of (s4 _ _ k3) (r3.same s4) ok.dl) fun H5 s5 ra => ⟨rfl, ?_⟩
    have s05 := s04.trans s5
    refine ⟨_, rfl, ?_⟩
    dsimp only [tNil]
    refine ⟨r, x, rfl, ra.ra, ok, fun H6 s6 => ⟨_, rfl, rfl, true, congrArg V.bl (decide_eq_true rfl), iteT ⟨_, rfl, ?_⟩⟩⟩
    exact q r H6 (s05.trans s6) (ra.up s04 s6)
end
end Nv
set_option maxHeartbeats 4000000
namespace Nv
open PySem PySem.Spec PyProof.Rows L2 TL
/-! # read_fact, read_rule, read_book, read_store -/
/-- a rule none of whose own objects is o -/
def RAo (o : Addr) (C : Addr) (H : Hp) (r : Addr) (x : Rl) : Prop := ∃ (dx th l1 l2 l3 : Addr) (us us2 us3 : List V), (r ≠ o ∧ l1 ≠ o ∧ l2 ≠ o ∧ l3 ≠ o) ∧ (H r = some (.ins C dx (ruleF x.l th l1 l2 l3)) ∧ H th = some (.tup (x.h.map V.str)) ∧ (H l1 = some (.lst us) ∧ PaL H us x.ps) ∧ (H l2 = some (.lst us2) ∧ PaL H us2 x.qs) ∧ H l3 = some (.lst us3) ∧ PaL H us3 x.ds)
section
variable {C o r : Addr} {H H1 : Hp} {x : Rl}
theorem RAo.ra (h : RAo o C H r x) : RA C H r x := by
  obtain ⟨dx, th, l1, l2, l3, us, us2, us3, _, h⟩ := h
  exact ⟨dx, th, l1, l2, l3, us, us2, us3, h⟩
theorem RAo.same (h : RAo o C H r x) (s : Same H H1) : RAo o C H1 r x := by
  obtain ⟨dx, th, l1, l2, l3, us, us2, us3, n, e, et, ⟨e1, p1⟩, ⟨e2, p2⟩, e3, p3⟩ := h
  exact ⟨dx, th, l1, l2, l3, us, us2, us3, n, s _ _ e, s _ _ et, ⟨s _ _ e1, p1.same s⟩, ⟨s _ _ e2, p2.same s⟩, s _ _ e3, p3.same s⟩
theorem RAn.at_ {u : HO} (h : RAn C H H1 r x) (e : H o = some u) : RAo o C H1 r x := by
  obtain ⟨dx, th, l1, l2, l3, us, us2, us3, ⟨n1, n2, n3, n4⟩, h⟩ := h
  have no : ∀ {a : Addr}, H a = none → a ≠ o := fun n z => by
    rw [z, e] at n
    cases n
  exact ⟨dx, th, l1, l2, l3, us, us2, us3, ⟨no n1, no n2, no n3, no n4⟩, h⟩
theorem RA.new_ (h : RA C H r x) (n : H o = none) : RAo o C H r x := by
  obtain ⟨dx, th, l1, l2, l3, us, us2, us3, e, et, ⟨e1, p1⟩, ⟨e2, p2⟩, e3, p3⟩ := h
  have no : ∀ {a : Addr} {u : HO}, H a = some u → a ≠ o := fun e z => by
    rw [z, n] at e
    cases e
  exact ⟨dx, th, l1, l2, l3, us, us2, us3, ⟨no e, no e1, no e2, no e3⟩, e, et, ⟨e1, p1⟩, ⟨e2, p2⟩, e3, p3⟩
theorem PaL.putl {vs os os' : List V} {ps : List (List Str)} (h : PaL H vs ps) (e : H o = some (.lst os)) : PaL (upd H o (.lst os')) vs ps := by
  induction h with
  | nil => exact .nil
  | cons e1 _ ih =>
    refine .cons ?_ ih
    rw [upd_ne (fun z => by rw [z, e] at e1; cases e1)]
    exact e1
theorem RAo.putl {os os' : List V} (h : RAo o C H r x) (e : H o = some (.lst os)) : RAo o C (upd H o (.lst os')) r x := by
  obtain ⟨dx, th, l1, l2, l3, us, us2, us3, ⟨n1, n2, n3, n4⟩, e0, et, ⟨e1, p1⟩, ⟨e2, p2⟩, e3, p3⟩ := h
  refine ⟨dx, th, l1, l2, l3, us, us2, us3, ⟨n1, n2, n3, n4⟩, ?_, ?_, ⟨?_, p1.putl e⟩, ⟨?_, p2.putl e⟩, ?_, p3.putl e⟩
  · rw [upd_ne n1]
    exact e0
  · rw [upd_ne (fun z => by rw [z, e] at et; cases et)]
    exact et
  · rw [upd_ne n2]
    exact e1
  · rw [upd_ne n3]
    exact e2
  · rw [upd_ne n4]
    exact e3
end
theorem all2_imp {α β : Type} {R S : α → β → Prop} (h : ∀ a b, R a b → S a b) : ∀ {xs : List α} {ys : List β}, All2 R xs ys → All2 S xs ys
  | _, _, .nil => .nil
  | _, _, .cons e t => .cons (h _ _ e) (all2_imp h t)
theorem all2_app {α β : Type} {R : α → β → Prop} {x : α} {y : β} (k : R x y) : ∀ {xs : List α} {ys : List β}, All2 R xs ys → All2 R (xs ++ [x]) (ys ++ [y])
  | _, _, .nil => .cons k .nil
  | _, _, .cons e t => .cons e (all2_app k t)
section
variable {K : PySem.W.Frag} {a D : Addr} {xs : List V} {g : TG} {te : TE} {vs : List Nat} {σ : L2.St} {H1 : Hp} {Qd : Hp → Prop} {α : Type} {ds : List α} {S : V → α → Prop}
/-- a comprehension that makes rules -/
theorem lc_rls {C : Addr} {f : α → Rl} (ha : SqL K H1 a xs) (nD : H1 D = none) (few : ds.length ≤ 100000) (le : xs.length = ds.length) (at_ : ∀ (i : Nat) (v : V), xs[i]? = some v → ∃ d, ds[i]? = some d ∧ S v d)
    (hs : ∀ v d (H : Hp) (R : V → Hp → Prop), d ∈ ds → S v d → Same H1 H → (∀ r H', Same H H' → RAn C H H' r (f d) → R (.ref r) H') →
      g v (wipe σ vs) H fun σ2 H2 => wipe σ2 vs = wipe σ vs ∧ te σ2 H2 R)
    (hd : ∀ H rs, Same H1 H → H D = some (.lst (rs.map V.ref)) → RAs C H rs (ds.map f) → Qd H) :
    ∃ W : Nat → Nat → Hp → Prop, (∃ m, W 0 m (upd H1 D (.lst []))) ∧ ∀ i m H, W i m H →
      ((Itl K a).stop i H ∧ Qd H) ∨ ((Itl K a).go i H ∧ ∃ Nx : Hp → Prop, (∀ H', Nx H' → ∃ m', m' < m ∧ W (i + 1) m' H') ∧ ∀ x H', (Itl K a).yld i H x H' → g x (wipe σ vs) H' fun σ2 H2 => wipe σ2 vs = wipe σ vs ∧ tYes σ2 H2 fun b H3 =>
        if b = true then te σ2 H3 fun y H4 => ∃ acc, H4 D = some (.lst acc) ∧ acc.length < sizeLine ∧ Nx (upd H4 D (.lst (acc ++ [y]))) else Nx H3) := by
  refine lc_list (K := K) (a := a) (xs := xs) (fun i H => Same H1 H ∧ ∃ rs : List Addr, H D = some (.lst (rs.map V.ref)) ∧ All2 (fun r x => RAo D C H r x) rs ((ds.take i).map f)) ⟨same_new nD, [], upd_same, .nil⟩ (fun i H _ y => y.1.seq ha) ?_ ?_
  · rintro i v H hi ⟨s, rs, e, hw⟩
    obtain ⟨d, hd, sv⟩ := at_ i v hi
    refine hs v d H _ (List.mem_of_getElem? hd) sv s fun r H' s' ra => ⟨_, s' _ _ e, ?_, same_put (s.trans s') nD, rs ++ [r], ?_, ?_⟩
    · have h1 : rs.length = _ := hw.len
      rw [List.length_map, List.length_take] at h1
      rw [List.length_map]
      exact Nat.lt_of_le_of_lt (by omega : _ ≤ 100000) (by decide)
    · rw [upd_same, List.map_append]
      rfl
    · rw [take_one hd, List.map_append]
      have e' := s' _ _ e
      exact all2_app ((ra.at_ e).putl e') (all2_imp (fun a b z => (z.same s').putl e') hw)
  · rintro H ⟨s, rs, e, hw⟩
    rw [le, List.take_length] at hw
    exact hd H rs s e (all2_imp (fun _ _ z => z.ra) hw)
end
section
variable {P : Program} {w : World} {K : PySem.W.Frag} {mg : Str → Option Value} {base : Heap}
theorem scReadFact : FnScope ["text", "fact"] ["text"] (defScope sReadFact) := ⟨rfl, rfl, rfl, by decide +kernel, rfl, by decide +kernel, by decide +kernel⟩
theorem ok_readFact {f : Addr} {fd : FuncData} (F : Fun K "read_fact" "read_fact" sReadFact f fd) (B : Bp mg) (GF : CallA P w K mg base "_fact_in" 4 ["text"] (spFactIn K)) : FnOk P w K mg base CX0 5 f fd ["text"] (spFactIn K) := by
  obtain ⟨fF, dF, GF, kF, gF, bF⟩ := GF.ex
  refine F.ok scReadFact (fun vs H Q E h => ?_) (fun cdv A outer s H vs Q E hr h => ?_)
  · obtain ⟨p, rfl, _⟩ := h
    rfl
  · obtain ⟨p, rfl, ok, q⟩ := h
    refine ⟨_, pss_cons (ps_set (i := 1) scReadFact.nd rfl (Or.inl rfl) (pe_ifExp (pt_val (pe_callB call_isi (by rfl) B.isi bootIsi (pa_cons (pv 0) (pa_cons (pe_bltn (v := V.ty "str") (by rfl) B.str PyProof.Rows.boot_str rfl) pa_nil)))) (by exact (pe_call GF hr (by rfl) gF kF bF .nil pass0 (pa_cons (pv 0) pa_nil))) pe_non))
      (pss_cons (ps_if (pt_cmpR op_isN (pv 1) pe_non (by rfl)) (pss_one ps_never) pss_nil) (pss_one (ps_ret (pv 1)))), ?_⟩
    refine ⟨_, rfl, _, _, _, _, true, rfl, .ty _, .base (.str _), kit_ty (by decide +kernel), true, rfl, iteT ⟨_, rfl, ?_⟩⟩
    dsimp only [tNil]
    refine ⟨p, rfl, ok, fun t H1 nt s1 e1 => ?_⟩
    show tSeq _ _ _ _ _
    exact ⟨_, rfl, rfl, false, rfl, iteF ⟨_, rfl, q t H1 nt s1 e1⟩⟩
theorem scReadRule : FnScope ["text", "rule"] ["text"] (defScope sReadRule) := ⟨rfl, rfl, rfl, by decide +kernel, rfl, by decide +kernel, by decide +kernel⟩
theorem ok_readRule {f CR : Addr} {fd : FuncData} (F : Fun K "read_rule" "read_rule" sReadRule f fd) (B : Bp mg) (GF : CallA P w K mg base "_rule_in" 7 ["text"] (spRuleIn K CR)) : FnOk P w K mg base CX0 8 f fd ["text"] (spRuleIn K CR) := by
  obtain ⟨fF, dF, GF, kF, gF, bF⟩ := GF.ex
  refine F.ok scReadRule (fun vs H Q E h => ?_) (fun cdv A outer s H vs Q E hr h => ?_)
  · obtain ⟨p, rfl, _⟩ := h
    rfl
  · obtain ⟨x, rfl, ok, clo, q⟩ := h
    refine ⟨_, pss_cons (ps_set (i := 1) scReadRule.nd rfl (Or.inl rfl) (pe_ifExp (pt_val (pe_callB call_isi (by rfl) B.isi bootIsi (pa_cons (pv 0) (pa_cons (pe_bltn (v := V.ty "str") (by rfl) B.str PyProof.Rows.boot_str rfl) pa_nil)))) (by exact (pe_call GF hr (by rfl) gF kF bF .nil pass0 (pa_cons (pv 0) pa_nil))) pe_non))
      (pss_cons (ps_if (pt_cmpR op_isN (pv 1) pe_non (by rfl)) (pss_one ps_never) pss_nil) (pss_one (ps_ret (pv 1)))), ?_⟩
    refine ⟨_, rfl, _, _, _, _, true, rfl, .ty _, .base (.str _), kit_ty (by decide +kernel), true, rfl, iteT ⟨_, rfl, ?_⟩⟩
    dsimp only [tNil]
    refine ⟨x, rfl, ok, clo, fun r H1 s1 ra => ?_⟩
    show tSeq _ _ _ _ _
    exact ⟨_, rfl, rfl, false, rfl, iteF ⟨_, rfl, q r H1 s1 ra⟩⟩
end
end Nv
set_option maxHeartbeats 4000000
namespace Nv
open PySem PySem.Spec PyProof.Rows L2 TL
/-! # read_book, read_store -/
theorem sort_sort (ps : List (List Str)) : sortT (sortT ps) = sortT ps :=
  (PySem.W.sort_unique (PySem.W.sortLe_total _ false _) (PySem.W.sort_pairwise (PySem.W.sortLe_total _ false _) ps) (fun _ => rfl)).symm
theorem sort_nd {ps : List (List Str)} (h : ps.Nodup) : (sortT ps).Nodup := (List.mergeSort_perm _ _).nodup_iff.mpr h
section
variable {P : Program} {w : World} {K : PySem.W.Frag} {mg : Str → Option Value} {base : Heap}
def spReadBook (K : PySem.W.Frag) (CR CB : Addr) : Sp := fun vs H Q _ => ∃ xs : List Rl, vs = [.str (bookT xs)] ∧ (∀ x ∈ xs, x.Ok ∧ Clo x) ∧ (xs.map Rl.l).Nodup ∧ xs.length ≤ 100 ∧ ∀ (b : Addr) (rs : List Addr) (H' : Hp), Same H H' → BA CB H' b rs → RAs CR H' rs xs → Q (.ref b) H'
theorem scReadBook : FnScope ["text", "line"] ["text"] (defScope sReadBook) := ⟨rfl, rfl, rfl, by decide +kernel, rfl, by decide +kernel, by decide +kernel⟩
theorem ok_readBook {f CR CB : Addr} {fd : FuncData} (F : Fun K "read_book" "read_book" sReadBook f fd) (B : Bp mg) (MB : MadeP P w K mg base CB "Book" 3 ["self", "rules"] (spBookInit CR CB)) (GR : CallA P w K mg base "_rule_in" 7 ["text"] (spRuleIn K CR)) (GL : CallA P w K mg base "lines_of" 1 ["text"] (spLines K)) :
    FnOk P w K mg base CX0 8 f fd ["text"] (spReadBook K CR CB) := by
  obtain ⟨fB, dB, GB, mkB, gB, bB⟩ := MB.ex
  obtain ⟨fR, dR, GR, kR, gR, bR⟩ := GR.ex
  obtain ⟨fL, dL', GL, kL, gL, bL⟩ := GL.ex
  refine F.ok scReadBook (fun vs H Q E h => ?_) (fun cdv A outer s H vs Q E hr h => ?_)
  · obtain ⟨xs, rfl, _⟩ := h
    rfl
  · obtain ⟨xs, rfl, ok, nd, few, q⟩ := h
    have hr1 : Room 1 _ := hr.mono (by decide)
    have hr4 : Room 4 _ := hr.mono (by decide)
    refine ⟨_, pss_cons (ps_if (pt_not (pt_val (pe_callB call_isi (by rfl) B.isi bootIsi (pa_cons (pv 0) (pa_cons (pe_bltn (v := V.ty "str") (by rfl) B.str PyProof.Rows.boot_str rfl) pa_nil))))) (pss_one ps_never) pss_nil)
      (pss_one (by exact (ps_try_thru0 (pss_one (ps_ret (by exact (pe_make mkB GB hr4 (by rfl) gB bB .nil pass0 (pa_cons (by exact (pe_lc (own := [("line", 1)]) (g := gName 1) (tt := tYes) (te := tCall (spRuleIn K CR) [] E0 (tCons (tVar 1) tNil)) rfl scReadBook.nd (pi_list (by exact (pe_call GL hr1 (by rfl) gL kL bL .nil pass0 (pa_cons (pv 0) pa_nil))))
          (blkOk_by (own := [("line", 1)]) (N := ["text", "line"]) (sc := defScope sReadBook) (by decide +kernel))
          (fun _ _ _ _ _ => pg_name (i := 1) scReadBook.nd rfl (Or.inl rfl)) (fun _ _ _ _ _ => pts_nil)
          (fun _ _ _ _ _ => by exact (pe_call GR hr (by rfl) gR kR bR .nil pass0 (pa_cons (pv 1) pa_nil))))) pa_nil)))))))), ?_⟩
    have hb := joinN_len (c := 61000) (l := xs.map ruleT) fun z hz => by
      obtain ⟨p, hp, rfl⟩ := List.mem_map.mp hz
      exact (ruleT_len (ok p hp).1).1
    rw [List.length_map] at hb
    have hbl : (bookT xs).length ≤ 7000000 := by
      have := hb.2
      show (joinN (xs.map ruleT)).length ≤ _
      omega
    refine ⟨_, rfl, _, _, _, _, true, rfl, .ty _, .base (.str _), kit_ty (by decide +kernel), true, rfl, iteF ?_⟩
    refine ⟨_, rfl, ?_⟩
    dsimp only [tNil]
    refine ⟨bookT xs, rfl, hbl, fun l H1 nl s1 el => ?_⟩
    rw [bookT_back fun x hx => (ok x hx).1] at el
    refine ⟨l, rfl, ⟨_, SqL.of el⟩, fun D nD => ?_⟩
    refine lc_rls (K := K) (a := l) (xs := (xs.map ruleT).map V.str) (ds := xs) (S := fun v x => v = V.str (ruleT x)) (C := CR) (f := id) (SqL.of el) nD (by omega) (by rw [List.length_map, List.length_map]) (fun i v h => ?_) ?_ ?_
    · rw [List.map_map, List.getElem?_map] at h
      cases hg : xs[i]? with
      | none => rw [hg] at h; cases h
      | some x =>
        rw [hg] at h
        exact ⟨x, rfl, (Option.some.inj h).symm⟩
    · rintro v x G R hx rfl sm hR
      refine ⟨rfl, _, rfl, ?_⟩
      dsimp only [tNil]
      exact ⟨x, rfl, (ok x hx).1, (ok x hx).2, fun r H' s ra => hR r H' s ra⟩
    intro H2 rs s2 e2 hx
    rw [List.map_id] at hx
    intro b dx nb ndx neb
    refine mk_book nb ndx e2 hx nd few fun H3 s3 ba => ⟨rfl, ?_⟩
    exact q b rs H3 ((s1.trans s2).trans s3) ba.ba (hx.same s3)
def spReadStore (K : PySem.W.Frag) : Sp := fun vs H Q _ => ∃ ps : List (List Str), vs = [.str (storeT (sortT ps))] ∧ (∀ p ∈ ps, FactOk p) ∧ ps.Nodup ∧ ps.length < 64 ∧ ∀ (l : Addr) (us : List V) (H' : Hp), H l = none → Same H H' → H' l = some (.lst us) → PaL H' us (sortT ps) → Q (.ref l) H'
theorem scReadStore : FnScope ["text", "facts", "line"] ["text"] (defScope sReadStore) := ⟨rfl, rfl, rfl, by decide +kernel, rfl, by decide +kernel, by decide +kernel⟩
theorem ok_readStore {f : Addr} {fd : FuncData} (F : Fun K "read_store" "read_store" sReadStore f fd) (B : Bp mg) (so : mg "sorted" = none) (GF : CallA P w K mg base "_fact_in" 4 ["text"] (spFactIn K)) (GL : CallA P w K mg base "lines_of" 1 ["text"] (spLines K)) (GI : CallA P w K mg base "is_store" 4 ["value"] (spIsStore K)) :
    FnOk P w K mg base CX0 5 f fd ["text"] (spReadStore K) := by
  obtain ⟨fF, dF, GF, kF, gF, bF⟩ := GF.ex
  obtain ⟨fL, dL', GL, kL, gL, bL⟩ := GL.ex
  obtain ⟨fI, dI, GI, kI, gI, bI⟩ := GI.ex
  refine F.ok scReadStore (fun vs H Q E h => ?_) (fun cdv A outer s H vs Q E hr h => ?_)
  · obtain ⟨xs, rfl, _⟩ := h
    rfl
  · obtain ⟨ps, rfl, ok, nd, few, q⟩ := h
    have hr1 : Room 1 _ := hr.mono (by decide)
    have hu : (A.deeper (envOfC "read_store" (defScope sReadStore) s.heap.objs.size f cdv)).units + 64 < cLine := hr.units
    refine ⟨_, pss_cons (ps_set (i := 1) scReadStore.nd rfl (Or.inl rfl) (pe_ifExp (pt_val (pe_callB call_isi (by rfl) B.isi bootIsi (pa_cons (pv 0) (pa_cons (pe_bltn (v := V.ty "str") (by rfl) B.str PyProof.Rows.boot_str rfl) pa_nil))))
          (by exact (pe_lc (own := [("line", 2)]) (g := gName 2) (tt := tYes) (te := tCall (spFactIn K) [] E0 (tCons (tVar 2) tNil)) rfl scReadStore.nd (pi_list (by exact (pe_call GL hr1 (by rfl) gL kL bL .nil pass0 (pa_cons (pv 0) pa_nil))))
          (blkOk_by (own := [("line", 2)]) (N := ["text", "facts", "line"]) (sc := defScope sReadStore) (by decide +kernel))
          (fun _ _ _ _ _ => pg_name (i := 2) scReadStore.nd rfl (Or.inl rfl)) (fun _ _ _ _ _ => pts_nil)
          (fun _ _ _ _ _ => by exact (pe_call GF hr (by rfl) gF kF bF .nil pass0 (pa_cons (pv 2) pa_nil))))) pe_non))
      (pss_cons (ps_if (PW.pt (pw_or (pt_not (pt_val (by exact (pe_call GI hr (by rfl) gI kI bI .nil pass0 (pa_cons (pv 1) pa_nil))))) (pw_or1 (pt_cmpR (op_neD hu) (pv 1) (pe_callB (cr_sortTx hu) (by rfl) so bootSorted (pa_cons (pv 1) pa_nil)) (nomark _))))) (pss_one ps_never) pss_nil)
      (pss_one (ps_ret (pv 1)))), ?_⟩
    have okS : ∀ p ∈ sortT ps, FactOk p := fun p hp => ok p (sort_mem.mp hp)
    have hb := joinN_len (c := 60) (l := (sortT ps).map patT) fun z hz => by
      obtain ⟨p, hp, rfl⟩ := List.mem_map.mp hz
      exact patT_len (okS p hp).sht
    rw [List.length_map, sort_len] at hb
    have hbl : (storeT (sortT ps)).length ≤ 7000000 := by
      have := hb.2
      show (joinN ((sortT ps).map patT)).length ≤ _
      omega
    refine ⟨_, rfl, _, _, _, _, true, rfl, .ty _, .base (.str _), kit_ty (by decide +kernel), true, rfl, iteT ?_⟩
    refine ⟨_, rfl, ?_⟩
    dsimp only [tNil]
    refine ⟨_, rfl, hbl, fun l H1 nl s1 el => ?_⟩
    rw [storeT_back fun p hp => (okS p hp).pat] at el
    refine ⟨l, rfl, ⟨_, SqL.of el⟩, fun D nD => ?_⟩
    refine lc_pat (K := K) (a := l) (xs := ((sortT ps).map patT).map V.str) (ds := sortT ps) (S := fun v p => v = V.str (patT p)) (b := fun _ => true) (f := id) (SqL.of el) nD (by rw [sort_len]; omega) (by rw [List.length_map, List.length_map]) (fun i v h => ?_) ?_ ?_
    · rw [List.map_map, List.getElem?_map] at h
      cases hg : (sortT ps)[i]? with
      | none => rw [hg] at h; cases h
      | some x =>
        rw [hg] at h
        exact ⟨x, rfl, (Option.some.inj h).symm⟩
    · rintro v p G R N hp rfl sm hR hN
      refine ⟨rfl, _, rfl, ?_⟩
      dsimp only [tNil]
      exact ⟨p, rfl, okS p hp, fun t H' n s e => hR rfl t H' s e⟩
    intro H2 us s2 e2 hp
    rw [fil_true, List.map_id] at hp
    have s02 := s1.trans s2
    have st : StoreAt H2 D us (sortT ps) := ⟨e2, hp, okS, sort_nd nd, by rw [sort_len]; exact few⟩
    show tSeq _ _ _ _ _
    refine ⟨_, rfl, ?_⟩
    dsimp only [tNil]
    refine ⟨_, _, rfl, st.tps, fun ls e => by cases e; rw [List.length_map]; exact st.few, fun H3 s3 => ⟨_, rfl, ?_⟩⟩
    rw [storeB_of st.ok st.nd]
    have st3 := st.same s3
    refine iteF ⟨_, rfl, _, rfl, D, us, _, rfl, SqL.of st3.at_, st3.pal, fun p hp => (okS p hp).ne, fun c us2 nc p2 l2 => ?_⟩
    rw [sort_sort] at p2
    have s4 : Same H3 (upd H3 c (.lst us2)) := same_new nc
    have ec : upd H3 c (.lst us2) c = some (.lst us2) := upd_same
    generalize upd H3 c (.lst us2) = H4 at s4 ec ⊢
    have asc : ∀ p ∈ sortT ps, ∀ x ∈ p, Asc x := fun p hp => (okS p hp).pat.asc
    refine ⟨dL (sortT ps), dL (sortT ps), dp_L (SqL.of (s4 _ _ st3.at_)) (st3.pal.same s4), dp_L (SqL.of ec) (p2.same s4), (lay_dL asc).shaped (by decide), (lay_dL asc).shaped (by decide), _, rfl, ?_⟩
    rw [PySem.SeqAt.eqv_refl _ (lay_dL asc).1]
    refine iteF ⟨_, rfl, ?_⟩
    exact q D us H4 (s1.free nD) ((s02.trans s3).trans s4) (s4 _ _ st3.at_) (st3.pal.same s4)
end
end Nv
set_option maxHeartbeats 4000000
namespace Nv
open PySem PySem.Spec PyProof.Rows L2 TL
/-! # _law_fact -/
theorem rep_memG {k : Nat} {xs : List V} {v : V} (h : v ∈ (List.replicate k xs).flatten) : v ∈ xs := by
  obtain ⟨l, hl, hv⟩ := List.mem_flatten.mp h
  rw [(List.mem_replicate.mp hl).2] at hv
  exact hv
section
variable {P : Program} {w : World} {K : PySem.W.Frag} {mg : Str → Option Value} {base : Heap}
def spFact (K : PySem.W.Frag) : Sp := fun vs H Q _ => ∃ (a b c : Addr) (n : Nat) (ks : List V) (zs : List Str), vs = [.ref a, .ref b, .ref c] ∧ Pu H a (n + 4) ∧ (H b = some (.lst ks) ∧ b ≠ a ∧ 2 ≤ ks.length ∧ ks.length ≤ 100 ∧ ∀ v ∈ ks, Kd H v) ∧
  (H c = some (.lst (zs.map V.str)) ∧ c ≠ a ∧ 1 ≤ zs.length ∧ zs.length ≤ 100 ∧ ∀ y ∈ zs, IsNm y) ∧
  ∀ (t : Addr) (p : List Str) (H' : Hp), FactOk p → H t = none → Pu H' a n → Sb a H H' → H' t = some (.tup (p.map V.str)) → Q (.ref t) H'
abbrev nFact : List Str := ["_law_purse_here", "_law_kinds_here", "_law_names_here", "_law_word", "_law_many", "_law_turn"]
theorem scFact : FnScope nFact ["_law_purse_here", "_law_kinds_here", "_law_names_here"] (defScope sFact) := ⟨rfl, rfl, rfl, by decide +kernel, rfl, by decide +kernel, by decide +kernel⟩
theorem ok_fact {f fO : Addr} {fd fdO : FuncData} (F : Fun K "_law_fact" "_law_fact" sFact f fd)
    (GO : FnOk P w K mg base CX0 3 fO fdO ["_law_purse_here", "_law_some"] (spOneOf K)) (kO : PySem.W.keepIn K (.ref fO) = true) (gO : mg "_law_one_of" = some (.ref fO)) (bO : Binds K fdO ["_law_purse_here", "_law_some"] []) (B : Bl mg) :
    FnOk P w K mg base CX0 4 f fd ["_law_purse_here", "_law_kinds_here", "_law_names_here"] (spFact K) := by
  refine F.ok scFact (fun vs H Q E h => ?_) (fun cdv A outer s H vs Q E hr h => ?_)
  · obtain ⟨a, b, c, n, ks, zs, rfl, _⟩ := h
    rfl
  · obtain ⟨a, b, c, n, ks, zs, rfl, pu, ⟨eb, hba, k2, kl, kd⟩, ⟨ec, hca, z1, zl, zn⟩, q⟩ := h
    refine ⟨_, pss_cons (ps_asg (by exact (pe_call GO hr (by rfl) gO kO bO .nil pass0 (pa_cons (pv 0) (pa_cons (pe_op op_cat (pe_op op_rep (pe_slice sl_list (pv 1) po_none (po_some pe_int)) pe_int) (pv 1)) pa_nil)))) (pg_tup (by rfl) (pgs_cons (pg_name (i := 3) scFact.nd rfl (Or.inl rfl)) (pgs_cons (pg_name (i := 4) scFact.nd rfl (Or.inl rfl)) pgs_nil))))
      (pss_one (ps_ret (pe_callTy call_tuple_of (by rfl) B.tup PyProof.Rows.boot_tuple (pa_cons (pe_op op_cat (pe_lst (pa_cons (pv 3) pa_nil))
        (by exact (pe_lc (own := [("_law_turn", 5)]) (g := gName 5) (tt := tYes) rfl scFact.nd (pi_range1 (by rfl) B.rg (pa_cons (pv 4) pa_nil))
          (blkOk_by (own := [("_law_turn", 5)]) (N := nFact) (sc := defScope sFact) (by decide +kernel))
          (fun _ _ _ _ _ => pg_name (i := 5) scFact.nd rfl (Or.inl rfl)) (fun _ _ _ _ _ => pts_nil)
          (fun _ _ _ _ _ => by exact (pe_call GO hr (by rfl) gO kO bO .nil pass0 (pa_cons (pv 0) (pa_cons (pv 2) pa_nil))))))) pa_nil)))), ?_⟩
    refine ⟨_, rfl, _, rfl, 1, rfl, b, ks, rfl, SqL.of eb, fun p1 n1 => ?_⟩
    rw [cutA ks (by omega)]
    have s1 : Same H (upd H p1 (.lst (ks.take 1))) := same_new n1
    have e1 : upd H p1 (.lst (ks.take 1)) p1 = some (.lst (ks.take 1)) := upd_same
    generalize upd H p1 (.lst (ks.take 1)) = G1 at s1 e1 ⊢
    refine ⟨p1, 2, _, rfl, rfl, e1, by decide, by decide, ?_, fun p2 n2 => ?_⟩
    · rw [List.length_take]
      exact Nat.le_trans (by show min 1 ks.length * 2 ≤ 1000; omega) (by decide)
    have s2 : Same H (upd G1 p2 (.lst (List.replicate (2 : Int).toNat (ks.take 1)).flatten)) := same_put s1 (s1.free n2)
    have e2 : upd G1 p2 (.lst (List.replicate (2 : Int).toNat (ks.take 1)).flatten) p2 = some (.lst (List.replicate (2 : Int).toNat (ks.take 1)).flatten) := upd_same
    have hm1 : ∀ v ∈ (List.replicate (2 : Int).toNat (ks.take 1)).flatten, v ∈ ks := fun v hv => List.mem_of_mem_take (rep_memG hv)
    have hl1 : (List.replicate (2 : Int).toNat (ks.take 1)).flatten.length ≤ 400 := by
      rw [show (2 : Int).toNat = 2 from rfl, List.length_flatten, List.map_replicate, List.sum_replicate_nat, List.length_take]
      omega
    generalize (List.replicate (2 : Int).toNat (ks.take 1)).flatten = k4 at s2 e2 hm1 hl1 ⊢
    generalize upd G1 p2 (.lst k4) = G2 at s2 e2 ⊢
    refine ⟨_, rfl, _, _, _, _, rfl, rfl, e2, s2 _ _ eb, Nat.le_trans (by omega : _ ≤ 1000) (by decide), fun p3 n3 => ?_⟩
    have s3 : Same H (upd G2 p3 (.lst (k4 ++ ks))) := same_put s2 (s2.free n3)
    have e3 : upd G2 p3 (.lst (k4 ++ ks)) p3 = some (.lst (k4 ++ ks)) := upd_same
    have n3H := s2.free n3
    generalize upd G2 p3 (.lst (k4 ++ ks)) = G3 at s3 e3 ⊢
    have hk3 : ∀ v ∈ k4 ++ ks, v ∈ ks := fun v hv => (List.mem_append.mp hv).elim (hm1 v) id
    have hl3 : 1 ≤ (k4 ++ ks).length ∧ (k4 ++ ks).length ≤ 1000 := by
      rw [List.length_append]
      omega
    generalize k4 ++ ks = kk at e3 hk3 hl3
    have pu3 := pu.same s3
    have p3a : p3 ≠ a := pu.ne n3H
    dsimp only [tNil]
    refine ⟨a, p3, n + 3, kk, rfl, pu3, SqL.of e3, p3a, hl3, fun v H1 hv pu1 sb1' => ?_⟩
    have sb1 : Sb a H H1 := (Sb.of s3).trans sb1'
    obtain ⟨t0, wd, m, rfl, e0, hw, hm⟩ := kd v (hk3 v hv)
    have e1 : H1 t0 = some (.tup [.str wd, .int (m : Int)]) := sb1 _ _ (tup_ne pu e0) e0
    refine ⟨t0, _, rfl, SqT.of e1, rfl, _, _, rfl, _, _, rfl, rfl, ?_⟩
    have hc1 := sb1 _ _ hca ec
    refine ⟨_, rfl, (by show 1 ≤ sizeLine; decide), fun l nl => ?_⟩
    have pu2 : Pu (upd H1 l (.lst [V.str wd])) a (n + 3) := pu1.put (pu1.ne nl)
    have sb2 : Sb a H (upd H1 l (.lst [V.str wd])) := sb1.put (sb1.free pu1 nl)
    have hc2 : upd H1 l (.lst [V.str wd]) c = some (.lst (zs.map V.str)) := same_new nl _ _ hc1
    have el : upd H1 l (.lst [V.str wd]) l = some (.lst [V.str wd]) := upd_same
    generalize upd H1 l (.lst [V.str wd]) = G at pu2 sb2 hc2 el ⊢
    refine ⟨_, rfl, (m : Int), rfl, by omega, by omega, fun D nD => ?_⟩
    have hDa := pu2.ne nD
    refine lc_range (lo := 0) (n := (m : Int).toNat) (fun i H' => ∃ ts : List Str, ts.length = i ∧ (∀ x ∈ ts, x ∈ zs) ∧ Pu H' a (n + (3 - i)) ∧ Sb a G H' ∧ H' D = some (.lst (ts.map V.str))) ⟨[], rfl, (fun x hx => nomatch hx), pu2.put hDa, Sb.new nD, upd_same⟩ ?_ ?_
    · rintro i H2 hi ⟨ts, hl, hts, pu3, sb3, e3⟩
      refine ⟨rfl, ?_⟩
      refine ⟨_, rfl, _, rfl, a, c, n + (3 - (i + 1)), zs.map V.str, rfl, pu3.le (by omega), SqL.of (sb3 _ _ hca hc2), hca, ⟨by rw [List.length_map]; exact z1, by rw [List.length_map]; omega⟩, fun v H3 hv pu4 sb4 => ?_⟩
      obtain ⟨z, hz, rfl⟩ := List.mem_map.mp hv
      refine ⟨_, sb4 _ _ hDa e3, by rw [List.length_map]; exact small1000 (by omega), ts ++ [z], by rw [List.length_append, hl] <;> rfl, ?_, pu4.put hDa, ?_, by rw [upd_same, List.map_append] <;> rfl⟩
      · intro x hx
        rcases List.mem_append.mp hx with h | h
        · exact hts x h
        · rw [List.mem_singleton.mp h]
          exact hz
      · exact (sb3.trans sb4).put nD
    · rintro H2 ⟨ts, hl, hts, pu3, sb3, e3⟩
      have hla : l ≠ a := by
        intro z
        obtain ⟨s, d, tt, kk, e2, _⟩ := pu2.ex
        rw [z, e2] at el
        injection el with el
        injection el with el
        cases el
      have el2 := sb3 _ _ hla el
      refine ⟨_, _, _, _, rfl, rfl, el2, e3, ?_, fun q1 nq => ?_⟩
      · rw [List.length_map]
        have := big1000
        show 1 + ts.length ≤ _
        omega
      · refine ⟨q1, _, rfl, .inl ⟨SqL.of upd_same, fun q2 nq2 => ?_⟩⟩
        have sb4 : Sb a H H2 := sb2.trans sb3
        have pu4 := pu3.put (o := .lst ([V.str wd] ++ ts.map V.str)) (pu3.ne nq)
        have sb5 : Sb a H (upd H2 q1 (.lst ([V.str wd] ++ ts.map V.str))) := sb4.put (sb4.free pu3 nq)
        refine q q2 (wd :: ts) _ ⟨⟨by rw [List.length_cons]; omega, by rw [List.length_cons]; omega⟩, fun y hy => ?_⟩ (sb5.free pu4 nq2) ((pu4.put (pu4.ne nq2)).le (by omega)) (sb5.put (sb5.free pu4 nq2)) upd_same
        rcases List.mem_cons.mp hy with rfl | hy
        · exact hw.1
        · exact zn y (hts y hy)
end
end Nv
set_option maxHeartbeats 4000000
namespace Nv
open PySem PySem.Spec PyProof.Rows L2 TL
/-! # _law_store -/
theorem any_dT {qs : List (List Str)} {p : List Str} : ((qs.map dT).any fun z => PyData.eqv z (dT p)) = decide (p ∈ qs) := by
  rw [List.any_map]
  by_cases h : p ∈ qs
  · rw [decide_eq_true h, List.any_eq_true]
    exact ⟨p, h, by
      show PyData.eqv (dT p) (dT p) = true
      rw [eqv_T]
      exact decide_eq_true rfl⟩
  · rw [decide_eq_false h, List.any_eq_false]
    intro q hq z
    have z2 : PyData.eqv (dT q) (dT p) = true := z
    rw [eqv_T] at z2
    exact h (of_decide_eq_true z2 ▸ hq)
section
variable {P : Program} {w : World} {K : PySem.W.Frag} {mg : Str → Option Value} {base : Heap}
def spStore (K : PySem.W.Frag) : Sp := fun vs H Q _ => ∃ (a b c : Addr) (n most : Nat) (ks : List V) (zs : List Str), vs = [.ref a, .ref b, .ref c, .int (most : Int)] ∧ Pu H a (n + (2 + 4 * most)) ∧ (1 ≤ most ∧ most ≤ 50) ∧ (H b = some (.lst ks) ∧ b ≠ a ∧ 2 ≤ ks.length ∧ ks.length ≤ 100 ∧ ∀ v ∈ ks, Kd H v) ∧
  (H c = some (.lst (zs.map V.str)) ∧ c ≠ a ∧ 1 ≤ zs.length ∧ zs.length ≤ 100 ∧ ∀ y ∈ zs, IsNm y) ∧
  ∀ (p : Addr) (us : List V) (ps : List (List Str)) (H' : Hp), StoreAt H' p us ps → p ≠ a → Pu H' a n → Sb a H H' → Q (.ref p) H'
abbrev nStore : List Str := ["_law_purse_here", "_law_kinds_here", "_law_names_here", "_law_most", "_law_found", "_law_turn", "_law_fact_here"]
theorem scStore : FnScope nStore ["_law_purse_here", "_law_kinds_here", "_law_names_here", "_law_most"] (defScope sStore) := ⟨rfl, rfl, rfl, by decide +kernel, rfl, by decide +kernel, by decide +kernel⟩
theorem ok_store {f fD fF : Addr} {fd dD dF : FuncData} (F : Fun K "_law_store" "_law_store" sStore f fd) (B : Bl mg)
    (GD : FnOk P w K mg base CX0 2 fD dD ["_law_purse_here", "_law_many"] spDraw) (kD : PySem.W.keepIn K (.ref fD) = true) (gD : mg "_law_draw" = some (.ref fD)) (bD : Binds K dD ["_law_purse_here", "_law_many"] [])
    (GF : FnOk P w K mg base CX0 4 fF dF ["_law_purse_here", "_law_kinds_here", "_law_names_here"] (spFact K)) (kF : PySem.W.keepIn K (.ref fF) = true) (gF : mg "_law_fact" = some (.ref fF)) (bF : Binds K dF ["_law_purse_here", "_law_kinds_here", "_law_names_here"] []) :
    FnOk P w K mg base CX0 5 f fd ["_law_purse_here", "_law_kinds_here", "_law_names_here", "_law_most"] (spStore K) := by
  refine F.ok scStore (fun vs H Q E h => ?_) (fun cdv A outer s H vs Q E hr h => ?_)
  · obtain ⟨a, b, c, n, most, ks, zs, rfl, _⟩ := h
    rfl
  · obtain ⟨a, b, c, n, most, ks, zs, rfl, pu, ⟨m1, m2⟩, ⟨eb, hba, k2, kl, kd⟩, ⟨ec, hca, z1, zl, zn⟩, q⟩ := h
    have hr2 : Room 2 _ := hr.mono (by decide)
    have hu : (A.deeper (envOfC "_law_store" (defScope sStore) s.heap.objs.size f cdv)).units + 65 < cLine := by have := hr.un; omega
    refine ⟨_, pss_cons (ps_set (i := 4) scStore.nd rfl (Or.inl rfl) (pe_lst pa_nil))
      (pss_cons (ps_for PassesOwn.never rfl (pi_range1 (by rfl) B.rg (pa_cons (pe_op op_mul (pe_op op_add pe_int (by exact (pe_call GD hr2 (by rfl) gD kD bD .nil pass0 (pa_cons (pv 0) (pa_cons (pv 3) pa_nil)))))
          (pe_callTy call_int1 (by rfl) B.int boot_int (pa_cons (pe_cmpR op_gt (by exact (pe_call GD hr2 (by rfl) gD kD bD .nil pass0 (pa_cons (pv 0) (pa_cons pe_int pa_nil)))) pe_int (nomark _)) pa_nil))) pa_nil)) (pg_name (i := 5) scStore.nd rfl (Or.inl rfl))
        (pss_cons (ps_set (i := 6) scStore.nd rfl (Or.inl rfl) (by exact (pe_call GF hr (by rfl) gF kF bF .nil pass0 (pa_cons (pv 0) (pa_cons (pv 1) (pa_cons (pv 2) pa_nil))))))
        (pss_one (ps_if (pt_cmpR (op_notInD hu) (pv 6) (pv 4) (by rfl)) (pss_one (ps_expr (pe_bm PySem.F.plainAttrs_list PySem.F.slot_list_append PySem.F.type_list_append mt_append (pv 4) (pa_cons (pv 6) pa_nil)))) pss_nil))))
      (pss_one (ps_ret (pv 4)))), ?_⟩
    refine ⟨by show 0 ≤ _; exact Nat.zero_le _, fun l nl => ?_⟩
    have s1 : Same H (upd H l (.lst [])) := same_new nl
    have el : upd H l (.lst []) l = some (.lst []) := upd_same
    have la : l ≠ a := pu.ne nl
    generalize upd H l (.lst []) = H1 at s1 el ⊢
    have pu1 := pu.same s1
    show tSeq _ _ _ _ _
    refine ⟨_, rfl, _, rfl, ?_⟩
    dsimp only [tNil]
    refine ⟨a, n + (1 + 4 * most), most, rfl, pu1.le (by omega), ⟨by omega, by omega⟩, fun r1 H2 r0 r1' pu2 sb2 => ⟨_, _, rfl, rfl, ?_⟩⟩
    obtain ⟨j, rfl⟩ : ∃ j : Nat, r1 = (j : Int) := ⟨r1.toNat, by omega⟩
    refine ⟨_, rfl, ?_⟩
    dsimp only [tNil]
    refine ⟨a, n + 4 * most, 12, rfl, pu2.le (by omega), ⟨by decide, by decide⟩, fun r2 H3 r20 r21 pu3 sb3 => ⟨_, _, rfl, rfl, ?_⟩⟩
    refine .inr ⟨_, rfl, ?_⟩
    have sb03 : Sb a H H3 := ((Sb.of s1).trans sb2).trans sb3
    have el3 := sb3 _ _ la (sb2 _ _ la el)
    obtain ⟨N, hN, hNm⟩ : ∃ N : Nat, (1 + (j : Int)) * (if decide (0 < r2) = true then 1 else 0) = (N : Int) ∧ N ≤ most := by
      by_cases h : 0 < r2
      · rw [decide_eq_true h, if_pos rfl]
        exact ⟨1 + j, by omega, by omega⟩
      · rw [decide_eq_false h, if_neg Bool.false_ne_true]
        exact ⟨0, by omega, by omega⟩
    refine ⟨_, _, rfl, rfl, ?_, ?_⟩
    · refine Or.inl ⟨by omega, ?_⟩
      have : (j : Int) < 100 := by omega
      omega
    refine ⟨(N : Int), congrArg (fun z => [V.int z]) hN, by omega, by omega, ?_⟩
    rw [Int.toNat_natCast]
    show ∃ W : Nat → Nat → L2.St → Hp → Prop, (∃ m, W 0 m [some (.ref a), some (.ref b), some (.ref c), some (.int (most : Int)), some (.ref l), none, none] H3) ∧ _
    refine for_range (D := { nx := tRet (tVar 4) { nx := fun x H' => Q .non H', rt := Q }, rt := Q }) (lo := 0) (n := N) (fun i σ G => ∃ (o5 o6 : Option V) (us : List V) (ps : List (List Str)), σ = [some (.ref a), some (.ref b), some (.ref c), some (.int (most : Int)), some (.ref l), o5, o6] ∧ Pu G a (n + 4 * (most - i)) ∧ Sb a H G ∧ G l = some (.lst us) ∧ PaL G us ps ∧ (∀ x ∈ ps, FactOk x) ∧ ps.Nodup ∧ ps.length ≤ i)
      ⟨none, none, [], [], rfl, pu3.le (by omega), sb03, el3, .nil, (fun _ h => nomatch h), List.nodup_nil, Nat.le_refl _⟩ ?_ ?_
    · rintro i σ G hi ⟨o5, o6, us, ps, rfl, puG, sbG, elG, hp, ok, nd, few⟩
      show tSeq _ _ _ _ _
      refine ⟨_, rfl, _, rfl, _, rfl, ?_⟩
      dsimp only [tNil]
      refine ⟨a, b, c, n + 4 * (most - (i + 1)), ks, zs, rfl, puG.le (by omega), ⟨sbG _ _ hba eb, hba, k2, kl, fun v hv => (kd v hv).sb pu sbG⟩, ⟨sbG _ _ hca ec, hca, z1, zl, zn⟩, fun t p G5 fp nt pu7 sbG5 et => ?_⟩
      have hp5 : PaL G5 us ps := hp.sb puG sbG5
      have eb5 := sbG5 _ _ la elG
      dsimp only
      refine ⟨_, rfl, _, rfl, dT p, ps.map dT, dp_T et, dp_L (SqL.of eb5) hp5, (lay_dT fun z hz => (fp.2 z hz).asc).shaped (by decide), (lay_dL fun x hx z hz => ((ok x hx).2 z hz).asc).shaped (by decide), _, rfl, ?_⟩
      rw [any_dT]
      by_cases h : p ∈ ps
      · rw [decide_eq_true h]
        exact iteF ⟨_, _, us, ps, rfl, pu7, sbG.trans sbG5, eb5, hp5, ok, nd, by omega⟩
      · rw [decide_eq_false h]
        refine iteT ⟨_, rfl, .inl ⟨rfl, _, SqL.of eb5⟩, _, rfl, l, _, _, rfl, rfl, eb5, ?_, ?_⟩
        · rw [hp5.len]
          exact Nat.lt_of_le_of_lt (by omega : _ ≤ 50) (by decide)
        · refine ⟨_, _, us ++ [.ref t], ps ++ [p], rfl, pu7.put la, (sbG.trans sbG5).put nl, upd_same, (hp5.over eb5).app (.cons (by rw [upd_ne (fun z => by rw [z, eb5] at et; cases et)]; exact et) .nil), fun x hx => ?_, ?_, by rw [List.length_append]; show ps.length + 1 ≤ _; omega⟩
          · rcases List.mem_append.mp hx with hx | hx
            · exact ok x hx
            · rw [List.mem_singleton.mp hx]
              exact fp
          · rw [List.nodup_append]
            exact ⟨nd, by simp, fun x hx y hy e => h (by rw [← List.mem_singleton.mp hy, ← e]; exact hx)⟩
    · rintro σ G ⟨o5, o6, us, ps, rfl, puG, sbG, elG, hp, ok, nd, few⟩
      exact ⟨_, rfl, q l us ps G ⟨elG, hp, ok, nd, by omega⟩ la (puG.le (by omega)) sbG⟩
end
end Nv
set_option maxHeartbeats 4000000
namespace Nv
open PySem PySem.Spec PyProof.Rows L2 TL
/-! # _law_any_rule -/
theorem hm_iff {ts : List Str} {ps : List (List Str)} : hasMore ts ps = false ↔ ∀ y ∈ ts, IsVr y → y ∈ tails ps := by
  unfold hasMore
  rw [List.any_eq_false]
  constructor
  · intro h y hy v
    have h1 := h y (varsIn_mem.mpr ⟨hy, v⟩)
    by_cases h2 : y ∈ varsIn (tails ps)
    · exact (varsIn_mem.mp h2).1
    · rw [decide_eq_false h2] at h1
      exact absurd rfl h1
  · intro h y hy
    obtain ⟨h1, h2⟩ := varsIn_mem.mp hy
    rw [decide_eq_true (varsIn_mem.mpr ⟨h y h1 h2, h2⟩)]
    exact fun z => nomatch z
theorem cut_head {us : List V} {j : Nat} : cutV us none (some (j : Int)) = us.take j := by
  unfold cutV
  rw [HT.sIx_none, HT.sIx_nat, List.drop_zero, Nat.sub_zero]
  rcases Nat.lt_or_ge us.length j with h | h
  · rw [Nat.min_eq_right (by omega), List.take_of_length_le (Nat.le_refl _), List.take_of_length_le (by omega)]
  · rw [Nat.min_eq_left h]
theorem PaL.take {H : Hp} {vs : List V} {ps : List (List Str)} (h : PaL H vs ps) : ∀ j, PaL H (vs.take j) (ps.take j) := by
  induction h with
  | nil =>
    intro j
    rw [List.take_nil, List.take_nil]
    exact .nil
  | cons e _ ih =>
    intro j
    cases j with
    | zero => exact .nil
    | succ j => exact .cons e (ih j)
theorem RAn.sb {C a r : Addr} {H H1 H2 : Hp} {n m : Nat} {x : Rl} (h : RAn C H H1 r x) (pu : Pu H a n) (pu1 : Pu H1 a m) (s : Sb a H1 H2) : RAn C H H2 r x := by
  obtain ⟨dx, th, l1, l2, l3, us, us2, us3, ⟨n1, n2, n3, n4⟩, e, e1, ⟨e2, q2⟩, ⟨e3, q3⟩, e4, q4⟩ := h
  exact ⟨dx, th, l1, l2, l3, us, us2, us3, ⟨n1, n2, n3, n4⟩, s _ _ (pu.ne n1) e, s _ _ (tup_ne pu1 e1) e1, ⟨s _ _ (pu.ne n2) e2, q2.sb pu1 s⟩, ⟨s _ _ (pu.ne n3) e3, q3.sb pu1 s⟩, s _ _ (pu.ne n4) e4, q4.sb pu1 s⟩
theorem RAn.under {C a r : Addr} {H G H' : Hp} {n : Nat} {x : Rl} (h : RAn C G H' r x) (s : Sb a H G) (pu : Pu G a n) : RAn C H H' r x := by
  obtain ⟨dx, th, l1, l2, l3, us, us2, us3, ⟨n1, n2, n3, n4⟩, h⟩ := h
  exact ⟨dx, th, l1, l2, l3, us, us2, us3, ⟨s.free pu n1, s.free pu n2, s.free pu n3, s.free pu n4⟩, h⟩
section
variable {P : Program} {w : World} {K : PySem.W.Frag} {mg : Str → Option Value} {base : Heap}
def spAnyRule (CR : Addr) : Sp := fun vs H Q _ => ∃ (a b c : Addr) (z : Str) (n : Nat) (ks : List V) (zs : List Str), vs = [.ref a, .str z, .ref b, .ref c] ∧ Pu H a (n + 40) ∧ IsNm z ∧ (H b = some (.lst ks) ∧ b ≠ a ∧ 2 ≤ ks.length ∧ ks.length ≤ 100 ∧ ∀ v ∈ ks, Kd H v) ∧
  (H c = some (.lst (zs.map V.str)) ∧ c ≠ a ∧ 1 ≤ zs.length ∧ zs.length ≤ 100 ∧ ∀ y ∈ zs, IsNm y) ∧
  ∀ (r : Addr) (x : Rl) (H' : Hp), x.Ok → Clo x → x.l = z → RAn CR H H' r x → Pu H' a n → Sb a H H' → Q (.ref r) H'
abbrev nAny : List Str := ["_law_purse_here", "_law_label", "_law_kinds_here", "_law_names_here", "_law_rule_here", "_law_fact_here", "_law_none"]
theorem scAnyRule : FnScope nAny ["_law_purse_here", "_law_label", "_law_kinds_here", "_law_names_here"] (defScope sAnyRule) := ⟨rfl, rfl, rfl, by decide +kernel, rfl, by decide +kernel, by decide +kernel⟩
theorem ok_anyRule {f fD fF fU CR : Addr} {fd dD dF dU : FuncData} (F : Fun K "_law_any_rule" "_law_any_rule" sAnyRule f fd)
    (GD : FnOk P w K mg base CX0 2 fD dD ["_law_purse_here", "_law_many"] spDraw) (kD : PySem.W.keepIn K (.ref fD) = true) (gD : mg "_law_draw" = some (.ref fD)) (bD : Binds K dD ["_law_purse_here", "_law_many"] [])
    (GF : FnOk P w K mg base CX0 4 fF dF ["_law_purse_here", "_law_kinds_here", "_law_names_here"] (spFact K)) (kF : PySem.W.keepIn K (.ref fF) = true) (gF : mg "_law_fact" = some (.ref fF)) (bF : Binds K dF ["_law_purse_here", "_law_kinds_here", "_law_names_here"] [])
    (GU : FnOk P w K mg base CX0 7 fU dU ["_law_purse_here", "_law_label", "_law_kinds_here", "_law_names_here", "_law_denied"] (spRule CR)) (kU : PySem.W.keepIn K (.ref fU) = true) (gU : mg "_law_rule" = some (.ref fU)) (bU : Binds K dU ["_law_purse_here", "_law_label", "_law_kinds_here", "_law_names_here", "_law_denied"] [])
    (MR : MadeP P w K mg base CR "Rule" 5 ["self", "label", "head", "told", "pairs", "denied"] (spRuleInit CR)) :
    FnOk P w K mg base CX0 8 f fd ["_law_purse_here", "_law_label", "_law_kinds_here", "_law_names_here"] (spAnyRule CR) := by
  obtain ⟨fR, dR, GR, mkR, gR, bR⟩ := MR.ex
  refine F.ok scAnyRule (fun vs H Q E h => ?_) (fun cdv A outer s H vs Q E hr h => ?_)
  · obtain ⟨a, b, c, z, n, ks, zs, rfl, _⟩ := h
    rfl
  · obtain ⟨a, b, c, z, n, ks, zs, rfl, pu, nz, ⟨eb, hba, k2, kl, kd⟩, ⟨ec, hca, z1, zl, zn⟩, q⟩ := h
    have hr2 : Room 2 _ := hr.mono (by decide)
    have hr4 : Room 4 _ := hr.mono (by decide)
    have hr6 : Room 6 _ := hr.mono (by decide)
    refine ⟨_, pss_cons (ps_set (i := 4) scAnyRule.nd rfl (Or.inl rfl) (by exact (pe_call GU hr (by rfl) gU kU bU .nil pass0 (pa_cons (pv 0) (pa_cons (pv 1) (pa_cons (pv 2) (pa_cons (pv 3) (pa_cons pe_bl pa_nil))))))))
      (pss_cons (ps_if (pt_cmpR op_gt (by exact (pe_call GD hr2 (by rfl) gD kD bD .nil pass0 (pa_cons (pv 0) (pa_cons pe_int pa_nil)))) pe_int (nomark _)) (pss_one (ps_ret (pv 4))) pss_nil)
      (pss_cons (ps_par (i := 5) (j := 6) (by rfl) scAnyRule.nd rfl rfl (by decide) rfl rfl (pa_cons (by exact (pe_call GF hr4 (by rfl) gF kF bF .nil pass0 (pa_cons (pv 0) (pa_cons (pv 2) (pa_cons (pv 3) pa_nil))))) (pa_cons (by exact (pe_call GF hr4 (by rfl) gF kF bF .nil pass0 (pa_cons (pv 0) (pa_cons (pv 2) (pa_cons (pv 3) pa_nil))))) pa_nil)) (by rfl))
      (pss_one (ps_ret (by exact (pe_make mkR GR hr6 (by rfl) gR bR .nil pass0 (pa_cons (pv 1) (pa_cons (pv 5) (pa_cons (pe_lst pa_nil) (pa_cons pe_non (pa_cons (pe_slice sl_list (pe_lst (pa_cons (pv 6) pa_nil)) po_none (po_some (by exact (pe_call GD hr2 (by rfl) gD kD bD .nil pass0 (pa_cons (pv 0) (pa_cons pe_int pa_nil)))))) pa_nil))))))))))), ?_⟩
    refine ⟨_, rfl, _, rfl, _, rfl, _, rfl, ?_⟩
    dsimp only [tNil]
    refine ⟨a, b, c, z, true, n + 10, ks, zs, rfl, pu, nz, ⟨eb, hba, k2, kl, kd⟩, ⟨ec, hca, z1, zl, zn⟩, fun r x H1 ok clo _ xl ra pu1 sb1 => ?_⟩
    show tSeq _ _ _ _ _
    refine ⟨_, rfl, ?_⟩
    dsimp only [tNil]
    refine ⟨a, n + 9, 4, rfl, pu1, ⟨by decide, by decide⟩, fun v H2 v0 v1 pu2 sb2 => ⟨_, _, rfl, rfl, _, rfl, ?_⟩⟩
    have sb02 := sb1.trans sb2
    by_cases hv : 0 < v
    · rw [decide_eq_true hv]
      exact iteT ⟨_, rfl, q r x H2 ok clo xl (ra.sb pu pu1 sb2) (pu2.le (by omega)) sb02⟩
    rw [decide_eq_false hv]
    refine iteF ?_
    show tSeq _ _ _ _ _
    have kd2 : ∀ {G : Hp}, Sb a H G → ∀ v ∈ ks, Kd G v := fun s v hv => (kd v hv).sb pu s
    refine ⟨_, rfl, _, rfl, _, rfl, ?_⟩
    dsimp only [tNil]
    refine ⟨a, b, c, n + 5, ks, zs, rfl, pu2, ⟨sb02 _ _ hba eb, hba, k2, kl, kd2 sb02⟩, ⟨sb02 _ _ hca ec, hca, z1, zl, zn⟩, fun t1 p1 H3 ok1 nt1 pu3 sb3 et1 => ?_⟩
    have sb03 := sb02.trans sb3
    refine ⟨_, rfl, _, rfl, _, rfl, ?_⟩
    dsimp only [tNil]
    refine ⟨a, b, c, n + 1, ks, zs, rfl, pu3, ⟨sb03 _ _ hba eb, hba, k2, kl, kd2 sb03⟩, ⟨sb03 _ _ hca ec, hca, z1, zl, zn⟩, fun t2 p2 H4 ok2 nt2 pu4 sb4 et2 => ?_⟩
    have sb04 := sb03.trans sb4
    have et14 := sb4 _ _ (tup_ne pu3 et1) et1
    refine ⟨_, _, rfl, ?_⟩
    refine ⟨_, rfl, _, rfl, by show 0 ≤ _; exact Nat.zero_le _, fun l1 n1 => ?_⟩
    have s5 : Same H4 (upd H4 l1 (.lst [])) := same_new n1
    have el1 : upd H4 l1 (.lst []) l1 = some (.lst []) := upd_same
    have l1a : l1 ≠ a := pu4.ne n1
    generalize upd H4 l1 (.lst []) = H5 at s5 el1 ⊢
    have pu5 := pu4.same s5
    refine ⟨_, rfl, by show 1 ≤ _; decide, fun l2 n2 => ?_⟩
    dsimp only [tNil]
    have s6 : Same H5 (upd H5 l2 (.lst [.ref t2])) := same_new n2
    have el2 : upd H5 l2 (.lst [.ref t2]) l2 = some (.lst [.ref t2]) := upd_same
    have l2a : l2 ≠ a := pu5.ne n2
    generalize upd H5 l2 (.lst [.ref t2]) = H6 at s6 el2 ⊢
    have pu6 := pu5.same s6
    have s46 := s5.trans s6
    refine ⟨_, rfl, a, n, 2, rfl, pu6, ⟨by decide, by decide⟩, fun v3 H7 v30 v31 pu7 sb7 => ?_⟩
    obtain ⟨j, rfl⟩ : ∃ j : Nat, v3 = (j : Int) := ⟨v3.toNat, by omega⟩
    have sb47 := sb7.trans (Sb.refl a H7)
    have et17 := sb7 _ _ (tup_ne pu6 (s46 _ _ et14)) (s46 _ _ et14)
    have et27 := sb7 _ _ (tup_ne pu6 (s46 _ _ et2)) (s46 _ _ et2)
    have el17 := sb7 _ _ l1a (s6 _ _ el1)
    have el27 := sb7 _ _ l2a el2
    have sb07 : Sb a H H7 := (sb04.then s46).trans sb7
    refine ⟨_, rfl, l2, _, rfl, SqL.of el27, fun l3 n3 => ?_⟩
    rw [cut_head]
    have s8 : Same H7 (upd H7 l3 (.lst (([.ref t2] : List V).take j))) := same_new n3
    have el3 : upd H7 l3 (.lst (([.ref t2] : List V).take j)) l3 = some (.lst (([.ref t2] : List V).take j)) := upd_same
    generalize upd H7 l3 (.lst (([.ref t2] : List V).take j)) = H8 at s8 el3 ⊢
    have pu8 := pu7.same s8
    have sb08 : Sb a H H8 := sb07.then s8
    have hp2 : PaL H8 (([.ref t2] : List V).take j) ([p2].take j) := PaL.take (.cons (s8 _ _ et27) .nil) j
    dsimp only [tNil]
    intro r2 dx nr ndx ner
    have okd : ∀ d ∈ [p2].take j, d = p2 := fun d hd => List.mem_singleton.mp (List.mem_of_mem_take hd)
    have hnv : ∀ {p : List Str}, FactOk p → ∀ y ∈ p.tail, ¬ IsVr y := fun h y hy => nm_not_vr (h.2 y (List.mem_of_mem_tail hy))
    have ok' : Rl.Ok ⟨z, p1, [], [], [p2].take j⟩ := ⟨nz, ok1.pat, (fun _ h => nomatch h), by show 0 ≤ 300; decide, (fun _ h => nomatch h), by show 0 ≤ 300; decide, fun d hd => by rw [okd d hd]; exact ok2.pat, by
      show ([p2].take j).length ≤ 300
      rw [List.length_take]
      exact Nat.le_trans (Nat.min_le_right _ _) (by show 1 ≤ 300; decide)⟩
    have clo' : Clo ⟨z, p1, [], [], [p2].take j⟩ := ⟨hm_iff.mpr fun y hy v => absurd v (hnv ok1 y hy), hm_iff.mpr fun y hy => (nomatch hy), hm_iff.mpr fun y hy v => by
      exfalso
      have hy2 : y ∈ (([p2].take j).map List.tail).flatten := by
        simpa [tails, List.flatMap] using hy
      obtain ⟨l, hl, hyl⟩ := List.mem_flatten.mp hy2
      obtain ⟨d, hd, rfl⟩ := List.mem_map.mp hl
      rw [okd d hd] at hyl
      exact hnv ok2 y hyl v⟩
    refine mk_rule (y := ⟨z, p1, [], [], [p2].take j⟩) ok' clo' nr ndx (s8 _ _ et17) (s8 _ _ el17) .nil (.inl ⟨rfl, rfl⟩) (opt_of el3 hp2 ok'.dl) fun H9 s9 ra => ⟨rfl, ?_⟩
    exact q r2 _ H9 ok' clo' rfl (ra.under sb08 pu8) ((pu8.same s9).le (by omega)) (sb08.then s9)
end
end Nv
set_option maxHeartbeats 4000000
namespace Nv
open PySem PySem.Spec PyProof.Rows L2 TL
/-! # _law_any_book -/
/-- a rule none of whose own objects is o or a -/
def RA2 (o a C : Addr) (H : Hp) (r : Addr) (x : Rl) : Prop := ∃ (dx th l1 l2 l3 : Addr) (us us2 us3 : List V), ((r ≠ o ∧ l1 ≠ o ∧ l2 ≠ o ∧ l3 ≠ o) ∧ (r ≠ a ∧ l1 ≠ a ∧ l2 ≠ a ∧ l3 ≠ a)) ∧ (H r = some (.ins C dx (ruleF x.l th l1 l2 l3)) ∧ H th = some (.tup (x.h.map V.str)) ∧ (H l1 = some (.lst us) ∧ PaL H us x.ps) ∧ (H l2 = some (.lst us2) ∧ PaL H us2 x.qs) ∧ H l3 = some (.lst us3) ∧ PaL H us3 x.ds)
section
variable {C o a r : Addr} {H H1 : Hp} {x : Rl} {n : Nat}
theorem RA2.ra (h : RA2 o a C H r x) : RA C H r x := by
  obtain ⟨dx, th, l1, l2, l3, us, us2, us3, _, h⟩ := h
  exact ⟨dx, th, l1, l2, l3, us, us2, us3, h⟩
theorem RA2.sb (h : RA2 o a C H r x) (pu : Pu H a n) (s : Sb a H H1) : RA2 o a C H1 r x := by
  obtain ⟨dx, th, l1, l2, l3, us, us2, us3, ⟨n0, n1, n2, n3, n4⟩, e, et, ⟨e1, p1⟩, ⟨e2, p2⟩, e3, p3⟩ := h
  exact ⟨dx, th, l1, l2, l3, us, us2, us3, ⟨n0, n1, n2, n3, n4⟩, s _ _ n1 e, s _ _ (tup_ne pu et) et, ⟨s _ _ n2 e1, p1.sb pu s⟩, ⟨s _ _ n3 e2, p2.sb pu s⟩, s _ _ n4 e3, p3.sb pu s⟩
theorem RAn.at2 {u u2 : HO} (h : RAn C H H1 r x) (e : H o = some u) (ea : H a = some u2) : RA2 o a C H1 r x := by
  obtain ⟨dx, th, l1, l2, l3, us, us2, us3, ⟨n1, n2, n3, n4⟩, h⟩ := h
  have no : ∀ {b c : Addr} {v : HO}, H b = none → H c = some v → b ≠ c := fun n e z => by
    rw [z, e] at n
    cases n
  exact ⟨dx, th, l1, l2, l3, us, us2, us3, ⟨⟨no n1 e, no n2 e, no n3 e, no n4 e⟩, no n1 ea, no n2 ea, no n3 ea, no n4 ea⟩, h⟩
theorem RA2.putl {os os' : List V} (h : RA2 o a C H r x) (e : H o = some (.lst os)) : RA2 o a C (upd H o (.lst os')) r x := by
  obtain ⟨dx, th, l1, l2, l3, us, us2, us3, ⟨⟨n1, n2, n3, n4⟩, na⟩, e0, et, ⟨e1, p1⟩, ⟨e2, p2⟩, e3, p3⟩ := h
  refine ⟨dx, th, l1, l2, l3, us, us2, us3, ⟨⟨n1, n2, n3, n4⟩, na⟩, ?_, ?_, ⟨?_, p1.putl e⟩, ⟨?_, p2.putl e⟩, ?_, p3.putl e⟩
  · rw [upd_ne n1]
    exact e0
  · rw [upd_ne (fun z => by rw [z, e] at et; cases et)]
    exact et
  · rw [upd_ne n2]
    exact e1
  · rw [upd_ne n3]
    exact e2
  · rw [upd_ne n4]
    exact e3
theorem RA2.same (h : RA2 o a C H r x) (s : Same H H1) : RA2 o a C H1 r x := by
  obtain ⟨dx, th, l1, l2, l3, us, us2, us3, n, e, et, ⟨e1, p1⟩, ⟨e2, p2⟩, e3, p3⟩ := h
  exact ⟨dx, th, l1, l2, l3, us, us2, us3, n, s _ _ e, s _ _ et, ⟨s _ _ e1, p1.same s⟩, ⟨s _ _ e2, p2.same s⟩, s _ _ e3, p3.same s⟩
end
def six : List Str := ["r", "if", "not", "unlike", "s", "t"]
theorem six_nm : ∀ z ∈ six, IsNm z := by decide +kernel
theorem six_nd : six.Nodup := by decide +kernel
def strOf : V → Str
  | .str z => z
  | _ => ""
theorem perm_strs {ys : List V} {xs : List Str} (h : ys.Perm (xs.map V.str)) : ∃ zs : List Str, ys = zs.map V.str ∧ zs.Perm xs := by
  refine ⟨ys.map strOf, ?_, ?_⟩
  · rw [List.map_map]
    conv => lhs; rw [← List.map_id ys]
    refine List.map_congr_left fun v hv => ?_
    obtain ⟨z, _, rfl⟩ := List.mem_map.mp (h.mem_iff.mp hv)
    rfl
  · have k := h.map strOf
    rw [List.map_map] at k
    have e : xs.map (strOf ∘ V.str) = xs := by
      conv => rhs; rw [← List.map_id xs]
      exact List.map_congr_left fun _ _ => rfl
    rw [e] at k
    exact k
section
variable {P : Program} {w : World} {K : PySem.W.Frag} {mg : Str → Option Value} {base : Heap}
def spAnyBook (CR CB : Addr) : Sp := fun vs H Q _ => ∃ (a b c : Addr) (n most : Nat) (ks : List V) (zs : List Str), vs = [.ref a, .ref b, .ref c, .int (most : Int)] ∧ Pu H a (n + 300) ∧ (1 ≤ most ∧ most ≤ 6) ∧ (H b = some (.lst ks) ∧ b ≠ a ∧ 2 ≤ ks.length ∧ ks.length ≤ 100 ∧ ∀ v ∈ ks, Kd H v) ∧
  (H c = some (.lst (zs.map V.str)) ∧ c ≠ a ∧ 1 ≤ zs.length ∧ zs.length ≤ 100 ∧ ∀ y ∈ zs, IsNm y) ∧
  ∀ (bk : Addr) (rs : List Addr) (xs : List Rl) (H' : Hp), (∀ G, Sb a H' G → BA CB G bk rs ∧ RAs CR G rs xs) → (∀ x ∈ xs, x.Ok ∧ Clo x) → (xs.map Rl.l).Nodup → xs.length ≤ 6 → Pu H' a n → Sb a H H' → Q (.ref bk) H'
abbrev nAnyB : List Str := ["_law_purse_here", "_law_kinds_here", "_law_names_here", "_law_most", "_law_labels", "_law_many", "_law_label"]
theorem scAnyBook : FnScope nAnyB ["_law_purse_here", "_law_kinds_here", "_law_names_here", "_law_most"] (defScope sAnyBook) := ⟨rfl, rfl, rfl, by decide +kernel, rfl, by decide +kernel, by decide +kernel⟩
theorem ok_anyBook {f fD fS fU CR CB : Addr} {fd dD dS dU : FuncData} (F : Fun K "_law_any_book" "_law_any_book" sAnyBook f fd) (B : Bl mg)
    (GD : FnOk P w K mg base CX0 2 fD dD ["_law_purse_here", "_law_many"] spDraw) (kD : PySem.W.keepIn K (.ref fD) = true) (gD : mg "_law_draw" = some (.ref fD)) (bD : Binds K dD ["_law_purse_here", "_law_many"] [])
    (GS : FnOk P w K mg base CX0 3 fS dS ["_law_purse_here", "_law_some"] (spShuffled K)) (kS : PySem.W.keepIn K (.ref fS) = true) (gS : mg "_law_shuffled" = some (.ref fS)) (bS : Binds K dS ["_law_purse_here", "_law_some"] [])
    (GU : FnOk P w K mg base CX0 8 fU dU ["_law_purse_here", "_law_label", "_law_kinds_here", "_law_names_here"] (spAnyRule CR)) (kU : PySem.W.keepIn K (.ref fU) = true) (gU : mg "_law_any_rule" = some (.ref fU)) (bU : Binds K dU ["_law_purse_here", "_law_label", "_law_kinds_here", "_law_names_here"] [])
    (MB : MadeP P w K mg base CB "Book" 3 ["self", "rules"] (spBookInit CR CB)) :
    FnOk P w K mg base CX0 9 f fd ["_law_purse_here", "_law_kinds_here", "_law_names_here", "_law_most"] (spAnyBook CR CB) := by
  obtain ⟨fB, dB, GB, mkB, gB, bB⟩ := MB.ex
  refine F.ok scAnyBook (fun vs H Q E h => ?_) (fun cdv A outer s H vs Q E hr h => ?_)
  · obtain ⟨a, b, c, n, most, ks, zs, rfl, _⟩ := h
    rfl
  · obtain ⟨a, b, c, n, most, ks, zs, rfl, pu, ⟨m1, m2⟩, ⟨eb, hba, k2, kl, kd⟩, ⟨ec, hca, z1, zl, zn⟩, q⟩ := h
    have hr2 : Room 2 _ := hr.mono (by decide)
    have hr3 : Room 3 _ := hr.mono (by decide)
    have hr4 : Room 4 _ := hr.mono (by decide)
    refine ⟨_, pss_cons (ps_set (i := 4) scAnyBook.nd rfl (Or.inl rfl) (by exact (pe_call GS hr3 (by rfl) gS kS bS .nil pass0 (pa_cons (pv 0) (pa_cons (pe_lst (pa_cons pe_str (pa_cons pe_str (pa_cons pe_str (pa_cons pe_str (pa_cons pe_str (pa_cons pe_str pa_nil))))))) pa_nil)))))
      (pss_cons (ps_set (i := 5) scAnyBook.nd rfl (Or.inl rfl) (pe_op op_mul (pe_op op_add pe_int (by exact (pe_call GD hr2 (by rfl) gD kD bD .nil pass0 (pa_cons (pv 0) (pa_cons (pv 3) pa_nil)))))
          (pe_callTy call_int1 (by rfl) B.int boot_int (pa_cons (pe_cmpR op_gt (by exact (pe_call GD hr2 (by rfl) gD kD bD .nil pass0 (pa_cons (pv 0) (pa_cons pe_int pa_nil)))) pe_int (nomark _)) pa_nil))))
      (pss_one (ps_ret (by exact (pe_make mkB GB hr4 (by rfl) gB bB .nil pass0 (pa_cons (by exact (pe_lc (own := [("_law_label", 6)]) (g := gName 6) (tt := tYes) (te := tCall (spAnyRule CR) [] E0 (tCons (tVar 0) (tCons (tVar 6) (tCons (tVar 1) (tCons (tVar 2) tNil))))) rfl scAnyBook.nd (pi_list (pe_slice sl_list (pv 4) po_none (po_some (pv 5))))
          (blkOk_by (own := [("_law_label", 6)]) (N := nAnyB) (sc := defScope sAnyBook) (by decide +kernel))
          (fun _ _ _ _ _ => pg_name (i := 6) scAnyBook.nd rfl (Or.inl rfl)) (fun _ _ _ _ _ => pts_nil)
          (fun _ _ _ _ _ => by exact (pe_call GU hr (by rfl) gU kU bU .nil pass0 (pa_cons (pv 0) (pa_cons (pv 6) (pa_cons (pv 1) (pa_cons (pv 2) pa_nil)))))))) pa_nil)))))), ?_⟩
    refine ⟨_, rfl, by show 6 ≤ _; decide, fun l1 n1 => ?_⟩
    dsimp only [tNil]
    have s1 : Same H (upd H l1 (.lst (six.map V.str))) := same_new n1
    have el1 : upd H l1 (.lst (six.map V.str)) l1 = some (.lst (six.map V.str)) := upd_same
    have l1a : l1 ≠ a := pu.ne n1
    have e6 : upd H l1 (.lst [.str "r", .str "if", .str "not", .str "unlike", .str "s", .str "t"]) = upd H l1 (.lst (six.map V.str)) := rfl
    rw [e6]
    generalize upd H l1 (.lst (six.map V.str)) = H1 at s1 el1 ⊢
    have pu1 := pu.same s1
    refine ⟨a, l1, n + 294, six.map V.str, rfl, pu1, SqL.of el1, l1a, by show 6 ≤ 1000; decide, fun p ys H2 hperm np pu2 sb2 ep => ?_⟩
    obtain ⟨ls, rfl, hls⟩ := perm_strs hperm
    have pa : p ≠ a := by
      intro z
      obtain ⟨s, d, tt, kk, e2, _⟩ := pu2.ex
      rw [z, e2] at ep
      injection ep with ep
      injection ep with ep
      have hl := hls.length_eq
      match ls, hl with
      | x :: r, _ => injection ep with ep _; cases ep
    have sb02 : Sb a H H2 := (Sb.of s1).trans sb2
    show tSeq _ _ _ _ _
    refine ⟨_, rfl, _, rfl, ?_⟩
    dsimp only [tNil]
    refine ⟨a, n + 293, most, rfl, pu2, ⟨by omega, by omega⟩, fun r1 H3 r0 r1' pu3 sb3 => ⟨_, _, rfl, rfl, ?_⟩⟩
    obtain ⟨j, rfl⟩ : ∃ j : Nat, r1 = (j : Int) := ⟨r1.toNat, by omega⟩
    refine ⟨_, rfl, ?_⟩
    dsimp only [tNil]
    refine ⟨a, n + 292, 12, rfl, pu3, ⟨by decide, by decide⟩, fun r2 H4 r20 r21 pu4 sb4 => ⟨_, _, rfl, rfl, ?_⟩⟩
    refine .inr ⟨_, rfl, ?_⟩
    have sb04 : Sb a H H4 := (sb02.trans sb3).trans sb4
    have ep4 := sb4 _ _ pa (sb3 _ _ pa ep)
    obtain ⟨N, hN, hNm⟩ : ∃ N : Nat, (1 + (j : Int)) * (if decide (0 < r2) = true then 1 else 0) = (N : Int) ∧ N ≤ most := by
      by_cases h : 0 < r2
      · rw [decide_eq_true h, if_pos rfl]
        exact ⟨1 + j, by omega, by omega⟩
      · rw [decide_eq_false h, if_neg Bool.false_ne_true]
        exact ⟨0, by omega, by omega⟩
    refine ⟨_, _, rfl, rfl, ?_, ?_⟩
    · refine Or.inl ⟨by omega, ?_⟩
      have : (j : Int) < 100 := by omega
      omega
    refine ⟨_, rfl, _, rfl, (N : Int), congrArg V.int hN, p, _, rfl, SqL.of ep4, fun l3 n3 => ?_⟩
    rw [cut_head, ← List.map_take]
    have s5 : Same H4 (upd H4 l3 (.lst ((ls.take N).map V.str))) := same_new n3
    have el3 : upd H4 l3 (.lst ((ls.take N).map V.str)) l3 = some (.lst ((ls.take N).map V.str)) := upd_same
    have l3a : l3 ≠ a := pu4.ne n3
    generalize upd H4 l3 (.lst ((ls.take N).map V.str)) = H5 at s5 el3 ⊢
    have pu5 := pu4.same s5
    have sb05 : Sb a H H5 := sb04.then s5
    have hts : ∀ z ∈ ls.take N, IsNm z := fun z hz => six_nm z (hls.mem_iff.mp (List.mem_of_mem_take hz))
    have htn : (ls.take N).Nodup := (hls.nodup_iff.mpr six_nd).sublist (List.take_sublist _ _)
    have htl : (ls.take N).length ≤ 6 := by
      rw [List.length_take]
      omega
    generalize ls.take N = ts at el3 hts htn htl ⊢
    refine ⟨l3, rfl, ⟨_, SqL.of el3⟩, fun D nD => ?_⟩
    have Da : D ≠ a := pu5.ne nD
    have Dl : l3 ≠ D := fun z => by rw [z, nD] at el3; cases el3
    refine lc_list (K := K) (a := l3) (xs := ts.map V.str) (fun i G => Pu G a (n + 40 * (7 - i)) ∧ Sb a H5 G ∧ ∃ (rs : List Addr) (xs : List Rl), G D = some (.lst (rs.map V.ref)) ∧ All2 (fun r x => RA2 D a CR G r x) rs xs ∧ (∀ x ∈ xs, x.Ok ∧ Clo x) ∧ xs.map Rl.l = ts.take i)
      ⟨(pu5.put Da).le (by omega), Sb.new nD, [], [], upd_same, .nil, (fun _ h => nomatch h), by rw [List.take_zero]; rfl⟩ (fun i G _ y => SqL.of (y.2.1 _ _ l3a el3)) ?_ ?_
    · rintro i v G hi ⟨puG, sbG, rs, xs, eD, hx, ok, hl⟩
      obtain ⟨z, hz, rfl⟩ := at_strs i v hi
      have il := (List.getElem?_eq_some_iff.mp hz).1
      have sb0G := sb05.trans sbG
      refine ⟨rfl, _, rfl, _, rfl, _, rfl, _, rfl, ?_⟩
      dsimp only [tNil]
      refine ⟨a, b, c, z, n + 40 * (7 - (i + 1)), ks, zs, rfl, puG.le (by omega), hts z (List.mem_of_getElem? hz), ⟨sb0G _ _ hba eb, hba, k2, kl, fun v hv => (kd v hv).sb pu sb0G⟩, ⟨sb0G _ _ hca ec, hca, z1, zl, zn⟩, fun r x G2 xo xc xl ra pu6 sb6 => ?_⟩
      have eD2 := sb6 _ _ Da eD
      obtain ⟨oa, ea⟩ := puG.some
      have hlen := hx.len
      have hxl : xs.length = (ts.take i).length := by rw [← hl, List.length_map]
      obtain ⟨ob, eb2⟩ := pu6.some
      refine ⟨_, eD2, ?_, pu6.put Da, (sbG.trans sb6).put nD, rs ++ [r], xs ++ [x], by rw [upd_same, List.map_append]; rfl, ?_, fun y hy => ?_, ?_⟩
      · rw [List.length_map, hlen, hxl, List.length_take]
        exact Nat.lt_of_le_of_lt (by omega : _ ≤ 6) (by decide)
      · have hnew : RA2 D a CR G2 r x := by
          obtain ⟨dx, th, m1, m2, m3, us, us2, us3, ⟨n1, n2, n3, n4⟩, h⟩ := ra
          have no : ∀ {b c : Addr} {v : HO}, G b = none → G c = some v → b ≠ c := fun n e z => by
            rw [z, e] at n
            cases n
          exact ⟨dx, th, m1, m2, m3, us, us2, us3, ⟨⟨no n1 eD, no n2 eD, no n3 eD, no n4 eD⟩, no n1 ea, no n2 ea, no n3 ea, no n4 ea⟩, h⟩
        exact all2_app (hnew.putl eD2) (all2_imp (fun _ _ k => (k.sb puG sb6).putl eD2) hx)
      · rcases List.mem_append.mp hy with hy | hy
        · exact ok y hy
        · rw [List.mem_singleton.mp hy]
          exact ⟨xo, xc⟩
      · rw [List.map_append, hl, take_one hz]
        show _ ++ [x.l] = _
        rw [xl]
    · rintro G ⟨puG, sbG, rs, xs, eD, hx, ok, hl⟩
      rw [List.length_map, List.take_length] at hl
      have hxl : xs.length ≤ 6 := by
        have := congrArg List.length hl
        rw [List.length_map] at this
        omega
      intro bk dx nb ndx neb
      have hra : RAs CR G rs xs := all2_imp (fun _ _ k => k.ra) hx
      refine mk_book nb ndx eD hra (by rw [hl]; exact htn) (by omega) fun G2 s2 ba => ⟨rfl, ?_⟩
      have puG2 := puG.same s2
      obtain ⟨oa, ea⟩ := puG.some
      obtain ⟨dx2, l2, ⟨nb1, nb2⟩, eb1, eb2⟩ := ba
      refine q bk rs xs G2 (fun G3 s3 => ⟨⟨dx2, l2, s3 _ _ (puG.ne nb1) eb1, s3 _ _ (puG.ne nb2) eb2⟩, all2_imp (fun _ _ k => ((k.same s2).sb puG2 s3).ra) hx⟩) ok (by rw [hl]; exact htn) hxl (puG2.le (by omega)) ((sb05.trans sbG).then s2)
end
end Nv
set_option maxHeartbeats 4000000
namespace Nv
open PySem PySem.Spec PyProof.Rows L2 TL
/-! # _law_odd_words_right -/
def oddP : List (List Str) := [["not", "X"], ["X", "not"], ["unlike", "X"], ["X", "unlike"], ["if", "Y"], ["X", "Y"]]
def oddW : List Str := ["not", "unlike", "if"]
def oddR (p : List Str) (w : Str) : Rl := ⟨"not", [w, "X"], [["q", "X", "Y"]], [p], [[w], [w, "Y", "unlike"]]⟩
def oddL (ps : List (List Str)) : List Rl := (ps.map fun p => oddW.map (oddR p)).flatten
def odd1 : Rl := ⟨"r", ["if"], [["if"]], [], []⟩
def odd2 : Rl := ⟨"end", ["not"], [["not"], ["unlike"], ["end"]], [], [["not"], ["unlike", "not"]]⟩
def oddAll : List Rl := oddL oddP ++ [odd1, odd2]
def patC : List Str → Bool
  | [] => false
  | w :: ts => decide (IsNm w ∧ ts.length ≤ 3 ∧ ∀ x ∈ ts, IsVr x ∨ IsNm x)
theorem patC_ok {p : List Str} (h : patC p = true) : PatOk p := by
  cases p with
  | nil => cases h
  | cons w ts =>
    obtain ⟨h1, h2, h3⟩ := of_decide_eq_true h
    exact ⟨w, ts, rfl, h1, h2, h3⟩
def pairC : List Str → Bool
  | [x, y] => decide (x ≠ y ∧ IsTm x ∧ IsTm y ∧ (IsVr x ∨ IsVr y))
  | _ => false
theorem pairC_ok {p : List Str} (h : pairC p = true) : PairOk p := by
  match p, h with
  | [x, y], h => exact ⟨x, y, rfl, of_decide_eq_true h⟩
def okC (x : Rl) : Bool := decide (IsNm x.l) && (patC x.h && (x.ps.all patC && (x.qs.all pairC && (x.ds.all patC && (decide (x.ps.length ≤ 300 ∧ x.qs.length ≤ 300 ∧ x.ds.length ≤ 300) && (!hasMore x.h.tail x.ps && (!hasMore x.qs.flatten x.ps && !hasMore (tails x.ds) x.ps)))))))
theorem okC_ok {x : Rl} (h : okC x = true) : x.Ok ∧ Clo x := by
  unfold okC at h
  simp only [Bool.and_eq_true, decide_eq_true_eq, Bool.not_eq_true', List.all_eq_true] at h
  obtain ⟨h1, h2, h3, h4, h5, ⟨l1, l2, l3⟩, c1, c2, c3⟩ := h
  exact ⟨⟨h1, patC_ok h2, fun y hy => patC_ok (h3 y hy), l1, fun y hy => pairC_ok (h4 y hy), l2, fun y hy => patC_ok (h5 y hy), l3⟩, ⟨c1, c2, c3⟩⟩
theorem odd_okC : oddAll.all okC = true := by decide +kernel
theorem odd_ok : ∀ x ∈ oddAll, x.Ok ∧ Clo x := fun x hx => okC_ok (List.all_eq_true.mp odd_okC x hx)
theorem odd_nd : oddAll.Nodup := by decide +kernel
theorem odd_len : oddAll.length = 20 := by decide +kernel
theorem nd_texts {xs : List Rl} (ok : ∀ x ∈ xs, x.Ok) (h : xs.Nodup) : (xs.map ruleT).Nodup := List.pairwise_map.mpr (h.imp_of_mem fun ha hb ne e => ne (ruleT_inj (ok _ ha) (ok _ hb) e))
theorem odd1_text : ruleT odd1 = "r: if if if" := by decide +kernel
section
variable (P : Program) (w : World) (K : PySem.W.Frag) (mg : Str → Option Value) (base : Heap)
/-- Rule made by its name, with all arguments by place or the first three -/
structure MadeR (C : Addr) : Prop where
  ex : ∃ f fd, FnOk P w K mg base CX0 5 f fd ["self", "label", "head", "told", "pairs", "denied"] (spRuleInit C) ∧ Mk K C f ∧ mg "Rule" = some (.ref C) ∧ Binds K fd ["self", "label", "head", "told", "pairs", "denied"] [] ∧ Binds K fd ["self", "label", "head", "told", "pairs", "denied"] [.none, .none]
/-- Rule's own == -/
structure OwnE (C : Addr) : Prop where
  ex : ∃ f fd, FnOk P w K mg base CX0 1 f fd ["self", "other"] (spRuleEq K C) ∧ PySem.W.findIn K (.ref C) "__eq__" = some (some (.ref f)) ∧ PySem.W.isFn K (.ref f) = true ∧ Binds K fd ["self", "other"] []
  ne : PySem.W.findIn K (.ref C) "__ne__" = some (some (.builtin "object.__ne__"))
end
section
variable {P : Program} {w : World} {K : PySem.W.Frag} {mg : Str → Option Value} {base : Heap}
def spOdd : Sp := fun vs H Q _ => vs = [] ∧ ∀ H', Same H H' → Q (.bl true) H'
abbrev nOdd : List Str := ["_law_told_here", "_law_found", "_law_pair", "_law_word", "_law_texts", "_law_rule_here", "_law_text"]
theorem scOdd : FnScope nOdd [] (defScope sOddWordsRight) := ⟨rfl, rfl, rfl, by decide +kernel, rfl, by decide +kernel, by decide +kernel⟩
theorem ok_odd {f CR : Addr} {fd : FuncData} (F : Fun K "_law_odd_words_right" "_law_odd_words_right" sOddWordsRight f fd) (B : Bp mg) (RR : RC K CR) (IR : IC K CR) (MR : MadeR P w K mg base CR) (ER : OwnE P w K mg base CR)
    (GR : CallA P w K mg base "read_rule" 8 ["text"] (spRuleIn K CR)) (GT : CallA P w K mg base "rule_text" 3 ["rule"] (spRuleT CR)) (GL : CallA P w K mg base "_law_rule_text" 3 ["_law_rule_here"] (spRuleT CR)) :
    FnOk P w K mg base CX0 9 f fd [] spOdd := by
  obtain ⟨fM, dM, GM, mkM, gM, bM, bM0⟩ := MR.ex
  obtain ⟨fe, de, Ge, se, ie, be⟩ := ER.ex
  have nR := ER.ne
  obtain ⟨fR, dR', GR, kR, gR, bR⟩ := GR.ex
  obtain ⟨fT, dT', GT, kT, gT, bT⟩ := GT.ex
  obtain ⟨fL, dL', GL, kL, gL, bL⟩ := GL.ex
  refine F.ok scOdd (fun vs H Q E h => ?_) (fun cdv A outer s H vs Q E hr h => ?_)
  · obtain ⟨rfl, _⟩ := h
    rfl
  · obtain ⟨rfl, q⟩ := h
    have hr2 : Room 2 _ := hr.mono (by decide)
    have hr3 : Room 3 _ := hr.mono (by decide)
    have hr6 : Room 6 _ := hr.mono (by decide)
    have hu : (A.deeper (envOfC "_law_odd_words_right" (defScope sOddWordsRight) s.heap.objs.size f cdv)).units + 64 < cLine := hr.units
    refine ⟨_, pss_cons (ps_par (i := 0) (j := 1) (by rfl) scOdd.nd rfl rfl (by decide) rfl rfl (pa_cons (pe_lst (pa_cons (pe_tup (pa_cons pe_str (pa_cons pe_str (pa_cons pe_str pa_nil)))) pa_nil)) (pa_cons (pe_lst pa_nil) pa_nil)) (by rfl))
      (pss_cons (ps_for PassesOwn.never rfl (pi_list (pe_lst (pa_cons (pe_tup (pa_cons pe_str (pa_cons pe_str pa_nil))) (pa_cons (pe_tup (pa_cons pe_str (pa_cons pe_str pa_nil))) (pa_cons (pe_tup (pa_cons pe_str (pa_cons pe_str pa_nil))) (pa_cons (pe_tup (pa_cons pe_str (pa_cons pe_str pa_nil))) (pa_cons (pe_tup (pa_cons pe_str (pa_cons pe_str pa_nil))) (pa_cons (pe_tup (pa_cons pe_str (pa_cons pe_str pa_nil))) pa_nil)))))))) (pg_name (i := 2) scOdd.nd rfl (Or.inl rfl))
        (pss_one (ps_for PassesOwn.never rfl (pi_list (pe_lst (pa_cons pe_str (pa_cons pe_str (pa_cons pe_str pa_nil))))) (pg_name (i := 3) scOdd.nd rfl (Or.inl rfl))
          (pss_one (ps_expr (pe_bm PySem.F.plainAttrs_list PySem.F.slot_list_append PySem.F.type_list_append mt_append (pv 1) (pa_cons (by exact (pe_make mkM GM hr6 (by rfl) gM bM .nil pass0 (pa_cons pe_str (pa_cons (pe_tup (pa_cons (pv 3) (pa_cons pe_str pa_nil))) (pa_cons (pv 0) (pa_cons (pe_lst (pa_cons (pv 2) pa_nil)) (pa_cons (pe_lst (pa_cons (pe_tup (pa_cons (pv 3) pa_nil)) (pa_cons (pe_tup (pa_cons (pv 3) (pa_cons pe_str (pa_cons pe_str pa_nil)))) pa_nil))) pa_nil))))))) pa_nil)))))))
      (pss_cons (ps_expr (pe_bm PySem.F.plainAttrs_list PySem.F.slot_list_append PySem.F.type_list_append mt_append (pv 1) (pa_cons (by exact (pe_make (dvs := [V.non, V.non]) mkM GM hr6 (by rfl) gM bM0 (.cons rfl (.cons rfl .nil)) pass0 (pa_cons pe_str (pa_cons (pe_tup (pa_cons pe_str pa_nil)) (pa_cons (pe_lst (pa_cons (pe_tup (pa_cons pe_str pa_nil)) pa_nil)) pa_nil))))) pa_nil)))
      (pss_cons (ps_expr (pe_bm PySem.F.plainAttrs_list PySem.F.slot_list_append PySem.F.type_list_append mt_append (pv 1) (pa_cons (by exact (pe_make mkM GM hr6 (by rfl) gM bM .nil pass0 (pa_cons pe_str (pa_cons (pe_tup (pa_cons pe_str pa_nil)) (pa_cons (pe_lst (pa_cons (pe_tup (pa_cons pe_str pa_nil)) (pa_cons (pe_tup (pa_cons pe_str pa_nil)) (pa_cons (pe_tup (pa_cons pe_str pa_nil)) pa_nil)))) (pa_cons pe_non (pa_cons (pe_lst (pa_cons (pe_tup (pa_cons pe_str pa_nil)) (pa_cons (pe_tup (pa_cons pe_str (pa_cons pe_str pa_nil))) pa_nil))) pa_nil))))))) pa_nil)))
      (pss_cons (by exact (ps_setLc (i := 4) (own := [("_law_rule_here", 5)]) (g := gName 5) (tt := tYes) (te := tCall (spRuleT CR) [] E0 (tCons (tVar 5) tNil)) rfl scOdd.nd rfl rfl (sw_true rfl rfl rfl (by decide +kernel))
          (pi_list (pv 1))
          (blkOk_by (own := [("_law_rule_here", 5)]) (N := nOdd) (sc := defScope sOddWordsRight) (by decide +kernel))
          (fun _ _ _ _ _ => pg_name (i := 5) scOdd.nd rfl (Or.inl rfl)) (fun _ _ _ _ _ => pts_nil)
          (fun _ _ _ _ _ => by exact (pe_call GL hr3 (by rfl) gL kL bL .nil pass0 (pa_cons (pv 5) pa_nil)))))
      (pss_cons (ps_if (pt_cmpR (op_ownNe Ge hr2 se nR IR.hm ie be) (by exact (pe_call GR hr (by rfl) gR kR bR .nil pass0 (pa_cons pe_str pa_nil))) (pe_ix ix_list (pv 1) (pe_un un_neg pe_int) (fun _ _ => rfl)) (by rfl)) (pss_one (ps_ret pe_bl)) pss_nil)
      (pss_cons (ps_if (PW.pt (pw_or (pt_cmpR (op_neD hu) (by exact (pe_lc (own := [("_law_rule_here", 5)]) (g := gName 5) (tt := tYes) (te := tCall (spRuleT CR) [] E0 (tCons (tVar 5) tNil)) rfl scOdd.nd (pi_list (pv 1))
          (blkOk_by (own := [("_law_rule_here", 5)]) (N := nOdd) (sc := defScope sOddWordsRight) (by decide +kernel))
          (fun _ _ _ _ _ => pg_name (i := 5) scOdd.nd rfl (Or.inl rfl)) (fun _ _ _ _ _ => pts_nil)
          (fun _ _ _ _ _ => by exact (pe_call GT hr3 (by rfl) gT kT bT .nil pass0 (pa_cons (pv 5) pa_nil))))) (pv 4) (nomark _))
          (pw_or1 (pt_cmpR op_ne (by exact (pe_dist (by rfl) B.len (by rfl) B.set (pv 4))) (pe_callB call_len_seq (by rfl) B.len PySem.boot_len (pa_cons (pv 4) pa_nil)) (nomark _))))) (pss_one (ps_ret pe_bl)) pss_nil)
      (pss_one (ps_ret (pe_cmpR (op_eqB (rcB_list mon_rule (eqB_rule Ge RR IR se ie be)) hr2) (by exact (pe_lc (own := [("_law_text", 6)]) (g := gName 6) (tt := tYes) (te := tCall (spRuleIn K CR) [] E0 (tCons (tVar 6) tNil)) rfl scOdd.nd (pi_list (pv 4))
          (blkOk_by (own := [("_law_text", 6)]) (N := nOdd) (sc := defScope sOddWordsRight) (by decide +kernel))
          (fun _ _ _ _ _ => pg_name (i := 6) scOdd.nd rfl (Or.inl rfl)) (fun _ _ _ _ _ => pts_nil)
          (fun _ _ _ _ _ => by exact (pe_call GR hr (by rfl) gR kR bR .nil pass0 (pa_cons (pv 6) pa_nil))))) (pv 1) (nomark _)))))))))), ?_⟩
    refine ⟨by show 3 ≤ _; decide, fun t0 nt0 => ?_⟩
    have st0 : Same H (upd H t0 (.tup [.str "q", .str "X", .str "Y"])) := same_new nt0
    have et0 : upd H t0 (.tup [.str "q", .str "X", .str "Y"]) t0 = some (.tup [.str "q", .str "X", .str "Y"]) := upd_same
    generalize upd H t0 (.tup [.str "q", .str "X", .str "Y"]) = A0 at st0 et0 ⊢
    refine ⟨by show 1 ≤ _; decide, fun l0 nl0 => ?_⟩
    have sl0 : Same A0 (upd A0 l0 (.lst [.ref t0])) := same_new nl0
    have el0 : upd A0 l0 (.lst [.ref t0]) l0 = some (.lst [.ref t0]) := upd_same
    generalize upd A0 l0 (.lst [.ref t0]) = A1 at sl0 el0 ⊢
    refine ⟨by show 0 ≤ _; decide, fun lf nlf => ?_⟩
    have slf : Same A1 (upd A1 lf (.lst [])) := same_new nlf
    have elf : upd A1 lf (.lst []) lf = some (.lst []) := upd_same
    have nlfH : H lf = none := (st0.trans sl0).free nlf
    have l0f : l0 ≠ lf := fun z => by rw [z, nlf] at el0; cases el0
    have t0f : t0 ≠ lf := fun z => by rw [← z] at nlf; rw [sl0 _ _ et0] at nlf; cases nlf
    generalize upd A1 lf (.lst []) = B0 at slf elf ⊢
    have sB0 : Same H B0 := (st0.trans sl0).trans slf
    have el0B := slf _ _ el0
    have et0B := slf _ _ (sl0 _ _ et0)
    clear st0 et0 sl0 el0 slf
    refine ⟨_, _, rfl, ?_⟩
    show tSeq _ _ _ _ _
    refine ⟨by show 2 ≤ _; decide, fun t1 nt1 => ?_⟩
    have st1 : Same B0 (upd B0 t1 (.tup [.str "not", .str "X"])) := same_new nt1
    have et1 : upd B0 t1 (.tup [.str "not", .str "X"]) t1 = some (.tup [.str "not", .str "X"]) := upd_same
    generalize upd B0 t1 (.tup [.str "not", .str "X"]) = B1 at st1 et1 ⊢
    refine ⟨by show 2 ≤ _; decide, fun t2 nt2 => ?_⟩
    have st2 : Same B1 (upd B1 t2 (.tup [.str "X", .str "not"])) := same_new nt2
    have et2 : upd B1 t2 (.tup [.str "X", .str "not"]) t2 = some (.tup [.str "X", .str "not"]) := upd_same
    generalize upd B1 t2 (.tup [.str "X", .str "not"]) = B2 at st2 et2 ⊢
    refine ⟨by show 2 ≤ _; decide, fun t3 nt3 => ?_⟩
    have st3 : Same B2 (upd B2 t3 (.tup [.str "unlike", .str "X"])) := same_new nt3
    have et3 : upd B2 t3 (.tup [.str "unlike", .str "X"]) t3 = some (.tup [.str "unlike", .str "X"]) := upd_same
    generalize upd B2 t3 (.tup [.str "unlike", .str "X"]) = B3 at st3 et3 ⊢
    refine ⟨by show 2 ≤ _; decide, fun t4 nt4 => ?_⟩
    have st4 : Same B3 (upd B3 t4 (.tup [.str "X", .str "unlike"])) := same_new nt4
    have et4 : upd B3 t4 (.tup [.str "X", .str "unlike"]) t4 = some (.tup [.str "X", .str "unlike"]) := upd_same
    generalize upd B3 t4 (.tup [.str "X", .str "unlike"]) = B4 at st4 et4 ⊢
    refine ⟨by show 2 ≤ _; decide, fun t5 nt5 => ?_⟩
    have st5 : Same B4 (upd B4 t5 (.tup [.str "if", .str "Y"])) := same_new nt5
    have et5 : upd B4 t5 (.tup [.str "if", .str "Y"]) t5 = some (.tup [.str "if", .str "Y"]) := upd_same
    generalize upd B4 t5 (.tup [.str "if", .str "Y"]) = B5 at st5 et5 ⊢
    refine ⟨by show 2 ≤ _; decide, fun t6 nt6 => ?_⟩
    have st6 : Same B5 (upd B5 t6 (.tup [.str "X", .str "Y"])) := same_new nt6
    have et6 : upd B5 t6 (.tup [.str "X", .str "Y"]) t6 = some (.tup [.str "X", .str "Y"]) := upd_same
    generalize upd B5 t6 (.tup [.str "X", .str "Y"]) = B6 at st6 et6 ⊢
    refine ⟨by show 6 ≤ _; decide, fun lp nlp => ?_⟩
    have slp : Same B6 (upd B6 lp (.lst [.ref t1, .ref t2, .ref t3, .ref t4, .ref t5, .ref t6])) := same_new nlp
    have elp : upd B6 lp (.lst [.ref t1, .ref t2, .ref t3, .ref t4, .ref t5, .ref t6]) lp = some (.lst [.ref t1, .ref t2, .ref t3, .ref t4, .ref t5, .ref t6]) := upd_same
    generalize upd B6 lp (.lst [.ref t1, .ref t2, .ref t3, .ref t4, .ref t5, .ref t6]) = B7 at slp elp ⊢
    have sB6 : Same B0 B6 := ((((st1.trans st2).trans st3).trans st4).trans st5).trans st6
    have sB7 : Same B0 B7 := sB6.trans slp
    have hpal : PaL B7 [.ref t1, .ref t2, .ref t3, .ref t4, .ref t5, .ref t6] oddP := .cons (slp _ _ (st6 _ _ (st5 _ _ (st4 _ _ (st3 _ _ (st2 _ _ et1)))))) (.cons (slp _ _ (st6 _ _ (st5 _ _ (st4 _ _ (st3 _ _ et2))))) (.cons (slp _ _ (st6 _ _ (st5 _ _ (st4 _ _ et3)))) (.cons (slp _ _ (st6 _ _ (st5 _ _ et4))) (.cons (slp _ _ (st6 _ _ et5)) (.cons (slp _ _ et6) .nil)))))
    have lpf : lp ≠ lf := fun z => by rw [z, sB6 _ _ elf] at nlp; cases nlp
    clear slp st1 st2 st3 st4 st5 st6 et1 et2 et3 et4 et5 et6 nt1 nt2 nt3 nt4 nt5 nt6 sB6 nlp
    have elf7 := sB7 _ _ elf
    have el07 := sB7 _ _ el0B
    have et07 := sB7 _ _ et0B
    have sH7 := sB0.trans sB7
    clear sB7 elf el0B et0B sB0
    generalize [V.ref t1, V.ref t2, V.ref t3, V.ref t4, V.ref t5, V.ref t6] = tps at elp hpal ⊢
    have fin : ∀ G, Sb lf B7 G → Same H G := fun G sb b o e => sb b o (fun z => by rw [z, nlfH] at e; cases e) (sH7 _ _ e)
    refine ⟨lp, rfl, ⟨_, SqL.of elp⟩, for_list (K := K) (a := lp) (xs := tps) (fun i σ G => ∃ (o2 o3 : Option V) (rs : List Addr), σ = [some (.ref l0), some (.ref lf), o2, o3, none, none, none] ∧ Sb lf B7 G ∧ G lf = some (.lst (rs.map V.ref)) ∧ All2 (fun r x => RAo lf CR G r x) rs (oddL (oddP.take i)))
      ⟨none, none, [], rfl, Sb.refl _ _, elf7, .nil⟩ (fun i σ G _ z => ?_) ?_ ?_⟩
    · obtain ⟨_, _, _, _, sb, _⟩ := z
      exact SqL.of (sb _ _ lpf elp)
    · rintro i v σ G hi ⟨o2, o3, rs, rfl, sb, ef, hx⟩
      obtain ⟨tp, pr, rfl, hpr, etp⟩ := hpal.at_ hi
      have tpf : tp ≠ lf := fun z => by rw [z, elf7] at etp; cases etp
      have prm : pr ∈ oddP := List.mem_of_getElem? hpr
      have hodd : oddL (oddP.take (i + 1)) = oddL (oddP.take i) ++ oddW.map (oddR pr) := by
        unfold oddL
        rw [take_one hpr, List.map_append, List.flatten_append]
        simp
      rw [hodd]
      have hlen : (oddL (oddP.take i)).length ≤ 18 := by
        unfold oddL
        rw [List.length_flatten, List.map_map]
        have : ((oddP.take i).map (List.length ∘ fun p => oddW.map (oddR p))) = (oddP.take i).map fun _ => 3 := List.map_congr_left fun _ _ => rfl
        rw [this, List.map_const', List.sum_replicate_nat, List.length_take]
        have : oddP.length = 6 := rfl
        omega
      generalize oddL (oddP.take i) = pre at hx hlen ⊢
      show tFor _ _ _ _ _ _
      refine ⟨by show 3 ≤ _; decide, fun lw nlw => ?_⟩
      have slw : Same G (upd G lw (.lst [.str "not", .str "unlike", .str "if"])) := same_new nlw
      have elw : upd G lw (.lst [.str "not", .str "unlike", .str "if"]) lw = some (.lst (oddW.map V.str)) := upd_same
      have lwf : lw ≠ lf := fun z => by rw [z, ef] at nlw; cases nlw
      generalize upd G lw (.lst [.str "not", .str "unlike", .str "if"]) = G0 at slw elw ⊢
      have ef0 := slw _ _ ef
      have sb0 : Sb lf B7 G0 := sb.then slw
      refine ⟨lw, rfl, ⟨_, SqL.of elw⟩, for_list (K := K) (a := lw) (xs := oddW.map V.str) (fun j σ G => ∃ (o3 : Option V) (rs : List Addr), σ = [some (.ref l0), some (.ref lf), some (.ref tp), o3, none, none, none] ∧ Sb lf G0 G ∧ G lf = some (.lst (rs.map V.ref)) ∧ All2 (fun r x => RAo lf CR G r x) rs (pre ++ (oddW.take j).map (oddR pr)))
        ⟨o3, rs, rfl, Sb.refl _ _, ef0, by rw [List.take_zero, List.map_nil, List.append_nil]; exact all2_imp (fun _ _ k => k.same slw) hx⟩ (fun j σ G _ z => ?_) ?_ ?_⟩
      · obtain ⟨_, _, _, sb, _⟩ := z
        exact SqL.of (sb _ _ lwf elw)
      · rintro j v σ G2 hj ⟨o3, rs2, rfl, sb2, ef2, hx2⟩
        obtain ⟨wd, hwd, rfl⟩ := at_strs j v hj
        have wdm : wd ∈ oddW := List.mem_of_getElem? hwd
        have sb02 := sb0.trans sb2
        have el02 := sb02 _ _ l0f el07
        have et02 := sb02 _ _ t0f et07
        have etp2 := sb02 _ _ tpf etp
        rw [take_one hwd, List.map_append, ← List.append_assoc]
        have hlen2 := hx2.len
        have hj3 : j < 3 := (List.getElem?_eq_some_iff.mp hwd).1
        have hxl2 : (pre ++ (oddW.take j).map (oddR pr)).length ≤ 100 := by
          rw [List.length_append, List.length_map, List.length_take]
          omega
        generalize pre ++ (oddW.take j).map (oddR pr) = xs2 at hx2 hlen2 hxl2 ⊢
        refine ⟨_, rfl, .inl ⟨rfl, _, SqL.of ef2⟩, _, rfl, by show 2 ≤ _; decide, fun ta nta => ?_⟩
        have k1 : Same G2 (upd G2 ta (.tup [.str wd, .str "X"])) := same_new nta
        have f1 : upd G2 ta (.tup [.str wd, .str "X"]) ta = some (.tup [.str wd, .str "X"]) := upd_same
        generalize upd G2 ta (.tup [.str wd, .str "X"]) = G3 at k1 f1 ⊢
        refine ⟨_, rfl, _, rfl, by show 1 ≤ _; decide, fun lb nlb => ?_⟩
        dsimp only [tNil]
        have k2 : Same G3 (upd G3 lb (.lst [.ref tp])) := same_new nlb
        have f2 : upd G3 lb (.lst [.ref tp]) lb = some (.lst [.ref tp]) := upd_same
        generalize upd G3 lb (.lst [.ref tp]) = G4 at k2 f2 ⊢
        refine ⟨_, rfl, by show 1 ≤ _; decide, fun tc ntc => ?_⟩
        dsimp only [tNil]
        have k3 : Same G4 (upd G4 tc (.tup [.str wd])) := same_new ntc
        have f3 : upd G4 tc (.tup [.str wd]) tc = some (.tup [.str wd]) := upd_same
        generalize upd G4 tc (.tup [.str wd]) = G5 at k3 f3 ⊢
        refine ⟨_, rfl, by show 3 ≤ _; decide, fun td ntd => ?_⟩
        have k4 : Same G5 (upd G5 td (.tup [.str wd, .str "Y", .str "unlike"])) := same_new ntd
        have f4 : upd G5 td (.tup [.str wd, .str "Y", .str "unlike"]) td = some (.tup [.str wd, .str "Y", .str "unlike"]) := upd_same
        generalize upd G5 td (.tup [.str wd, .str "Y", .str "unlike"]) = G6 at k4 f4 ⊢
        refine ⟨by show 2 ≤ _; decide, fun le nle => ?_⟩
        have k5 : Same G6 (upd G6 le (.lst [.ref tc, .ref td])) := same_new nle
        have f5 : upd G6 le (.lst [.ref tc, .ref td]) le = some (.lst [.ref tc, .ref td]) := upd_same
        generalize upd G6 le (.lst [.ref tc, .ref td]) = G7 at k5 f5 ⊢
        have k25 := ((k2.trans k3).trans k4).trans k5
        have k15 := k1.trans k25
        have mem : oddR pr wd ∈ oddAll := List.mem_append_left _ (List.mem_flatten.mpr ⟨_, List.mem_map.mpr ⟨pr, prm, rfl⟩, List.mem_map.mpr ⟨wd, wdm, rfl⟩⟩)
        obtain ⟨ok, clo⟩ := odd_ok _ mem
        intro r dx nr ndx ner
        have hp1 : PaL G7 [.ref t0] [["q", "X", "Y"]] := .cons (k15 _ _ et02) .nil
        have hp2 : PaL G7 [.ref tp] [pr] := .cons (k15 _ _ etp2) .nil
        have hp3 : PaL G7 [.ref tc, .ref td] [[wd], [wd, "Y", "unlike"]] := .cons (k5 _ _ (k4 _ _ f3)) (.cons (k5 _ _ f4) .nil)
        refine mk_rule (y := oddR pr wd) ok clo nr ndx (k25 _ _ f1) (k15 _ _ el02) hp1 (opt_of (k5 _ _ (k4 _ _ (k3 _ _ f2))) hp2 (by show 1 ≤ 300; decide)) (opt_of f5 hp3 (by show 2 ≤ 300; decide)) fun G8 k6 ra => ⟨rfl, ?_⟩
        have k16 := k15.trans k6
        have ef8 := k16 _ _ ef2
        refine ⟨lf, _, _, rfl, rfl, ef8, ?_, ⟨_, rs2 ++ [r], rfl, (sb2.then k16).trans (fun b o n e => by rw [upd_ne n]; exact e), by rw [upd_same, List.map_append]; rfl, ?_⟩⟩
        · rw [List.length_map, hlen2]
          exact Nat.lt_of_le_of_lt (show xs2.length ≤ 100 from hxl2) (by decide)
        · exact all2_app ((ra.at_ (k15 _ _ ef2)).putl ef8) (all2_imp (fun _ _ k => (k.same k16).putl ef8) hx2)
      · rintro σ G2 ⟨o3, rs2, rfl, sb2, ef2, hx2⟩
        rw [List.length_map, List.take_length] at hx2
        exact ⟨_, _, rs2, rfl, sb0.trans sb2, ef2, hx2⟩
    · rintro σ G ⟨o2, o3, rs, rfl, sb, ef, hx⟩
      have htl : tps.length = 6 := hpal.len
      rw [htl, show oddP.take 6 = oddP from rfl] at hx
      clear hpal elp htl
      have sHG := fin G sb
      show tSeq _ _ _ _ _
      refine ⟨_, rfl, .inl ⟨rfl, _, SqL.of ef⟩, ?_⟩
      refine ⟨by show 1 ≤ _; decide, fun a1 na1 => ?_⟩
      have sa1 : Same G (upd G a1 (.tup [.str "if"])) := same_new na1
      have ea1 : upd G a1 (.tup [.str "if"]) a1 = some (.tup [.str "if"]) := upd_same
      generalize upd G a1 (.tup [.str "if"]) = G1 at sa1 ea1 ⊢
      refine ⟨by show 1 ≤ _; decide, fun a2 na2 => ?_⟩
      have sa2 : Same G1 (upd G1 a2 (.tup [.str "if"])) := same_new na2
      have ea2 : upd G1 a2 (.tup [.str "if"]) a2 = some (.tup [.str "if"]) := upd_same
      generalize upd G1 a2 (.tup [.str "if"]) = G2 at sa2 ea2 ⊢
      refine ⟨by show 1 ≤ _; decide, fun a3 na3 => ?_⟩
      have sa3 : Same G2 (upd G2 a3 (.lst [.ref a2])) := same_new na3
      have ea3 : upd G2 a3 (.lst [.ref a2]) a3 = some (.lst [.ref a2]) := upd_same
      generalize upd G2 a3 (.lst [.ref a2]) = G3 at sa3 ea3 ⊢
      dsimp only [tNil]
      obtain ⟨ok1, clo1⟩ := odd_ok odd1 (by decide +kernel)
      obtain ⟨ok2, clo2⟩ := odd_ok odd2 (by decide +kernel)
      intro r dx nr ndx ner
      have q13 := (sa1.trans sa2).trans sa3
      have hp1 : PaL G3 [.ref a2] [["if"]] := .cons (sa3 _ _ ea2) .nil
      refine mk_rule (y := odd1) ok1 clo1 nr ndx (sa3 _ _ (sa2 _ _ ea1)) ea3 hp1 (.inl ⟨rfl, rfl⟩) (.inl ⟨rfl, rfl⟩) fun G4 s4 ra => ⟨rfl, ?_⟩
      have q14 := q13.trans s4
      have ef4 := q14 _ _ ef
      have hl18 : rs.length = 18 := hx.len
      refine ⟨lf, _, _, rfl, rfl, ef4, by rw [List.length_map, hl18]; decide, ?_⟩
      have hx4 := all2_app ((ra.at_ (q13 _ _ ef)).putl (os' := rs.map V.ref ++ [V.ref r]) ef4) (all2_imp (fun _ _ k => (k.same q14).putl (os' := rs.map V.ref ++ [V.ref r]) ef4) hx)
      have sH5 : Same H (upd G4 lf (.lst (rs.map V.ref ++ [V.ref r]))) := same_put (sHG.trans q14) nlfH
      have ef5 : upd G4 lf (.lst (rs.map V.ref ++ [V.ref r])) lf = some (.lst ((rs ++ [r]).map V.ref)) := by rw [upd_same, List.map_append]; rfl
      generalize upd G4 lf (.lst (rs.map V.ref ++ [V.ref r])) = B at hx4 sH5 ef5 ⊢
      clear q14 q13 s4 ra ef4 hx sHG sb ef sa1 sa2 sa3 ea1 ea2 ea3 hp1 na1 na2 na3 nr ndx ner
      show tSeq _ _ _ _ _
      refine ⟨_, rfl, .inl ⟨rfl, _, SqL.of ef5⟩, ?_⟩
      refine ⟨by show 1 ≤ _; decide, fun c1 nc1 => ?_⟩
      have sc1 : Same B (upd B c1 (.tup [.str "not"])) := same_new nc1
      have ec1 : upd B c1 (.tup [.str "not"]) c1 = some (.tup [.str "not"]) := upd_same
      generalize upd B c1 (.tup [.str "not"]) = B1 at sc1 ec1 ⊢
      refine ⟨by show 1 ≤ _; decide, fun c2 nc2 => ?_⟩
      have sc2 : Same B1 (upd B1 c2 (.tup [.str "not"])) := same_new nc2
      have ec2 : upd B1 c2 (.tup [.str "not"]) c2 = some (.tup [.str "not"]) := upd_same
      generalize upd B1 c2 (.tup [.str "not"]) = B2 at sc2 ec2 ⊢
      refine ⟨by show 1 ≤ _; decide, fun c3 nc3 => ?_⟩
      have sc3 : Same B2 (upd B2 c3 (.tup [.str "unlike"])) := same_new nc3
      have ec3 : upd B2 c3 (.tup [.str "unlike"]) c3 = some (.tup [.str "unlike"]) := upd_same
      generalize upd B2 c3 (.tup [.str "unlike"]) = B3 at sc3 ec3 ⊢
      refine ⟨by show 1 ≤ _; decide, fun c4 nc4 => ?_⟩
      have sc4 : Same B3 (upd B3 c4 (.tup [.str "end"])) := same_new nc4
      have ec4 : upd B3 c4 (.tup [.str "end"]) c4 = some (.tup [.str "end"]) := upd_same
      generalize upd B3 c4 (.tup [.str "end"]) = B4 at sc4 ec4 ⊢
      refine ⟨by show 3 ≤ _; decide, fun c5 nc5 => ?_⟩
      have sc5 : Same B4 (upd B4 c5 (.lst [.ref c2, .ref c3, .ref c4])) := same_new nc5
      have ec5 : upd B4 c5 (.lst [.ref c2, .ref c3, .ref c4]) c5 = some (.lst [.ref c2, .ref c3, .ref c4]) := upd_same
      generalize upd B4 c5 (.lst [.ref c2, .ref c3, .ref c4]) = B5 at sc5 ec5 ⊢
      refine ⟨by show 1 ≤ _; decide, fun c6 nc6 => ?_⟩
      have sc6 : Same B5 (upd B5 c6 (.tup [.str "not"])) := same_new nc6
      have ec6 : upd B5 c6 (.tup [.str "not"]) c6 = some (.tup [.str "not"]) := upd_same
      generalize upd B5 c6 (.tup [.str "not"]) = B6 at sc6 ec6 ⊢
      refine ⟨by show 2 ≤ _; decide, fun c7 nc7 => ?_⟩
      have sc7 : Same B6 (upd B6 c7 (.tup [.str "unlike", .str "not"])) := same_new nc7
      have ec7 : upd B6 c7 (.tup [.str "unlike", .str "not"]) c7 = some (.tup [.str "unlike", .str "not"]) := upd_same
      generalize upd B6 c7 (.tup [.str "unlike", .str "not"]) = B7 at sc7 ec7 ⊢
      refine ⟨by show 2 ≤ _; decide, fun c8 nc8 => ?_⟩
      have sc8 : Same B7 (upd B7 c8 (.lst [.ref c6, .ref c7])) := same_new nc8
      have ec8 : upd B7 c8 (.lst [.ref c6, .ref c7]) c8 = some (.lst [.ref c6, .ref c7]) := upd_same
      generalize upd B7 c8 (.lst [.ref c6, .ref c7]) = B8 at sc8 ec8 ⊢
      dsimp only [tNil]
      intro r2 dx2 nr2 ndx2 ner2
      have q58 := (sc6.trans sc7).trans sc8
      have q18 := ((((sc1.trans sc2).trans sc3).trans sc4).trans sc5).trans q58
      have hp1 : PaL B8 [.ref c2, .ref c3, .ref c4] [["not"], ["unlike"], ["end"]] := .cons (q58 _ _ (sc5 _ _ (sc4 _ _ (sc3 _ _ ec2)))) (.cons (q58 _ _ (sc5 _ _ (sc4 _ _ ec3))) (.cons (q58 _ _ (sc5 _ _ ec4)) .nil))
      have hp3 : PaL B8 [.ref c6, .ref c7] [["not"], ["unlike", "not"]] := .cons (sc8 _ _ (sc7 _ _ ec6)) (.cons (sc8 _ _ ec7) .nil)
      refine mk_rule (y := odd2) ok2 clo2 nr2 ndx2 (q58 _ _ (sc5 _ _ (sc4 _ _ (sc3 _ _ (sc2 _ _ ec1))))) (q58 _ _ ec5) hp1 (.inl ⟨rfl, rfl⟩) (opt_of ec8 hp3 (by show 2 ≤ 300; decide)) fun B9 s9 ra2 => ⟨rfl, ?_⟩
      have q19 := q18.trans s9
      have ef9 := q19 _ _ ef5
      refine ⟨lf, _, _, rfl, rfl, ef9, by rw [List.length_map, List.length_append, hl18]; show 18 + 1 < sizeLine; decide, ?_⟩
      have hx5 := all2_app ((ra2.at_ (q18 _ _ ef5)).putl (os' := (rs ++ [r]).map V.ref ++ [V.ref r2]) ef9) (all2_imp (fun _ _ k => (k.same q19).putl (os' := (rs ++ [r]).map V.ref ++ [V.ref r2]) ef9) hx4)
      have sH6 : Same H (upd B9 lf (.lst ((rs ++ [r]).map V.ref ++ [V.ref r2]))) := same_put (sH5.trans q19) nlfH
      have ef6 : upd B9 lf (.lst ((rs ++ [r]).map V.ref ++ [V.ref r2])) lf = some (.lst ((rs ++ [r] ++ [r2]).map V.ref)) := by rw [upd_same, List.map_append (l₁ := rs ++ [r])]; rfl
      generalize upd B9 lf (.lst ((rs ++ [r]).map V.ref ++ [V.ref r2])) = C0 at hx5 sH6 ef6 ⊢
      clear q19 q18 q58 s9 ra2 ef9 hx4 sH5 ef5 sc1 sc2 sc3 sc4 sc5 sc6 sc7 sc8 ec1 ec2 ec3 ec4 ec5 ec6 ec7 ec8 hp1 hp3 nc1 nc2 nc3 nc4 nc5 nc6 nc7 nc8
      have hRA : RAs CR C0 (rs ++ [r] ++ [r2]) oddAll := by
        have e : oddAll = oddL oddP ++ [odd1] ++ [odd2] := by
          unfold oddAll
          rw [List.append_assoc]
          rfl
        rw [e]
        exact all2_imp (fun _ _ k => k.ra) hx5
      have ho1 : oddAll[18]? = some odd1 := by decide +kernel
      have hrl : (rs ++ [r] ++ [r2]).length = 20 := by rw [List.length_append, List.length_append, hl18]; rfl
      clear hx5
      generalize rs ++ [r] ++ [r2] = ss at ef6 hRA hrl ⊢
      have okA : ∀ x ∈ oddAll, x.Ok := fun x hx => (odd_ok x hx).1
      have few : oddAll.length ≤ 100000 := by rw [odd_len]; decide
      -- the texts
      show tSeq _ _ _ _ _
      refine ⟨_, rfl, lf, rfl, ⟨_, SqL.of ef6⟩, fun D nD => ?_⟩
      refine lc_txt (K := K) (a := lf) (xs := ss.map V.ref) (ds := oddAll) (S := RuleAt CR C0) (b := fun _ => true) (f := ruleT) (SqL.of ef6) nD few (by rw [List.length_map, hrl, odd_len]) hRA.ats ?_ ?_
      · rintro v d G0 R N hd ⟨r', rfl, ra⟩ sm hR hN
        refine ⟨rfl, _, rfl, ?_⟩
        dsimp only [tNil]
        exact ⟨r', d, rfl, ra.same sm, okA d hd, fun H' s => hR rfl H' s⟩
      intro C1 s1 eD
      rw [fil_true] at eD
      have hRA1 := hRA.same s1
      have ef7 := s1 _ _ ef6
      -- read_rule of a written text
      show tSeq _ _ _ _ _
      obtain ⟨r18, h18⟩ : ∃ r18, ss[18]? = some r18 := ⟨ss[18], List.getElem?_eq_getElem (by omega)⟩
      obtain ⟨y18, hy18, ra18⟩ := hRA1.at_ h18
      obtain rfl : odd1 = y18 := Option.some.inj (ho1.symm.trans hy18)
      have hat : atI (ss.map V.ref) (-2) = some (V.ref r18) := by
        unfold atI
        rw [show ixN (ss.map V.ref).length (-2) = some 18 by rw [List.length_map, hrl]; decide]
        show (ss.map V.ref)[18]? = _
        rw [List.getElem?_map, h18]
        rfl
      refine ⟨odd1, congrArg (fun z => [V.str z]) odd1_text.symm, ok1, clo1, fun r' C2 s2 ra' => ?_⟩
      have ef8 := s2 _ _ ef7
      have eD2 := s2 _ _ eD
      refine ⟨_, rfl, 2, rfl, lf, _, _, V.ref r18, rfl, rfl, SqL.of ef8, hat, ?_⟩
      refine ne_rules RR IR ra'.ra ok1 (ra18.same s2) ok1 ⟨_, rfl, ?_⟩
      rw [decide_eq_true rfl]
      refine iteF ?_
      have hRA2 := hRA1.same s2
      have sHC := (sH6.trans s1).trans s2
      clear ra18 ra' hRA1 eD ef7 ef6 hRA
      -- rule_text tells the same
      show tSeq _ _ _ _ _
      refine ⟨_, rfl, lf, rfl, ⟨_, SqL.of ef8⟩, fun D2 nD2 => ?_⟩
      refine lc_txt (K := K) (a := lf) (xs := ss.map V.ref) (ds := oddAll) (S := RuleAt CR C2) (b := fun _ => true) (f := ruleT) (SqL.of ef8) nD2 few (by rw [List.length_map, hrl, odd_len]) hRA2.ats ?_ ?_
      · rintro v d G0 R N hd ⟨r', rfl, ra⟩ sm hR hN
        refine ⟨rfl, _, rfl, ?_⟩
        dsimp only [tNil]
        exact ⟨r', d, rfl, ra.same sm, okA d hd, fun H' s => hR rfl H' s⟩
      intro C3 s3 eD3
      rw [fil_true] at eD3
      have eD4 := s3 _ _ eD2
      have asc : ∀ z ∈ oddAll.map ruleT, Asc z := fun z hz => by
        obtain ⟨x, hx, rfl⟩ := List.mem_map.mp hz
        exact asc_ruleT (okA x hx)
      refine ⟨_, rfl, dS _, dS _, dp_S (SqL.of eD3), dp_S (SqL.of eD4), (lay_dS asc).shaped (by decide), (lay_dS asc).shaped (by decide), _, rfl, ?_⟩
      rw [PySem.SeqAt.eqv_refl _ (lay_dS asc).1]
      refine iteF ?_
      have hnd : (oddAll.map ruleT).Nodup := nd_texts okA odd_nd
      have hdl : (dist (oddAll.map ruleT)).length = (oddAll.map ruleT).length := by rw [dist_nd hnd]
      refine ⟨_, rfl, D, oddAll.map ruleT, rfl, SqL.of eD4, by rw [List.length_map, odd_len]; decide, _, rfl, D, _, rfl, .inl (SqL.of eD4), rfl, _, rfl, ?_⟩
      rw [List.length_map (f := V.str), hdl, decide_eq_true rfl]
      refine iteF ?_
      have hRA3 := hRA2.same s3
      have ef9 := s3 _ _ ef8
      -- read back
      refine ⟨_, rfl, D, rfl, ⟨_, SqL.of eD4⟩, fun D3 nD3 => ?_⟩
      refine lc_rls (K := K) (a := D) (xs := (oddAll.map ruleT).map V.str) (ds := oddAll) (S := fun v x => v = V.str (ruleT x)) (C := CR) (f := id) (SqL.of eD4) nD3 few (by rw [List.length_map, List.length_map]) (fun i v h => ?_) ?_ ?_
      · rw [List.map_map, List.getElem?_map] at h
        cases hg : oddAll[i]? with
        | none => rw [hg] at h; cases h
        | some x =>
          rw [hg] at h
          exact ⟨x, rfl, (Option.some.inj h).symm⟩
      · rintro v x G0 R hx rfl sm hR
        refine ⟨rfl, _, rfl, ?_⟩
        dsimp only [tNil]
        exact ⟨x, rfl, (odd_ok x hx).1, (odd_ok x hx).2, fun r H' s ra => hR r H' s ra⟩
      intro C4 rs3 s4 eD5 hx5
      rw [List.map_id] at hx5
      have hRA4 := hRA3.same s4
      refine ⟨_, rfl, _, dlst_rules eD5 (s4 _ _ ef9) hx5 hRA4 okA okA (one_of hx5 hRA4), fun H' s' => ?_⟩
      rw [decide_eq_true rfl]
      exact q H' (((sHC.trans s3).trans s4).trans s')
end
end Nv
set_option maxHeartbeats 4000000
namespace Nv
open PySem PySem.Spec PyProof.Rows L2
/-! ### defs that ask for repr: run where no repr is under way -/
abbrev RunG (P : Program) (w : World) (K : PySem.W.Frag) (mg : Str → Option Value) (base : Heap) (k : Nat) (f : Addr) (fd : FuncData) (ps : List Str) (sp : Sp) : Prop :=
  ∀ (A : Around) (outer : List Env) (s : Shared) (H : Hp) (args : Args) (us : List Value) (vs : List V) (Q : VK), A.guards = some [] → Room k A → Env0 P w K mg base A outer s H →
    BindsTo s fd args (ps.zip us) → Vals vs us → sp vs H Q E0 → codeAny (model P w) A (.call (.ref f) args) (CR CX0 outer P w H s Q E0) s
section
variable {P : Program} {w : World} {K : PySem.W.Frag} {mg : Str → Option Value} {base : Heap}
theorem run_ofG {k : Nat} {f : Addr} {qual : Str} {st : Stmt} {fd : FuncData} {N ps : List Str} {sp : Sp} (F : Fun K qual qual st f fd) (S : FnScope N ps (defScope st)) (len : ∀ vs H Q E, sp vs H Q E → vs.length = ps.length)
    (body : ∀ (cdv : Value) (A : Around) (outer : List Env) (s : Shared) (H : Hp) (vs : List V) (Q : VK), A.guards = some [] → Room k (A.deeper (envOfC qual (defScope st) s.heap.objs.size f cdv)) → sp vs H Q E0 →
      ∃ t, PSs (cxOf CX0 P w K mg base N qual (defScope st) f cdv A outer s H E0).nox (defBody st) t ∧ t { nx := fun _ H' => Q .non H', rt := Q } (start N vs) H) : RunG P w K mg base (k + 1) f fd ps sp := by
  obtain ⟨oc, od, kV, doc, pm, an, cdv, ct, osl, rfl, lk, hcd⟩ := F.ex
  intro A outer s H args us vs Q hg hr e0 hb r hsp
  have hl := len _ _ _ _ hsp
  have KX : K.In s.heap := e0.mod.kin.keeps fun b o e => (e0.bs b o e).1
  have lim : s.heap.NoLimit := e0.mod.nolimit.keeps fun b o e => (e0.bs b o e).1
  refine codeAny_call_function hr.depth (KX _ _ lk) rfl S.co S.gen rfl (PySem.W.codeRec_of KX hcd) (hb _ _ _ _ ?_)
  refine wpAny_newFunctionEnv_cells S.kind (fun ⟨n, v⟩ hy => ?_) fun env he s1 x => ?_
  · rcases S.par n (List.of_mem_zip hy).1 with z | z
    · exact .inl z
    · exact .inr ⟨z, PySem.W.cellsFrom_some _ _ _ (.inl z)⟩
  · subst he
    refine ⟨lim.keeps x.toInCall.keep, codeAny_func ?_⟩
    obtain ⟨t, ht, hq⟩ := body cdv A outer s H vs Q hg (hr.deeper _) hsp
    have I := inv_start (CX := CX0) (E := E0) S hr.hd e0 hl r x
    refine wpAny_mono (ht.nox.run [] s1 (start N vs) H _ I hq) (fun fl s' hs => ?_) fun e s' hs => hs
    cases fl with
    | ret u =>
      obtain ⟨v, σ', H', J, rv, q⟩ := hs
      exact ⟨v, H', J.os, J.bare, J.base, J.hok, rv, q⟩
    | next =>
      obtain ⟨σ', H', J, q⟩ := hs
      exact ⟨V.non, H', J.os, J.bare, J.base, J.hok, rfl, q⟩
    | brk =>
      obtain ⟨_, _, _, q⟩ := hs
      exact False.elim q
    | cont =>
      obtain ⟨_, _, _, q⟩ := hs
      exact False.elim q
end
section
variable {X : Cx} {k : Nat} {f : Addr} {fd : FuncData} {ps : List Str} {sp : Sp} {x : Str} {p pos : Pos} {e : Expr} {es : List Expr} {t : TA}
/-- f(e, ..) of such a def -/
theorem pe_callG (F : RunG X.prog X.w X.K X.mg X.base k f fd ps sp) (len : ∀ vs H Q E, sp vs H Q E → vs.length = ps.length) (hgd : X.A.guards = some []) (hr : Room k X.A) (hg : Gl X x) (hm : X.mg x = some (.ref f)) (hk : PySem.W.keepIn X.K (.ref f) = true) (hb : Binds X.K fd ps [])
    (ha : PA X (e :: es) t) (hdb : (x == ("__debug__" : Str)) = false := by decide) (he : starEach (e :: es) X.env = (false, eval e X.env) :: starEach es X.env := by rfl) (hpl : (backTo pos (starEach es X.env)).any (·.1) = false := by rfl) :
    PE X (.Call (.Name x p) (e :: es) [] pos) (tCall sp [] E0 t) := by
  refine ⟨fun pins s σ H Q I h => wpAny_Call_Name_kw (ld_glob I hg hm (PySem.W.callWith_K (h₀ := X.base) I.ok.mod.kin hk (thn (ha.run pos pins s σ H _ I h) fun us s1 ⟨vs, H1, I1, r, q⟩ => ⟨I1.kIn, ?_⟩) he hpl) hdb)⟩
  have q : sp vs H1 Q E0 := by simpa using q
  have hl : us.length = ps.length := by rw [← len _ _ _ _ q, r.length]
  refine wpAny_call (codeAny_mono (F X.A X.stack s1 H1 ⟨us, []⟩ us vs Q hgd hr I1.env0 (by simpa using hb s1 us I1.kIn (by simpa using hl)) r q) fun z s2 hq => ?_)
  rcases z with er | fl
  · exact hq.elim
  cases fl with
  | ret u => exact I1.after hq
  | _ => exact hq.elim
end
end Nv
set_option maxHeartbeats 4000000
namespace PySem
namespace Xv
open PySem.W PySem.Calls PyProof.Rows PySem.HandSPX
section
variable {prog : Program} {w : World} {A : Around} {E : Value → Shared → Prop} {R : Result → Shared → Prop}
variable {h : Heap} {g : Array GenState} {d : Drawn} {t : Nat} {os : OsState}
variable {nm q : Str} {C N : Addr} {bs bm bmB : List Value} {hdct : Bool} {sn : List Str} {sub : List Value} {ab : Bool}
variable {col : Option Bool} {dd : Option Addr} {k0 k1 k2 k3 k5 : Option Value} {B newId initId : String}
variable {kw : List (Str × Value)} {rest : List Value}
abbrev Holds (h : Heap) (nm q : Str) (C N : Addr) (bs bm : List Value) (hdct : Bool) (sn : List Str) (sub : List Value) (ab : Bool)
    (col : Option Bool) (dd : Option Addr) (k0 k1 k2 k3 k5 : Option Value) (newId : String) : Prop :=
  h.get? C = some (excClassObj nm q C N bs bm hdct sn sub ab col dd k0 k1 k2 k3 k5 newId)
abbrev AlikeTypes (bm bmB : List Value) : Prop := ∀ X : String, bm.contains (.type X) = bmB.contains (.type X)

theorem check_new (F : ExcBaseFacts B newId initId bmB) (hT : AlikeTypes bm bmB) {M : Model} {Q : Unit → Shared → Prop}
    (hC : Holds h nm q C N bs bm hdct sn sub ab col dd k0 k1 k2 k3 k5 newId) (hq : Q () ⟨h, g, d, t, os⟩) :
    wpAny M A (checkBuiltinCall newId ⟨.ref C :: rest, kw⟩) Q E ⟨h, g, d, t, os⟩ := by
  have has : (Value.ref C :: bm).contains (.type B) = true := by rw [List.contains_cons, hT, F.hasB, Bool.or_true]
  have star := F.noStar
  simp only [checkBuiltinCall, F.newKind, F.newSplit, F.newRow]
  repeat (first
    | refine wpAny_loadPart_at hC ?_
    | (refine wpAny_isSubtype_exc hC ?_; rw [has])
    | refine wpAny_staticBase_exc hC ?_
    | refine wpAny_madeBy_exc hC ?_
    | simp only [bne_self_eq_false, Bool.false_eq_true, if_false]
    | wp_step)
  exact hq

theorem new_kw (F : ExcBaseFacts B newId initId bmB) (hT : AlikeTypes bm bmB)
    (hC : Holds h nm q C N bs bm hdct sn sub ab col dd k0 k1 k2 k3 k5 newId)
    (hq : R (.ok (.ret (.ref (h.objs.size + 1)))) ⟨(h.push (kdv_tup rest)).push (excO C h.objs.size), g, d, t, os⟩) (hz : rest.length ≤ sizeLine) :
    codeAny (model prog w) A (.builtin newId ⟨.ref C :: rest, kw⟩) R ⟨h, g, d, t, os⟩ := by
  have ends := F.ends
  have hasB : (Value.ref C :: bm).contains (.type B) = true := by rw [List.contains_cons, hT, F.hasB, Bool.or_true]
  have hasA : (Value.ref C :: bm).contains (.type "AttributeError") = false := by rw [List.contains_cons, hT, F.noAttr]; rfl
  have hasN : (Value.ref C :: bm).contains (.type "NameError") = false := by rw [List.contains_cons, hT, F.noName]; rfl
  refine codeAny_builtinAt F.entry ?_
  unfold Builtin.«BaseException.__new__»
  refine wpAt_bind ?_
  show wpAt _ _ _ (stack >>= _) _ _ _
  refine wpAt_bind (wpAt_stack fun p below => wpAt_of_wpAny ?_)
  wp_walk
  refine wpAt_of_wpAny ?_
  rw [F.owner]
  repeat (first
    | with_reducible refine wpAny_madeHere_exc F.canon hC ?_
    | with_reducible refine wpAny_loadPart_at hC ?_
    | (with_reducible refine wpAny_isSubtype_exc hC ?_; first | rw [hasB] | rw [hasA] | rw [hasN])
    | wp_step)
  show R _ _
  rw [Heap.size_push]
  exact hq

theorem tcall_kw (F : ExcBaseFacts B newId initId bmB) (hT : AlikeTypes bm bmB) {fI : Addr} {Q : Fin → Shared → Prop}
    (hC : Holds h nm q C N bs bm hdct sn sub ab col dd k0 k1 k2 k3 k5 newId)
    (hi : W.Looks (model prog w) h (typeLookup (.ref C) "__init__") (some (.ref fI)))
    (hb : ∀ self, W.Looks (model prog w) h (bindSpecial (.ref fI) self) (.ref fI, [self])) (hz : rest.length ≤ sizeLine)
    (hq : codeAny (model prog w) A (.call (.ref fI) ⟨.ref (h.objs.size + 1) :: rest, kw⟩)
      (fun r s' => match r with | .ok (.ret v) => v = .none ∧ Q (.done (.ret (.ref (h.objs.size + 1)))) s' | .ok _ => False | .error e => E e s')
      ⟨(h.push (kdv_tup rest)).push (excO C h.objs.size), g, d, t, os⟩) :
    wpAny (model prog w) A (Builtin.«type.__call__» ⟨.ref C :: rest, kw⟩) Q E ⟨h, g, d, t, os⟩ := by
  repeat (first
    | with_reducible refine wpAny_loadPart_at hC ?_
    | with_reducible refine wpAny_madeBy_exc hC ?_
    | wp_step)
  refine codeAny_call_builtin_code (Code.quiet_builtin _ F.quiet) (check_new F hT hC ?_)
  refine new_kw F hT hC ?_ hz
  show wpAny _ _ _ _ _ _
  have k : ∀ b o, h.get? b = some o → ((h.push (kdv_tup rest)).push (excO C h.objs.size)).get? b = some o :=
    fun b o e => Heap.get?_push_of_some _ (Heap.get?_push_of_some _ e)
  have hC1 := k _ _ hC
  have hget : ((h.push (kdv_tup rest)).push (excO C h.objs.size)).get? (h.objs.size + 1) = some (excO C h.objs.size) := by heap_get
  have self : (Value.ref C :: bm).contains (.ref C) = true := by simp
  have i1 := hi.keeps k
  have b1 := (hb (.ref (h.objs.size + 1))).keeps k
  unfold isInstance
  repeat (first
    | with_reducible refine wpAny_loadPart_at hget ?_
    | (with_reducible refine wpAny_isSubtype_exc hC1 ?_; rw [self])
    | wp_step)
  show wpAny _ _ (typeLookup (.ref C) _) _ _ _
  refine i1.at ?_
  refine wpAny_holding (wpAny_bind (b1.at ?_))
  refine wpAny_bind (wpAny_call (codeAny_mono hq fun r s' z => ?_))
  rcases r with e | (v | _ | _ | _) <;> first | exact z | exact z.elim | skip
  obtain ⟨rfl, z⟩ := z
  first
    | exact wpAny_pure (wpAny_pure z)
    | (wp_walk; exact z)

theorem call_kw (F : ExcBaseFacts B newId initId bmB) (hT : AlikeTypes bm bmB) {fI : Addr}
    (hC : Holds h nm q C N bs bm hdct sn sub ab col dd k0 k1 k2 k3 k5 newId)
    (hi : W.Looks (model prog w) h (typeLookup (.ref C) "__init__") (some (.ref fI)))
    (hb : ∀ self, W.Looks (model prog w) h (bindSpecial (.ref fI) self) (.ref fI, [self])) (hz : rest.length ≤ sizeLine)
    (typ : W.Looks (model prog w) h (isInstance (.ref C) (.type "type")) true)
    (hq : codeAny (model prog w) (A.under (.builtin "type.__call__" ⟨.ref C :: rest, kw⟩)) (.call (.ref fI) ⟨.ref (h.objs.size + 1) :: rest, kw⟩)
      (W.InitBack (h.objs.size + 1) R) ⟨(h.push (kdv_tup rest)).push (excO C h.objs.size), g, d, t, os⟩) :
    codeAny (model prog w) A (.call (.ref C) ⟨rest, kw⟩) R ⟨h, g, d, t, os⟩ := by
  have f1 := tc_lookup
  have f2 := tc_bind (.ref C)
  have hTy : (⟨h, g, d, t, os⟩ : Shared).TypeIs (.ref C) "type" := ⟨_, hC, rfl⟩
  refine codeAny_of_tree ?_
  show wpAny _ _ (callAny (.ref C) _) _ _ _
  repeat (any_goals (first | assumption | with_reducible refine wpAny_loadPart_at hC ?_ | wp_step))
  refine ⟨rfl, ?_⟩
  refine codeAny_call_builtin_at (Code.quiet_builtin _ (by decide +kernel)) entry_typeCall (W.check_slot tc_kind tc_split typ (tc_args _ _ _) ?_)
  refine tcall_kw F hT hC hi hb hz ?_
  refine codeAny_mono hq fun r s' z => ?_
  rcases r with e | (v | _ | _ | _) <;> exact z
end
end Xv
end PySem
set_option maxHeartbeats 4000000
namespace L2
open PySem PySem.Spec PyProof.Rows
/-- at a stands an exception of the class at C whose one field f holds v -/
def EA (H : Hp) (a C : Addr) (f : Str) (v : V) : Prop := ∃ d, H a = some (exo a C (some d)) ∧ H d = some (exd d [(f, v)])
theorem EA.mono {H H' : Hp} {a C : Addr} {f : Str} {v : V} (x : EA H a C f v) (e : Same H H') : EA H' a C f v :=
  let ⟨d, h1, h2⟩ := x
  ⟨d, e _ _ h1, e _ _ h2⟩
/-- the promise of such a class's __init__ -/
def spXI (C : Addr) (f : Str) : Sp := fun vs H Q _ => ∃ (a : Addr) (v : V), vs = [.ref a, v] ∧ H a = some (exo a C none) ∧
  ∀ dx, H dx = none → dx ≠ a → Q .non (upd (upd H dx (exd dx [(f, v)])) a (exo a C (some dx)))
/-- what is known of an exception class x (at C, its field f) behind the top -/
structure XC (P : Program) (w : World) (K : PySem.W.Frag) (mg : Str → Option Value) (base : Heap) (x f : Str) (C : Addr) : Prop where
  oex : OexC K C
  gC : mg x = some (.ref C)
  noF : PySem.W.findIn K (.ref C) f = some none
  ga : PySem.W.findIn K (.ref C) "__getattribute__" = some (some (.builtin "BaseException.__getattribute__"))
  gg : PySem.W.findIn K (.ref C) "__getattr__" = some none
  hdC : PySem.W.hasDictIn K C = true
  run : ∃ (fI : Addr) (fd : FuncData), PySem.W.findIn K (.ref C) "__init__" = some (some (.ref fI)) ∧ PySem.W.typeIn K (.ref fI) = some (.type "function") ∧
    FnOk P w K mg base CX0 1 fI fd ["self", f] (spXI C f) ∧
    (∀ (s : Shared) (a b : Value), K.In s.heap → BindsTo s fd ⟨[a, b], []⟩ ((["self", f] : List Str).zip [a, b])) ∧
    (∀ (s : Shared) (a : Value), K.In s.heap → BindsTo s fd ⟨[a], []⟩ ((["self", f] : List Str).zip [a, .none])) ∧
    (∀ (s : Shared) (a b : Value), K.In s.heap → BindsTo s fd ⟨[a], ([f] : List Str).zip [b]⟩ ((["self", f] : List Str).zip [a, b]))
section
variable {X : Cx} {x f : Str} {C : Addr}
theorem run_x {pins : List (Addr × Obj)} {σ : St} {H : Hp} {s : Shared} {Q : VK} {us : List Value} {kw : List (Str × Value)} {v : V} {u : Value} {fI : Addr} {fd : FuncData} (T : OexC X.K C)
    (iC : PySem.W.findIn X.K (.ref C) "__init__" = some (some (.ref fI))) (tI : PySem.W.typeIn X.K (.ref fI) = some (.type "function"))
    (F1 : FnOk X.prog X.w X.K X.mg X.base CX0 1 fI fd ["self", f] (spXI C f)) (hr : Room 2 X.A) (I : Inv X pins σ H s) (hz : us.length ≤ 1000) (rv : RelV v u)
    (hb : ∀ (s : Shared) (a : Value), X.K.In s.heap → BindsTo s fd ⟨a :: us, kw⟩ ((["self", f] : List Str).zip [a, u]))
    (h : ∀ (a : Addr) (H' : Hp), H a = none → Same H H' → EA H' a C f v → Q (.ref a) H') :
    wpAny (model X.prog X.w) X.A (call (.ref C) us kw) (EP X pins σ Q) X.xe s := by
  obtain ⟨nm, q, N, bs, bm, sn, sub, ab, col, dd, k0, k1, k2, k3, k5, hC, hbm⟩ := T.cls
  have kin := I.kIn
  have typ : PySem.W.Looks (model X.prog X.w) s.heap (isInstance (.ref C) (.type "type")) true :=
    (PySem.W.looks_typeIn kin T.tyC).andThen (PySem.W.looks_subIn kin (show PySem.W.subIn X.K (.type "type") (.type "type") = some true by rfl))
  obtain ⟨hp, g, dr, tk, os⟩ := s
  have hsz : hp.objs.size ≤ hp.objs.size + 1 := Nat.le_succ _
  have hn : H (hp.objs.size + 1) = none := I.hok.fresh hsz
  have old : ∀ b o, hp.get? b = some o → ((hp.push (PySem.W.kdv_tup us)).push (PySem.HandSPX.excO C hp.objs.size)).get? b = some o :=
    fun b o e => Heap.get?_push_of_some _ (Heap.get?_push_of_some _ e)
  have there : ((hp.push (PySem.W.kdv_tup us)).push (PySem.HandSPX.excO C hp.objs.size)).get? (hp.objs.size + 1) = some (PySem.HandSPX.excO C hp.objs.size) := by heap_get
  have I2 := I.laid (t' := tk) (a := hp.objs.size + 1) (o := exo (hp.objs.size + 1) C none) old hsz (exo_ok there)
  have r2 : Vals [V.ref (hp.objs.size + 1), v] [Value.ref (hp.objs.size + 1), u] := .cons rfl (.cons rv .nil)
  have hus : us.length ≤ sizeLine := by
    rw [sizeLine_eq]
    omega
  refine wpAny_call (PySem.Xv.call_kw (kw := kw) F.excBase_ValueError (fun Y => PySem.HandSPX.refsVE_contains Y bm hbm) (kin _ _ hC) (PySem.W.looks_findIn kin iC)
    (fun self => PySem.W.bind_fn kin self tI) hus typ (codeAny_mono (F1.run _ X.stack _ (upd H (hp.objs.size + 1) (exo (hp.objs.size + 1) C none)) ⟨Value.ref (hp.objs.size + 1) :: us, kw⟩ [Value.ref (hp.objs.size + 1), u] _
      (fun r H2 => r = .non ∧ ∃ dx, dx ≠ hp.objs.size + 1 ∧ H dx = none ∧ H2 = upd (upd (upd H (hp.objs.size + 1) (exo (hp.objs.size + 1) C none)) dx (exd dx [(f, v)])) (hp.objs.size + 1) (exo (hp.objs.size + 1) C (some dx)))
      (fun _ _ _ => False) (hr.make C us kw) (I2.env0.make C us kw) (hb _ _ I2.kIn) r2 ?_) fun r s' hq' => ?_))
  · refine ⟨_, v, rfl, upd_same, fun dx nd ne => ⟨rfl, dx, ne, ?_, rfl⟩⟩
    rw [upd_ne ne] at nd
    exact nd
  cases r with
  | error er => exact False.elim hq'
  | ok fl =>
    cases fl with
    | ret z =>
      obtain ⟨r, H2, I3, rr, er, dx, ne, nd, eH⟩ := I2.after hq'
      subst er
      have same : Same H H2 := fun b o e => by
        have n1 : b ≠ hp.objs.size + 1 := ne_of_none e hn
        have n2 : b ≠ dx := ne_of_none e nd
        rw [eH, upd_ne n1, upd_ne n2, upd_ne n1]
        exact e
      refine ⟨rr, V.ref (hp.objs.size + 1), H2, I3, rfl, h _ H2 hn same ⟨dx, ?_, ?_⟩⟩
      · rw [eH]
        exact upd_same
      · rw [eH, upd_ne ne]
        exact upd_same
    | next => exact False.elim hq'
    | brk => exact False.elim hq'
    | cont => exact False.elim hq'
/-- C(e) -/
def tX1 (C : Addr) (f : Str) (te : TE) : TE := fun σ H Q => te σ H fun y H1 => ∃ v, [y] = [v] ∧
  ∀ (a : Addr) (H' : Hp), H1 a = none → Same H1 H' → EA H' a C f v → Q (.ref a) H'
/-- C() -/
def tX0 (C : Addr) (f : Str) : TE := fun _ H Q => ∀ (a : Addr) (H' : Hp), H a = none → Same H H' → EA H' a C f .non → Q (.ref a) H'
variable {e : Expr} {te : TE} {p pos kpos : Pos}
theorem pe_x1 (c : XC X.prog X.w X.K X.mg X.base x f C) (hr : Room 2 X.A) (hg : Gl X x) (he : PE X e te)
    (hs : starEach [e] X.env = (false, eval e X.env) :: starEach [] X.env := by rfl) (hdb : (x == ("__debug__" : Str)) = false := by decide)
    (hpl : (backTo pos (starEach [] X.env)).any (·.1) = false := by rfl) :
    PE X (.Call (.Name x p) [e] [] pos) (tX1 C f te) := by
  obtain ⟨fI, fd, iC, tI, F1, b2, _, _⟩ := c.run
  refine ⟨fun pins s σ H Q I h => ?_⟩
  refine wpAny_Call_Name_kw (ld_glob I hg c.gC ?_ hdb)
  have ha : PA X [e] (tCons te tNil) := pa_cons he pa_nil hs
  refine PySem.W.callWith_K (h₀ := X.base) I.ok.mod.kin c.oex.kC (thn (ha.run pos pins s σ H (fun vs H1 => ∃ v, vs = [v] ∧ ∀ (a : Addr) (H' : Hp), H1 a = none → Same H1 H' → EA H' a C f v → Q (.ref a) H') I h)
    fun us s1 ⟨vs, H1, I1, r1, v, ev, q1⟩ => ⟨I1.kIn, ?_⟩) hs hpl
  subst ev
  cases r1 with
  | cons rv rn =>
    cases rn
    exact run_x c.oex iC tI F1 hr I1 (by show 1 ≤ 1000; decide) rv (fun s a k => b2 s a _ k) q1
theorem pe_x0 (c : XC X.prog X.w X.K X.mg X.base x f C) (hr : Room 2 X.A) (hg : Gl X x) (hdb : (x == ("__debug__" : Str)) = false := by decide) :
    PE X (.Call (.Name x p) [] [] pos) (tX0 C f) := by
  obtain ⟨fI, fd, iC, tI, F1, _, b1, _⟩ := c.run
  refine ⟨fun pins s σ H Q I h => ?_⟩
  refine wpAny_Call_Name_kw (ld_glob I hg c.gC ?_ hdb)
  exact PySem.W.callWith_K0 I.kIn c.oex.kC (run_x (us := []) (u := .none) (v := .non) c.oex iC tI F1 hr I (Nat.zero_le _) rfl (fun s a k => b1 s a k) h)
/-- C(f=e) -/
theorem pe_xk (c : XC X.prog X.w X.K X.mg X.base x f C) (hr : Room 2 X.A) (hg : Gl X x) (he : PE X e te) (hdb : (x == ("__debug__" : Str)) = false := by decide) :
    PE X (.Call (.Name x p) [] [⟨some f, e, kpos⟩] pos) (tX1 C f te) := by
  obtain ⟨fI, fd, iC, tI, F1, _, _, bk⟩ := c.run
  refine ⟨fun pins s σ H Q I h => ?_⟩
  refine wpAny_Call_Name_kw (ld_glob I hg c.gC ?_ hdb)
  have hk : PK X [⟨some f, e, kpos⟩] (tCons te tNil) := pk_cons he pk_nil
  refine PySem.W.callWith_KW0 (h₀ := X.base) I.ok.mod.kin c.oex.kC (by rfl) ?_ (by rfl)
  refine thn (hk.run pos pins s σ H (fun vs H1 => ∃ v, vs = [v] ∧ ∀ (a : Addr) (H' : Hp), H1 a = none → Same H1 H' → EA H' a C f v → Q (.ref a) H') I h) fun us s1 ⟨vs, H1, I1, r1, v, ev, q1⟩ => ⟨I1.kIn, ?_⟩
  subst ev
  cases r1 with
  | cons rv rn =>
    cases rn
    exact run_x (us := []) c.oex iC tI F1 hr I1 (Nat.zero_le _) rv (fun s a k => bk s a _ k) q1
/-- x.f of such an exception -/
def tXF (K : PySem.W.Frag) (P : Program) (w : World) (mg : Str → Option Value) (base : Heap) (f : Str) (te : TE) : TE := fun σ H Q => te σ H fun y H1 =>
  ∃ (a C : Addr) (x : Str) (v : V), y = .ref a ∧ XC P w K mg base x f C ∧ EA H1 a C f v ∧ Q v H1
theorem pe_xf1 (he : PE X e te) (hb : attributeBase e f X.env (eval e X.env) = eval e X.env := by rfl) : PE X (.Attribute e f pos) (tXF X.K X.prog X.w X.mg X.base f te) := by
  refine ⟨fun pins s σ H Q I h => ?_⟩
  refine attr_of hb (thn (he.run pins s σ H _ I h) fun u s1 hh => ?_)
  obtain ⟨y, H1, I1, ry, a, C, x, v, rfl, c, ⟨d, e1, e2⟩, q⟩ := hh
  obtain rfl : u = Value.ref a := ry
  obtain ⟨t1, ho⟩ := exo_at I1.hok e1
  obtain ⟨mA, hns, rel⟩ := exd_at I1.hok e2
  obtain ⟨od, hod, hl⟩ := lookIn_ns hns
  have l : List.lookup f [(f, v)] = some v := by simp [List.lookup]
  obtain ⟨u, hu, ru⟩ := RelO.some_of (v := v) (o := mA f) (by rw [← l]; exact rel f)
  have J : PySem.W.InstAt s1.heap a _ C (some od) := ⟨ho, rfl, rfl, hod⟩
  exact HandSPX.exc_get I1.kIn J c.ga c.gg c.oex.exC (PySem.W.findObj_own c.hdC c.noF rfl (by rw [hl, hu])) (handed_of ru) ⟨v, H1, I1.tok _, ru, q⟩
end
end L2
set_option maxHeartbeats 4000000
namespace L2
open PySem PySem.Spec PyProof.Rows
/-- what isinstance asks of an exception class -/
structure XKit (K : PySem.W.Frag) (D : Addr) : Prop where
  cl : (PySem.W.clsIn K D).isSome = true
  ga : PySem.W.findIn K (.ref D) "__getattribute__" = some (some (.builtin "BaseException.__getattribute__"))
  gg : PySem.W.findIn K (.ref D) "__getattr__" = some none
  sb : PySem.W.subIn K (.ref D) (.type "BaseException") = some true
  cc : PySem.W.findIn K (.ref D) "__class__" = some (some (.builtin "object.__class__"))
  ob : PySem.W.mroIn K D (.type "object") = some true
/-- .. and of the written part -/
structure XObj (K : PySem.W.Frag) : Prop where
  gt : PySem.W.specialIn K (.builtin "object.__class__") "__get__" = some (some (.builtin "getset_descriptor.__get__"))
  tk : PySem.W.takesIn K (.builtin "object.__class__") = some true
/-- an exception of D stands at a -/
def IsX (H : Hp) (a D : Addr) : Prop := (∃ f v, EA H a D f v) ∨ H a = some (ExO (.ref D) a)
theorem IsX.mono {H H' : Hp} {a D : Addr} (x : IsX H a D) (e : Same H H') : IsX H' a D := by
  rcases x with ⟨f, v, x⟩ | x
  · exact .inl ⟨f, v, x.mono e⟩
  · exact .inr (e _ _ x)
def rIsX (K : PySem.W.Frag) : List V → Hp → VK → Prop := fun xs H Q => ∃ (a D : Addr) (c : V) (u : Value) (b : Bool),
  xs = [.ref a, c] ∧ IsX H a D ∧ XKit K D ∧ ClsV c u ∧ PySem.W.kitOne K (.ref D) u = some b ∧ Q (.bl b) H
section
variable {X : Cx} {x f : Str} {C : Addr}
theorem call_isX (O : XObj X.K) : CallR X (.builtin "isinstance") (rIsX X.K) := by
  intro pins s σ H xs us Q I r h
  obtain ⟨a, D, c, u, b, rfl, hx, T, k, e, q⟩ := h
  obtain ⟨u1, u2, rfl, r1, r2⟩ := vals2 r
  have e2 := k.eq r2
  subst e2
  cases (show u1 = Value.ref a from r1)
  have J : ∃ ox od, PySem.W.InstAt s.heap a ox D od := by
    rcases hx with ⟨f, v, d, e1, e2⟩ | hx
    · obtain ⟨t1, ho⟩ := exo_at I.hok e1
      obtain ⟨mA, hns, rel⟩ := exd_at I.hok e2
      obtain ⟨od, hod, hl⟩ := lookIn_ns hns
      exact ⟨_, some od, ho, rfl, rfl, hod⟩
    · obtain ⟨⟨oe, vs, ho, hz, hd, _⟩, _, _⟩ := I.hok a _ hx
      obtain ⟨oc, odd, oda, osl⟩ := oe
      obtain ⟨h1, h2⟩ := hz
      dsimp only at h1 h2 hd
      subst h1 h2 hd
      exact ⟨_, none, ho, rfl, rfl, trivial⟩
  obtain ⟨ox, od, J⟩ := J
  exact PySem.W.kia_one (PySem.W.kitx_exc T.cl T.ga T.gg T.sb T.cc O.gt O.tk T.ob) I.kIn J e (fun z => nomatch z) fun tk => ⟨.bl b, H, I.tok tk, rfl, q⟩
/-- X(), an own exception class without own __init__, as a value -/
theorem pe_exc0 {bmB : List Value} {B newId initId : String} {p pos : Pos} (F : ExcBaseFacts B newId initId bmB) (q : PySem.W.excIn X.K C bmB newId = true) (gC : X.mg x = some (.ref C)) (kC : PySem.W.keepIn X.K (.ref C) = true) (hg : Gl X x)
    (hdb : (x == ("__debug__" : Str)) = false := by decide) :
    PE X (.Call (.Name x p) [] [] pos) (fun _ H Q => ∀ a, H a = none → Q (.ref a) (upd H a (ExO (.ref C) a))) := by
  refine ⟨fun pins s σ H Q I h => ?_⟩
  refine wpAny_Call_Name_kw (ld_glob I hg gC ?_ hdb)
  refine PySem.W.callWith_K0 I.kIn kC ?_
  show wpAny _ _ (call (.ref C) []) _ _ _
  obtain ⟨bm, N, nm, qn, bs, hdct, sn, sub, ab, col, dd, k0, k1, k2, k3, k5, mN, hC, hN, hni, T⟩ := exc_obj I.kIn q
  refine wpAny_call_exc_subT F T hC hN hni (fun h' a hm => ?_) (Nat.zero_le _)
  have hn : H a = none := I.hok.gone hm.new
  obtain ⟨t, ht, _, _⟩ := hm.there
  exact ⟨.ref a, upd H a (ExO (.ref C) a), I.laidN hm.keeps hm.new hn (exO_ok ht ⟨rfl, rfl⟩ rfl rfl rfl (show 4 < 6 by decide)), rfl, h a hn⟩
end
/-! ### repr of what is known as data -/
/-- v is the data d, wherever the abstract heap is held -/
def Rdd (P : Program) (w : World) (K : PySem.W.Frag) (H : Hp) (v : V) (d : PyData) : Prop :=
  ∀ (h : Heap) (u : Value), HOk P w H h → K.In h → RelV v u → ∃ as, Reads h u d as ∧ ∀ b ∈ as, H b ≠ none
def RddAll (P : Program) (w : World) (K : PySem.W.Frag) (H : Hp) (vs : List V) (ds : List PyData) : Prop :=
  ∀ (h : Heap) (us : List Value), HOk P w H h → K.In h → Vals vs us → ∃ as, ReadsAll h us ds as ∧ ∀ b ∈ as, H b ≠ none
section
variable {P : Program} {w : World} {K : PySem.W.Frag} {H : Hp} {v : V} {vs : List V} {d : PyData} {ds : List PyData} {a : Addr}
theorem rdd_non : Rdd P w K H .non .none := fun h u _ _ r => by
  obtain rfl : u = Value.none := r
  exact ⟨[], .none, fun b z => nomatch z⟩
theorem rdd_bl (b : Bool) : Rdd P w K H (.bl b) (.bool b) := fun h u _ _ r => by
  obtain rfl : u = Value.bool b := r
  exact ⟨[], .bool b, fun b z => nomatch z⟩
theorem rdd_int (i : Int) : Rdd P w K H (.int i) (.int i) := fun h u _ _ r => by
  obtain ⟨t, rfl⟩ := (show ∃ t, u = Value.int i t from r)
  exact ⟨[], .int i t, fun b z => nomatch z⟩
theorem rdd_str (x : Str) : Rdd P w K H (.str x) (.str x) := fun h u _ _ r => by
  obtain ⟨t, rfl⟩ := (show ∃ t, u = Value.str x t from r)
  exact ⟨[], .str x t, fun b z => nomatch z⟩
theorem rddAll_nil : RddAll P w K H [] [] := fun h us _ _ r => by
  cases r
  exact ⟨[], .nil, fun b z => nomatch z⟩
theorem rddAll_cons (h1 : Rdd P w K H v d) (h2 : RddAll P w K H vs ds) : RddAll P w K H (v :: vs) (d :: ds) := fun h us ok kin r => by
  cases r with
  | cons r1 r2 =>
    obtain ⟨as, x1, y1⟩ := h1 h _ ok kin r1
    obtain ⟨bs, x2, y2⟩ := h2 h _ ok kin r2
    exact ⟨as ++ bs, .cons x1 x2, fun b hb => (List.mem_append.mp hb).elim (y1 b) (y2 b)⟩
theorem rdd_lst (e : H a = some (.lst vs)) (h1 : RddAll P w K H vs ds) : Rdd P w K H (.ref a) (.list ds) := fun h u ok kin r => by
  obtain rfl : u = Value.ref a := r
  obtain ⟨_, its, n, rv, ho⟩ := (show ObjOk P w H h a (.lst vs) from ok a _ e)
  obtain ⟨as, x1, y1⟩ := h1 h _ ok kin rv
  refine ⟨a :: as, .list ho rfl rfl x1, fun b hb => ?_⟩
  rcases List.mem_cons.mp hb with z | z
  · rw [z, e]
    exact fun q => nomatch q
  · exact y1 b z
theorem rdd_tup (e : H a = some (.tup vs)) (h1 : RddAll P w K H vs ds) : Rdd P w K H (.ref a) (.tuple ds) := fun h u ok kin r => by
  obtain rfl : u = Value.ref a := r
  obtain ⟨_, its, rv, o, ho, hc, n, hd⟩ := (show ObjOk P w H h a (.tup vs) from ok a _ e)
  obtain ⟨as, x1, y1⟩ := h1 h _ ok kin rv
  exact ⟨as, .tuple ho hc hd x1, y1⟩
end
section
variable {X : Cx}
/-- repr(x), x known as data -/
def rRepr (P : Program) (w : World) (K : PySem.W.Frag) : List V → Hp → VK → Prop := fun xs H Q => ∃ (a : Addr) (d : PyData),
  xs = [.ref a] ∧ Rdd P w K H (.ref a) d ∧ d.showable = true ∧ d.shown.length ≤ sizeLine ∧ d.depth ≤ 60 ∧ Q (.str d.shown) H
theorem call_repr (hg : X.A.guards = some []) (hs : ∃ o, X.base.get? sysModules = some o) (hu : X.A.units + 64 < cLine) : CallR X (.builtin "repr") (rRepr X.prog X.w X.K) := by
  intro pins s σ H xs us Q I r h
  obtain ⟨a, d, rfl, rd, sh, sz, dp, q⟩ := h
  obtain ⟨u, rfl, ru⟩ := vals1 r
  obtain rfl : u = Value.ref a := ru
  obtain ⟨as, x1, y1⟩ := rd s.heap _ I.hok I.kIn rfl
  obtain ⟨o, ho⟩ := hs
  have nosys : sysModules ∉ as := fun hm => y1 _ hm (I.bs _ _ ho).2
  exact PySem.repr_of_reads' x1 sh (fun _ => nosys) hg (by omega) (fun _ _ z => z) (fun h' u tk k => ⟨.str _, H, I.kept k, ⟨_, rfl⟩, q⟩) sz
end
end L2
set_option maxHeartbeats 4000000
namespace Nv
open PySem PySem.Spec PyProof.Rows L2
section
variable {P : Program} {w : World} {K : PySem.W.Frag} {H : Hp}
theorem rddAll_strs : ∀ xs : List Str, RddAll P w K H (xs.map V.str) (xs.map PyData.str)
  | [] => rddAll_nil
  | x :: xs => rddAll_cons (rdd_str x) (rddAll_strs xs)
theorem rdd_T {t : Addr} {p : List Str} (e : H t = some (.tup (p.map V.str))) : Rdd P w K H (.ref t) (dT p) := rdd_tup e (rddAll_strs p)
theorem rdd_S {t : Addr} {p : List Str} (e : H t = some (.lst (p.map V.str))) : Rdd P w K H (.ref t) (dS p) := rdd_lst e (rddAll_strs p)
theorem PaL.rdd {vs : List V} {ps : List (List Str)} (h : PaL H vs ps) : RddAll P w K H vs (ps.map dT) := by
  induction h with
  | nil => exact rddAll_nil
  | cons e _ ih => exact rddAll_cons (rdd_T e) ih
theorem rdd_L {t : Addr} {vs : List V} {ps : List (List Str)} (e : H t = some (.lst vs)) (h : PaL H vs ps) : Rdd P w K H (.ref t) (dL ps) := rdd_lst e h.rdd
end
end Nv
set_option maxHeartbeats 4000000
namespace Nv
open PySem PySem.Spec PyProof.Rows L2
/-! ### how long what repr shows may be -/
def Shw (k n : Nat) (d : PyData) : Prop := d.showable = true ∧ d.shown.length ≤ n ∧ d.depth ≤ k
theorem textFrom_le : ∀ (ts : List Str) (k : Nat) (acc : Str), (textFrom k acc ts).length ≤ acc.length + piled ts
  | [], _, acc => Nat.le_add_right _ _
  | t :: r, k, acc => by
    have ih := textFrom_le r (k + 1) (acc ++ (if k > 0 then ", " else "" : String) ++ t)
    have e : (acc ++ (if k > 0 then ", " else "" : String) ++ t).length = acc.length + (if k > 0 then 2 else 0) + t.length := by
      rw [strLen_append, strLen_append]
      split <;> rfl
    rw [e] at ih
    rw [piled_cons]
    show (textFrom (k + 1) _ r).length ≤ _
    have le2 : (if k > 0 then 2 else 0 : Nat) ≤ 2 := by split <;> omega
    omega
theorem listText_le (ts : List Str) : (listText ts).length ≤ 2 + piled ts := by
  have h := textFrom_le ts 0 "["
  have e1 : (("[" : String) : Str).length = 1 := rfl
  have e2 : (("]" : String) : Str).length = 1 := rfl
  unfold listText
  rw [strLen_append, e2]
  rw [e1] at h
  omega
theorem tupleText_le (ts : List Str) : (tupleText ts).length ≤ 3 + piled ts := by
  unfold tupleText
  rw [strLen_append, strLen_append]
  have e1 : ((("(" : String) : Str)).length = 1 := rfl
  have e3 : (((if ts.length == 1 then ",)" else ")" : String) : Str)).length ≤ 2 := by split <;> decide
  rw [e1]
  cases ts with
  | nil =>
    have e4 : (Str.join ", " []).length = 0 := by decide
    rw [e4]
    omega
  | cons t r =>
    have e4 := join_length_add (t :: r) (by simp)
    omega
theorem Shw.le {k n k' n' : Nat} {d : PyData} (h : Shw k n d) (hk : k ≤ k') (hn : n ≤ n') : Shw k' n' d := ⟨h.1, Nat.le_trans h.2.1 hn, Nat.le_trans h.2.2 hk⟩
theorem shw_all {k m : Nat} : ∀ {ds : List PyData}, (∀ d ∈ ds, Shw k m d) → PyData.showableAll ds = true ∧ piled (PyData.shownAll ds) ≤ ds.length * (m + 2) ∧ PyData.depthAll ds ≤ k
  | [], _ => ⟨by simp [PyData.showableAll], by simp [PyData.shownAll, piled_nil], by simp [PyData.depthAll]⟩
  | d :: ds, h => by
    obtain ⟨a, b, c⟩ := h d List.mem_cons_self
    obtain ⟨h1, h2, h3⟩ := shw_all (ds := ds) fun x hx => h x (List.mem_cons_of_mem _ hx)
    refine ⟨by simp [PyData.showableAll, a, h1], ?_, ?_⟩
    · simp only [PyData.shownAll, piled_cons, List.length_cons, Nat.add_mul, Nat.one_mul]
      omega
    · simp only [PyData.depthAll]
      omega
theorem shw_list {k m n : Nat} {ds : List PyData} (h : ∀ d ∈ ds, Shw k m d) (hn : 2 + ds.length * (m + 2) ≤ n) : Shw (k + 1) n (.list ds) := by
  obtain ⟨h1, h2, h3⟩ := shw_all h
  refine ⟨by simpa [PyData.showable] using h1, ?_, ?_⟩
  · simp only [PyData.shown]
    exact Nat.le_trans (listText_le _) (by omega)
  · simp only [PyData.depth]
    omega
theorem shw_tup {k m n : Nat} {ds : List PyData} (h : ∀ d ∈ ds, Shw k m d) (hn : 3 + ds.length * (m + 2) ≤ n) : Shw (k + 1) n (.tuple ds) := by
  obtain ⟨h1, h2, h3⟩ := shw_all h
  refine ⟨by simpa [PyData.showable] using h1, ?_, ?_⟩
  · simp only [PyData.shown]
    exact Nat.le_trans (tupleText_le _) (by omega)
  · simp only [PyData.depth]
    omega
theorem shw_str {z : Str} (h : Asc z) (l : z.length ≤ 10) : Shw 0 102 (.str z) := by
  refine ⟨by simp [PyData.showable], ?_, by simp [PyData.depth]⟩
  simp only [PyData.shown]
  have := StrLaws.reprText_len z fun c hc => Nat.lt_trans (h c hc) (by decide)
  omega
/-- a text of at most ten signs -/
def Shz (z : Str) : Prop := Asc z ∧ z.length ≤ 10
theorem IsNm.shz {z : Str} (h : IsNm z) : Shz z := ⟨h.asc, h.2.1⟩
theorem IsVr.shz {z : Str} (h : IsVr z) : Shz z := ⟨h.asc, Nat.le_trans h.2.1 (by decide)⟩
theorem PatOk.shz {p : List Str} (h : PatOk p) : p.length ≤ 4 ∧ ∀ x ∈ p, Shz x := by
  obtain ⟨w, ts, rfl, hw, h3, ht⟩ := h
  refine ⟨by rw [List.length_cons]; omega, fun x hx => ?_⟩
  rcases List.mem_cons.mp hx with rfl | hx
  · exact hw.shz
  · exact (ht x hx).elim IsVr.shz IsNm.shz
theorem PairOk.shz {p : List Str} (h : PairOk p) : p.length ≤ 4 ∧ ∀ x ∈ p, Shz x := by
  obtain ⟨x, y, rfl, _, h1, h2, _⟩ := h
  refine ⟨by show 2 ≤ 4; decide, fun z hz => ?_⟩
  simp only [List.mem_cons, List.not_mem_nil, or_false] at hz
  rcases hz with rfl | rfl
  · exact h1.elim IsNm.shz IsVr.shz
  · exact h2.elim IsNm.shz IsVr.shz
theorem shw_strs {p : List Str} (h : ∀ x ∈ p, Shz x) : ∀ d ∈ p.map PyData.str, Shw 0 102 d := fun d hd => by
  obtain ⟨x, hx, rfl⟩ := List.mem_map.mp hd
  exact shw_str (h x hx).1 (h x hx).2
theorem shw_T {p : List Str} (l : p.length ≤ 4) (h : ∀ x ∈ p, Shz x) : Shw 1 419 (dT p) := shw_tup (shw_strs h) (by rw [List.length_map]; omega)
theorem shw_S {p : List Str} (l : p.length ≤ 300) (h : ∀ x ∈ p, Shz x) : Shw 1 31202 (dS p) := shw_list (shw_strs h) (by rw [List.length_map]; omega)
theorem shw_L {ps : List (List Str)} (l : ps.length ≤ 300) (h : ∀ p ∈ ps, p.length ≤ 4 ∧ ∀ x ∈ p, Shz x) : Shw 2 126302 (dL ps) := by
  refine shw_list (k := 1) (m := 419) (fun d hd => ?_) (by rw [List.length_map]; omega)
  obtain ⟨p, hp, rfl⟩ := List.mem_map.mp hd
  exact shw_T (h p hp).1 (h p hp).2
/-- what a rule is made of, as data -/
def dR (x : Rl) : PyData := .list [.str x.l, dT x.h, dL x.ps, dL x.qs, dL x.ds]
theorem shw_R {x : Rl} (h : x.Ok) : Shw 3 700000 (dR x) := by
  refine shw_list (k := 2) (m := 126302) (fun d hd => ?_) (by show 2 + 5 * 126304 ≤ 700000; decide)
  simp only [List.mem_cons, List.not_mem_nil, or_false] at hd
  rcases hd with rfl | rfl | rfl | rfl | rfl
  · exact (shw_str h.l.asc h.l.2.1).le (by decide) (by decide)
  · exact (shw_T h.h.shz.1 h.h.shz.2).le (by decide) (by decide)
  · exact shw_L h.pl fun p hp => (h.ps p hp).shz
  · exact shw_L h.ql fun p hp => (h.qs p hp).shz
  · exact shw_L h.dl fun p hp => (h.ds p hp).shz
theorem Shw.fits {k n : Nat} {d : PyData} (h : Shw k n d) (hk : k ≤ 60) (hn : n ≤ 1000000) : d.showable = true ∧ d.shown.length ≤ sizeLine ∧ d.depth ≤ 60 :=
  ⟨h.1, Nat.le_trans h.2.1 (Nat.le_trans hn (by decide)), Nat.le_trans h.2.2 hk⟩
section
variable {X : Cx}
/-- repr(flag) -/
def rReprB : List V → Hp → VK → Prop := fun xs H Q => ∃ b : Bool, xs = [.bl b] ∧ Q (.str (if b = true then Str.ofString "True" else Str.ofString "False")) H
theorem call_reprB : CallR X (.builtin "repr") rReprB := by
  intro pins s σ H xs us Q I r h
  obtain ⟨b, rfl, q⟩ := h
  obtain ⟨u, rfl, ru⟩ := vals1 r
  obtain rfl : u = Value.bool b := ru
  exact P.repr_of_bool ⟨.str _, H, I.tok _, ⟨_, rfl⟩, q⟩
end
end Nv
set_option maxHeartbeats 8000000
namespace Nv
open PySem PySem.Spec PyProof.Rows L2 TL
/-! # the law -/
def spLaw (K : PySem.W.Frag) : Sp := fun vs H Q _ => ∃ (al : Addr) (ns : List Int), vs = [.ref al] ∧ SqL K H al (ns.map V.int) ∧ ns.length ≤ 63 ∧ ∀ H', Q (.bl true) H'
abbrev nLaw : List Str := ["_law_script", "_law_purse_here", "_law_names_here", "_law_kinds_here", "_law_book", "_law_store_here", "_law_rule_here", "_law_kept", "_law_texts", "_law_fact_here", "_law_lines", "_law_text", "_law_line", "_law_told_here", "_law_other"]
theorem scLaw : FnScope nLaw ["_law_script"] (defScope sLaw) := ⟨rfl, rfl, rfl, by decide +kernel, rfl, by decide +kernel, by decide +kernel⟩
section
variable (P : Program) (w : World) (K : PySem.W.Frag) (mg : Str → Option Value) (base : Heap)
/-- Book's own == -/
structure OwnB (CR C : Addr) : Prop where
  ex : ∃ f fd, FnOk P w K mg base CX0 3 f fd ["self", "other"] (spBookEq K CR C) ∧ PySem.W.findIn K (.ref C) "__eq__" = some (some (.ref f)) ∧ PySem.W.isFn K (.ref f) = true ∧ Binds K fd ["self", "other"] []
  ne : PySem.W.findIn K (.ref C) "__ne__" = some (some (.builtin "object.__ne__"))
end
theorem Pu.other {H H1 : Hp} {a b : Addr} {n : Nat} (p : Pu H b n) (ne : b ≠ a) (s : Sb a H H1) : Pu H1 b n := by
  obtain ⟨x, d, t, k, e, h⟩ := p.ex
  exact ⟨⟨x, d, t, k, s _ _ ne e, h⟩⟩
theorem refs_not {bs : List Addr} {i : Nat} {a : Addr} (h : bs[i]? = some a) {s d t k : Int} : HO.lst (bs.map V.ref) ≠ .lst [.int s, .int d, .int t, .int k] := fun z => by
  injection z with z
  cases bs with
  | nil => cases h
  | cons b bs => injection z with z _; cases z
theorem pu_not {H : Hp} {a p : Addr} {n : Nat} {xs : List V} (pu : Pu H a n) (h : ∀ s d t k : Int, HO.lst xs ≠ .lst [.int s, .int d, .int t, .int k]) (e : H p = some (.lst xs)) : p ≠ a := fun z => by
  obtain ⟨s, d, t, k, e2, _⟩ := pu.ex
  rw [z, e2] at e
  exact h s d t k (Option.some.inj e).symm
theorem ne_same {K : PySem.W.Frag} {H : Hp} {x y : V} {d : PyData} {n : Nat} {Q : VK} (hx : Dp K H x d) (hy : Dp K H y d) (l : Lay n d) (hn : n ≤ 50) (q : Q (.bl false) H) : rNeD K x y H Q :=
  ⟨d, d, hx, hy, l.shaped hn, l.shaped hn, by rw [PySem.SeqAt.eqv_refl d l.1]; exact q⟩
theorem ne_books {C CR : Addr} {H : Hp} {b c : Addr} {rs ss : List Addr} {xs ys : List Rl} {Q : VK} {K : PySem.W.Frag} (cl : Cls K C) (I : IC K C) (ba : BA C H b rs) (hx : RAs CR H rs xs) (ox : ∀ x ∈ xs, x.Ok) (bc : BA C H c ss) (hy : RAs CR H ss ys) (oy : ∀ y ∈ ys, y.Ok) (q : ∀ H', Same H H' → Q (.bl (!decide (xs = ys))) H') : rOwnNe K C (spBookEq K CR C) (.ref b) (.ref c) H Q := by
  obtain ⟨dx, l, e, _⟩ := id ba
  obtain ⟨dy, m, e', _⟩ := id bc
  exact ⟨b, dx, _, _, rfl, e, .base (.ins e' cl I.ha I.hn I.ht I.hm), by simp [PySem.W.notFirst], b, rs, xs, _, rfl, ba, hx, ox, .inl ⟨c, ss, ys, rfl, bc, hy, oy, one_of hx hy, fun H' s => ⟨_, rfl, q H' s⟩⟩⟩
theorem nes {v : V} : (!decide (v = v)) = false := by simp
theorem FactOk.shz {p : List Str} (h : FactOk p) : p.length ≤ 4 ∧ ∀ x ∈ p, Shz x := ⟨h.1.2, fun x hx => (h.2 x hx).shz⟩
/-- what stands when the drawing is done -/
structure Wb (CR CB bk sl : Addr) (rs : List Addr) (us : List V) (xs : List Rl) (ps : List (List Str)) (G : Hp) : Prop where
  ba : BA CB G bk rs
  ra : RAs CR G rs xs
  st : StoreAt G sl us ps
theorem Wb.same {CR CB bk sl : Addr} {rs : List Addr} {us : List V} {xs : List Rl} {ps : List (List Str)} {G G1 : Hp} (h : Wb CR CB bk sl rs us xs ps G) (s : Same G G1) : Wb CR CB bk sl rs us xs ps G1 := by
  obtain ⟨dx, l, e1, e2⟩ := h.ba
  exact ⟨⟨dx, l, s _ _ e1, s _ _ e2⟩, h.ra.same s, h.st.same s⟩
section
variable {P : Program} {w : World} {K : PySem.W.Frag} {mg : Str → Option Value} {base : Heap}
theorem ok_law {f CR CB : Addr} {fd : FuncData} (F : Fun K "law" "law" sLaw f fd) (B : Bp mg) (B2 : Bl mg) (rp : mg "repr" = none) (so : mg "sorted" = none) (zp : mg "zip" = none) (sy : ∃ o, base.get? sysModules = some o)
    (RR : RC K CR) (IR : IC K CR) (cB : Cls K CB) (IB : IC K CB) (ER : OwnE P w K mg base CR) (EB : OwnB P w K mg base CR CB) (ML : MethL P w K mg base CB "rules" "_rules")
    (CPs : CallA P w K mg base "_law_purses" 2 ["_law_script", "_law_few"] (spPurses K)) (CNa : CallA P w K mg base "_law_names" 4 ["_law_purse_here", "_law_many"] (spNames)) (CKi : CallA P w K mg base "_law_kinds" 4 ["_law_purse_here", "_law_many"] (spKinds))
    (CDr : CallA P w K mg base "_law_draw" 2 ["_law_purse_here", "_law_many"] spDraw) (CAB : CallA P w K mg base "_law_any_book" 9 ["_law_purse_here", "_law_kinds_here", "_law_names_here", "_law_most"] (spAnyBook CR CB))
    (CSt : CallA P w K mg base "_law_store" 5 ["_law_purse_here", "_law_kinds_here", "_law_names_here", "_law_most"] (spStore K)) (CLR : CallA P w K mg base "_law_rule_text" 3 ["_law_rule_here"] (spRuleT CR)) (CLP : CallA P w K mg base "_law_pattern_text" 1 ["_law_pattern_here"] (spPatT K))
    (CRT : CallA P w K mg base "rule_text" 3 ["rule"] (spRuleT CR)) (CBT : CallA P w K mg base "book_text" 4 ["book"] (spBookT CR CB)) (CST : CallA P w K mg base "store_text" 6 ["store"] (spStoreT K)) (CFT : CallA P w K mg base "fact_text" 5 ["fact"] (spFactT K))
    (CRR : CallA P w K mg base "read_rule" 8 ["text"] (spRuleIn K CR)) (CRF : CallA P w K mg base "read_fact" 5 ["text"] (spFactIn K)) (CRB : CallA P w K mg base "read_book" 8 ["text"] (spReadBook K CR CB)) (CRS : CallA P w K mg base "read_store" 5 ["text"] (spReadStore K))
    (COd : CallA P w K mg base "_law_odd_words_right" 9 [] spOdd) :
    RunG P w K mg base 10 f fd ["_law_script"] (spLaw K) := by
  obtain ⟨fe, de, Ge, se, ie, be⟩ := ER.ex
  have nR := ER.ne
  obtain ⟨fb, db, Gb, sb, ib, bb⟩ := EB.ex
  have nB := EB.ne
  obtain ⟨fM, dM, mM, GM, bM⟩ := ML.ex
  obtain ⟨f1, d1, G1, k1, g1, b1⟩ := CPs.ex
  obtain ⟨f2, d2, G2, k2, g2, b2⟩ := CNa.ex
  obtain ⟨f3, d3, G3, k3, g3, b3⟩ := CKi.ex
  obtain ⟨f4, d4, G4, k4, g4, b4⟩ := CDr.ex
  obtain ⟨f5, d5, G5, k5, g5, b5⟩ := CAB.ex
  obtain ⟨f6, d6, G6, k6, g6, b6⟩ := CSt.ex
  obtain ⟨f7, d7, G7, k7, g7, b7⟩ := CLR.ex
  obtain ⟨f8, d8, G8, k8, g8, b8⟩ := CLP.ex
  obtain ⟨f9, d9, G9, k9, g9, b9⟩ := CRT.ex
  obtain ⟨f10, d10, G10, k10, g10, b10⟩ := CBT.ex
  obtain ⟨f11, d11, G11, k11, g11, b11⟩ := CST.ex
  obtain ⟨f12, d12, G12, k12, g12, b12⟩ := CFT.ex
  obtain ⟨f13, d13, G13, k13, g13, b13⟩ := CRR.ex
  obtain ⟨f14, d14, G14, k14, g14, b14⟩ := CRF.ex
  obtain ⟨f15, d15, G15, k15, g15, b15⟩ := CRB.ex
  obtain ⟨f16, d16, G16, k16, g16, b16⟩ := CRS.ex
  obtain ⟨f17, d17, G17, k17, g17, b17⟩ := COd.ex
  refine run_ofG F scLaw (fun vs H Q E h => ?_) (fun cdv A outer s H vs Q hg hr h => ?_)
  · obtain ⟨al, ns, rfl, _⟩ := h
    rfl
  · obtain ⟨al, ns, rfl, hal, hnl, q⟩ := h
    have hr1 : Room 1 _ := hr.mono (by decide)
    have hr2 : Room 2 _ := hr.mono (by decide)
    have hr3 : Room 3 _ := hr.mono (by decide)
    have hr4 : Room 4 _ := hr.mono (by decide)
    have hr5 : Room 5 _ := hr.mono (by decide)
    have hr6 : Room 6 _ := hr.mono (by decide)
    have hr8 : Room 8 _ := hr.mono (by decide)
    have hu : (A.deeper (envOfC "law" (defScope sLaw) s.heap.objs.size f cdv)).units + 64 < cLine := hr.units
    refine ⟨_, pss_cons (ps_for PassesOwn.never rfl (pi_list (by exact (pe_call G1 hr2 (by rfl) g1 k1 b1 .nil pass0 (pa_cons (pv 0) (pa_cons pe_int pa_nil))))) (pg_name (i := 1) scLaw.nd rfl (Or.inl rfl))
        (pss_cons (ps_par (i := 2) (j := 3) (by rfl) scLaw.nd rfl rfl (by decide) rfl rfl (pa_cons (by exact (pe_call G2 hr4 (by rfl) g2 k2 b2 .nil pass0 (pa_cons (pv 1) (pa_cons pe_int pa_nil)))) (pa_cons (by exact (pe_call G3 hr4 (by rfl) g3 k3 b3 .nil pass0 (pa_cons (pv 1) (pa_cons pe_int pa_nil)))) pa_nil)) (by rfl))
        (pss_cons (ps_set (i := 3) scLaw.nd rfl (Or.inl rfl) (pe_op op_cat (pv 3) (pe_slice sl_list (pe_lst (pa_cons (pe_tup (pa_cons pe_str (pa_cons pe_int pa_nil))) (pa_cons (pe_tup (pa_cons pe_str (pa_cons pe_int pa_nil))) (pa_cons (pe_tup (pa_cons pe_str (pa_cons pe_int pa_nil))) pa_nil)))) po_none (po_some (by exact (pe_call G4 hr2 (by rfl) g4 k4 b4 .nil pass0 (pa_cons (pv 1) (pa_cons pe_int pa_nil))))))))
        (pss_cons (ps_par (i := 4) (j := 5) (by rfl) scLaw.nd rfl rfl (by decide) rfl rfl (pa_cons (by exact (pe_call G5 hr (by rfl) g5 k5 b5 .nil pass0 (pa_cons (pv 1) (pa_cons (pv 3) (pa_cons (pv 2) (pa_cons pe_int pa_nil)))))) (pa_cons (by exact (pe_call G6 hr5 (by rfl) g6 k6 b6 .nil pass0 (pa_cons (pv 1) (pa_cons (pv 3) (pa_cons (pv 2) (pa_cons pe_int pa_nil)))))) pa_nil)) (by rfl))
        (pss_cons (ps_par (i := 7) (j := 8) (by rfl) scLaw.nd rfl rfl (by decide) rfl rfl (pa_cons (pe_callTy call_list_of (by rfl) B.lst PyProof.Rows.boot_list (pa_cons (pv 5) pa_nil)) (pa_cons (by exact (pe_lc (own := [("_law_rule_here", 6)]) (g := gName 6) (tt := tYes) (te := tCall (spRuleT CR) [] E0 (tCons (tVar 6) tNil)) rfl scLaw.nd (pi_list (by exact (pe_meth0 (pv 4) cB mM GM hr1 bM .nil pass0)))
            (blkOk_by (own := [("_law_rule_here", 6)]) (N := nLaw) (sc := defScope sLaw) (by decide +kernel))
            (fun _ _ _ _ _ => pg_name (i := 6) scLaw.nd rfl (Or.inl rfl)) (fun _ _ _ _ _ => pts_nil)
            (fun _ _ _ _ _ => by exact (pe_call G7 hr3 (by rfl) g7 k7 b7 .nil pass0 (pa_cons (pv 6) pa_nil))))) pa_nil)) (by rfl))
        (pss_cons (ps_if (PW.pt (pw_or (pt_cmpR (op_neD hu) (by exact (pe_lc (own := [("_law_rule_here", 6)]) (g := gName 6) (tt := tYes) (te := tCall (spRuleT CR) [] E0 (tCons (tVar 6) tNil)) rfl scLaw.nd (pi_list (by exact (pe_meth0 (pv 4) cB mM GM hr1 bM .nil pass0)))
            (blkOk_by (own := [("_law_rule_here", 6)]) (N := nLaw) (sc := defScope sLaw) (by decide +kernel))
            (fun _ _ _ _ _ => pg_name (i := 6) scLaw.nd rfl (Or.inl rfl)) (fun _ _ _ _ _ => pts_nil)
            (fun _ _ _ _ _ => by exact (pe_call G9 hr3 (by rfl) g9 k9 b9 .nil pass0 (pa_cons (pv 6) pa_nil))))) (pv 8) (nomark _))
          (pw_or1 (pt_cmpR op_ne (by exact (pe_call G10 hr4 (by rfl) g10 k10 b10 .nil pass0 (pa_cons (pv 4) pa_nil))) (by exact (pe_join pe_str (pv 8))) (nomark _))))) (pss_one (ps_ret pe_bl)) pss_nil)
        (pss_cons (by exact (ps_setLc (i := 10) (own := [("_law_fact_here", 9)]) (g := gName 9) (tt := tYes) (te := tCall (spPatT K) [] E0 (tCons (tVar 9) tNil)) rfl scLaw.nd rfl rfl (sw_true rfl rfl rfl (by decide +kernel))
            (pi_list (pe_callB (cr_sortTx hu) (by rfl) so bootSorted (pa_cons (pv 5) pa_nil)))
            (blkOk_by (own := [("_law_fact_here", 9)]) (N := nLaw) (sc := defScope sLaw) (by decide +kernel))
            (fun _ _ _ _ _ => pg_name (i := 9) scLaw.nd rfl (Or.inl rfl)) (fun _ _ _ _ _ => pts_nil)
            (fun _ _ _ _ _ => by exact (pe_call G8 hr1 (by rfl) g8 k8 b8 .nil pass0 (pa_cons (pv 9) pa_nil)))))
        (pss_cons (ps_if (pt_cmpR op_ne (by exact (pe_call G11 hr6 (by rfl) g11 k11 b11 .nil pass0 (pa_cons (pv 5) pa_nil))) (by exact (pe_join pe_str (pv 10))) (nomark _)) (pss_one (ps_ret pe_bl)) pss_nil)
        (pss_cons (ps_if (PW.pt (pw_or (pt_cmpR (op_neD hu) (by exact (pe_lc (own := [("_law_fact_here", 9)]) (g := gName 9) (tt := tYes) (te := tCall (spFactT K) [] E0 (tCons (tVar 9) tNil)) rfl scLaw.nd (pi_list (pe_callB (cr_sortTx hu) (by rfl) so bootSorted (pa_cons (pv 5) pa_nil)))
            (blkOk_by (own := [("_law_fact_here", 9)]) (N := nLaw) (sc := defScope sLaw) (by decide +kernel))
            (fun _ _ _ _ _ => pg_name (i := 9) scLaw.nd rfl (Or.inl rfl)) (fun _ _ _ _ _ => pts_nil)
            (fun _ _ _ _ _ => by exact (pe_call G12 hr5 (by rfl) g12 k12 b12 .nil pass0 (pa_cons (pv 9) pa_nil))))) (pv 10) (nomark _))
          (pw_or1 (pt_cmpR (op_neD hu) (pv 5) (pv 7) (nomark _))))) (pss_one (ps_ret pe_bl)) pss_nil)
        (pss_cons (ps_for PassesOwn.never rfl (pi_zip (by rfl) zp (pa_cons (by exact (pe_meth0 (pv 4) cB mM GM hr1 bM .nil pass0)) (pa_cons (pv 8) pa_nil))) (pg_tup rfl (pgs_cons (pg_name (i := 6) scLaw.nd rfl (Or.inr rfl)) (pgs_cons (pg_name (i := 11) scLaw.nd rfl (Or.inr rfl)) pgs_nil)))
          (pss_cons (ps_if (pt_cmpR (op_ownNe Ge hr2 se nR IR.hm ie be) (by exact (pe_call G13 hr8 (by rfl) g13 k13 b13 .nil pass0 (pa_cons (pv 11) pa_nil))) (pv 6) (nomark _)) (pss_one (ps_ret pe_bl)) pss_nil)
          (pss_one (ps_if (pt_cmpR (op_neD hu) (by exact (pe_lc (own := [("_law_other", 14)]) (g := gName 14) (tt := tAnd (tTest (tOp (rOwnNe K CR (spRuleEq K CR)) (tVar 14) (tVar 6))) (tTest (tOp rEq (tCall (spRuleT CR) [] E0 (tCons (tVar 14) tNil)) (tVar 11)))) (te := tVar 14) rfl scLaw.nd (pi_list (by exact (pe_meth0 (pv 4) cB mM GM hr1 bM .nil pass0)))
            (blkOk_by (own := [("_law_other", 14)]) (N := nLaw) (sc := defScope sLaw) (by decide +kernel))
            (fun _ _ _ _ _ => pg_name (i := 14) scLaw.nd rfl (Or.inl rfl)) (fun _ _ _ _ _ => pts_one (by exact (PW.pt (pw_and (pt_cmpR (op_ownNe Ge hr2 se nR IR.hm ie be) (pv 14) (pv 6) (nomark _)) (pw_and1 (pt_cmpR op_eq (by exact (pe_call G9 hr3 (by rfl) g9 k9 b9 .nil pass0 (pa_cons (pv 14) pa_nil))) (pv 11) (nomark _)))))))
            (fun _ _ _ _ _ => by exact (pv 14)))) (pe_lst pa_nil) (nomark _)) (pss_one (ps_ret pe_bl)) pss_nil))))
        (pss_cons (ps_for PassesOwn.never rfl (pi_zip (by rfl) zp (pa_cons (pe_callB (cr_sortTx hu) (by rfl) so bootSorted (pa_cons (pv 5) pa_nil)) (pa_cons (pv 10) pa_nil))) (pg_tup rfl (pgs_cons (pg_name (i := 9) scLaw.nd rfl (Or.inl rfl)) (pgs_cons (pg_name (i := 12) scLaw.nd rfl (Or.inl rfl)) pgs_nil)))
          (pss_one (ps_if (pt_cmpR (op_neD hu) (by exact (pe_call G14 hr5 (by rfl) g14 k14 b14 .nil pass0 (pa_cons (pv 12) pa_nil))) (pv 9) (nomark _)) (pss_one (ps_ret pe_bl)) pss_nil)))
        (pss_cons (ps_if (pt_cmpR (op_ownNe Gb hr4 sb nB IB.hm ib bb) (by exact (pe_call G15 hr8 (by rfl) g15 k15 b15 .nil pass0 (pa_cons (by exact (pe_call G10 hr4 (by rfl) g10 k10 b10 .nil pass0 (pa_cons (pv 4) pa_nil))) pa_nil))) (pv 4) (nomark _)) (pss_one (ps_ret pe_bl)) pss_nil)
        (pss_cons (ps_if (pt_cmpR op_ne (by exact (pe_callB (call_repr hg sy hu) (by rfl) rp (by decide +kernel) (pa_cons (by exact (pe_call G16 hr5 (by rfl) g16 k16 b16 .nil pass0 (pa_cons (by exact (pe_call G11 hr6 (by rfl) g11 k11 b11 .nil pass0 (pa_cons (pv 5) pa_nil))) pa_nil))) pa_nil)))
            (by exact (pe_callB (call_repr hg sy hu) (by rfl) rp (by decide +kernel) (pa_cons (pe_callB (cr_sortTx hu) (by rfl) so bootSorted (pa_cons (pv 5) pa_nil)) pa_nil))) (nomark _)) (pss_one (ps_ret pe_bl)) pss_nil)
        (pss_cons (ps_set (i := 13) scLaw.nd rfl (Or.inl rfl) (by exact (pe_call G16 hr5 (by rfl) g16 k16 b16 .nil pass0 (pa_cons (by exact (pe_call G11 hr6 (by rfl) g11 k11 b11 .nil pass0 (pa_cons (pv 5) pa_nil))) pa_nil))))
        (pss_cons (ps_expr (pe_bm PySem.F.plainAttrs_list PySem.F.slot_list_append PySem.F.type_list_append mt_append (pv 13) (pa_cons pe_str pa_nil)))
        (pss_one (ps_if (pt_cmpR (op_neD hu) (by exact (pe_call G16 hr5 (by rfl) g16 k16 b16 .nil pass0 (pa_cons (by exact (pe_call G11 hr6 (by rfl) g11 k11 b11 .nil pass0 (pa_cons (pv 5) pa_nil))) pa_nil))) (pe_callB (cr_sortTx hu) (by rfl) so bootSorted (pa_cons (pv 5) pa_nil)) (nomark _)) (pss_one (ps_ret pe_bl)) pss_nil)))))))))))))))))
      (pss_one (ps_ret (by exact (pe_call0 G17 hr (by rfl) g17 k17 b17 .nil pass0)))), ?_⟩
    refine ⟨_, rfl, ?_⟩
    dsimp only [tNil]
    refine ⟨al, ns, 3, rfl, hal, by omega, by decide, fun p bs H1 nd few hbs np ep sp => ⟨p, rfl, ⟨_, SqL.of ep⟩, ?_⟩⟩
    show ∃ W : Nat → Nat → L2.St → Hp → Prop, (∃ m, W 0 m [some (.ref al), none, none, none, none, none, none, none, none, none, none, none, none, none, none] H1) ∧ _
    refine for_list (D := { nx := tRet (tCall spOdd [] E0 tNil) { nx := fun x H' => Q V.non H', rt := Q }, rt := Q }) (K := K) (a := p) (xs := bs.map V.ref)
      (fun i σ G => ∃ o1 o2 o3 o4 o5 o6 o7 o8 o9 o10 o11 o12 o13 : Option V, σ = [some (.ref al), o1, o2, o3, o4, o5, o6, o7, o8, o9, o10, o11, o12, o13, none] ∧ G p = some (.lst (bs.map V.ref)) ∧ ∀ j b, i ≤ j → bs[j]? = some b → Pu G b 1099511627776)
      ⟨none, none, none, none, none, none, none, none, none, none, none, none, none, rfl, ep, fun j b _ h => (hbs b (List.mem_of_getElem? h)).1⟩ (fun i σ G _ z => ?_) ?_ ?_
    · obtain ⟨_, _, _, _, _, _, _, _, _, _, _, _, _, _, e, _⟩ := z
      exact SqL.of e
    · rintro i v σ H0 hi ⟨o1, o2, o3, o4, o5, o6, o7, o8, o9, o10, o11, o12, o13, rfl, ep0, hpu⟩
      obtain ⟨a, hai, rfl⟩ := at_ref hi
      have pu0 := hpu i a (Nat.le_refl _) hai
      have pa : p ≠ a := pu_not pu0 (fun _ _ _ _ => refs_not hai) ep0
      refine (show ∀ D' : Ends, (∀ σ' G', (∃ o1 o2 o3 o4 o5 o6 o7 o8 o9 o10 o11 o12 o13 : Option V, σ' = [some (.ref al), o1, o2, o3, o4, o5, o6, o7, o8, o9, o10, o11, o12, o13, none] ∧ G' p = some (.lst (bs.map V.ref)) ∧ ∀ j b, i + 1 ≤ j → bs[j]? = some b → Pu G' b 1099511627776) → D'.nx σ' G') → tSeq _ _ D' [some (.ref al), some (.ref a), o2, o3, o4, o5, o6, o7, o8, o9, o10, o11, o12, o13, none] H0 from fun D' hD => ?_) _ ?hx
      case hx => exact fun σ' G' h => h
      have hE : ∀ G', Sb a H0 G' → G' p = some (.lst (bs.map V.ref)) ∧ ∀ j b, i + 1 ≤ j → bs[j]? = some b → Pu G' b 1099511627776 := fun G' s => ⟨s _ _ pa ep0, fun j b hj hb => (hpu j b (by omega) hb).other (fun z => by
        rw [z] at hb
        obtain ⟨h1, e1⟩ := List.getElem?_eq_some_iff.mp hb
        obtain ⟨h2, e2⟩ := List.getElem?_eq_some_iff.mp hai
        exact List.pairwise_iff_getElem.mp nd i j h2 h1 (by omega) (e2.trans e1.symm)) s⟩
      -- names, kinds
      refine ⟨_, rfl, ?_⟩
      dsimp only [tNil]
      refine ⟨a, 1000000, 3, rfl, pu0.le (by omega), by decide, fun zl zs H2 hzl hzn hzd nzl pu2 sb2 ezl => ?_⟩
      have zla : zl ≠ a := pu0.ne nzl
      refine ⟨_, rfl, ?_⟩
      dsimp only [tNil]
      refine ⟨a, 900000, 4, rfl, pu2.le (by omega), by decide, fun kl ks H3 hkl hkd nkl pu3 sb3 ekl => ?_⟩
      have kla : kl ≠ a := pu2.ne nkl
      have ezl3 := sb3 _ _ zla ezl
      have sb03 := sb2.trans sb3
      refine ⟨_, _, rfl, ?_⟩
      show tSeq _ _ _ _ _
      -- three more
      refine ⟨_, rfl, by show 2 ≤ _; decide, fun ta nta => ?_⟩
      have s4 : Same H3 (upd H3 ta (.tup [.str "if", .int 0])) := same_new nta
      have eta : upd H3 ta (.tup [.str "if", .int 0]) ta = some (.tup [.str "if", .int 0]) := upd_same
      generalize upd H3 ta (.tup [.str "if", .int 0]) = H4 at s4 eta ⊢
      refine ⟨by show 2 ≤ _; decide, fun tb ntb => ?_⟩
      have s5 : Same H4 (upd H4 tb (.tup [.str "not", .int 0])) := same_new ntb
      have etb : upd H4 tb (.tup [.str "not", .int 0]) tb = some (.tup [.str "not", .int 0]) := upd_same
      generalize upd H4 tb (.tup [.str "not", .int 0]) = H5 at s5 etb ⊢
      refine ⟨by show 2 ≤ _; decide, fun tc ntc => ?_⟩
      have s6 : Same H5 (upd H5 tc (.tup [.str "unlike", .int 1])) := same_new ntc
      have etc : upd H5 tc (.tup [.str "unlike", .int 1]) tc = some (.tup [.str "unlike", .int 1]) := upd_same
      generalize upd H5 tc (.tup [.str "unlike", .int 1]) = H6 at s6 etc ⊢
      refine ⟨by show 3 ≤ _; decide, fun l3 nl3 => ?_⟩
      have s7 : Same H6 (upd H6 l3 (.lst [.ref ta, .ref tb, .ref tc])) := same_new nl3
      have el3 : upd H6 l3 (.lst [.ref ta, .ref tb, .ref tc]) l3 = some (.lst [.ref ta, .ref tb, .ref tc]) := upd_same
      generalize upd H6 l3 (.lst [.ref ta, .ref tb, .ref tc]) = H7 at s7 el3 ⊢
      have s37 := ((s4.trans s5).trans s6).trans s7
      have pu7 := pu3.same s37
      have l3a : l3 ≠ a := (((pu3.same s4).same s5).same s6).ne nl3
      have k3 : ∀ v ∈ ([.ref ta, .ref tb, .ref tc] : List V), Kd H7 v := fun v hv => by
        rcases List.mem_cons.mp hv with rfl | hv
        · exact ⟨ta, "if", 0, rfl, s7 _ _ (s6 _ _ (s5 _ _ eta)), by decide +kernel, by decide⟩
        rcases List.mem_cons.mp hv with rfl | hv
        · exact ⟨tb, "not", 0, rfl, s7 _ _ (s6 _ _ etb), by decide +kernel, by decide⟩
        rw [List.mem_singleton.mp hv]
        exact ⟨tc, "unlike", 1, rfl, s7 _ _ etc, by decide +kernel, by decide⟩
      have ekl7 := s37 _ _ ekl
      have ezl7 := s37 _ _ ezl3
      have hkd7 : ∀ v ∈ ks, Kd H7 v := fun v hv => (hkd v hv).same s37
      refine ⟨_, rfl, ?_⟩
      dsimp only [tNil]
      refine ⟨a, 800000, 4, rfl, pu7.le (by omega), ⟨by decide, by decide⟩, fun y H8 y0 y1 pu8 sb8 => ?_⟩
      obtain ⟨j, rfl⟩ : ∃ j : Nat, y = (j : Int) := ⟨y.toNat, by omega⟩
      refine ⟨_, rfl, l3, _, rfl, SqL.of (sb8 _ _ l3a el3), fun l4 nl4 => ?_⟩
      rw [cut_head]
      have k4 : ∀ v ∈ ([.ref ta, .ref tb, .ref tc] : List V).take j, Kd H8 v := fun v hv => (k3 v (List.mem_of_mem_take hv)).sb pu7 sb8
      have l43 : (([.ref ta, .ref tb, .ref tc] : List V).take j).length ≤ 3 := by
        rw [List.length_take]
        exact Nat.min_le_right _ _
      generalize ([.ref ta, .ref tb, .ref tc] : List V).take j = more at k4 l43 ⊢
      have s9 : Same H8 (upd H8 l4 (.lst more)) := same_new nl4
      have el4 : upd H8 l4 (.lst more) l4 = some (.lst more) := upd_same
      generalize upd H8 l4 (.lst more) = H9 at s9 el4 ⊢
      have pu9 := pu8.same s9
      have ekl9 := s9 _ _ (sb8 _ _ kla ekl7)
      have ezl9 := s9 _ _ (sb8 _ _ zla ezl7)
      refine ⟨kl, l4, _, _, rfl, rfl, ekl9, el4, Nat.le_trans (by omega : _ ≤ 100) (by decide), fun l5 nl5 => ?_⟩
      have s10 : Same H9 (upd H9 l5 (.lst (ks ++ more))) := same_new nl5
      have el5 : upd H9 l5 (.lst (ks ++ more)) l5 = some (.lst (ks ++ more)) := upd_same
      have l5a : l5 ≠ a := pu9.ne nl5
      generalize upd H9 l5 (.lst (ks ++ more)) = H10 at s10 el5 ⊢
      have pu10 := pu9.same s10
      have kd10 : ∀ v ∈ ks ++ more, Kd H10 v := fun v hv => by
        rcases List.mem_append.mp hv with hv | hv
        · exact (((hkd7 v hv).sb pu7 sb8).same s9).same s10
        · exact ((k4 v hv).same s9).same s10
      have kl10 : 2 ≤ (ks ++ more).length ∧ (ks ++ more).length ≤ 100 := by
        rw [List.length_append]
        omega
      generalize ks ++ more = kk at el5 kd10 kl10
      have ezl10 := s10 _ _ ezl9
      have sb010 : Sb a H0 H10 := (((sb03.then s37).trans sb8).then s9).then s10
      clear sb8 s9 s10 s37 s4 s5 s6 s7 sb2 sb3 eta etb etc el3 k3 k4 ekl9 ekl7 ekl ezl3 ezl7 ezl9 ezl hkd hkd7 el4 pu9 pu8 pu7 pu3 pu2 sb03 nta ntb ntc nl3 nl4 nl5 nkl nzl
      -- the book, the store
      show tSeq _ _ _ _ _
      refine ⟨_, rfl, _, rfl, _, rfl, ?_⟩
      dsimp only [tNil]
      refine ⟨a, l5, zl, 700000, 4, kk, zs, rfl, pu10.le (by omega), ⟨by decide, by decide⟩, ⟨el5, l5a, kl10.1, kl10.2, kd10⟩, ⟨ezl10, zla, by omega, by omega, hzn⟩, fun bk rs xs H11 hBK okX ndX lX pu11 sb11 => ?_⟩
      refine ⟨_, rfl, _, rfl, _, rfl, ?_⟩
      dsimp only [tNil]
      have sb011 := sb010.trans sb11
      refine ⟨a, l5, zl, 600000, 6, kk, zs, rfl, pu11.le (by omega), ⟨by decide, by decide⟩, ⟨sb11 _ _ l5a el5, l5a, kl10.1, kl10.2, fun v hv => (kd10 v hv).sb pu10 sb11⟩, ⟨sb11 _ _ zla ezl10, zla, by omega, by omega, hzn⟩, fun sl us ps J0 st sla pu12 sb12 => ?_⟩
      have W0 : Wb CR CB bk sl rs us xs ps J0 := ⟨(hBK J0 sb12).1, (hBK J0 sb12).2, st⟩
      have sbJ : Sb a H0 J0 := sb011.trans sb12
      clear hBK st sb12 sb011 sb11 sb010 ezl10 el5 kd10 pu10 pu11
      refine ⟨_, _, rfl, ?_⟩
      show tSeq _ _ _ _ _
      have okA : ∀ x ∈ xs, x.Ok := fun x hx => (okX x hx).1
      have okF := W0.st.ok
      have ndF := W0.st.nd
      have fewF := W0.st.few
      have okS : ∀ p ∈ sortT ps, FactOk p := fun p hp => okF p (sort_mem.mp hp)
      have neF : ∀ p ∈ ps, p ≠ [] := fun p hp => (okF p hp).ne
      have ascF : ∀ p ∈ ps, ∀ x ∈ p, Asc x := fun p hp => (okF p hp).pat.asc
      have ascS : ∀ p ∈ sortT ps, ∀ x ∈ p, Asc x := fun p hp => (okS p hp).pat.asc
      have lSr : (sortT ps).length ≤ 100000 := by rw [sort_len]; omega
      have lXs : xs.length ≤ 100000 := by omega
      have lrs : (rs.map V.ref).length = xs.length := by rw [List.length_map, W0.ra.len]
      have ascX : ∀ z ∈ xs.map ruleT, Asc z := fun z hz => by
        obtain ⟨x, hx, rfl⟩ := List.mem_map.mp hz
        exact asc_ruleT (okA x hx)
      have ascL : ∀ z ∈ (sortT ps).map patT, Asc z := fun z hz => by
        obtain ⟨x, hx, rfl⟩ := List.mem_map.mp hz
        exact asc_patT (okS x hx).pat.asc
      have szX : ((xs.map ruleT).map (·.length)).sum + (xs.map ruleT).length * ("\n" : Str).length ≤ 16777216 := by
        have := (joinN_len (c := 61000) (l := xs.map ruleT) fun z hz => by
          obtain ⟨p, hp, rfl⟩ := List.mem_map.mp hz
          exact (ruleT_len (okA p hp)).1).1
        rw [List.length_map] at this ⊢
        omega
      have szL : (((sortT ps).map patT).map (·.length)).sum + ((sortT ps).map patT).length * ("\n" : Str).length ≤ 16777216 := by
        have := (joinN_len (c := 60) (l := (sortT ps).map patT) fun z hz => by
          obtain ⟨p, hp, rfl⟩ := List.mem_map.mp hz
          exact patT_len (okS p hp).sht).1
        rw [List.length_map, sort_len] at this ⊢
        omega
      -- kept, texts
      refine ⟨_, rfl, sl, _, rfl, .inl (SqL.of W0.st.at_), fun kp nkp => ?_⟩
      have s1 : Same J0 (upd J0 kp (.lst us)) := same_new nkp
      have ekp : upd J0 kp (.lst us) kp = some (.lst us) := upd_same
      generalize upd J0 kp (.lst us) = J1 at s1 ekp ⊢
      have W1 := W0.same s1
      obtain ⟨dx, bl, eb1, el1⟩ := id W1.ba
      refine ⟨_, rfl, bk, dx, _, rfl, eb1, rfl, bk, dx, bl, _, _, rfl, eb1, lkR, el1, fun rl nrl => ?_⟩
      have s2 : Same J1 (upd J1 rl (.lst (rs.map V.ref))) := same_new nrl
      have erl : upd J1 rl (.lst (rs.map V.ref)) rl = some (.lst (rs.map V.ref)) := upd_same
      generalize upd J1 rl (.lst (rs.map V.ref)) = J2 at s2 erl ⊢
      have W2 := W1.same s2
      refine ⟨rl, rfl, ⟨_, SqL.of erl⟩, fun D1 nD1 => ?_⟩
      refine lc_txt (K := K) (a := rl) (xs := rs.map V.ref) (ds := xs) (S := RuleAt CR J2) (b := fun _ => true) (f := ruleT) (SqL.of erl) nD1 lXs lrs W2.ra.ats ?_ ?_
      · rintro v d G R N hd ⟨r', rfl, ra⟩ sm hR hN
        refine ⟨rfl, _, rfl, ?_⟩
        dsimp only [tNil]
        exact ⟨r', d, rfl, ra.same sm, okA d hd, fun H' s => hR rfl H' s⟩
      intro J3 s3 eD1
      rw [fil_true] at eD1
      have W3 := W2.same s3
      have ekp3 := s3 _ _ (s2 _ _ ekp)
      have t03 := (s1.trans s2).trans s3
      clear W1 W2 s1 s2 s3 erl eb1 el1 ekp
      refine ⟨_, _, rfl, ?_⟩
      -- the texts are those of rule_text, book_text
      show tSeq _ _ _ _ _
      obtain ⟨dx, bl, eb1, el1⟩ := id W3.ba
      refine ⟨_, rfl, bk, dx, _, rfl, eb1, rfl, bk, dx, bl, _, _, rfl, eb1, lkR, el1, fun rl2 nrl2 => ?_⟩
      have s4 : Same J3 (upd J3 rl2 (.lst (rs.map V.ref))) := same_new nrl2
      have erl : upd J3 rl2 (.lst (rs.map V.ref)) rl2 = some (.lst (rs.map V.ref)) := upd_same
      generalize upd J3 rl2 (.lst (rs.map V.ref)) = J4 at s4 erl ⊢
      have W4 := W3.same s4
      refine ⟨rl2, rfl, ⟨_, SqL.of erl⟩, fun D2 nD2 => ?_⟩
      refine lc_txt (K := K) (a := rl2) (xs := rs.map V.ref) (ds := xs) (S := RuleAt CR J4) (b := fun _ => true) (f := ruleT) (SqL.of erl) nD2 lXs lrs W4.ra.ats ?_ ?_
      · rintro v d G R N hd ⟨r', rfl, ra⟩ sm hR hN
        refine ⟨rfl, _, rfl, ?_⟩
        dsimp only [tNil]
        exact ⟨r', d, rfl, ra.same sm, okA d hd, fun H' s => hR rfl H' s⟩
      intro J5 s5 eD2
      rw [fil_true] at eD2
      have W5 := W4.same s5
      have t35 := s4.trans s5
      have eD15 := t35 _ _ eD1
      refine ⟨_, rfl, ne_same (dp_S (SqL.of eD2)) (dp_S (SqL.of eD15)) (lay_dS ascX) (by decide) ⟨_, rfl, iteF ?_⟩⟩
      refine ⟨_, rfl, ?_⟩
      dsimp only [tNil]
      refine ⟨bk, rs, xs, rfl, W5.ba, W5.ra, okA, by omega, fun J6 s6 => ?_⟩
      have t36 := t35.trans s6
      have W6 := W5.same s6
      have eD16 := s6 _ _ eD15
      have ekp6 := t36 _ _ ekp3
      refine ⟨⟨_, rfl⟩, _, rfl, "\n", D1, xs.map ruleT, rfl, rfl, .inl (SqL.of eD16), szX, rfl, false, congrArg V.bl (nes (v := V.str (bookT xs))), iteF ?_⟩
      have t06 := t03.trans t36
      clear W3 W4 W5 s4 s5 s6 t35 t36 t03 erl eb1 el1 eD1 eD15 eD2 ekp3
      -- the lines
      show tSeq _ _ _ _ _
      refine ⟨_, rfl, sl, us, ps, rfl, SqL.of W6.st.at_, W6.st.pal, neF, fun c1 us1 nc1 pc1 lc1 => ?_⟩
      have s7 : Same J6 (upd J6 c1 (.lst us1)) := same_new nc1
      have ec1 : upd J6 c1 (.lst us1) c1 = some (.lst us1) := upd_same
      generalize upd J6 c1 (.lst us1) = J7 at s7 ec1 ⊢
      have pc7 := pc1.same s7
      refine ⟨c1, rfl, ⟨_, SqL.of ec1⟩, fun D3 nD3 => ?_⟩
      refine lc_txt (K := K) (a := c1) (xs := us1) (ds := sortT ps) (S := TupAt J7) (b := fun _ => true) (f := patT) (SqL.of ec1) nD3 lSr pc7.len pc7.ats ?_ ?_
      · rintro v d G R N hd ⟨t, rfl, et⟩ sm hR hN
        refine ⟨rfl, _, rfl, ?_⟩
        dsimp only [tNil]
        exact ⟨t, d, rfl, sm _ _ et, (okS d hd).sht, fun H' s => hR rfl H' s⟩
      intro J8 s8 eD3
      rw [fil_true] at eD3
      have t68 := s7.trans s8
      have W8 := W6.same t68
      have eD18 := t68 _ _ eD16
      have ekp8 := t68 _ _ ekp6
      have t08 := t06.trans t68
      clear W6 s7 s8 pc1 pc7 ec1 t68 t06 eD16 ekp6
      -- store_text
      show tSeq _ _ _ _ _
      refine ⟨_, rfl, ?_⟩
      dsimp only [tNil]
      refine ⟨sl, us, ps, rfl, W8.st, fun J9 s9 => ⟨⟨_, rfl⟩, _, rfl, "\n", D3, (sortT ps).map patT, rfl, rfl, .inl (SqL.of (s9 _ _ eD3)), szL, rfl, false, congrArg V.bl (nes (v := V.str (storeT (sortT ps)))), iteF ?_⟩⟩
      have W9 := W8.same s9
      have eD39 := s9 _ _ eD3
      have eD19 := s9 _ _ eD18
      have ekp9 := s9 _ _ ekp8
      have t09 := t08.trans s9
      clear W8 s9 eD3 eD18 ekp8 t08
      -- fact_text, the store as it was
      show tSeq _ _ _ _ _
      refine ⟨_, rfl, sl, us, ps, rfl, SqL.of W9.st.at_, W9.st.pal, neF, fun c2 us2 nc2 pc2 lc2 => ?_⟩
      have s10 : Same J9 (upd J9 c2 (.lst us2)) := same_new nc2
      have ec2 : upd J9 c2 (.lst us2) c2 = some (.lst us2) := upd_same
      generalize upd J9 c2 (.lst us2) = J10 at s10 ec2 ⊢
      have pc10 := pc2.same s10
      refine ⟨c2, rfl, ⟨_, SqL.of ec2⟩, fun D4 nD4 => ?_⟩
      refine lc_txt (K := K) (a := c2) (xs := us2) (ds := sortT ps) (S := TupAt J10) (b := fun _ => true) (f := patT) (SqL.of ec2) nD4 lSr pc10.len pc10.ats ?_ ?_
      · rintro v d G R N hd ⟨t, rfl, et⟩ sm hR hN
        refine ⟨rfl, _, rfl, ?_⟩
        dsimp only [tNil]
        exact ⟨t, d, rfl, sm _ _ et, okS d hd, fun H' s => hR rfl H' s⟩
      intro J11 s11 eD4
      rw [fil_true] at eD4
      have t911 := s10.trans s11
      have W11 := W9.same t911
      have eD311 := t911 _ _ eD39
      have eD111 := t911 _ _ eD19
      have ekp11 := t911 _ _ ekp9
      have t011 := t09.trans t911
      refine ⟨_, rfl, ne_same (dp_S (SqL.of eD4)) (dp_S (SqL.of eD311)) (lay_dS ascL) (by decide) ⟨_, rfl, iteF ?_⟩⟩
      refine ⟨_, rfl, _, rfl, ne_same (dp_L (SqL.of W11.st.at_) W11.st.pal) (dp_L (SqL.of ekp11) W11.st.pal) (lay_dL ascF) (by decide) ⟨_, rfl, iteF ?_⟩⟩
      clear W9 s10 s11 eD4 pc2 pc10 ec2 t911 eD39 eD19 ekp9 t09 ekp11
      -- the rules read back
      show tSeq _ _ _ _ _
      obtain ⟨dx, bl, eb1, el1⟩ := id W11.ba
      refine ⟨_, rfl, bk, dx, _, rfl, eb1, rfl, bk, dx, bl, _, _, rfl, eb1, lkR, el1, fun rl3 nrl3 => ?_⟩
      have s12 : Same J11 (upd J11 rl3 (.lst (rs.map V.ref))) := same_new nrl3
      have erl : upd J11 rl3 (.lst (rs.map V.ref)) rl3 = some (.lst (rs.map V.ref)) := upd_same
      generalize upd J11 rl3 (.lst (rs.map V.ref)) = J12 at s12 erl ⊢
      have W12 := W11.same s12
      have eD112 := s12 _ _ eD111
      have eD312 := s12 _ _ eD311
      have t012 := t011.trans s12
      clear W11 s12 eD111 eD311 t011 eb1 el1
      refine ⟨_, rfl, rl3, D1, _, _, rfl, SqL.of erl, SqL.of eD112, RZ.for_zipL (K := K) (a := rl3) (b := D1) (xs := rs.map V.ref) (ys := (xs.map ruleT).map V.str) (by simp only [List.length_map]; have := W12.ra.len; omega)
        (fun i σ G => ∃ o6 o11 : Option V, σ = [some (.ref al), some (.ref a), some (.ref zl), some (.ref l5), some (.ref bk), some (.ref sl), o6, some (.ref kp), some (.ref D1), o9, some (.ref D3), o11, o12, o13, none] ∧ Same J12 G)
        ⟨_, _, rfl, Same.refl _⟩ (fun i σ G z => ?_) ?_ ?_⟩
      · obtain ⟨_, _, _, s⟩ := z
        exact ⟨SqL.of (s _ _ erl), SqL.of (s _ _ eD112)⟩
      · rintro i x y T σ G hx hy ⟨o6, o11, rfl, sm⟩ nT
        obtain ⟨xr, hxr, r, rfl, ra⟩ := W12.ra.ats i x hx
        have ey : y = V.str (ruleT xr) := by
          rw [List.map_map, List.getElem?_map, hxr] at hy
          exact (Option.some.inj hy).symm
        subst ey
        have mx := List.mem_of_getElem? hxr
        obtain ⟨xo, xc⟩ := okX xr mx
        have sT : Same G (upd G T (.tup [.ref r, .str (ruleT xr)])) := same_new nT
        have eT : upd G T (.tup [.ref r, .str (ruleT xr)]) T = some (.tup [.ref r, .str (ruleT xr)]) := upd_same
        generalize upd G T (.tup [.ref r, .str (ruleT xr)]) = G0 at sT eT ⊢
        have sm0 := sm.trans sT
        refine ⟨T, _, rfl, SqT.of eT, rfl, _, _, rfl, _, _, rfl, rfl, ?_⟩
        show tSeq _ _ _ _ _
        refine ⟨_, rfl, ?_⟩
        dsimp only [tNil]
        refine ⟨xr, rfl, xo, xc, fun r' G1 s1 ra' => ⟨_, rfl, ne_rules RR IR ra'.ra xo (ra.same (sm0.trans s1)) xo ⟨_, rfl, ?_⟩⟩⟩
        rw [decide_eq_true rfl]
        refine iteF ?_
        have sm1 := sm0.trans s1
        have Wg := W12.same sm1
        obtain ⟨dx, bl, eb1, el1⟩ := id Wg.ba
        refine ⟨_, rfl, bk, dx, _, rfl, eb1, rfl, bk, dx, bl, _, _, rfl, eb1, lkR, el1, fun rl4 nrl4 => ?_⟩
        have s2 : Same G1 (upd G1 rl4 (.lst (rs.map V.ref))) := same_new nrl4
        have erl4 : upd G1 rl4 (.lst (rs.map V.ref)) rl4 = some (.lst (rs.map V.ref)) := upd_same
        generalize upd G1 rl4 (.lst (rs.map V.ref)) = G2 at s2 erl4 ⊢
        have Wg2 := Wg.same s2
        have ra2 := ra.same (sm1.trans s2)
        refine ⟨rl4, rfl, ⟨_, SqL.of erl4⟩, fun D5 nD5 => ?_⟩
        refine lc_txt (K := K) (a := rl4) (xs := rs.map V.ref) (ds := xs) (S := RuleAt CR G2) (b := fun _ => false) (f := ruleT) (SqL.of erl4) nD5 lXs lrs Wg2.ra.ats ?_ ?_
        · rintro v d G3 R N hd ⟨r3, rfl, ra3⟩ sm3 hR hN
          have od := okA d hd
          refine ⟨rfl, _, rfl, _, rfl, ne_rules RR IR (ra3.same sm3) od (ra2.same sm3) xo ⟨_, rfl, ?_⟩⟩
          by_cases hdx : d = xr
          · rw [decide_eq_true hdx]
            exact iteF (iteF (hN rfl G3 (Same.refl _)))
          · rw [decide_eq_false hdx]
            refine iteT ⟨_, rfl, ?_⟩
            dsimp only [tNil]
            refine ⟨r3, d, rfl, ra3.same sm3, od, fun H' s => ⟨_, rfl, rfl, false, congrArg V.bl (decide_eq_false fun e => hdx (ruleT_inj od xo (by injection e))), iteF (hN rfl H' s)⟩⟩
        intro G3 s3 eD5
        rw [show xs.filter (fun _ => false) = [] from List.filter_eq_nil_iff.mpr fun _ _ => Bool.false_ne_true] at eD5
        refine ⟨by decide, fun n5 nn5 => ?_⟩
        have s5 : Same G3 (upd G3 n5 (.lst [])) := same_new nn5
        have en5 : upd G3 n5 (.lst []) n5 = some (.lst []) := upd_same
        generalize upd G3 n5 (.lst []) = G4 at s5 en5 ⊢
        refine ne_same (d := dS []) (dp_S (SqL.of (s5 _ _ eD5))) (.lst (SqL.of en5) .nil) (lay_dS (xs := []) (fun x hx => nomatch hx)) (by decide) ⟨_, rfl, iteF ?_⟩
        exact ⟨_, _, rfl, ((sm1.trans s2).trans s3).trans s5⟩
      rintro σ J13 ⟨o6, o11, rfl, s13⟩
      have W13 := W12.same s13
      have eD313 := s13 _ _ eD312
      have t013 := t012.trans s13
      clear W12 eD112 eD312 t012 erl s13
      -- the facts read back
      show tSeq _ _ _ _ _
      refine ⟨_, rfl, sl, us, ps, rfl, SqL.of W13.st.at_, W13.st.pal, neF, fun c3 us3 nc3 pc3 lc3 => ?_⟩
      have s14 : Same J13 (upd J13 c3 (.lst us3)) := same_new nc3
      have ec3 : upd J13 c3 (.lst us3) c3 = some (.lst us3) := upd_same
      generalize upd J13 c3 (.lst us3) = J14 at s14 ec3 ⊢
      have pc14 := pc3.same s14
      have W14 := W13.same s14
      have eD314 := s14 _ _ eD313
      have t014 := t013.trans s14
      clear W13 s14 eD313 t013 pc3
      refine ⟨_, rfl, c3, D3, _, _, rfl, SqL.of ec3, SqL.of eD314, RZ.for_zipL (K := K) (a := c3) (b := D3) (xs := us3) (ys := ((sortT ps).map patT).map V.str) (by simp only [List.length_map]; have := pc14.len; omega)
        (fun i σ G => ∃ o9 o12 : Option V, σ = [some (.ref al), some (.ref a), some (.ref zl), some (.ref l5), some (.ref bk), some (.ref sl), o6, some (.ref kp), some (.ref D1), o9, some (.ref D3), o11, o12, o13, none] ∧ Same J14 G)
        ⟨_, _, rfl, Same.refl _⟩ (fun i σ G z => ?_) ?_ ?_⟩
      · obtain ⟨_, _, _, s⟩ := z
        exact ⟨SqL.of (s _ _ ec3), SqL.of (s _ _ eD314)⟩
      · rintro i x y T σ G hx hy ⟨o9, o12, rfl, sm⟩ nT
        obtain ⟨fp, hfp, t, rfl, et⟩ := pc14.ats i x hx
        have ey : y = V.str (patT fp) := by
          rw [List.map_map, List.getElem?_map, hfp] at hy
          exact (Option.some.inj hy).symm
        subst ey
        have fo := okS fp (List.mem_of_getElem? hfp)
        have sT : Same G (upd G T (.tup [.ref t, .str (patT fp)])) := same_new nT
        have eT : upd G T (.tup [.ref t, .str (patT fp)]) T = some (.tup [.ref t, .str (patT fp)]) := upd_same
        generalize upd G T (.tup [.ref t, .str (patT fp)]) = G0 at sT eT ⊢
        have sm0 := sm.trans sT
        refine ⟨T, _, rfl, SqT.of eT, rfl, _, _, rfl, _, _, rfl, rfl, ?_⟩
        refine ⟨_, rfl, ?_⟩
        dsimp only [tNil]
        refine ⟨fp, rfl, fo, fun t' G1 nt' s1 et' => ⟨_, rfl, ne_same (dp_T et') (dp_T (s1 _ _ (sm0 _ _ et))) (lay_dT fo.pat.asc) (by decide) ⟨_, rfl, iteF ?_⟩⟩⟩
        exact ⟨_, _, rfl, sm0.trans s1⟩
      rintro σ J15 ⟨o9, o12, rfl, s15⟩
      have W15 := W14.same s15
      have t015 := t014.trans s15
      clear W14 eD314 t014 ec3 s15 pc14
      -- the book read back
      show tSeq _ _ _ _ _
      refine ⟨_, rfl, ?_⟩
      dsimp only [tNil]
      refine ⟨bk, rs, xs, rfl, W15.ba, W15.ra, okA, by omega, fun J16 s16 => ?_⟩
      refine ⟨xs, rfl, okX, ndX, by omega, fun b' rs' J17 s17 ba' ra' => ?_⟩
      have W17 := W15.same (s16.trans s17)
      refine ⟨_, rfl, ne_books cB IB ba' ra' okA W17.ba W17.ra okA fun J18 s18 => ⟨_, rfl, ?_⟩⟩
      rw [decide_eq_true rfl]
      refine iteF ?_
      have W18 := W17.same s18
      have t018 := ((t015.trans s16).trans s17).trans s18
      clear W15 W17 s16 s17 s18 t015 ba' ra'
      -- repr
      have shw : (dL (sortT ps)).showable = true ∧ (dL (sortT ps)).shown.length ≤ sizeLine ∧ (dL (sortT ps)).depth ≤ 60 := (shw_L (by rw [sort_len]; omega) fun p hp => (okS p hp).shz).fits (by decide) (by decide)
      show tSeq _ _ _ _ _
      refine ⟨_, rfl, ?_⟩
      dsimp only [tNil]
      refine ⟨sl, us, ps, rfl, W18.st, fun J19 s19 => ?_⟩
      have W19 := W18.same s19
      refine ⟨ps, rfl, okF, ndF, fewF, fun l6 us6 J20 nl6 s20 el6 hp6 => ?_⟩
      have W20 := W19.same s20
      refine ⟨l6, dL (sortT ps), rfl, rdd_L el6 hp6, shw.1, shw.2.1, shw.2.2, ?_⟩
      refine ⟨_, rfl, sl, us, ps, rfl, SqL.of W20.st.at_, W20.st.pal, neF, fun c4 us4 nc4 pc4 lc4 => ?_⟩
      have s21 : Same J20 (upd J20 c4 (.lst us4)) := same_new nc4
      have ec4 : upd J20 c4 (.lst us4) c4 = some (.lst us4) := upd_same
      generalize upd J20 c4 (.lst us4) = J21 at s21 ec4 ⊢
      refine ⟨c4, dL (sortT ps), rfl, rdd_L ec4 (pc4.same s21), shw.1, shw.2.1, shw.2.2, rfl, false, congrArg V.bl nes, iteF ?_⟩
      have W21 := W20.same s21
      have t021 := ((t018.trans s19).trans s20).trans s21
      clear W18 W19 W20 s19 s20 s21 t018 el6 hp6 nl6 pc4 ec4
      -- one more is put behind
      show tSeq _ _ _ _ _
      refine ⟨_, rfl, ?_⟩
      dsimp only [tNil]
      refine ⟨sl, us, ps, rfl, W21.st, fun J22 s22 => ?_⟩
      have W22 := W21.same s22
      refine ⟨ps, rfl, okF, ndF, fewF, fun l7 us7 J23 nl7 s23 el7 hp7 => ?_⟩
      have hl7 := hp7.len
      rw [sort_len] at hl7
      show tSeq _ _ _ _ _
      refine ⟨_, rfl, .inl ⟨rfl, _, SqL.of el7⟩, ?_⟩
      dsimp only [tNil]
      refine ⟨l7, _, _, rfl, rfl, el7, Nat.lt_of_lt_of_le (by omega : _ < 64) (by decide), ?_⟩
      have s24 : Same J22 (upd J23 l7 (.lst (us7 ++ [.str "more"]))) := same_put s23 nl7
      generalize upd J23 l7 (.lst (us7 ++ [.str "more"])) = J24 at s24 ⊢
      have W24 := W22.same s24
      have t024 := (t021.trans s22).trans s24
      clear W21 W22 s22 s23 s24 t021 el7 hp7 nl7
      -- read once more
      refine ⟨_, rfl, ?_⟩
      dsimp only [tNil]
      refine ⟨sl, us, ps, rfl, W24.st, fun J25 s25 => ?_⟩
      have W25 := W24.same s25
      refine ⟨ps, rfl, okF, ndF, fewF, fun l8 us8 J26 nl8 s26 el8 hp8 => ?_⟩
      have W26 := W25.same s26
      refine ⟨_, rfl, sl, us, ps, rfl, SqL.of W26.st.at_, W26.st.pal, neF, fun c5 us5 nc5 pc5 lc5 => ?_⟩
      have s27 : Same J26 (upd J26 c5 (.lst us5)) := same_new nc5
      have ec5 : upd J26 c5 (.lst us5) c5 = some (.lst us5) := upd_same
      generalize upd J26 c5 (.lst us5) = J27 at s27 ec5 ⊢
      refine ne_same (dp_L (SqL.of (s27 _ _ el8)) (hp8.same s27)) (dp_L (SqL.of ec5) (pc5.same s27)) (lay_dL ascS) (by decide) ⟨_, rfl, iteF ?_⟩
      exact hD _ _ ⟨_, _, _, _, _, _, _, _, _, _, _, _, _, rfl, hE J27 (sbJ.then (((t024.trans s25).trans s26).trans s27))⟩
    · rintro σ G ⟨o1, o2, o3, o4, o5, o6, o7, o8, o9, o10, o11, o12, o13, rfl, _, _⟩
      refine ⟨rfl, fun H' _ => q H'⟩
end
end Nv
set_option maxHeartbeats 4000000
namespace Nv
open PySem PySem.Spec PyProof.Rows L2
section
variable {P : Program} {w : World} {K : PySem.W.Frag} {mg : Str → Option Value} {base : Heap}
/-- the script is handed in, tracked as what is known to the object, or an object of the written part -/
theorem law_run {fa a : Addr} {mb : Str → Option Value} {fd : FuncData} {x : Str} {sp : Sp} {k : Nat} {s1 : Shared} {vs : List Value} {ns : List Int}
    (KX : K.In s1.heap) (hns : s1.heap.Ns mainGlobals mg) (hb : s1.heap.Ns builtinsNs mb) (hbb : ∀ x : Str, x ≠ "__name__" → mb x = bootBuiltins x) (hlim : s1.heap.NoLimit) (hsys : ∃ ms, s1.heap.Ns sysModules ms) (hg : s1.gens = #[])
    (ha : s1.heap.get? a = some { cls := .type "list", data := .seq vs.toArray }) (hi : IntsAre vs ns) (hz : ns.length ≤ sizeLine) (hr : Room k callerA)
    (F : ∀ base : Heap, K.In base → base.Ns mainGlobals mg → (∃ o, base.get? sysModules = some o) → RunG P w K mg base k fa fd [x] sp) (bind : ∀ (s : Shared) (u : Value), BindsTo s fd ⟨[u], []⟩ [(x, u)])
    (hsp : ∀ H : Hp, SqL K H a (ns.map V.int) → sp [.ref a] H (fun v _ => v = .bl true) E0) :
    codeAny (model P w) callerA (.call (.ref fa) ⟨[.ref a], []⟩) (fun r s' => r = .ok (.ret (.bool true)) ∧ OldK s1.heap s'.heap ∧ s'.os = s1.os ∧ AllBare s'.gens) s1 := by
  have rv := vals_ints hi
  -- some abstract heap that tracks at most the script, locked
  obtain ⟨H, only, hS, hok, notK⟩ : ∃ H : Hp, (∀ b u, H b = some u → b = a ∧ ∃ o xs, u = .frz o (.lst xs)) ∧ SqL K H a (ns.map V.int) ∧ HOk P w H s1.heap ∧ (∀ b o, K.lookup b = some o → H b = none) := by
    cases hk : K.lookup a with
    | some o =>
      have e := KX a o hk
      rw [ha] at e
      cases e
      exact ⟨fun _ => none, (fun b u z => by cases z), .inr ⟨_, vs.toArray, _, hk, rfl, rfl, rfl, by rw [List.size_toArray, hi.length]; exact hz, by simpa using rv⟩, (fun b u z => by cases z), fun _ _ _ => rfl⟩
    | none =>
      refine ⟨upd (fun _ => none) a (.frz { cls := .type "list", data := .seq vs.toArray } (.lst (ns.map V.int))), fun b u z => ?_, .inl (.inr ⟨_, upd_same⟩), fun b u z => ?_, fun b o z => ?_⟩
      · by_cases e : b = a
        · rw [e, upd_same] at z
          exact ⟨e, _, _, (Option.some.inj z).symm⟩
        · rw [upd_ne e] at z
          cases z
      · by_cases e : b = a
        · rw [e, upd_same] at z
          cases z
          rw [e]
          exact ⟨ha, by rw [List.length_map]; exact hz, vs, _, rv, ha⟩
        · rw [upd_ne e] at z
          cases z
      · by_cases e : b = a
        · rw [e, hk] at z
          cases z
        · rw [upd_ne e]
  have in_base : ∀ {b : Addr} {o : Obj}, s1.heap.get? b = some o → H b = none → (hidT s1.heap H).get? b = some o := fun e n => hidT_get e n
  have free_of : ∀ {b : Addr} {o : Obj} {es : Array DictEntry} {ep : Nat}, s1.heap.get? b = some o → o.data = .dict es ep → H b = none := fun {b o es ep} e d => by
    cases q : H b with
    | none => rfl
    | some u =>
      rw [(only b u q).1, ha] at e
      cases e
      cases d
  have ns_base : ∀ {b : Addr} {m : Str → Option Value}, s1.heap.Ns b m → (hidT s1.heap H).Ns b m := fun ⟨o, es, ep, e, d, r⟩ => ⟨o, es, ep, in_base e (free_of e d), d, r⟩
  have kb : K.In (hidT s1.heap H) := fun b o e => in_base (KX b o e) (notK b o e)
  have md : Mod K mg (hidT s1.heap H) := ⟨kb, ns_base hns, ⟨mb, ns_base hb, hbb⟩, let ⟨mc, h1, h2⟩ := hlim; ⟨mc, ns_base h1, h2⟩⟩
  have sy : ∃ o, (hidT s1.heap H).get? sysModules = some o := let ⟨ms, o, es, ep, e, d, _⟩ := hsys; ⟨o, in_base e (free_of e d)⟩
  have e0 : Env0 P w K mg (hidT s1.heap H) callerA [] s1 H := ⟨rfl, md, fun b o e => of_hidT e, Nat.le_of_eq (hidT_size _ _), trivial, (fun b z => by cases z), hok, .of_eq hg⟩
  refine codeAny_mono (F _ kb (ns_base hns) sy callerA [] s1 H ⟨[.ref a], []⟩ [.ref a] [.ref a] _ rfl hr e0 (bind s1 (.ref a)) (.cons rfl .nil) (hsp H hS)) fun r s' h => ?_
  cases r with
  | error e => exact False.elim h
  | ok fl =>
    cases fl with
    | next => exact False.elim h
    | brk => exact False.elim h
    | cont => exact False.elim h
    | ret u =>
      obtain ⟨v, H', os, bare, un, hok', rr, q⟩ := h
      obtain rfl : v = V.bl true := q
      obtain rfl : u = Value.bool true := rr
      refine ⟨rfl, OldK.of_keep fun b o e => ?_, os, bare⟩
      cases z : H b with
      | none => exact un.keep b o e z (fun m => nomatch m) (fun m => nomatch m)
      | some u =>
        obtain ⟨_, ob, xs, rfl⟩ := only b u z
        obtain ⟨e1, _⟩ := hok b _ z
        obtain ⟨e2, _⟩ := hok' b _ (un.frzs b ob _ z)
        rw [e] at e1
        cases e1
        exact e2
end
theorem walkG {l : PySem.W.OpenLaw} {k : Nat} {q : Program} {loose : List Str} {XP : (Str → Option Value) → Heap → Prop} {YP : World → Heap → Prop} {d : DefRec} {K : Params → PySem.W.Frag} {sp : PySem.W.Frag → Sp} {x : Str}
    (hn : l.most = some 63) (hdf : d.params.defaults = []) (hr : Room k callerA) (hq : importsNone q = true) (hY : ∀ (w : World) (h : Heap), YP w h → (K w.params).In h)
    (F : ∀ (w : World) (mg : Str → Option Value) (fa : Addr) (h : Heap), (K w.params).In h → h.Ns mainGlobals mg → mg d.name = some (.ref fa) → ∃ fd : FuncData, (∀ (s : Shared) (u : Value), BindsTo s fd ⟨[u], []⟩ [(x, u)]) ∧
      ∀ base : Heap, (K w.params).In base → base.Ns mainGlobals mg → (∃ o, base.get? sysModules = some o) → RunG l.prog w (K w.params) mg base k fa fd [x] (sp (K w.params)))
    (hsp : ∀ (K : PySem.W.Frag) (H : Hp) (a : Addr) (ns : List Int), ns.length ≤ 63 → SqL K H a (ns.map V.int) → sp K [.ref a] H (fun v _ => v = .bl true) E0) :
    PySem.W.WalkO q loose XP YP l.row.toRowW d [] (fun f vs => PySem.call f vs) := by
  refine Att.attach_call hn hdf fun w s0 s1 mg mb fa o pm cd doc a vs ns G Y ho hd hcd hmg hobj hints hlen hg => ?_
  have KX := hY w _ Y
  obtain ⟨fd, hb, hF⟩ := F w mg fa _ KX G.T.g hmg
  have sy : ∃ ms, s1.heap.Ns sysModules ms := let ⟨ms, z, _⟩ := (G.T.seer hq).mods; ⟨ms, z⟩
  exact law_run KX G.T.g G.T.b G.T.builtins G.T.nolimit sy hg hobj hints (Nat.le_trans hlen (by decide)) hr hF hb fun H hS => hsp _ H a ns hlen hS
end Nv
set_option maxHeartbeats 4000000
namespace Nv
open PySem PySem.Spec PyProof.Rows L2
/-! # what the text must have, read off its top -/
theorem me_of {K : PySem.W.Frag} {C : Addr} : PySem.W.kitOne K (.ref C) (.ref C) = some true := by simp [PySem.W.kitOne]
/-- a def at the top, by name -/
def DefAt (K : PySem.W.Frag) (x : Str) (st : Stmt) : Prop := ∃ (f : Addr) (fd : FuncData), PySem.W.nsIn K mainGlobals x = some (some (.ref f)) ∧ Fun K x x st f fd
theorem def_at {K : PySem.W.Frag} {h : Heap} (X : K.In h) {x : Str} {st : Stmt} {f : Addr} {oc : Value} {od an : Option Addr} {osl : Array (Option Value)} {kV doc pm cdv ct : Value} (g : PySem.W.nsIn K mainGlobals x = some (some (.ref f)))
    (l : K.lookup f = some ⟨oc, od, .func (PySem.W.fnOf x x (defArgs st) (defBody st) (defScope st) .none kV doc pm an cdv ct), osl⟩) (c : PySem.W.codeIn K cdv x = true) (k : PySem.W.keepIn K (.ref f) = true) : DefAt K x st := ⟨f, _, g, fun_mk l c k⟩
/-- a method -/
def MethAt (K : PySem.W.Frag) (C : Addr) (x qual : Str) (st : Stmt) : Prop := ∃ (f : Addr) (fd : FuncData), PySem.W.findIn K (.ref C) x = some (some (.ref f)) ∧ PySem.W.isFn K (.ref f) = true ∧ Fun K x qual st f fd
def PropAt (K : PySem.W.Frag) (C : Addr) (x qual : Str) (st : Stmt) : Prop := ∃ (p g : Addr) (fd : FuncData), PropOf K C x p g ∧ Fun K x qual st g fd
def InitAt (K : PySem.W.Frag) (C : Addr) (qual : Str) (st : Stmt) (dvs : List V) : Prop := ∃ (f : Addr) (fd : FuncData), PySem.W.findIn K (.ref C) "__init__" = some (some (.ref f)) ∧ PySem.W.isFn K (.ref f) = true ∧ FunD K "__init__" qual (defArgs st) (defBody st) (defScope st) dvs [] f fd
def InitAt0 (K : PySem.W.Frag) (C : Addr) (qual : Str) (st : Stmt) : Prop := ∃ (f : Addr) (fd : FuncData), PySem.W.findIn K (.ref C) "__init__" = some (some (.ref f)) ∧ PySem.W.isFn K (.ref f) = true ∧ Fun K "__init__" qual st f fd

structure RuleTop (K : PySem.W.Frag) (C : Addr) : Prop where
  g : PySem.W.nsIn K mainGlobals "Rule" = some (some (.ref C))
  cl : Cls K C
  I : IC K C
  ne : PySem.W.findIn K (.ref C) "__ne__" = some (some (.builtin "object.__ne__"))
  mks : PySem.W.makesIn K C = true
  kc : PySem.W.keepIn K (.ref C) = true
  n0 : NoAttr K C "_label"
  n1 : NoAttr K C "_head"
  n2 : NoAttr K C "_told"
  n3 : NoAttr K C "_pairs"
  n4 : NoAttr K C "_denied"
  init : InitAt K C "Rule.__init__" (inClass cRule 0) [.non, .non]
  m0 : MethAt K C "__eq__" "Rule.__eq__" (inClass cRule 1)
  q0 : PropAt K C "label" "Rule.label" (inClass cRule 2)
  q1 : PropAt K C "head" "Rule.head" (inClass cRule 3)
  q2 : PropAt K C "told" "Rule.told" (inClass cRule 4)
  q3 : PropAt K C "pairs" "Rule.pairs" (inClass cRule 5)
  q4 : PropAt K C "denied" "Rule.denied" (inClass cRule 6)

theorem rule_at {K : PySem.W.Frag} {h : Heap} (X : K.In h) {C fI T fm0 fq0 pq0 fq1 pq1 fq2 pq2 fq3 pq3 fq4 pq4 : Addr} {ocI kVI dcI pmI cdI ctI oc2 ocm0 kVm0 dcm0 pmm0 cdm0 ctm0 ocq0 kVq0 dcq0 pmq0 cdq0 ctq0 ocq1 kVq1 dcq1 pmq1 cdq1 ctq1 ocq2 kVq2 dcq2 pmq2 cdq2 ctq2 ocq3 kVq3 dcq3 pmq3 cdq3 ctq3 ocq4 kVq4 dcq4 pmq4 cdq4 ctq4 : Value} {odI anI od2 odm0 anm0 odq0 anq0 odq1 anq1 odq2 anq2 odq3 anq3 odq4 anq4 : Option Addr} {slI sl2 slm0 slq0 slq1 slq2 slq3 slq4 : Array (Option Value)} {nn : Nat} {rsq0 rsq1 rsq2 rsq3 rsq4 : List Value}
    (g : PySem.W.nsIn K mainGlobals "Rule" = some (some (.ref C)))
    (pg : PySem.W.plainGet K C Str.empty = true)
    (hd : PySem.W.hasDictIn K C = true)
    (po : PySem.W.plainOver K C = true)
    (sa : PySem.W.findIn K (.ref C) "__setattr__" = some (some (.builtin "object.__setattr__")))
    (mk : PySem.W.makesIn K C = true)
    (kc : PySem.W.keepIn K (.ref C) = true)
    (cc : PySem.W.findIn K (.ref C) "__class__" = some (some (.builtin "object.__class__")))
    (gt : PySem.W.specialIn K (.builtin "object.__class__") "__get__" = some (some (.builtin "getset_descriptor.__get__")))
    (tk : PySem.W.takesIn K (.builtin "object.__class__") = some true)
    (mo : PySem.W.mroIn K C (.type "object") = some true)
    (ne : PySem.W.findIn K (.ref C) "__ne__" = some (some (.builtin "object.__ne__")))
    (n0 : PySem.W.findIn K (.ref C) "_label" = some none)
    (n1 : PySem.W.findIn K (.ref C) "_head" = some none)
    (n2 : PySem.W.findIn K (.ref C) "_told" = some none)
    (n3 : PySem.W.findIn K (.ref C) "_pairs" = some none)
    (n4 : PySem.W.findIn K (.ref C) "_denied" = some none)
    (aI : PySem.W.findIn K (.ref C) "__init__" = some (some (.ref fI)))
    (iI : PySem.W.isFn K (.ref fI) = true)
    (lI : K.lookup fI = some ⟨ocI, odI, .func (PySem.W.fnOf "__init__" "Rule.__init__" (defArgs (inClass cRule 0)) (defBody (inClass cRule 0)) (defScope (inClass cRule 0)) (.ref T) kVI dcI pmI anI cdI ctI), slI⟩)
    (cI : PySem.W.codeIn K cdI "Rule.__init__" = true)
    (kI : PySem.W.keepIn K (.ref fI) = true)
    (t : K.lookup T = some ⟨oc2, od2, .seq #[.none, .none] nn, sl2⟩)
    (am0 : PySem.W.findIn K (.ref C) "__eq__" = some (some (.ref fm0)))
    (im0 : PySem.W.isFn K (.ref fm0) = true)
    (lm0 : K.lookup fm0 = some ⟨ocm0, odm0, .func (PySem.W.fnOf "__eq__" "Rule.__eq__" (defArgs (inClass cRule 1)) (defBody (inClass cRule 1)) (defScope (inClass cRule 1)) .none kVm0 dcm0 pmm0 anm0 cdm0 ctm0), slm0⟩)
    (cm0 : PySem.W.codeIn K cdm0 "Rule.__eq__" = true)
    (km0 : PySem.W.keepIn K (.ref fm0) = true)
    (aq0 : PySem.W.findIn K (.ref C) "label" = some (some (.ref pq0)))
    (sq0 : PySem.W.specialIn K (.ref pq0) "__get__" = some (some (.builtin "property.__get__")))
    (tq0 : PySem.W.takesIn K (.ref pq0) = some true)
    (rq0 : PySem.W.recIn K pq0 "property" = some (.ref fq0 :: rsq0))
    (lq0 : K.lookup fq0 = some ⟨ocq0, odq0, .func (PySem.W.fnOf "label" "Rule.label" (defArgs (inClass cRule 2)) (defBody (inClass cRule 2)) (defScope (inClass cRule 2)) .none kVq0 dcq0 pmq0 anq0 cdq0 ctq0), slq0⟩)
    (cq0 : PySem.W.codeIn K cdq0 "Rule.label" = true)
    (kq0 : PySem.W.keepIn K (.ref fq0) = true)
    (aq1 : PySem.W.findIn K (.ref C) "head" = some (some (.ref pq1)))
    (sq1 : PySem.W.specialIn K (.ref pq1) "__get__" = some (some (.builtin "property.__get__")))
    (tq1 : PySem.W.takesIn K (.ref pq1) = some true)
    (rq1 : PySem.W.recIn K pq1 "property" = some (.ref fq1 :: rsq1))
    (lq1 : K.lookup fq1 = some ⟨ocq1, odq1, .func (PySem.W.fnOf "head" "Rule.head" (defArgs (inClass cRule 3)) (defBody (inClass cRule 3)) (defScope (inClass cRule 3)) .none kVq1 dcq1 pmq1 anq1 cdq1 ctq1), slq1⟩)
    (cq1 : PySem.W.codeIn K cdq1 "Rule.head" = true)
    (kq1 : PySem.W.keepIn K (.ref fq1) = true)
    (aq2 : PySem.W.findIn K (.ref C) "told" = some (some (.ref pq2)))
    (sq2 : PySem.W.specialIn K (.ref pq2) "__get__" = some (some (.builtin "property.__get__")))
    (tq2 : PySem.W.takesIn K (.ref pq2) = some true)
    (rq2 : PySem.W.recIn K pq2 "property" = some (.ref fq2 :: rsq2))
    (lq2 : K.lookup fq2 = some ⟨ocq2, odq2, .func (PySem.W.fnOf "told" "Rule.told" (defArgs (inClass cRule 4)) (defBody (inClass cRule 4)) (defScope (inClass cRule 4)) .none kVq2 dcq2 pmq2 anq2 cdq2 ctq2), slq2⟩)
    (cq2 : PySem.W.codeIn K cdq2 "Rule.told" = true)
    (kq2 : PySem.W.keepIn K (.ref fq2) = true)
    (aq3 : PySem.W.findIn K (.ref C) "pairs" = some (some (.ref pq3)))
    (sq3 : PySem.W.specialIn K (.ref pq3) "__get__" = some (some (.builtin "property.__get__")))
    (tq3 : PySem.W.takesIn K (.ref pq3) = some true)
    (rq3 : PySem.W.recIn K pq3 "property" = some (.ref fq3 :: rsq3))
    (lq3 : K.lookup fq3 = some ⟨ocq3, odq3, .func (PySem.W.fnOf "pairs" "Rule.pairs" (defArgs (inClass cRule 5)) (defBody (inClass cRule 5)) (defScope (inClass cRule 5)) .none kVq3 dcq3 pmq3 anq3 cdq3 ctq3), slq3⟩)
    (cq3 : PySem.W.codeIn K cdq3 "Rule.pairs" = true)
    (kq3 : PySem.W.keepIn K (.ref fq3) = true)
    (aq4 : PySem.W.findIn K (.ref C) "denied" = some (some (.ref pq4)))
    (sq4 : PySem.W.specialIn K (.ref pq4) "__get__" = some (some (.builtin "property.__get__")))
    (tq4 : PySem.W.takesIn K (.ref pq4) = some true)
    (rq4 : PySem.W.recIn K pq4 "property" = some (.ref fq4 :: rsq4))
    (lq4 : K.lookup fq4 = some ⟨ocq4, odq4, .func (PySem.W.fnOf "denied" "Rule.denied" (defArgs (inClass cRule 6)) (defBody (inClass cRule 6)) (defScope (inClass cRule 6)) .none kVq4 dcq4 pmq4 anq4 cdq4 ctq4), slq4⟩)
    (cq4 : PySem.W.codeIn K cdq4 "Rule.denied" = true)
    (kq4 : PySem.W.keepIn K (.ref fq4) = true) :
    ∃ C, RuleTop K C :=
  ⟨C, g, ⟨pg, hd, po, sa⟩, ⟨cc, gt, tk, mo, me_of⟩, ne, mk, kc, n0, n1, n2, n3, n4, ⟨fI, _, aI, iI, ⟨⟨_, _, _, _, _, _, _, _, _, _, rfl, lI, cI, .inr ⟨by simp, T, _, [Value.none, Value.none], nn, rfl, t, rfl, .cons rfl (.cons rfl .nil)⟩, .inl rfl⟩, kI⟩⟩, ⟨fm0, _, am0, im0, fun_mk lm0 cm0 km0⟩, ⟨pq0, fq0, _, ⟨aq0, sq0, tq0, ⟨_, rq0⟩⟩, fun_mk lq0 cq0 kq0⟩, ⟨pq1, fq1, _, ⟨aq1, sq1, tq1, ⟨_, rq1⟩⟩, fun_mk lq1 cq1 kq1⟩, ⟨pq2, fq2, _, ⟨aq2, sq2, tq2, ⟨_, rq2⟩⟩, fun_mk lq2 cq2 kq2⟩, ⟨pq3, fq3, _, ⟨aq3, sq3, tq3, ⟨_, rq3⟩⟩, fun_mk lq3 cq3 kq3⟩, ⟨pq4, fq4, _, ⟨aq4, sq4, tq4, ⟨_, rq4⟩⟩, fun_mk lq4 cq4 kq4⟩⟩

structure BookTop (K : PySem.W.Frag) (C : Addr) : Prop where
  g : PySem.W.nsIn K mainGlobals "Book" = some (some (.ref C))
  cl : Cls K C
  I : IC K C
  ne : PySem.W.findIn K (.ref C) "__ne__" = some (some (.builtin "object.__ne__"))
  mks : PySem.W.makesIn K C = true
  kc : PySem.W.keepIn K (.ref C) = true
  n0 : NoAttr K C "_rules"
  init : InitAt0 K C "Book.__init__" (inClass cBook 0)
  m0 : MethAt K C "__eq__" "Book.__eq__" (inClass cBook 1)
  m1 : MethAt K C "rules" "Book.rules" (inClass cBook 4)

theorem book_at {K : PySem.W.Frag} {h : Heap} (X : K.In h) {C fI fm0 fm1 : Addr} {ocI kVI dcI pmI cdI ctI ocm0 kVm0 dcm0 pmm0 cdm0 ctm0 ocm1 kVm1 dcm1 pmm1 cdm1 ctm1 : Value} {odI anI odm0 anm0 odm1 anm1 : Option Addr} {slI slm0 slm1 : Array (Option Value)} 
    (g : PySem.W.nsIn K mainGlobals "Book" = some (some (.ref C)))
    (pg : PySem.W.plainGet K C Str.empty = true)
    (hd : PySem.W.hasDictIn K C = true)
    (po : PySem.W.plainOver K C = true)
    (sa : PySem.W.findIn K (.ref C) "__setattr__" = some (some (.builtin "object.__setattr__")))
    (mk : PySem.W.makesIn K C = true)
    (kc : PySem.W.keepIn K (.ref C) = true)
    (cc : PySem.W.findIn K (.ref C) "__class__" = some (some (.builtin "object.__class__")))
    (gt : PySem.W.specialIn K (.builtin "object.__class__") "__get__" = some (some (.builtin "getset_descriptor.__get__")))
    (tk : PySem.W.takesIn K (.builtin "object.__class__") = some true)
    (mo : PySem.W.mroIn K C (.type "object") = some true)
    (ne : PySem.W.findIn K (.ref C) "__ne__" = some (some (.builtin "object.__ne__")))
    (n0 : PySem.W.findIn K (.ref C) "_rules" = some none)
    (aI : PySem.W.findIn K (.ref C) "__init__" = some (some (.ref fI)))
    (iI : PySem.W.isFn K (.ref fI) = true)
    (lI : K.lookup fI = some ⟨ocI, odI, .func (PySem.W.fnOf "__init__" "Book.__init__" (defArgs (inClass cBook 0)) (defBody (inClass cBook 0)) (defScope (inClass cBook 0)) .none kVI dcI pmI anI cdI ctI), slI⟩)
    (cI : PySem.W.codeIn K cdI "Book.__init__" = true)
    (kI : PySem.W.keepIn K (.ref fI) = true)
    (am0 : PySem.W.findIn K (.ref C) "__eq__" = some (some (.ref fm0)))
    (im0 : PySem.W.isFn K (.ref fm0) = true)
    (lm0 : K.lookup fm0 = some ⟨ocm0, odm0, .func (PySem.W.fnOf "__eq__" "Book.__eq__" (defArgs (inClass cBook 1)) (defBody (inClass cBook 1)) (defScope (inClass cBook 1)) .none kVm0 dcm0 pmm0 anm0 cdm0 ctm0), slm0⟩)
    (cm0 : PySem.W.codeIn K cdm0 "Book.__eq__" = true)
    (km0 : PySem.W.keepIn K (.ref fm0) = true)
    (am1 : PySem.W.findIn K (.ref C) "rules" = some (some (.ref fm1)))
    (im1 : PySem.W.isFn K (.ref fm1) = true)
    (lm1 : K.lookup fm1 = some ⟨ocm1, odm1, .func (PySem.W.fnOf "rules" "Book.rules" (defArgs (inClass cBook 4)) (defBody (inClass cBook 4)) (defScope (inClass cBook 4)) .none kVm1 dcm1 pmm1 anm1 cdm1 ctm1), slm1⟩)
    (cm1 : PySem.W.codeIn K cdm1 "Book.rules" = true)
    (km1 : PySem.W.keepIn K (.ref fm1) = true) :
    ∃ C, BookTop K C :=
  ⟨C, g, ⟨pg, hd, po, sa⟩, ⟨cc, gt, tk, mo, me_of⟩, ne, mk, kc, n0, ⟨fI, _, aI, iI, fun_mk lI cI kI⟩, ⟨fm0, _, am0, im0, fun_mk lm0 cm0 km0⟩, ⟨fm1, _, am1, im1, fun_mk lm1 cm1 km1⟩⟩

end Nv
set_option maxHeartbeats 8000000
namespace Nv
open PySem PySem.Spec PyProof.Rows L2
theorem binds_rule {K : PySem.W.Frag} {f : Addr} {fd : FuncData} (F : FunD K "__init__" "Rule.__init__" (defArgs sRuleInit) (defBody sRuleInit) (defScope sRuleInit) [.non, .non] [] f fd) : ∀ n, n ≤ ([Value.none, Value.none] : List Value).length → Binds K fd ["self", "label", "head", "told", "pairs", "denied"] (([Value.none, Value.none] : List Value).drop n) := by
  obtain ⟨oc, od, dV, kV, doc, pm, an, cdv, ct, osl, rfl, lk, hcd, hD, hK⟩ := F.ex
  rcases hD with ⟨e, _⟩ | ⟨_, T, o, its, m, rfl, lT, oT, rT⟩
  · cases e
  · cases rT with
    | cons r0 rn =>
      cases rn with
      | cons r1 rn =>
        cases rn
        cases r0
        cases r1
        intro n hn s us X hl
        have hn2 : n ≤ 2 := hn
        rcases (by omega : n = 0 ∨ n = 1 ∨ n = 2) with rfl | rfl | rfl
        · have h4 : us.length = 4 := by simpa using hl
          match us, h4 with
          | [_, _, _, _], _ => exact BindsTo.of_looks fun M => looks_items X lT oT (.of_pure rfl)
        · have h4 : us.length = 5 := by simpa using hl
          match us, h4 with
          | [_, _, _, _, _], _ => exact BindsTo.of_looks fun M => looks_items X lT oT (.of_pure rfl)
        · have h4 : us.length = 6 := by simpa using hl
          match us, h4 with
          | [_, _, _, _, _, _], _ => exact BindsTo.of_looks fun M => looks_items X lT oT (.of_pure rfl)
theorem law_at {P : Program} {w : World} {K : PySem.W.Frag} {mg : Str → Option Value} {h : Heap} {fa : Addr} (X : K.In h) (G : h.Ns mainGlobals mg) (hfa : mg "law" = some (.ref fa)) {CR CB : Addr} (TR : RuleTop K CR) (TB : BookTop K CB)
    (z_isinstance : PySem.W.nsIn K mainGlobals "isinstance" = some none) (z_str : PySem.W.nsIn K mainGlobals "str" = some none) (z_tuple : PySem.W.nsIn K mainGlobals "tuple" = some none) (z_list : PySem.W.nsIn K mainGlobals "list" = some none) (z_set : PySem.W.nsIn K mainGlobals "set" = some none) (z_len : PySem.W.nsIn K mainGlobals "len" = some none) (z_all : PySem.W.nsIn K mainGlobals "all" = some none) (z_any : PySem.W.nsIn K mainGlobals "any" = some none) (z_range : PySem.W.nsIn K mainGlobals "range" = some none) (z_sum : PySem.W.nsIn K mainGlobals "sum" = some none) (z_max : PySem.W.nsIn K mainGlobals "max" = some none) (z_min : PySem.W.nsIn K mainGlobals "min" = some none) (z_int : PySem.W.nsIn K mainGlobals "int" = some none) (z_repr : PySem.W.nsIn K mainGlobals "repr" = some none) (z_zip : PySem.W.nsIn K mainGlobals "zip" = some none) (z_sorted : PySem.W.nsIn K mainGlobals "sorted" = some none)
    (d_isName : DefAt K "is_name" sIsName)
    (d_isVar : DefAt K "is_variable" sIsVar)
    (d_isTerm : DefAt K "is_term" sIsTerm)
    (d_isFact : DefAt K "is_fact" sIsFact)
    (d_isPattern : DefAt K "is_pattern" sIsPattern)
    (d_isStore : DefAt K "is_store" sIsStore)
    (d_isPatterns : DefAt K "is_patterns" sIsPatterns)
    (d_isPair : DefAt K "is_pair" sIsPair)
    (d_isPairs : DefAt K "is_pairs" sIsPairs)
    (d_termsOf : DefAt K "terms_of" sTermsOf)
    (d_sides : DefAt K "sides_of" sSides)
    (d_varsAmong : DefAt K "variables_among" sVarsAmong)
    (d_varsOf : DefAt K "variables_of" sVarsOf)
    (d_hasMore : DefAt K "has_more" sHasMore)
    (d_hasDouble : DefAt K "_has_double" sHasDouble)
    (d_needFact : DefAt K "need_fact" sNeedFact)
    (d_needStore : DefAt K "need_store" sNeedStore)
    (d_needRule : DefAt K "need_rule" sNeedRule)
    (d_needBook : DefAt K "need_book" sNeedBook)
    (d_patternText : DefAt K "pattern_text" sPatternText)
    (d_patternIn : DefAt K "pattern_in" sPatternIn)
    (d_unbracketed : DefAt K "_unbracketed" sUnbracketed)
    (d_conditionsIn : DefAt K "conditions_in" sConditionsIn)
    (d_conditionsText : DefAt K "conditions_text" sConditionsText)
    (d_ruleText : DefAt K "rule_text" sRuleText)
    (d_factText : DefAt K "fact_text" sFactText)
    (d_storeText : DefAt K "store_text" sStoreText)
    (d_bookText : DefAt K "book_text" sBookText)
    (d_linesOf : DefAt K "lines_of" sLinesOf)
    (d_factIn : DefAt K "_fact_in" sFactIn)
    (d_ruleIn : DefAt K "_rule_in" sRuleIn)
    (d_readFact : DefAt K "read_fact" sReadFact)
    (d_readRule : DefAt K "read_rule" sReadRule)
    (d_readBook : DefAt K "read_book" sReadBook)
    (d_readStore : DefAt K "read_store" sReadStore)
    (d_purse : DefAt K "_law_purse" sPurse)
    (d_mixed : DefAt K "_law_mixed" sMixed)
    (d_draw : DefAt K "_law_draw" sDraw)
    (d_purses : DefAt K "_law_purses" sPurses)
    (d_oneOf : DefAt K "_law_one_of" sOneOf)
    (d_shuffled : DefAt K "_law_shuffled" sShuffled)
    (d_names : DefAt K "_law_names" sNames)
    (d_kinds : DefAt K "_law_kinds" sKinds)
    (d_fact : DefAt K "_law_fact" sFact)
    (d_store : DefAt K "_law_store" sStore)
    (d_pattern : DefAt K "_law_pattern" sPattern)
    (d_told : DefAt K "_law_told" sTold)
    (d_variables : DefAt K "_law_variables" sVariables)
    (d_pairs : DefAt K "_law_pairs" sPairs)
    (d_rule : DefAt K "_law_rule" sRule)
    (d_anyRule : DefAt K "_law_any_rule" sAnyRule)
    (d_anyBook : DefAt K "_law_any_book" sAnyBook)
    (d_lPatternText : DefAt K "_law_pattern_text" sLPatternText)
    (d_lRuleText : DefAt K "_law_rule_text" sLRuleText)
    (d_odd : DefAt K "_law_odd_words_right" sOddWordsRight)
    (d_law : DefAt K "law" sLaw) :
    ∃ fd : FuncData, (∀ (s : Shared) (u : Value), BindsTo s fd ⟨[u], []⟩ [("_law_script", u)]) ∧
      ∀ base : Heap, K.In base → base.Ns mainGlobals mg → (∃ o, base.get? sysModules = some o) → RunG P w K mg base 10 fa fd ["_law_script"] (spLaw K) := by
  obtain ⟨f_isName, e_isName, g_isName, F_isName⟩ := d_isName
  have m_isName := PySem.W.mg_of X G g_isName
  have b_isName : Binds K e_isName ["value"] [] := F_isName.binds (ps := ["value"]) fun _ _ _ _ _ _ us hl => match us, hl with | [_], _ => rfl
  obtain ⟨f_isVar, e_isVar, g_isVar, F_isVar⟩ := d_isVar
  have m_isVar := PySem.W.mg_of X G g_isVar
  have b_isVar : Binds K e_isVar ["value"] [] := F_isVar.binds (ps := ["value"]) fun _ _ _ _ _ _ us hl => match us, hl with | [_], _ => rfl
  obtain ⟨f_isTerm, e_isTerm, g_isTerm, F_isTerm⟩ := d_isTerm
  have m_isTerm := PySem.W.mg_of X G g_isTerm
  have b_isTerm : Binds K e_isTerm ["value"] [] := F_isTerm.binds (ps := ["value"]) fun _ _ _ _ _ _ us hl => match us, hl with | [_], _ => rfl
  obtain ⟨f_isFact, e_isFact, g_isFact, F_isFact⟩ := d_isFact
  have m_isFact := PySem.W.mg_of X G g_isFact
  have b_isFact : Binds K e_isFact ["value"] [] := F_isFact.binds (ps := ["value"]) fun _ _ _ _ _ _ us hl => match us, hl with | [_], _ => rfl
  obtain ⟨f_isPattern, e_isPattern, g_isPattern, F_isPattern⟩ := d_isPattern
  have m_isPattern := PySem.W.mg_of X G g_isPattern
  have b_isPattern : Binds K e_isPattern ["value"] [] := F_isPattern.binds (ps := ["value"]) fun _ _ _ _ _ _ us hl => match us, hl with | [_], _ => rfl
  obtain ⟨f_isStore, e_isStore, g_isStore, F_isStore⟩ := d_isStore
  have m_isStore := PySem.W.mg_of X G g_isStore
  have b_isStore : Binds K e_isStore ["value"] [] := F_isStore.binds (ps := ["value"]) fun _ _ _ _ _ _ us hl => match us, hl with | [_], _ => rfl
  obtain ⟨f_isPatterns, e_isPatterns, g_isPatterns, F_isPatterns⟩ := d_isPatterns
  have m_isPatterns := PySem.W.mg_of X G g_isPatterns
  have b_isPatterns : Binds K e_isPatterns ["value"] [] := F_isPatterns.binds (ps := ["value"]) fun _ _ _ _ _ _ us hl => match us, hl with | [_], _ => rfl
  obtain ⟨f_isPair, e_isPair, g_isPair, F_isPair⟩ := d_isPair
  have m_isPair := PySem.W.mg_of X G g_isPair
  have b_isPair : Binds K e_isPair ["value"] [] := F_isPair.binds (ps := ["value"]) fun _ _ _ _ _ _ us hl => match us, hl with | [_], _ => rfl
  obtain ⟨f_isPairs, e_isPairs, g_isPairs, F_isPairs⟩ := d_isPairs
  have m_isPairs := PySem.W.mg_of X G g_isPairs
  have b_isPairs : Binds K e_isPairs ["value"] [] := F_isPairs.binds (ps := ["value"]) fun _ _ _ _ _ _ us hl => match us, hl with | [_], _ => rfl
  obtain ⟨f_termsOf, e_termsOf, g_termsOf, F_termsOf⟩ := d_termsOf
  have m_termsOf := PySem.W.mg_of X G g_termsOf
  have b_termsOf : Binds K e_termsOf ["patterns"] [] := F_termsOf.binds (ps := ["patterns"]) fun _ _ _ _ _ _ us hl => match us, hl with | [_], _ => rfl
  obtain ⟨f_sides, e_sides, g_sides, F_sides⟩ := d_sides
  have m_sides := PySem.W.mg_of X G g_sides
  have b_sides : Binds K e_sides ["pairs"] [] := F_sides.binds (ps := ["pairs"]) fun _ _ _ _ _ _ us hl => match us, hl with | [_], _ => rfl
  obtain ⟨f_varsAmong, e_varsAmong, g_varsAmong, F_varsAmong⟩ := d_varsAmong
  have m_varsAmong := PySem.W.mg_of X G g_varsAmong
  have b_varsAmong : Binds K e_varsAmong ["terms"] [] := F_varsAmong.binds (ps := ["terms"]) fun _ _ _ _ _ _ us hl => match us, hl with | [_], _ => rfl
  obtain ⟨f_varsOf, e_varsOf, g_varsOf, F_varsOf⟩ := d_varsOf
  have m_varsOf := PySem.W.mg_of X G g_varsOf
  have b_varsOf : Binds K e_varsOf ["patterns"] [] := F_varsOf.binds (ps := ["patterns"]) fun _ _ _ _ _ _ us hl => match us, hl with | [_], _ => rfl
  obtain ⟨f_hasMore, e_hasMore, g_hasMore, F_hasMore⟩ := d_hasMore
  have m_hasMore := PySem.W.mg_of X G g_hasMore
  have b_hasMore : Binds K e_hasMore ["terms", "told"] [] := F_hasMore.binds (ps := ["terms", "told"]) fun _ _ _ _ _ _ us hl => match us, hl with | [_, _], _ => rfl
  obtain ⟨f_hasDouble, e_hasDouble, g_hasDouble, F_hasDouble⟩ := d_hasDouble
  have m_hasDouble := PySem.W.mg_of X G g_hasDouble
  have b_hasDouble : Binds K e_hasDouble ["labels"] [] := F_hasDouble.binds (ps := ["labels"]) fun _ _ _ _ _ _ us hl => match us, hl with | [_], _ => rfl
  obtain ⟨f_needFact, e_needFact, g_needFact, F_needFact⟩ := d_needFact
  have m_needFact := PySem.W.mg_of X G g_needFact
  have b_needFact : Binds K e_needFact ["value"] [] := F_needFact.binds (ps := ["value"]) fun _ _ _ _ _ _ us hl => match us, hl with | [_], _ => rfl
  obtain ⟨f_needStore, e_needStore, g_needStore, F_needStore⟩ := d_needStore
  have m_needStore := PySem.W.mg_of X G g_needStore
  have b_needStore : Binds K e_needStore ["value"] [] := F_needStore.binds (ps := ["value"]) fun _ _ _ _ _ _ us hl => match us, hl with | [_], _ => rfl
  obtain ⟨f_needRule, e_needRule, g_needRule, F_needRule⟩ := d_needRule
  have m_needRule := PySem.W.mg_of X G g_needRule
  have b_needRule : Binds K e_needRule ["value"] [] := F_needRule.binds (ps := ["value"]) fun _ _ _ _ _ _ us hl => match us, hl with | [_], _ => rfl
  obtain ⟨f_needBook, e_needBook, g_needBook, F_needBook⟩ := d_needBook
  have m_needBook := PySem.W.mg_of X G g_needBook
  have b_needBook : Binds K e_needBook ["value"] [] := F_needBook.binds (ps := ["value"]) fun _ _ _ _ _ _ us hl => match us, hl with | [_], _ => rfl
  obtain ⟨f_patternText, e_patternText, g_patternText, F_patternText⟩ := d_patternText
  have m_patternText := PySem.W.mg_of X G g_patternText
  have b_patternText : Binds K e_patternText ["pattern"] [] := F_patternText.binds (ps := ["pattern"]) fun _ _ _ _ _ _ us hl => match us, hl with | [_], _ => rfl
  obtain ⟨f_patternIn, e_patternIn, g_patternIn, F_patternIn⟩ := d_patternIn
  have m_patternIn := PySem.W.mg_of X G g_patternIn
  have b_patternIn : Binds K e_patternIn ["text"] [] := F_patternIn.binds (ps := ["text"]) fun _ _ _ _ _ _ us hl => match us, hl with | [_], _ => rfl
  obtain ⟨f_unbracketed, e_unbracketed, g_unbracketed, F_unbracketed⟩ := d_unbracketed
  have m_unbracketed := PySem.W.mg_of X G g_unbracketed
  have b_unbracketed : Binds K e_unbracketed ["text"] [] := F_unbracketed.binds (ps := ["text"]) fun _ _ _ _ _ _ us hl => match us, hl with | [_], _ => rfl
  obtain ⟨f_conditionsIn, e_conditionsIn, g_conditionsIn, F_conditionsIn⟩ := d_conditionsIn
  have m_conditionsIn := PySem.W.mg_of X G g_conditionsIn
  have b_conditionsIn : Binds K e_conditionsIn ["text"] [] := F_conditionsIn.binds (ps := ["text"]) fun _ _ _ _ _ _ us hl => match us, hl with | [_], _ => rfl
  obtain ⟨f_conditionsText, e_conditionsText, g_conditionsText, F_conditionsText⟩ := d_conditionsText
  have m_conditionsText := PySem.W.mg_of X G g_conditionsText
  have b_conditionsText : Binds K e_conditionsText ["told", "pairs", "denied"] [] := F_conditionsText.binds (ps := ["told", "pairs", "denied"]) fun _ _ _ _ _ _ us hl => match us, hl with | [_, _, _], _ => rfl
  obtain ⟨f_ruleText, e_ruleText, g_ruleText, F_ruleText⟩ := d_ruleText
  have m_ruleText := PySem.W.mg_of X G g_ruleText
  have b_ruleText : Binds K e_ruleText ["rule"] [] := F_ruleText.binds (ps := ["rule"]) fun _ _ _ _ _ _ us hl => match us, hl with | [_], _ => rfl
  obtain ⟨f_factText, e_factText, g_factText, F_factText⟩ := d_factText
  have m_factText := PySem.W.mg_of X G g_factText
  have b_factText : Binds K e_factText ["fact"] [] := F_factText.binds (ps := ["fact"]) fun _ _ _ _ _ _ us hl => match us, hl with | [_], _ => rfl
  obtain ⟨f_storeText, e_storeText, g_storeText, F_storeText⟩ := d_storeText
  have m_storeText := PySem.W.mg_of X G g_storeText
  have b_storeText : Binds K e_storeText ["store"] [] := F_storeText.binds (ps := ["store"]) fun _ _ _ _ _ _ us hl => match us, hl with | [_], _ => rfl
  obtain ⟨f_bookText, e_bookText, g_bookText, F_bookText⟩ := d_bookText
  have m_bookText := PySem.W.mg_of X G g_bookText
  have b_bookText : Binds K e_bookText ["book"] [] := F_bookText.binds (ps := ["book"]) fun _ _ _ _ _ _ us hl => match us, hl with | [_], _ => rfl
  obtain ⟨f_linesOf, e_linesOf, g_linesOf, F_linesOf⟩ := d_linesOf
  have m_linesOf := PySem.W.mg_of X G g_linesOf
  have b_linesOf : Binds K e_linesOf ["text"] [] := F_linesOf.binds (ps := ["text"]) fun _ _ _ _ _ _ us hl => match us, hl with | [_], _ => rfl
  obtain ⟨f_factIn, e_factIn, g_factIn, F_factIn⟩ := d_factIn
  have m_factIn := PySem.W.mg_of X G g_factIn
  have b_factIn : Binds K e_factIn ["text"] [] := F_factIn.binds (ps := ["text"]) fun _ _ _ _ _ _ us hl => match us, hl with | [_], _ => rfl
  obtain ⟨f_ruleIn, e_ruleIn, g_ruleIn, F_ruleIn⟩ := d_ruleIn
  have m_ruleIn := PySem.W.mg_of X G g_ruleIn
  have b_ruleIn : Binds K e_ruleIn ["text"] [] := F_ruleIn.binds (ps := ["text"]) fun _ _ _ _ _ _ us hl => match us, hl with | [_], _ => rfl
  obtain ⟨f_readFact, e_readFact, g_readFact, F_readFact⟩ := d_readFact
  have m_readFact := PySem.W.mg_of X G g_readFact
  have b_readFact : Binds K e_readFact ["text"] [] := F_readFact.binds (ps := ["text"]) fun _ _ _ _ _ _ us hl => match us, hl with | [_], _ => rfl
  obtain ⟨f_readRule, e_readRule, g_readRule, F_readRule⟩ := d_readRule
  have m_readRule := PySem.W.mg_of X G g_readRule
  have b_readRule : Binds K e_readRule ["text"] [] := F_readRule.binds (ps := ["text"]) fun _ _ _ _ _ _ us hl => match us, hl with | [_], _ => rfl
  obtain ⟨f_readBook, e_readBook, g_readBook, F_readBook⟩ := d_readBook
  have m_readBook := PySem.W.mg_of X G g_readBook
  have b_readBook : Binds K e_readBook ["text"] [] := F_readBook.binds (ps := ["text"]) fun _ _ _ _ _ _ us hl => match us, hl with | [_], _ => rfl
  obtain ⟨f_readStore, e_readStore, g_readStore, F_readStore⟩ := d_readStore
  have m_readStore := PySem.W.mg_of X G g_readStore
  have b_readStore : Binds K e_readStore ["text"] [] := F_readStore.binds (ps := ["text"]) fun _ _ _ _ _ _ us hl => match us, hl with | [_], _ => rfl
  obtain ⟨f_purse, e_purse, g_purse, F_purse⟩ := d_purse
  have m_purse := PySem.W.mg_of X G g_purse
  have b_purse : Binds K e_purse ["_law_script", "_law_at"] [] := F_purse.binds (ps := ["_law_script", "_law_at"]) fun _ _ _ _ _ _ us hl => match us, hl with | [_, _], _ => rfl
  obtain ⟨f_mixed, e_mixed, g_mixed, F_mixed⟩ := d_mixed
  have m_mixed := PySem.W.mg_of X G g_mixed
  have b_mixed : Binds K e_mixed ["_law_seed", "_law_turn", "_law_at"] [] := F_mixed.binds (ps := ["_law_seed", "_law_turn", "_law_at"]) fun _ _ _ _ _ _ us hl => match us, hl with | [_, _, _], _ => rfl
  obtain ⟨f_draw, e_draw, g_draw, F_draw⟩ := d_draw
  have m_draw := PySem.W.mg_of X G g_draw
  have b_draw : Binds K e_draw ["_law_purse_here", "_law_many"] [] := F_draw.binds (ps := ["_law_purse_here", "_law_many"]) fun _ _ _ _ _ _ us hl => match us, hl with | [_, _], _ => rfl
  obtain ⟨f_purses, e_purses, g_purses, F_purses⟩ := d_purses
  have m_purses := PySem.W.mg_of X G g_purses
  have b_purses : Binds K e_purses ["_law_script", "_law_few"] [] := F_purses.binds (ps := ["_law_script", "_law_few"]) fun _ _ _ _ _ _ us hl => match us, hl with | [_, _], _ => rfl
  obtain ⟨f_oneOf, e_oneOf, g_oneOf, F_oneOf⟩ := d_oneOf
  have m_oneOf := PySem.W.mg_of X G g_oneOf
  have b_oneOf : Binds K e_oneOf ["_law_purse_here", "_law_some"] [] := F_oneOf.binds (ps := ["_law_purse_here", "_law_some"]) fun _ _ _ _ _ _ us hl => match us, hl with | [_, _], _ => rfl
  obtain ⟨f_shuffled, e_shuffled, g_shuffled, F_shuffled⟩ := d_shuffled
  have m_shuffled := PySem.W.mg_of X G g_shuffled
  have b_shuffled : Binds K e_shuffled ["_law_purse_here", "_law_some"] [] := F_shuffled.binds (ps := ["_law_purse_here", "_law_some"]) fun _ _ _ _ _ _ us hl => match us, hl with | [_, _], _ => rfl
  obtain ⟨f_names, e_names, g_names, F_names⟩ := d_names
  have m_names := PySem.W.mg_of X G g_names
  have b_names : Binds K e_names ["_law_purse_here", "_law_many"] [] := F_names.binds (ps := ["_law_purse_here", "_law_many"]) fun _ _ _ _ _ _ us hl => match us, hl with | [_, _], _ => rfl
  obtain ⟨f_kinds, e_kinds, g_kinds, F_kinds⟩ := d_kinds
  have m_kinds := PySem.W.mg_of X G g_kinds
  have b_kinds : Binds K e_kinds ["_law_purse_here", "_law_many"] [] := F_kinds.binds (ps := ["_law_purse_here", "_law_many"]) fun _ _ _ _ _ _ us hl => match us, hl with | [_, _], _ => rfl
  obtain ⟨f_fact, e_fact, g_fact, F_fact⟩ := d_fact
  have m_fact := PySem.W.mg_of X G g_fact
  have b_fact : Binds K e_fact ["_law_purse_here", "_law_kinds_here", "_law_names_here"] [] := F_fact.binds (ps := ["_law_purse_here", "_law_kinds_here", "_law_names_here"]) fun _ _ _ _ _ _ us hl => match us, hl with | [_, _, _], _ => rfl
  obtain ⟨f_store, e_store, g_store, F_store⟩ := d_store
  have m_store := PySem.W.mg_of X G g_store
  have b_store : Binds K e_store ["_law_purse_here", "_law_kinds_here", "_law_names_here", "_law_most"] [] := F_store.binds (ps := ["_law_purse_here", "_law_kinds_here", "_law_names_here", "_law_most"]) fun _ _ _ _ _ _ us hl => match us, hl with | [_, _, _, _], _ => rfl
  obtain ⟨f_pattern, e_pattern, g_pattern, F_pattern⟩ := d_pattern
  have m_pattern := PySem.W.mg_of X G g_pattern
  have b_pattern : Binds K e_pattern ["_law_purse_here", "_law_kinds_here", "_law_terms"] [] := F_pattern.binds (ps := ["_law_purse_here", "_law_kinds_here", "_law_terms"]) fun _ _ _ _ _ _ us hl => match us, hl with | [_, _, _], _ => rfl
  obtain ⟨f_told, e_told, g_told, F_told⟩ := d_told
  have m_told := PySem.W.mg_of X G g_told
  have b_told : Binds K e_told ["_law_purse_here", "_law_kinds_here", "_law_names_here", "_law_most", "_law_few"] [] := F_told.binds (ps := ["_law_purse_here", "_law_kinds_here", "_law_names_here", "_law_most", "_law_few"]) fun _ _ _ _ _ _ us hl => match us, hl with | [_, _, _, _, _], _ => rfl
  obtain ⟨f_variables, e_variables, g_variables, F_variables⟩ := d_variables
  have m_variables := PySem.W.mg_of X G g_variables
  have b_variables : Binds K e_variables ["_law_told_here"] [] := F_variables.binds (ps := ["_law_told_here"]) fun _ _ _ _ _ _ us hl => match us, hl with | [_], _ => rfl
  obtain ⟨f_pairs, e_pairs, g_pairs, F_pairs⟩ := d_pairs
  have m_pairs := PySem.W.mg_of X G g_pairs
  have b_pairs : Binds K e_pairs ["_law_purse_here", "_law_told_here", "_law_names_here"] [] := F_pairs.binds (ps := ["_law_purse_here", "_law_told_here", "_law_names_here"]) fun _ _ _ _ _ _ us hl => match us, hl with | [_, _, _], _ => rfl
  obtain ⟨f_rule, e_rule, g_rule, F_rule⟩ := d_rule
  have m_rule := PySem.W.mg_of X G g_rule
  have b_rule : Binds K e_rule ["_law_purse_here", "_law_label", "_law_kinds_here", "_law_names_here", "_law_denied"] [] := F_rule.binds (ps := ["_law_purse_here", "_law_label", "_law_kinds_here", "_law_names_here", "_law_denied"]) fun _ _ _ _ _ _ us hl => match us, hl with | [_, _, _, _, _], _ => rfl
  obtain ⟨f_anyRule, e_anyRule, g_anyRule, F_anyRule⟩ := d_anyRule
  have m_anyRule := PySem.W.mg_of X G g_anyRule
  have b_anyRule : Binds K e_anyRule ["_law_purse_here", "_law_label", "_law_kinds_here", "_law_names_here"] [] := F_anyRule.binds (ps := ["_law_purse_here", "_law_label", "_law_kinds_here", "_law_names_here"]) fun _ _ _ _ _ _ us hl => match us, hl with | [_, _, _, _], _ => rfl
  obtain ⟨f_anyBook, e_anyBook, g_anyBook, F_anyBook⟩ := d_anyBook
  have m_anyBook := PySem.W.mg_of X G g_anyBook
  have b_anyBook : Binds K e_anyBook ["_law_purse_here", "_law_kinds_here", "_law_names_here", "_law_most"] [] := F_anyBook.binds (ps := ["_law_purse_here", "_law_kinds_here", "_law_names_here", "_law_most"]) fun _ _ _ _ _ _ us hl => match us, hl with | [_, _, _, _], _ => rfl
  obtain ⟨f_lPatternText, e_lPatternText, g_lPatternText, F_lPatternText⟩ := d_lPatternText
  have m_lPatternText := PySem.W.mg_of X G g_lPatternText
  have b_lPatternText : Binds K e_lPatternText ["_law_pattern_here"] [] := F_lPatternText.binds (ps := ["_law_pattern_here"]) fun _ _ _ _ _ _ us hl => match us, hl with | [_], _ => rfl
  obtain ⟨f_lRuleText, e_lRuleText, g_lRuleText, F_lRuleText⟩ := d_lRuleText
  have m_lRuleText := PySem.W.mg_of X G g_lRuleText
  have b_lRuleText : Binds K e_lRuleText ["_law_rule_here"] [] := F_lRuleText.binds (ps := ["_law_rule_here"]) fun _ _ _ _ _ _ us hl => match us, hl with | [_], _ => rfl
  obtain ⟨f_odd, e_odd, g_odd, F_odd⟩ := d_odd
  have m_odd := PySem.W.mg_of X G g_odd
  have b_odd : Binds K e_odd [] [] := F_odd.binds (ps := []) fun _ _ _ _ _ _ us hl => match us, hl with | [], _ => rfl
  obtain ⟨f_law, e_law, g_law, F_law⟩ := d_law
  have m_law := PySem.W.mg_of X G g_law
  have b_law : Binds K e_law ["_law_script"] [] := F_law.binds (ps := ["_law_script"]) fun _ _ _ _ _ _ us hl => match us, hl with | [_], _ => rfl
  have B : Bp mg := ⟨PySem.W.mg_none_of X G z_isinstance, PySem.W.mg_none_of X G z_str, PySem.W.mg_none_of X G z_tuple, PySem.W.mg_none_of X G z_list, PySem.W.mg_none_of X G z_set, PySem.W.mg_none_of X G z_len, PySem.W.mg_none_of X G z_all, PySem.W.mg_none_of X G z_any⟩
  have B2 : Bl mg := ⟨PySem.W.mg_none_of X G z_range, PySem.W.mg_none_of X G z_len, PySem.W.mg_none_of X G z_sum, PySem.W.mg_none_of X G z_max, PySem.W.mg_none_of X G z_min, PySem.W.mg_none_of X G z_int, PySem.W.mg_none_of X G z_tuple⟩
  have rp := PySem.W.mg_none_of X G z_repr
  have zp := PySem.W.mg_none_of X G z_zip
  have so := PySem.W.mg_none_of X G z_sorted
  have e := hfa.symm.trans m_law
  cases e
  refine ⟨e_law, fun s u => ?_, fun base _ _ sy => ?_⟩
  · obtain ⟨oc, od, kV, doc, pm, an, cdv, ct, osl, rfl, lk, hcd⟩ := F_law.ex
    exact .of_eq rfl
  · skip
    have G_isName : FnOk P w K mg base CX0 1 f_isName e_isName ["value"] _ := ok_isName F_isName B
    have G_isVar : FnOk P w K mg base CX0 1 f_isVar e_isVar ["value"] _ := ok_isVar F_isVar B
    have G_isTerm : FnOk P w K mg base CX0 2 f_isTerm e_isTerm ["value"] _ := ok_isTerm F_isTerm G_isName F_isName.kp m_isName b_isName G_isVar F_isVar.kp m_isVar b_isVar
    have G_isFact : FnOk P w K mg base CX0 3 f_isFact e_isFact ["value"] _ := ok_isFact F_isFact B G_isName F_isName.kp m_isName b_isName
    have G_isStore : FnOk P w K mg base CX0 4 f_isStore e_isStore ["value"] _ := ok_isStore F_isStore B G_isFact F_isFact.kp m_isFact b_isFact
    have G_isPattern : FnOk P w K mg base CX0 3 f_isPattern e_isPattern ["value"] (spTup K patB) := ok_isPattern F_isPattern B G_isName F_isName.kp m_isName b_isName G_isTerm F_isTerm.kp m_isTerm b_isTerm
    have G_isPatterns : FnOk P w K mg base CX0 4 f_isPatterns e_isPatterns ["value"] (spLst K patB) := ok_isPatterns F_isPatterns B G_isPattern F_isPattern.kp m_isPattern b_isPattern
    have G_isPair : FnOk P w K mg base CX0 3 f_isPair e_isPair ["value"] (spTup K prB) := ok_isPair F_isPair B G_isTerm F_isTerm.kp m_isTerm b_isTerm G_isVar F_isVar.kp m_isVar b_isVar
    have G_isPairs : FnOk P w K mg base CX0 4 f_isPairs e_isPairs ["value"] (spLst K prB) := ok_isPairs F_isPairs B G_isPair F_isPair.kp m_isPair b_isPair
    have G_termsOf : FnOk P w K mg base CX0 1 f_termsOf e_termsOf ["patterns"] _ := ok_termsOf F_termsOf
    have G_sides : FnOk P w K mg base CX0 1 f_sides e_sides ["pairs"] _ := ok_sides F_sides
    have G_varsAmong : FnOk P w K mg base CX0 2 f_varsAmong e_varsAmong ["terms"] _ := ok_varsAmong F_varsAmong B G_isVar F_isVar.kp m_isVar b_isVar
    have G_varsOf : FnOk P w K mg base CX0 3 f_varsOf e_varsOf ["patterns"] _ := ok_varsOf F_varsOf G_termsOf F_termsOf.kp m_termsOf b_termsOf G_varsAmong F_varsAmong.kp m_varsAmong b_varsAmong
    have G_hasMore : FnOk P w K mg base CX0 4 f_hasMore e_hasMore ["terms", "told"] _ := ok_hasMore F_hasMore B G_varsAmong F_varsAmong.kp m_varsAmong b_varsAmong G_varsOf F_varsOf.kp m_varsOf b_varsOf
    have G_hasDouble : FnOk P w K mg base CX0 1 f_hasDouble e_hasDouble ["labels"] _ := ok_hasDouble F_hasDouble B
    have G_needFact : FnOk P w K mg base CX0 4 f_needFact e_needFact ["value"] _ := ok_needFact F_needFact G_isFact F_isFact.kp m_isFact b_isFact
    have G_needStore : FnOk P w K mg base CX0 5 f_needStore e_needStore ["value"] _ := ok_needStore F_needStore G_isStore F_isStore.kp m_isStore b_isStore
    -- the classes
    have RR : RC K CR := ⟨TR.cl, TR.n0, TR.n1, TR.n2, TR.n3, TR.n4⟩
    have gR := PySem.W.mg_of X G TR.g
    have gB := PySem.W.mg_of X G TB.g
    have CT : Ct P w K mg base := ⟨⟨_, _, G_isName, F_isName.kp, m_isName, b_isName⟩, ⟨_, _, G_isVar, F_isVar.kp, m_isVar, b_isVar⟩, ⟨_, _, G_isPattern, F_isPattern.kp, m_isPattern, b_isPattern⟩, ⟨_, _, G_isPatterns, F_isPatterns.kp, m_isPatterns, b_isPatterns⟩, ⟨_, _, G_isPairs, F_isPairs.kp, m_isPairs, b_isPairs⟩, ⟨_, _, G_termsOf, F_termsOf.kp, m_termsOf, b_termsOf⟩, ⟨_, _, G_sides, F_sides.kp, m_sides, b_sides⟩, ⟨_, _, G_hasMore, F_hasMore.kp, m_hasMore, b_hasMore⟩⟩
    obtain ⟨fRI, dRI, aRI, iRI, FRI⟩ := TR.init
    obtain ⟨fRE, dRE, aRE, iRE, FRE⟩ := TR.m0
    have bRE : Binds K dRE ["self", "other"] [] := FRE.binds (ps := ["self", "other"]) fun _ _ _ _ _ _ us hl => match us, hl with | [_, _], _ => rfl
    have GRI : FnOk P w K mg base CX0 5 fRI dRI ["self", "label", "head", "told", "pairs", "denied"] (spRuleInit CR) := ok_ruleInit FRI B RR CT
    have GRE : FnOk P w K mg base CX0 1 fRE dRE ["self", "other"] (spRuleEq K CR) := ok_ruleEq FRE B RR TR.I gR
    have MKR : Mk K CR fRI := ⟨TR.mks, aRI, iRI, TR.kc⟩
    obtain ⟨pp0, gp0, dp0, PO0, FP0⟩ := TR.q0
    have bp0 : Binds K dp0 ["self"] [] := FP0.binds (ps := ["self"]) fun _ _ _ _ _ _ us hl => match us, hl with | [_], _ => rfl
    have L0 : PL P w K mg base CR "label" "_label" := ⟨⟨pp0, gp0, dp0, PO0, ok_get FP0 ⟨rfl, rfl, rfl, by decide +kernel, rfl, by decide +kernel, by decide +kernel⟩ rfl TR.cl TR.n0, bp0⟩⟩
    obtain ⟨pp1, gp1, dp1, PO1, FP1⟩ := TR.q1
    have bp1 : Binds K dp1 ["self"] [] := FP1.binds (ps := ["self"]) fun _ _ _ _ _ _ us hl => match us, hl with | [_], _ => rfl
    have L1 : PL P w K mg base CR "head" "_head" := ⟨⟨pp1, gp1, dp1, PO1, ok_get FP1 ⟨rfl, rfl, rfl, by decide +kernel, rfl, by decide +kernel, by decide +kernel⟩ rfl TR.cl TR.n1, bp1⟩⟩
    obtain ⟨pp2, gp2, dp2, PO2, FP2⟩ := TR.q2
    have bp2 : Binds K dp2 ["self"] [] := FP2.binds (ps := ["self"]) fun _ _ _ _ _ _ us hl => match us, hl with | [_], _ => rfl
    have L2 : PropL P w K mg base CR "told" "_told" := ⟨⟨pp2, gp2, dp2, PO2, ok_getL FP2 ⟨rfl, rfl, rfl, by decide +kernel, rfl, by decide +kernel, by decide +kernel⟩ rfl (fun X e => by unfold Gl Env.kindOf; rw [e]; decide +kernel) TR.cl TR.n2 B, bp2⟩⟩
    obtain ⟨pp3, gp3, dp3, PO3, FP3⟩ := TR.q3
    have bp3 : Binds K dp3 ["self"] [] := FP3.binds (ps := ["self"]) fun _ _ _ _ _ _ us hl => match us, hl with | [_], _ => rfl
    have L3 : PropL P w K mg base CR "pairs" "_pairs" := ⟨⟨pp3, gp3, dp3, PO3, ok_getL FP3 ⟨rfl, rfl, rfl, by decide +kernel, rfl, by decide +kernel, by decide +kernel⟩ rfl (fun X e => by unfold Gl Env.kindOf; rw [e]; decide +kernel) TR.cl TR.n3 B, bp3⟩⟩
    obtain ⟨pp4, gp4, dp4, PO4, FP4⟩ := TR.q4
    have bp4 : Binds K dp4 ["self"] [] := FP4.binds (ps := ["self"]) fun _ _ _ _ _ _ us hl => match us, hl with | [_], _ => rfl
    have L4 : PropL P w K mg base CR "denied" "_denied" := ⟨⟨pp4, gp4, dp4, PO4, ok_getL FP4 ⟨rfl, rfl, rfl, by decide +kernel, rfl, by decide +kernel, by decide +kernel⟩ rfl (fun X e => by unfold Gl Env.kindOf; rw [e]; decide +kernel) TR.cl TR.n4 B, bp4⟩⟩
    have RP : RPs P w K mg base CR := ⟨RR, L0, L1, L2, L3, L4⟩
    have MP : MadeP P w K mg base CR "Rule" 5 ["self", "label", "head", "told", "pairs", "denied"] (spRuleInit CR) := ⟨⟨fRI, dRI, GRI, MKR, gR, binds_rule FRI 2 (by decide)⟩⟩
    have MR : MadeR P w K mg base CR := ⟨⟨fRI, dRI, GRI, MKR, gR, binds_rule FRI 2 (by decide), binds_rule FRI 0 (by decide)⟩⟩
    have ER : OwnE P w K mg base CR := ⟨⟨fRE, dRE, GRE, aRE, iRE, bRE⟩, TR.ne⟩
    obtain ⟨fBI, dBI, aBI, iBI, FBI⟩ := TB.init
    obtain ⟨f0, d0, a0, i0, F0⟩ := TB.m0
    obtain ⟨f1, d1, a1, i1, F1⟩ := TB.m1
    have bBI : Binds K dBI ["self", "rules"] [] := FBI.binds (ps := ["self", "rules"]) fun _ _ _ _ _ _ us hl => match us, hl with | [_, _], _ => rfl
    have b0 : Binds K d0 ["self", "other"] [] := F0.binds (ps := ["self", "other"]) fun _ _ _ _ _ _ us hl => match us, hl with | [_, _], _ => rfl
    have b1 : Binds K d1 ["self"] [] := F1.binds (ps := ["self"]) fun _ _ _ _ _ _ us hl => match us, hl with | [_], _ => rfl
    have GBI : FnOk P w K mg base CX0 3 fBI dBI ["self", "rules"] (spBookInit CR CB) := ok_bookInit FBI B TB.cl TB.n0 RR TR.I gR L0 G_hasDouble F_hasDouble.kp m_hasDouble b_hasDouble
    have G0 : FnOk P w K mg base CX0 3 f0 d0 ["self", "other"] (spBookEq K CR CB) := ok_bookEq F0 B TB.cl TB.n0 TB.I gB RR TR.I GRE aRE iRE bRE
    have MBP : MadeP P w K mg base CB "Book" 3 ["self", "rules"] (spBookInit CR CB) := ⟨⟨fBI, dBI, GBI, ⟨TB.mks, aBI, iBI, TB.kc⟩, gB, bBI⟩⟩
    have ML : MethL P w K mg base CB "rules" "_rules" := ⟨⟨f1, d1, ⟨a1, i1, F1.kp⟩, ok_getL F1 ⟨rfl, rfl, rfl, by decide +kernel, rfl, by decide +kernel, by decide +kernel⟩ rfl (fun X e => by unfold Gl Env.kindOf; rw [e]; decide +kernel) TB.cl TB.n0 B, b1⟩⟩
    have EB : OwnB P w K mg base CR CB := ⟨⟨f0, d0, G0, a0, i0, b0⟩, TB.ne⟩
    have G_needRule : FnOk P w K mg base CX0 1 f_needRule e_needRule ["value"] _ := ok_needRule F_needRule B TR.cl TR.I gR
    have G_needBook : FnOk P w K mg base CX0 1 f_needBook e_needBook ["value"] _ := ok_needBook F_needBook B TB.cl TB.I gB
    have G_patternText : FnOk P w K mg base CX0 1 f_patternText e_patternText ["pattern"] (spPatT K) := ok_patternText F_patternText B
    have G_lPatternText : FnOk P w K mg base CX0 1 f_lPatternText e_lPatternText ["_law_pattern_here"] (spPatT K) := ok_lPatternText F_lPatternText B
    have G_patternIn : FnOk P w K mg base CX0 1 f_patternIn e_patternIn ["text"] (spPatIn K) := ok_patternIn F_patternIn
    have G_unbracketed : FnOk P w K mg base CX0 1 f_unbracketed e_unbracketed ["text"] (spUnb K) := ok_unbracketed F_unbracketed
    have G_conditionsIn : FnOk P w K mg base CX0 2 f_conditionsIn e_conditionsIn ["text"] (spCondIn K) := ok_conditionsIn F_conditionsIn B G_unbracketed F_unbracketed.kp m_unbracketed b_unbracketed G_patternIn F_patternIn.kp m_patternIn b_patternIn
    have G_conditionsText : FnOk P w K mg base CX0 2 f_conditionsText e_conditionsText ["told", "pairs", "denied"] (spCondT K) := ok_conditionsText F_conditionsText G_patternText F_patternText.kp m_patternText b_patternText
    have G_ruleText : FnOk P w K mg base CX0 3 f_ruleText e_ruleText ["rule"] (spRuleT CR) := ok_ruleText F_ruleText RP ⟨⟨_, _, G_needRule, F_needRule.kp, m_needRule, b_needRule⟩⟩ ⟨⟨_, _, G_conditionsText, F_conditionsText.kp, m_conditionsText, b_conditionsText⟩⟩ ⟨⟨_, _, G_patternText, F_patternText.kp, m_patternText, b_patternText⟩⟩
    have G_lRuleText : FnOk P w K mg base CX0 3 f_lRuleText e_lRuleText ["_law_rule_here"] (spRuleT CR) := ok_lRuleText F_lRuleText RP ⟨⟨_, _, G_lPatternText, F_lPatternText.kp, m_lPatternText, b_lPatternText⟩⟩
    have G_factText : FnOk P w K mg base CX0 5 f_factText e_factText ["fact"] (spFactT K) := ok_factText F_factText ⟨⟨_, _, G_needFact, F_needFact.kp, m_needFact, b_needFact⟩⟩ ⟨⟨_, _, G_patternText, F_patternText.kp, m_patternText, b_patternText⟩⟩
    have G_storeText : FnOk P w K mg base CX0 6 f_storeText e_storeText ["store"] (spStoreT K) := ok_storeText F_storeText so ⟨⟨_, _, G_needStore, F_needStore.kp, m_needStore, b_needStore⟩⟩ ⟨⟨_, _, G_patternText, F_patternText.kp, m_patternText, b_patternText⟩⟩
    have G_bookText : FnOk P w K mg base CX0 4 f_bookText e_bookText ["book"] (spBookT CR CB) := ok_bookText F_bookText TB.cl ML ⟨⟨_, _, G_needBook, F_needBook.kp, m_needBook, b_needBook⟩⟩ ⟨⟨_, _, G_ruleText, F_ruleText.kp, m_ruleText, b_ruleText⟩⟩
    have G_linesOf : FnOk P w K mg base CX0 1 f_linesOf e_linesOf ["text"] (spLines K) := ok_linesOf F_linesOf
    have G_factIn : FnOk P w K mg base CX0 4 f_factIn e_factIn ["text"] (spFactIn K) := ok_factIn F_factIn ⟨⟨_, _, G_patternIn, F_patternIn.kp, m_patternIn, b_patternIn⟩⟩ ⟨⟨_, _, G_isFact, F_isFact.kp, m_isFact, b_isFact⟩⟩ ⟨⟨_, _, G_patternText, F_patternText.kp, m_patternText, b_patternText⟩⟩
    have G_ruleIn : FnOk P w K mg base CX0 7 f_ruleIn e_ruleIn ["text"] (spRuleIn K CR) := ok_ruleIn F_ruleIn MP ⟨⟨_, _, G_conditionsIn, F_conditionsIn.kp, m_conditionsIn, b_conditionsIn⟩⟩ ⟨⟨_, _, G_patternIn, F_patternIn.kp, m_patternIn, b_patternIn⟩⟩ ⟨⟨_, _, G_ruleText, F_ruleText.kp, m_ruleText, b_ruleText⟩⟩
    have G_readFact : FnOk P w K mg base CX0 5 f_readFact e_readFact ["text"] (spFactIn K) := ok_readFact F_readFact B ⟨⟨_, _, G_factIn, F_factIn.kp, m_factIn, b_factIn⟩⟩
    have G_readRule : FnOk P w K mg base CX0 8 f_readRule e_readRule ["text"] (spRuleIn K CR) := ok_readRule F_readRule B ⟨⟨_, _, G_ruleIn, F_ruleIn.kp, m_ruleIn, b_ruleIn⟩⟩
    have G_readBook : FnOk P w K mg base CX0 8 f_readBook e_readBook ["text"] (spReadBook K CR CB) := ok_readBook F_readBook B MBP ⟨⟨_, _, G_ruleIn, F_ruleIn.kp, m_ruleIn, b_ruleIn⟩⟩ ⟨⟨_, _, G_linesOf, F_linesOf.kp, m_linesOf, b_linesOf⟩⟩
    have G_readStore : FnOk P w K mg base CX0 5 f_readStore e_readStore ["text"] (spReadStore K) := ok_readStore F_readStore B so ⟨⟨_, _, G_factIn, F_factIn.kp, m_factIn, b_factIn⟩⟩ ⟨⟨_, _, G_linesOf, F_linesOf.kp, m_linesOf, b_linesOf⟩⟩ ⟨⟨_, _, G_isStore, F_isStore.kp, m_isStore, b_isStore⟩⟩
    -- the law
    have G_purse : FnOk P w K mg base CX0 1 f_purse e_purse ["_law_script", "_law_at"] _ := ok_purse F_purse B2
    have G_draw : FnOk P w K mg base CX0 2 f_draw e_draw ["_law_purse_here", "_law_many"] _ := ok_draw F_draw F_mixed m_mixed b_mixed B2.rg
    have G_purses : FnOk P w K mg base CX0 2 f_purses e_purses ["_law_script", "_law_few"] _ := ok_purses F_purses G_purse F_purse.kp m_purse b_purse B2
    have G_oneOf : FnOk P w K mg base CX0 3 f_oneOf e_oneOf ["_law_purse_here", "_law_some"] _ := ok_oneOf F_oneOf G_draw F_draw.kp m_draw b_draw B2
    have G_shuffled : FnOk P w K mg base CX0 3 f_shuffled e_shuffled ["_law_purse_here", "_law_some"] _ := ok_shuffled F_shuffled G_draw F_draw.kp m_draw b_draw B2
    have G_names : FnOk P w K mg base CX0 4 f_names e_names ["_law_purse_here", "_law_many"] _ := ok_names F_names G_draw F_draw.kp m_draw b_draw G_shuffled F_shuffled.kp m_shuffled b_shuffled B2
    have G_kinds : FnOk P w K mg base CX0 4 f_kinds e_kinds ["_law_purse_here", "_law_many"] _ := ok_kinds F_kinds G_draw F_draw.kp m_draw b_draw G_shuffled F_shuffled.kp m_shuffled b_shuffled B2
    have G_pattern : FnOk P w K mg base CX0 4 f_pattern e_pattern ["_law_purse_here", "_law_kinds_here", "_law_terms"] _ := ok_pattern F_pattern G_oneOf F_oneOf.kp m_oneOf b_oneOf B2
    have G_told : FnOk P w K mg base CX0 5 f_told e_told ["_law_purse_here", "_law_kinds_here", "_law_names_here", "_law_most", "_law_few"] _ := ok_told F_told G_oneOf F_oneOf.kp m_oneOf b_oneOf G_draw F_draw.kp m_draw b_draw G_pattern F_pattern.kp m_pattern b_pattern B2
    have G_variables : FnOk P w K mg base CX0 1 f_variables e_variables ["_law_told_here"] _ := ok_variables F_variables
    have G_pairs : FnOk P w K mg base CX0 4 f_pairs e_pairs ["_law_purse_here", "_law_told_here", "_law_names_here"] _ := ok_pairs F_pairs G_variables F_variables.kp m_variables b_variables G_draw F_draw.kp m_draw b_draw G_oneOf F_oneOf.kp m_oneOf b_oneOf G_shuffled F_shuffled.kp m_shuffled b_shuffled B2
    have G_rule : FnOk P w K mg base CX0 7 f_rule e_rule ["_law_purse_here", "_law_label", "_law_kinds_here", "_law_names_here", "_law_denied"] (spRule CR) := ok_rule F_rule G_draw F_draw.kp m_draw b_draw G_told F_told.kp m_told b_told G_variables F_variables.kp m_variables b_variables G_pattern F_pattern.kp m_pattern b_pattern G_pairs F_pairs.kp m_pairs b_pairs GRI MKR gR (binds_rule FRI 2 (by decide))
    have G_fact : FnOk P w K mg base CX0 4 f_fact e_fact ["_law_purse_here", "_law_kinds_here", "_law_names_here"] (spFact K) := ok_fact F_fact G_oneOf F_oneOf.kp m_oneOf b_oneOf B2
    have G_store : FnOk P w K mg base CX0 5 f_store e_store ["_law_purse_here", "_law_kinds_here", "_law_names_here", "_law_most"] (spStore K) := ok_store F_store B2 G_draw F_draw.kp m_draw b_draw G_fact F_fact.kp m_fact b_fact
    have G_anyRule : FnOk P w K mg base CX0 8 f_anyRule e_anyRule ["_law_purse_here", "_law_label", "_law_kinds_here", "_law_names_here"] (spAnyRule CR) := ok_anyRule F_anyRule G_draw F_draw.kp m_draw b_draw G_fact F_fact.kp m_fact b_fact G_rule F_rule.kp m_rule b_rule MP
    have G_anyBook : FnOk P w K mg base CX0 9 f_anyBook e_anyBook ["_law_purse_here", "_law_kinds_here", "_law_names_here", "_law_most"] (spAnyBook CR CB) := ok_anyBook F_anyBook B2 G_draw F_draw.kp m_draw b_draw G_shuffled F_shuffled.kp m_shuffled b_shuffled G_anyRule F_anyRule.kp m_anyRule b_anyRule MBP
    have G_odd : FnOk P w K mg base CX0 9 f_odd e_odd [] spOdd := ok_odd F_odd B RR TR.I MR ER ⟨⟨_, _, G_readRule, F_readRule.kp, m_readRule, b_readRule⟩⟩ ⟨⟨_, _, G_ruleText, F_ruleText.kp, m_ruleText, b_ruleText⟩⟩ ⟨⟨_, _, G_lRuleText, F_lRuleText.kp, m_lRuleText, b_lRuleText⟩⟩
    exact ok_law F_law B B2 rp so zp sy RR TR.I TB.cl TB.I ER EB ML ⟨⟨_, _, G_purses, F_purses.kp, m_purses, b_purses⟩⟩ ⟨⟨_, _, G_names, F_names.kp, m_names, b_names⟩⟩ ⟨⟨_, _, G_kinds, F_kinds.kp, m_kinds, b_kinds⟩⟩ ⟨⟨_, _, G_draw, F_draw.kp, m_draw, b_draw⟩⟩ ⟨⟨_, _, G_anyBook, F_anyBook.kp, m_anyBook, b_anyBook⟩⟩ ⟨⟨_, _, G_store, F_store.kp, m_store, b_store⟩⟩ ⟨⟨_, _, G_lRuleText, F_lRuleText.kp, m_lRuleText, b_lRuleText⟩⟩ ⟨⟨_, _, G_lPatternText, F_lPatternText.kp, m_lPatternText, b_lPatternText⟩⟩ ⟨⟨_, _, G_ruleText, F_ruleText.kp, m_ruleText, b_ruleText⟩⟩ ⟨⟨_, _, G_bookText, F_bookText.kp, m_bookText, b_bookText⟩⟩ ⟨⟨_, _, G_storeText, F_storeText.kp, m_storeText, b_storeText⟩⟩ ⟨⟨_, _, G_factText, F_factText.kp, m_factText, b_factText⟩⟩ ⟨⟨_, _, G_readRule, F_readRule.kp, m_readRule, b_readRule⟩⟩ ⟨⟨_, _, G_readFact, F_readFact.kp, m_readFact, b_readFact⟩⟩ ⟨⟨_, _, G_readBook, F_readBook.kp, m_readBook, b_readBook⟩⟩ ⟨⟨_, _, G_readStore, F_readStore.kp, m_readStore, b_readStore⟩⟩ ⟨⟨_, _, G_odd, F_odd.kp, m_odd, b_odd⟩⟩

end Nv
open PySem PySem.W PyProof.Rows
set_option maxRecDepth 100000 in
set_option maxHeartbeats 0 in
theorem PySem.Challenge.cw_neverapart_k04_whole_texts_read_back_holds : PySem.Challenge.rw_neverapart_k04_whole_texts_read_back.Holds := by
  w_on; o_law; k_head; (case hw => w_witness2)
  k_fill
  refine Nv.walkG (l := PySem.Challenge.rw_neverapart_k04_whole_texts_read_back) (k := 10) (sp := Nv.spLaw) (x := "_law_script") rfl rfl ⟨rfl, by decide, by decide⟩ (by decide +kernel) (fun w h Y => PySem.W.kIn_of Y) ?F (fun K H a ns hl hS => ⟨a, ns, rfl, hS, hl, fun _ => rfl⟩)
  case F =>
    intro w mg fa h KX G hmg
    obtain ⟨CRule, TRule⟩ := (by
      refine' Nv.rule_at KX ?g ?pg ?hd ?po ?sa ?mk ?kc ?cc ?gt ?tk ?mo ?ne ?n0 ?n1 ?n2 ?n3 ?n4 ?aI ?iI ?lI ?cI ?kI ?t ?am0 ?im0 ?lm0 ?cm0 ?km0 ?aq0 ?sq0 ?tq0 ?rq0 ?lq0 ?cq0 ?kq0 ?aq1 ?sq1 ?tq1 ?rq1 ?lq1 ?cq1 ?kq1 ?aq2 ?sq2 ?tq2 ?rq2 ?lq2 ?cq2 ?kq2 ?aq3 ?sq3 ?tq3 ?rq3 ?lq3 ?cq3 ?kq3 ?aq4 ?sq4 ?tq4 ?rq4 ?lq4 ?cq4 ?kq4
      (case g => k_is)
      (case pg => k_is)
      (case hd => k_is)
      (case po => k_is)
      (case sa => k_is)
      (case mk => k_is)
      (case kc => k_is)
      (case cc => k_is)
      (case gt => k_is)
      (case tk => k_is)
      (case mo => k_is)
      (case ne => k_is)
      (case n0 => k_is)
      (case n1 => k_is)
      (case n2 => k_is)
      (case n3 => k_is)
      (case n4 => k_is)
      (case aI => k_is)
      (case iI => k_is)
      (case lI => k_is)
      (case cI => k_is)
      (case kI => k_is)
      (case t => k_is)
      (case am0 => k_is)
      (case im0 => k_is)
      (case lm0 => k_is)
      (case cm0 => k_is)
      (case km0 => k_is)
      (case aq0 => k_is)
      (case sq0 => k_is)
      (case tq0 => k_is)
      (case rq0 => k_is)
      (case lq0 => k_is)
      (case cq0 => k_is)
      (case kq0 => k_is)
      (case aq1 => k_is)
      (case sq1 => k_is)
      (case tq1 => k_is)
      (case rq1 => k_is)
      (case lq1 => k_is)
      (case cq1 => k_is)
      (case kq1 => k_is)
      (case aq2 => k_is)
      (case sq2 => k_is)
      (case tq2 => k_is)
      (case rq2 => k_is)
      (case lq2 => k_is)
      (case cq2 => k_is)
      (case kq2 => k_is)
      (case aq3 => k_is)
      (case sq3 => k_is)
      (case tq3 => k_is)
      (case rq3 => k_is)
      (case lq3 => k_is)
      (case cq3 => k_is)
      (case kq3 => k_is)
      (case aq4 => k_is)
      (case sq4 => k_is)
      (case tq4 => k_is)
      (case rq4 => k_is)
      (case lq4 => k_is)
      (case cq4 => k_is)
      (case kq4 => k_is)
      )
    obtain ⟨CBook, TBook⟩ := (by
      refine' Nv.book_at KX ?g ?pg ?hd ?po ?sa ?mk ?kc ?cc ?gt ?tk ?mo ?ne ?n0 ?aI ?iI ?lI ?cI ?kI ?am0 ?im0 ?lm0 ?cm0 ?km0 ?am1 ?im1 ?lm1 ?cm1 ?km1
      (case g => k_is)
      (case pg => k_is)
      (case hd => k_is)
      (case po => k_is)
      (case sa => k_is)
      (case mk => k_is)
      (case kc => k_is)
      (case cc => k_is)
      (case gt => k_is)
      (case tk => k_is)
      (case mo => k_is)
      (case ne => k_is)
      (case n0 => k_is)
      (case aI => k_is)
      (case iI => k_is)
      (case lI => k_is)
      (case cI => k_is)
      (case kI => k_is)
      (case am0 => k_is)
      (case im0 => k_is)
      (case lm0 => k_is)
      (case cm0 => k_is)
      (case km0 => k_is)
      (case am1 => k_is)
      (case im1 => k_is)
      (case lm1 => k_is)
      (case cm1 => k_is)
      (case km1 => k_is)
      )
    have d_isName := (by
      refine' Nv.def_at KX (x := "is_name") (st := Nv.sIsName) ?g ?l ?c ?k
      (case g => k_is)
      (case l => k_is)
      (case c => k_is)
      (case k => k_is)
      )
    have d_isVar := (by
      refine' Nv.def_at KX (x := "is_variable") (st := Nv.sIsVar) ?g ?l ?c ?k
      (case g => k_is)
      (case l => k_is)
      (case c => k_is)
      (case k => k_is)
      )
    have d_isTerm := (by
      refine' Nv.def_at KX (x := "is_term") (st := Nv.sIsTerm) ?g ?l ?c ?k
      (case g => k_is)
      (case l => k_is)
      (case c => k_is)
      (case k => k_is)
      )
    have d_isFact := (by
      refine' Nv.def_at KX (x := "is_fact") (st := Nv.sIsFact) ?g ?l ?c ?k
      (case g => k_is)
      (case l => k_is)
      (case c => k_is)
      (case k => k_is)
      )
    have d_isPattern := (by
      refine' Nv.def_at KX (x := "is_pattern") (st := Nv.sIsPattern) ?g ?l ?c ?k
      (case g => k_is)
      (case l => k_is)
      (case c => k_is)
      (case k => k_is)
      )
    have d_isStore := (by
      refine' Nv.def_at KX (x := "is_store") (st := Nv.sIsStore) ?g ?l ?c ?k
      (case g => k_is)
      (case l => k_is)
      (case c => k_is)
      (case k => k_is)
      )
    have d_isPatterns := (by
      refine' Nv.def_at KX (x := "is_patterns") (st := Nv.sIsPatterns) ?g ?l ?c ?k
      (case g => k_is)
      (case l => k_is)
      (case c => k_is)
      (case k => k_is)
      )
    have d_isPair := (by
      refine' Nv.def_at KX (x := "is_pair") (st := Nv.sIsPair) ?g ?l ?c ?k
      (case g => k_is)
      (case l => k_is)
      (case c => k_is)
      (case k => k_is)
      )
    have d_isPairs := (by
      refine' Nv.def_at KX (x := "is_pairs") (st := Nv.sIsPairs) ?g ?l ?c ?k
      (case g => k_is)
      (case l => k_is)
      (case c => k_is)
      (case k => k_is)
      )
    have d_termsOf := (by
      refine' Nv.def_at KX (x := "terms_of") (st := Nv.sTermsOf) ?g ?l ?c ?k
      (case g => k_is)
      (case l => k_is)
      (case c => k_is)
      (case k => k_is)
      )
    have d_sides := (by
      refine' Nv.def_at KX (x := "sides_of") (st := Nv.sSides) ?g ?l ?c ?k
      (case g => k_is)
      (case l => k_is)
      (case c => k_is)
      (case k => k_is)
      )
    have d_varsAmong := (by
      refine' Nv.def_at KX (x := "variables_among") (st := Nv.sVarsAmong) ?g ?l ?c ?k
      (case g => k_is)
      (case l => k_is)
      (case c => k_is)
      (case k => k_is)
      )
    have d_varsOf := (by
      refine' Nv.def_at KX (x := "variables_of") (st := Nv.sVarsOf) ?g ?l ?c ?k
      (case g => k_is)
      (case l => k_is)
      (case c => k_is)
      (case k => k_is)
      )
    have d_hasMore := (by
      refine' Nv.def_at KX (x := "has_more") (st := Nv.sHasMore) ?g ?l ?c ?k
      (case g => k_is)
      (case l => k_is)
      (case c => k_is)
      (case k => k_is)
      )
    have d_hasDouble := (by
      refine' Nv.def_at KX (x := "_has_double") (st := Nv.sHasDouble) ?g ?l ?c ?k
      (case g => k_is)
      (case l => k_is)
      (case c => k_is)
      (case k => k_is)
      )
    have d_needFact := (by
      refine' Nv.def_at KX (x := "need_fact") (st := Nv.sNeedFact) ?g ?l ?c ?k
      (case g => k_is)
      (case l => k_is)
      (case c => k_is)
      (case k => k_is)
      )
    have d_needStore := (by
      refine' Nv.def_at KX (x := "need_store") (st := Nv.sNeedStore) ?g ?l ?c ?k
      (case g => k_is)
      (case l => k_is)
      (case c => k_is)
      (case k => k_is)
      )
    have d_needRule := (by
      refine' Nv.def_at KX (x := "need_rule") (st := Nv.sNeedRule) ?g ?l ?c ?k
      (case g => k_is)
      (case l => k_is)
      (case c => k_is)
      (case k => k_is)
      )
    have d_needBook := (by
      refine' Nv.def_at KX (x := "need_book") (st := Nv.sNeedBook) ?g ?l ?c ?k
      (case g => k_is)
      (case l => k_is)
      (case c => k_is)
      (case k => k_is)
      )
    have d_patternText := (by
      refine' Nv.def_at KX (x := "pattern_text") (st := Nv.sPatternText) ?g ?l ?c ?k
      (case g => k_is)
      (case l => k_is)
      (case c => k_is)
      (case k => k_is)
      )
    have d_patternIn := (by
      refine' Nv.def_at KX (x := "pattern_in") (st := Nv.sPatternIn) ?g ?l ?c ?k
      (case g => k_is)
      (case l => k_is)
      (case c => k_is)
      (case k => k_is)
      )
    have d_unbracketed := (by
      refine' Nv.def_at KX (x := "_unbracketed") (st := Nv.sUnbracketed) ?g ?l ?c ?k
      (case g => k_is)
      (case l => k_is)
      (case c => k_is)
      (case k => k_is)
      )
    have d_conditionsIn := (by
      refine' Nv.def_at KX (x := "conditions_in") (st := Nv.sConditionsIn) ?g ?l ?c ?k
      (case g => k_is)
      (case l => k_is)
      (case c => k_is)
      (case k => k_is)
      )
    have d_conditionsText := (by
      refine' Nv.def_at KX (x := "conditions_text") (st := Nv.sConditionsText) ?g ?l ?c ?k
      (case g => k_is)
      (case l => k_is)
      (case c => k_is)
      (case k => k_is)
      )
    have d_ruleText := (by
      refine' Nv.def_at KX (x := "rule_text") (st := Nv.sRuleText) ?g ?l ?c ?k
      (case g => k_is)
      (case l => k_is)
      (case c => k_is)
      (case k => k_is)
      )
    have d_factText := (by
      refine' Nv.def_at KX (x := "fact_text") (st := Nv.sFactText) ?g ?l ?c ?k
      (case g => k_is)
      (case l => k_is)
      (case c => k_is)
      (case k => k_is)
      )
    have d_storeText := (by
      refine' Nv.def_at KX (x := "store_text") (st := Nv.sStoreText) ?g ?l ?c ?k
      (case g => k_is)
      (case l => k_is)
      (case c => k_is)
      (case k => k_is)
      )
    have d_bookText := (by
      refine' Nv.def_at KX (x := "book_text") (st := Nv.sBookText) ?g ?l ?c ?k
      (case g => k_is)
      (case l => k_is)
      (case c => k_is)
      (case k => k_is)
      )
    have d_linesOf := (by
      refine' Nv.def_at KX (x := "lines_of") (st := Nv.sLinesOf) ?g ?l ?c ?k
      (case g => k_is)
      (case l => k_is)
      (case c => k_is)
      (case k => k_is)
      )
    have d_factIn := (by
      refine' Nv.def_at KX (x := "_fact_in") (st := Nv.sFactIn) ?g ?l ?c ?k
      (case g => k_is)
      (case l => k_is)
      (case c => k_is)
      (case k => k_is)
      )
    have d_ruleIn := (by
      refine' Nv.def_at KX (x := "_rule_in") (st := Nv.sRuleIn) ?g ?l ?c ?k
      (case g => k_is)
      (case l => k_is)
      (case c => k_is)
      (case k => k_is)
      )
    have d_readFact := (by
      refine' Nv.def_at KX (x := "read_fact") (st := Nv.sReadFact) ?g ?l ?c ?k
      (case g => k_is)
      (case l => k_is)
      (case c => k_is)
      (case k => k_is)
      )
    have d_readRule := (by
      refine' Nv.def_at KX (x := "read_rule") (st := Nv.sReadRule) ?g ?l ?c ?k
      (case g => k_is)
      (case l => k_is)
      (case c => k_is)
      (case k => k_is)
      )
    have d_readBook := (by
      refine' Nv.def_at KX (x := "read_book") (st := Nv.sReadBook) ?g ?l ?c ?k
      (case g => k_is)
      (case l => k_is)
      (case c => k_is)
      (case k => k_is)
      )
    have d_readStore := (by
      refine' Nv.def_at KX (x := "read_store") (st := Nv.sReadStore) ?g ?l ?c ?k
      (case g => k_is)
      (case l => k_is)
      (case c => k_is)
      (case k => k_is)
      )
    have d_purse := (by
      refine' Nv.def_at KX (x := "_law_purse") (st := Nv.sPurse) ?g ?l ?c ?k
      (case g => k_is)
      (case l => k_is)
      (case c => k_is)
      (case k => k_is)
      )
    have d_mixed := (by
      refine' Nv.def_at KX (x := "_law_mixed") (st := Nv.sMixed) ?g ?l ?c ?k
      (case g => k_is)
      (case l => k_is)
      (case c => k_is)
      (case k => k_is)
      )
    have d_draw := (by
      refine' Nv.def_at KX (x := "_law_draw") (st := Nv.sDraw) ?g ?l ?c ?k
      (case g => k_is)
      (case l => k_is)
      (case c => k_is)
      (case k => k_is)
      )
    have d_purses := (by
      refine' Nv.def_at KX (x := "_law_purses") (st := Nv.sPurses) ?g ?l ?c ?k
      (case g => k_is)
      (case l => k_is)
      (case c => k_is)
      (case k => k_is)
      )
    have d_oneOf := (by
      refine' Nv.def_at KX (x := "_law_one_of") (st := Nv.sOneOf) ?g ?l ?c ?k
      (case g => k_is)
      (case l => k_is)
      (case c => k_is)
      (case k => k_is)
      )
    have d_shuffled := (by
      refine' Nv.def_at KX (x := "_law_shuffled") (st := Nv.sShuffled) ?g ?l ?c ?k
      (case g => k_is)
      (case l => k_is)
      (case c => k_is)
      (case k => k_is)
      )
    have d_names := (by
      refine' Nv.def_at KX (x := "_law_names") (st := Nv.sNames) ?g ?l ?c ?k
      (case g => k_is)
      (case l => k_is)
      (case c => k_is)
      (case k => k_is)
      )
    have d_kinds := (by
      refine' Nv.def_at KX (x := "_law_kinds") (st := Nv.sKinds) ?g ?l ?c ?k
      (case g => k_is)
      (case l => k_is)
      (case c => k_is)
      (case k => k_is)
      )
    have d_fact := (by
      refine' Nv.def_at KX (x := "_law_fact") (st := Nv.sFact) ?g ?l ?c ?k
      (case g => k_is)
      (case l => k_is)
      (case c => k_is)
      (case k => k_is)
      )
    have d_store := (by
      refine' Nv.def_at KX (x := "_law_store") (st := Nv.sStore) ?g ?l ?c ?k
      (case g => k_is)
      (case l => k_is)
      (case c => k_is)
      (case k => k_is)
      )
    have d_pattern := (by
      refine' Nv.def_at KX (x := "_law_pattern") (st := Nv.sPattern) ?g ?l ?c ?k
      (case g => k_is)
      (case l => k_is)
      (case c => k_is)
      (case k => k_is)
      )
    have d_told := (by
      refine' Nv.def_at KX (x := "_law_told") (st := Nv.sTold) ?g ?l ?c ?k
      (case g => k_is)
      (case l => k_is)
      (case c => k_is)
      (case k => k_is)
      )
    have d_variables := (by
      refine' Nv.def_at KX (x := "_law_variables") (st := Nv.sVariables) ?g ?l ?c ?k
      (case g => k_is)
      (case l => k_is)
      (case c => k_is)
      (case k => k_is)
      )
    have d_pairs := (by
      refine' Nv.def_at KX (x := "_law_pairs") (st := Nv.sPairs) ?g ?l ?c ?k
      (case g => k_is)
      (case l => k_is)
      (case c => k_is)
      (case k => k_is)
      )
    have d_rule := (by
      refine' Nv.def_at KX (x := "_law_rule") (st := Nv.sRule) ?g ?l ?c ?k
      (case g => k_is)
      (case l => k_is)
      (case c => k_is)
      (case k => k_is)
      )
    have d_anyRule := (by
      refine' Nv.def_at KX (x := "_law_any_rule") (st := Nv.sAnyRule) ?g ?l ?c ?k
      (case g => k_is)
      (case l => k_is)
      (case c => k_is)
      (case k => k_is)
      )
    have d_anyBook := (by
      refine' Nv.def_at KX (x := "_law_any_book") (st := Nv.sAnyBook) ?g ?l ?c ?k
      (case g => k_is)
      (case l => k_is)
      (case c => k_is)
      (case k => k_is)
      )
    have d_lPatternText := (by
      refine' Nv.def_at KX (x := "_law_pattern_text") (st := Nv.sLPatternText) ?g ?l ?c ?k
      (case g => k_is)
      (case l => k_is)
      (case c => k_is)
      (case k => k_is)
      )
    have d_lRuleText := (by
      refine' Nv.def_at KX (x := "_law_rule_text") (st := Nv.sLRuleText) ?g ?l ?c ?k
      (case g => k_is)
      (case l => k_is)
      (case c => k_is)
      (case k => k_is)
      )
    have d_odd := (by
      refine' Nv.def_at KX (x := "_law_odd_words_right") (st := Nv.sOddWordsRight) ?g ?l ?c ?k
      (case g => k_is)
      (case l => k_is)
      (case c => k_is)
      (case k => k_is)
      )
    have d_law := (by
      refine' Nv.def_at KX (x := "law") (st := Nv.sLaw) ?g ?l ?c ?k
      (case g => k_is)
      (case l => k_is)
      (case c => k_is)
      (case k => k_is)
      )
    exact Nv.law_at KX G hmg TRule TBook (by k_is) (by k_is) (by k_is) (by k_is) (by k_is) (by k_is) (by k_is) (by k_is) (by k_is) (by k_is) (by k_is) (by k_is) (by k_is) (by k_is) (by k_is) (by k_is) d_isName d_isVar d_isTerm d_isFact d_isPattern d_isStore d_isPatterns d_isPair d_isPairs d_termsOf d_sides d_varsAmong d_varsOf d_hasMore d_hasDouble d_needFact d_needStore d_needRule d_needBook d_patternText d_patternIn d_unbracketed d_conditionsIn d_conditionsText d_ruleText d_factText d_storeText d_bookText d_linesOf d_factIn d_ruleIn d_readFact d_readRule d_readBook d_readStore d_purse d_mixed d_draw d_purses d_oneOf d_shuffled d_names d_kinds d_fact d_store d_pattern d_told d_variables d_pairs d_rule d_anyRule d_anyBook d_lPatternText d_lRuleText d_odd d_law
