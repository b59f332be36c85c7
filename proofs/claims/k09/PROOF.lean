import PyProof.Rows.All
import Wide.All
import OpenK.AllK
import Wide.FinOn
import HandS.ForMost
import HandS.Wide
import HandS.More
import HandS.Conv
import HandS.Flow
import HandS.WideBits
import HandS.Defaults
import HandS.Property
import HandS.IsInst
import HandS.Walk
import KE.KStrOpen
import HandS.Strs
import HandS.TupSets
import HandS.DictTup
import HandS.SetKeys
import PyProof.DictMoreH
import HandS.TupAny
import HandS.Zip
import KE.SortData
import HandS.Sort
import HandS.SetBool
import PyProof.Rows.SortShellAny
import KE.KDictZip
import HandS.Deep
import HandS.OwnEq
import HandS.Dict
import KE.DatumOrd
import KE.KExcIs
import HandS.ExcInit
import HandS.ExcValue
import HandS.SetFor
import KE.DataFind
import HandS.Style
import HandS.RaiseMore
import KE.OsRunLaw
import PySem.Challenge.RW_neverapart_k09_whole_matches
set_option Elab.async false
set_option linter.all false
set_option maxRecDepth 100000
set_option maxHeartbeats 8000000
set_option maxHeartbeats 4000000
namespace Nv
open PySem PySem.Spec PyProof.Rows L2
def top (i : Nat) : Stmt := PySem.Challenge.pw_neverapart_k09_whole_matches.main.body.getD i (.Pass ⟨0, 0, 0, 0⟩)
abbrev sIsName : Stmt := top 1
abbrev sIsVar : Stmt := top 2
abbrev sIsTerm : Stmt := top 3
abbrev sIsFact : Stmt := top 4
abbrev sIsPattern : Stmt := top 5
abbrev sIsStore : Stmt := top 6
abbrev sIsPatterns : Stmt := top 7
abbrev sIsPair : Stmt := top 8
abbrev sIsPairs : Stmt := top 9
abbrev sKindOf : Stmt := top 10
abbrev sTermsOf : Stmt := top 11
abbrev sSides : Stmt := top 12
abbrev sVarsAmong : Stmt := top 13
abbrev sNamesAmong : Stmt := top 14
abbrev sVarsOf : Stmt := top 15
abbrev sHasMore : Stmt := top 16
abbrev cStep : Stmt := top 18
abbrev cPlan : Stmt := top 19
abbrev sByKind : Stmt := top 20
abbrev sNamesIn : Stmt := top 21
abbrev sMet : Stmt := top 22
abbrev sKnows : Stmt := top 23
abbrev sPlacesOfPairs : Stmt := top 24
abbrev sKeptApart : Stmt := top 25
abbrev cQuestion : Stmt := top 31
abbrev sNeedStore : Stmt := top 33
abbrev sNeedQuestion : Stmt := top 34
abbrev sVarsQ : Stmt := top 36
abbrev sMatches : Stmt := top 37
abbrev sCount : Stmt := top 38
abbrev sPurse : Stmt := top 40
abbrev sMixed : Stmt := top 41
abbrev sDraw : Stmt := top 42
abbrev sPurses : Stmt := top 43
abbrev sOneOf : Stmt := top 44
abbrev sShuffled : Stmt := top 45
abbrev sNames : Stmt := top 46
abbrev sKinds : Stmt := top 47
abbrev sFact : Stmt := top 48
abbrev sStore : Stmt := top 49
abbrev sPattern : Stmt := top 50
abbrev sTold : Stmt := top 51
abbrev sVariables : Stmt := top 52
abbrev sPairs : Stmt := top 53
abbrev sLaw : Stmt := top 61
end Nv
namespace Nv
open PySem PySem.Spec PyProof.Rows L2
abbrev sLFilled : Stmt := top 54
abbrev sLets : Stmt := top 55
abbrev sLawQ : Stmt := top 56
abbrev sFed : Stmt := top 57
abbrev sWays : Stmt := top 58
abbrev sDue : Stmt := top 59
abbrev sTyped : Stmt := top 60
end Nv
set_option maxHeartbeats 4000000
namespace Nv
open PySem PySem.Spec PyProof.Rows L2
/-- all that was tracked is as it was, but the object at a -/
def Sb (a : Addr) (H H' : Hp) : Prop := ∀ b o, b ≠ a → H b = some o → H' b = some o
section
variable {a : Addr} {H H1 H2 : Hp}
theorem Sb.refl (a : Addr) (H : Hp) : Sb a H H := fun _ _ _ e => e
theorem Sb.trans (x : Sb a H H1) (y : Sb a H1 H2) : Sb a H H2 := fun b o n e => y b o n (x b o n e)
theorem Sb.of (x : Same H H1) : Sb a H H1 := fun b o _ e => x b o e
theorem Sb.then (x : Sb a H H1) (y : Same H1 H2) : Sb a H H2 := x.trans (Sb.of y)
theorem Sb.upd {o : HO} : Sb a H (upd H a o) := fun b u n e => by
  rw [upd_ne n]
  exact e
theorem Sb.new {p : Addr} {o : HO} (h : H p = none) : Sb a H (L2.upd H p o) := fun b u n e => by
  rw [upd_ne (ne_of_none e h)]
  exact e
theorem Sb.put {p : Addr} {o : HO} (x : Sb a H H1) (h : H p = none) : Sb a H (L2.upd H1 p o) := fun b u n e => by
  rw [upd_ne (ne_of_none e h)]
  exact x b u n e
theorem same_new {p : Addr} {o : HO} (h : H p = none) : Same H (L2.upd H p o) := fun b u e => by
  rw [upd_ne (ne_of_none e h)]
  exact e
theorem same_put {p : Addr} {o : HO} (x : Same H H1) (h : H p = none) : Same H (L2.upd H1 p o) := fun b u e => by
  rw [upd_ne (ne_of_none e h)]
  exact x b u e
theorem Sb.seq {K : PySem.W.Frag} {b : Addr} {xs : List V} (x : Sb a H H1) (n : b ≠ a) (h : SqL K H b xs) : SqL K H1 b xs := by
  rcases h with (h | ⟨o, h⟩) | h
  · exact .inl (.inl (x _ _ n h))
  · exact .inl (.inr ⟨o, x _ _ n h⟩)
  · exact .inr h
end
/-- a purse at a: n draws at least are still to be had from it -/
structure Pu (H : Hp) (a : Addr) (n : Nat) : Prop where
  ex : ∃ s d t k : Int, H a = some (.lst [.int s, .int d, .int t, .int k]) ∧ 0 ≤ s ∧ 0 ≤ d ∧ d < 2147483629 ∧ 0 ≤ t ∧ t + n ≤ 1099511627776 ∧ 0 ≤ k ∧ k ≤ 100
section
variable {a : Addr} {H H1 H2 : Hp} {n m : Nat}
theorem Pu.le (p : Pu H a n) (h : m ≤ n) : Pu H a m := by
  obtain ⟨s, d, t, k, e, h1, h2, h3, h4, h5, h6, h7⟩ := p.ex
  exact ⟨s, d, t, k, e, h1, h2, h3, h4, by omega, h6, h7⟩
theorem Pu.some (p : Pu H a n) : ∃ o, H a = some o := by
  obtain ⟨s, d, t, k, e, _⟩ := p.ex
  exact ⟨_, e⟩
theorem Pu.ne (p : Pu H a n) {q : Addr} (h : H q = none) : q ≠ a := fun z => by
  obtain ⟨o, e⟩ := p.some
  rw [z, e] at h
  cases h
theorem Pu.same (p : Pu H a n) (x : Same H H1) : Pu H1 a n := by
  obtain ⟨s, d, t, k, e, h1, h2, h3, h4, h5, h6, h7⟩ := p.ex
  exact ⟨s, d, t, k, x _ _ e, h1, h2, h3, h4, h5, h6, h7⟩
theorem Pu.put (p : Pu H a n) {q : Addr} {o : HO} (h : q ≠ a) : Pu (upd H q o) a n := by
  obtain ⟨s, d, t, k, e, h1, h2, h3, h4, h5, h6, h7⟩ := p.ex
  exact ⟨s, d, t, k, by rw [upd_ne (Ne.symm h)]; exact e, h1, h2, h3, h4, h5, h6, h7⟩
theorem Sb.free (x : Sb a H H1) (p : Pu H1 a n) {q : Addr} (h : H1 q = none) : H q = none := by
  have hn := p.ne h
  cases e : H q with
  | none => rfl
  | some o =>
    rw [x _ _ hn e] at h
    cases h
end
section
variable {P : Program} {w : World} {K : PySem.W.Frag} {mg : Str → Option Value} {base : Heap}
/-- _law_mixed(seed, turn, at) -/
def spMixed : Sp := fun vs H Q _ => ∃ d t k : Int, vs = [.int d, .int t, .int k] ∧ (0 ≤ d ∧ d < 2147483629) ∧ (0 ≤ t ∧ t ≤ 1099511627776) ∧ (0 ≤ k ∧ k ≤ 100) ∧ ∀ r : Int, 0 ≤ r → Q (.int r) H
theorem scMixed : FnScope ["_law_seed", "_law_turn", "_law_at", "_law_mixed_here"] ["_law_seed", "_law_turn", "_law_at"] (defScope sMixed) := ⟨rfl, rfl, rfl, by decide +kernel, rfl, by decide +kernel, by decide +kernel⟩
theorem ok_mixed {f : Addr} {fd : FuncData} (F : Fun K "_law_mixed" "_law_mixed" sMixed f fd) : FnOk P w K mg base CX0 1 f fd ["_law_seed", "_law_turn", "_law_at"] spMixed := by
  refine F.ok scMixed (fun vs H Q E h => ?_) (fun cdv A outer s H vs Q E hr h => ?_)
  · obtain ⟨d, t, k, rfl, _⟩ := h
    rfl
  · obtain ⟨d, t, k, rfl, hd, ht, hk, q⟩ := h
    refine ⟨_, pss_cons (ps_set (i := 3) scMixed.nd rfl (Or.inl rfl) (pe_op op_add (pe_op op_mul (pv 0) pe_int) (pe_op op_mul (pe_op op_mul pe_int (pv 1)) (pv 1))))
      (pss_cons (ps_set (i := 3) scMixed.nd rfl (Or.inl rfl) (pe_op op_mod (pe_op op_add (pe_op op_add (pv 3) (pe_op op_mul pe_int (pv 2))) (pv 1)) pe_int))
      (pss_cons (ps_set (i := 3) scMixed.nd rfl (Or.inl rfl) (pe_op op_mod (pe_op op_add (pe_op op_mul (pv 3) (pv 3)) pe_int) pe_int))
      (pss_one (ps_ret (pe_op op_mod (pe_op op_mul (pv 3) pe_int) pe_int))))), ?_⟩
    refine ⟨_, rfl, _, _, rfl, rfl, .inl ⟨by omega, by omega⟩, _, rfl, _, _, rfl, rfl, .inl ⟨by omega, by omega⟩, _, rfl, _, _, rfl, rfl, .inr ⟨by omega, by omega⟩, _, _, rfl, rfl, ?_⟩
    generalize d * 69069 + 104729 * t * t = z
    refine ⟨_, rfl, _, rfl, _, _, rfl, rfl, .inl ⟨by omega, by omega⟩, _, _, rfl, rfl, _, rfl, _, _, rfl, rfl, _, _, rfl, rfl, (by show (0 : Int) < 2147483647; decide), ?_⟩
    have h1 := Int.emod_nonneg (z + 7919 * k + t) (by decide : (2147483647 : Int) ≠ 0)
    have h2 := Int.emod_lt_of_pos (z + 7919 * k + t) (by decide : (0 : Int) < 2147483647)
    generalize (z + 7919 * k + t) % 2147483647 = z2 at h1 h2 ⊢
    refine ⟨_, rfl, _, rfl, _, _, rfl, rfl, .inl ⟨by omega, by omega⟩, _, _, rfl, rfl, _, _, rfl, rfl, (by show (0 : Int) < 2147483629; decide), ?_⟩
    have h3 := Int.emod_nonneg (z2 * z2 + 40503) (by decide : (2147483629 : Int) ≠ 0)
    have h4 := Int.emod_lt_of_pos (z2 * z2 + 40503) (by decide : (0 : Int) < 2147483629)
    generalize (z2 * z2 + 40503) % 2147483629 = z3 at h3 h4 ⊢
    refine ⟨_, rfl, _, _, rfl, rfl, .inl ⟨by omega, by omega⟩, _, _, rfl, rfl, (by show (0 : Int) < 2147483587; decide), ?_⟩
    exact q _ (Int.emod_nonneg _ (by decide))
/-- _law_draw(purse, many) -/
def spDraw : Sp := fun vs H Q _ => ∃ (a : Addr) (n : Nat) (m : Int), vs = [.ref a, .int m] ∧ Pu H a (n + 1) ∧ (1 ≤ m ∧ m < 134217728) ∧ ∀ (r : Int) (H' : Hp), 0 ≤ r → r < m → Pu H' a n → Sb a H H' → Q (.int r) H'
theorem scDraw : FnScope ["_law_purse_here", "_law_many", "_law_drawn", "_law_found", "_law_piece"] ["_law_purse_here", "_law_many"] (defScope sDraw) := ⟨rfl, rfl, rfl, by decide +kernel, rfl, by decide +kernel, by decide +kernel⟩
theorem bits27 {m : Int} (h0 : 1 ≤ m) (h : m < 134217728) : 1 + ((Builtin.Int.intBits m : Nat) : Int) / 28 = 1 := by
  have z : Builtin.Int.intBits m ≤ 27 := PyProof.Rows.intBits_le (by
    have e : (2 : Nat) ^ 27 = 134217728 := by decide
    omega)
  omega
theorem ok_draw {f fM : Addr} {fd fdM : FuncData} (F : Fun K "_law_draw" "_law_draw" sDraw f fd) (FM : Fun K "_law_mixed" "_law_mixed" sMixed fM fdM) (gM : mg "_law_mixed" = some (.ref fM)) (bM : Binds K fdM ["_law_seed", "_law_turn", "_law_at"] []) (rg : mg "range" = none) :
    FnOk P w K mg base CX0 2 f fd ["_law_purse_here", "_law_many"] spDraw := by
  have GM : FnOk P w K mg base CX0 1 fM fdM ["_law_seed", "_law_turn", "_law_at"] spMixed := ok_mixed FM
  refine F.ok scDraw (fun vs H Q E h => ?_) (fun cdv A outer s H vs Q E hr h => ?_)
  · obtain ⟨a, n, m, rfl, _⟩ := h
    rfl
  · obtain ⟨a, n, m, rfl, pu, hm, q⟩ := h
    obtain ⟨s, d, t, k, e, h1, h2, h3, h4, h5, h6, h7⟩ := pu.ex
    refine ⟨_, pss_cons (ps_if (pt_cmpR op_gt (pe_ix ix_list (pv 0) pe_int (fun _ _ => rfl)) pe_int (nomark _))
        (pss_cons (ps_set (i := 2) scDraw.nd rfl (Or.inl rfl) (pe_op op_mod (pe_ix ix_list (pv 0) pe_int (fun _ _ => rfl)) (pv 1)))
        (pss_cons (ps_asg (pe_op op_fdiv (pe_ix ix_list (pv 0) pe_int (fun _ _ => rfl)) (pv 1)) (pg_sub (pv 0) pe_int set_list))
        (pss_one (ps_ret (pv 2))))) pss_nil)
      (pss_cons (ps_set (i := 3) scDraw.nd rfl (Or.inl rfl) pe_int)
      (pss_cons (ps_for PassesOwn.never rfl (pi_range1 (by rfl) rg (pa_cons (pe_op op_add pe_int (pe_op op_fdiv (pe_bits (pv 1)) pe_int)) pa_nil)) (pg_name (i := 4) scDraw.nd rfl (Or.inl rfl))
        (pss_cons (ps_asg (pe_op op_add (pe_ix ix_list (pv 0) pe_int (fun _ _ => rfl)) pe_int) (pg_sub (pv 0) pe_int set_list))
        (pss_one (ps_set (i := 3) scDraw.nd rfl (Or.inl rfl) (pe_op op_add (pe_op op_mul (pv 3) pe_int)
          (by exact (pe_call GM hr (by rfl) gM FM.kp bM .nil pass0 (pa_cons (pe_ix ix_list (pv 0) pe_int (fun _ _ => rfl)) (pa_cons (pe_ix ix_list (pv 0) pe_int (fun _ _ => rfl)) (pa_cons (pe_ix ix_list (pv 0) pe_int (fun _ _ => rfl)) pa_nil)))))))))) 
      (pss_one (ps_ret (pe_op op_mod (pv 3) (pv 1)))))), ?_⟩
    refine ⟨_, rfl, a, _, _, _, rfl, rfl, SqL.of e, atI_nat (j := 0) rfl, _, _, rfl, rfl, _, rfl, ?_⟩
    refine ite2 (fun hc => ?_) (fun hc => ?_)
    · refine ⟨_, rfl, a, _, _, _, rfl, rfl, SqL.of e, atI_nat (j := 0) rfl, _, rfl, _, _, rfl, rfl, (by show (0 : Int) < m; omega), ?_⟩
      refine ⟨_, rfl, a, _, _, _, rfl, rfl, SqL.of e, atI_nat (j := 0) rfl, _, rfl, _, _, rfl, rfl, ⟨by omega, by omega⟩, ?_⟩
      refine ⟨_, rfl, a, _, _, 0, rfl, rfl, e, rfl, _, rfl, ?_⟩
      exact q _ _ (Int.emod_nonneg _ (by omega)) (Int.emod_lt_of_pos _ (by omega)) ⟨_, _, _, _, upd_same, Int.ediv_nonneg h1 (by omega), h2, h3, h4, by omega, h6, h7⟩ Sb.upd
    · refine ⟨_, rfl, _, rfl, _, _, rfl, rfl, ⟨by decide, by decide⟩, _, _, rfl, rfl, 1, congrArg (fun z => [V.int z]) (bits27 hm.1 hm.2), by decide, by decide, ?_⟩
      refine for_range (lo := 0) (n := 1) (fun i σ H' => (i = 0 ∧ H' = H ∧ σ = [some (.ref a), some (.int m), none, some (.int 0), none]) ∨ (i = 1 ∧ ∃ r : Int, ∃ o4, 0 ≤ r ∧ σ = [some (.ref a), some (.int m), none, some (.int r), o4] ∧ Pu H' a n ∧ Sb a H H')) (.inl ⟨rfl, rfl, rfl⟩) ?_ ?_
      · rintro i σ H' hi (⟨rfl, rfl, rfl⟩ | ⟨rfl, _⟩)
        · refine ⟨_, rfl, a, _, _, _, rfl, rfl, SqL.of e, atI_nat (j := 2) rfl, _, _, rfl, rfl, _, rfl, a, _, _, 2, rfl, rfl, e, rfl, ?_⟩
          generalize hH : upd H' a (.lst ([V.int s, .int d, .int t, .int k].set 2 (.int (t + 1)))) = G
          have eG : G a = some (.lst [V.int s, .int d, .int (t + 1), .int k]) := by rw [← hH]; exact upd_same
          have sG : Sb a H' G := by rw [← hH]; exact Sb.upd
          refine ⟨_, rfl, _, _, rfl, rfl, .inr ⟨by decide, by decide⟩, ?_⟩
          refine ⟨_, rfl, a, _, _, _, rfl, rfl, SqL.of eG, atI_nat (j := 1) rfl, _, rfl, a, _, _, _, rfl, rfl, SqL.of eG, atI_nat (j := 2) rfl, _, rfl, a, _, _, _, rfl, rfl, SqL.of eG, atI_nat (j := 3) rfl, ?_⟩
          refine ⟨d, t + 1, k, rfl, ⟨h2, h3⟩, ⟨by omega, by omega⟩, ⟨h6, h7⟩, fun r hr0 => ?_⟩
          refine ⟨_, _, rfl, rfl, .inr ⟨rfl, _, _, ?_, rfl, ⟨_, _, _, _, eG, h1, h2, h3, by omega, by omega, h6, h7⟩, sG⟩⟩
          omega
        · exact absurd hi (by decide)
      · rintro σ H' (⟨h, _⟩ | ⟨_, r, o4, hr0, rfl, pu', sb⟩)
        · cases h
        · refine ⟨_, rfl, _, rfl, _, _, rfl, rfl, (by show (0 : Int) < m; omega), ?_⟩
          exact q _ _ (Int.emod_nonneg _ (by omega)) (Int.emod_lt_of_pos _ (by omega)) pu' sb
end
end Nv
set_option maxHeartbeats 4000000
namespace Nv
open PySem PySem.Spec PyProof.Rows L2
/-- the built-ins that the text calls are the built-ins still -/
structure Bl (mg : Str → Option Value) : Prop where
  rg : mg "range" = none
  len : mg "len" = none
  sum : mg "sum" = none
  max : mg "max" = none
  min : mg "min" = none
  int : mg "int" = none
  tup : mg "tuple" = none
theorem bootSum : bootBuiltins "sum" = some (.builtin "sum") := by decide +kernel
theorem bootMax : bootBuiltins "max" = some (.builtin "max") := by decide +kernel
theorem bootMin : bootBuiltins "min" = some (.builtin "min") := by decide +kernel
/-- ** of ints of any size -/
def CPowW (i j : Int) : Prop := 0 ≤ j ∧ (Builtin.Int.intBits i : Int) * j ≤ 2 ^ 27
theorem op_powW {X : Cx} : OpR X (binaryOp .Pow) (rI CPowW fun i j => .int (i ^ j.toNat)) := opI fun _ _ _ _ _ _ _ hc q => pow_int hc.1 hc.2 q
section
variable {P : Program} {w : World} {K : PySem.W.Frag} {mg : Str → Option Value} {base : Heap}
/-- _law_one_of(purse, some) -/
def spOneOf (K : PySem.W.Frag) : Sp := fun vs H Q _ => ∃ (a b : Addr) (n : Nat) (xs : List V), vs = [.ref a, .ref b] ∧ Pu H a (n + 1) ∧ SqL K H b xs ∧ b ≠ a ∧ (1 ≤ xs.length ∧ xs.length ≤ 1000) ∧
  ∀ (v : V) (H' : Hp), v ∈ xs → Pu H' a n → Sb a H H' → Q v H'
theorem scOneOf : FnScope ["_law_purse_here", "_law_some"] ["_law_purse_here", "_law_some"] (defScope sOneOf) := ⟨rfl, rfl, rfl, by decide +kernel, rfl, by decide +kernel, by decide +kernel⟩
theorem ok_oneOf {f fD : Addr} {fd fdD : FuncData} (F : Fun K "_law_one_of" "_law_one_of" sOneOf f fd) (GD : FnOk P w K mg base CX0 2 fD fdD ["_law_purse_here", "_law_many"] spDraw) (kD : PySem.W.keepIn K (.ref fD) = true) (gD : mg "_law_draw" = some (.ref fD)) (bD : Binds K fdD ["_law_purse_here", "_law_many"] []) (B : Bl mg) :
    FnOk P w K mg base CX0 3 f fd ["_law_purse_here", "_law_some"] (spOneOf K) := by
  refine F.ok scOneOf (fun vs H Q E h => ?_) (fun cdv A outer s H vs Q E hr h => ?_)
  · obtain ⟨a, b, n, xs, rfl, _⟩ := h
    rfl
  · obtain ⟨a, b, n, xs, rfl, pu, hb, hn, hl, q⟩ := h
    refine ⟨_, pss_one (ps_ret (pe_ix ix_list (pv 1) (by exact (pe_call GD hr (by rfl) gD kD bD .nil pass0 (pa_cons (pv 0) (pa_cons (pe_callB call_len_seq (by rfl) B.len PySem.boot_len (pa_cons (pv 1) pa_nil)) pa_nil)))) (fun _ _ => rfl))), ?_⟩
    refine ⟨_, rfl, _, rfl, _, rfl, b, xs, rfl, .inl hb, ?_⟩
    refine ⟨a, n, _, rfl, pu, ⟨by omega, by omega⟩, fun r H' h0 h1 pu' sb => ?_⟩
    obtain ⟨j, rfl⟩ : ∃ j : Nat, r = (j : Int) := ⟨r.toNat, by omega⟩
    have hj : j < xs.length := by omega
    refine ⟨b, xs, _, xs[j], rfl, rfl, sb.seq hn hb, atI_nat (List.getElem?_eq_getElem hj), ?_⟩
    exact q _ _ (List.getElem_mem hj) pu' sb
/-- _law_shuffled(purse, some) -/
def spShuffled (K : PySem.W.Frag) : Sp := fun vs H Q _ => ∃ (a b : Addr) (n : Nat) (xs : List V), vs = [.ref a, .ref b] ∧ Pu H a (n + xs.length) ∧ SqL K H b xs ∧ b ≠ a ∧ xs.length ≤ 1000 ∧
  ∀ (p : Addr) (ys : List V) (H' : Hp), ys.Perm xs → H p = none → Pu H' a n → Sb a H H' → H' p = some (.lst ys) → Q (.ref p) H'
theorem scShuffled : FnScope ["_law_purse_here", "_law_some", "_law_found", "_law_item"] ["_law_purse_here", "_law_some"] (defScope sShuffled) := ⟨rfl, rfl, rfl, by decide +kernel, rfl, by decide +kernel, by decide +kernel⟩
theorem perm_ins {α : Type} {ys zs : List α} {x : α} (j : Nat) (h : ys.Perm zs) : (ys.take j ++ [x] ++ ys.drop j).Perm (zs ++ [x]) := by
  have e : (ys.take j ++ [x] ++ ys.drop j).Perm (x :: ys) := by
    rw [List.append_assoc]
    refine (List.perm_append_comm).trans ?_
    show (x :: (ys.drop j ++ ys.take j)).Perm _
    refine List.Perm.cons _ ((List.perm_append_comm).trans ?_)
    rw [List.take_append_drop]
  refine e.trans ((List.Perm.cons _ h).trans ?_)
  exact (List.perm_append_comm (l₁ := [x]) (l₂ := zs))
theorem ok_shuffled {f fD : Addr} {fd fdD : FuncData} (F : Fun K "_law_shuffled" "_law_shuffled" sShuffled f fd) (GD : FnOk P w K mg base CX0 2 fD fdD ["_law_purse_here", "_law_many"] spDraw) (kD : PySem.W.keepIn K (.ref fD) = true) (gD : mg "_law_draw" = some (.ref fD)) (bD : Binds K fdD ["_law_purse_here", "_law_many"] []) (B : Bl mg) :
    FnOk P w K mg base CX0 3 f fd ["_law_purse_here", "_law_some"] (spShuffled K) := by
  refine F.ok scShuffled (fun vs H Q E h => ?_) (fun cdv A outer s H vs Q E hr h => ?_)
  · obtain ⟨a, b, n, xs, rfl, _⟩ := h
    rfl
  · obtain ⟨a, b, n, xs, rfl, pu, hb, hn, hl, q⟩ := h
    refine ⟨_, pss_cons (ps_set (i := 2) scShuffled.nd rfl (Or.inl rfl) (pe_lst pa_nil))
      (pss_cons (ps_for PassesOwn.never rfl (pi_list (pv 1)) (pg_name (i := 3) scShuffled.nd rfl (Or.inl rfl))
        (pss_one (ps_expr (pe_bm PySem.F.plainAttrs_list PySem.F.slot_list_insert PySem.F.type_list_insert mt_insert (pv 2)
          (pa_cons (by exact (pe_call GD hr (by rfl) gD kD bD .nil pass0 (pa_cons (pv 0) (pa_cons (pe_op op_add (pe_callB call_len_seq (by rfl) B.len PySem.boot_len (pa_cons (pv 2) pa_nil)) pe_int) pa_nil)))) (pa_cons (pv 3) pa_nil))))))
      (pss_one (ps_ret (pv 2)))), ?_⟩
    refine ⟨by decide, fun p np => ?_⟩
    have hpa : p ≠ a := pu.ne np
    refine ⟨_, rfl, b, rfl, ⟨_, (Sb.new (a := a) np).seq hn hb⟩, for_list (K := K) (a := b) (xs := xs) (fun i σ H' => ∃ ys o3, σ = [some (.ref a), some (.ref b), some (.ref p), o3] ∧ ys.Perm (xs.take i) ∧ Pu H' a (n + (xs.length - i)) ∧ Sb a H H' ∧ H' p = some (.lst ys))
      ⟨[], none, rfl, by simp, pu.put hpa, Sb.new np, upd_same⟩ (fun i σ H' _ z => ?_) ?_ ?_⟩
    · obtain ⟨ys, o3, _, _, _, sb, _⟩ := z
      exact sb.seq hn hb
    · rintro i x σ H' hi ⟨ys, o3, rfl, pm, pu', sb, e⟩
      have hil : i < xs.length := by
        rcases Nat.lt_or_ge i xs.length with h | h
        · exact h
        · rw [List.getElem?_eq_none h] at hi
          cases hi
      have hyl : ys.length = i := by
        rw [pm.length_eq, List.length_take]
        omega
      refine ⟨_, rfl, .inl ⟨rfl, _, SqL.of e⟩, _, rfl, _, rfl, p, ys, rfl, .inl (SqL.of e), _, _, rfl, rfl, ?_⟩
      refine ⟨a, n + (xs.length - (i + 1)), _, rfl, pu'.le (by omega), ⟨by omega, by omega⟩, fun r H2 h0 h1 pu2 sb2 => ?_⟩
      have e2 : H2 p = some (.lst ys) := sb2 _ _ hpa e
      refine ⟨_, rfl, p, ys, _, _, rfl, rfl, e2, small1000 (by omega), h0, by omega, ?_⟩
      refine ⟨_, _, rfl, ?_, pu2.put hpa, ?_, upd_same⟩
      · have ex : xs.take (i + 1) = xs.take i ++ [x] := by
          rw [List.take_add_one, hi] <;> rfl
        rw [ex]
        exact perm_ins _ pm
      · exact (sb.trans sb2).put np
    · rintro σ H' ⟨ys, o3, rfl, pm, pu', sb, e⟩
      rw [List.take_length] at pm
      exact ⟨_, rfl, q p ys H' pm np (pu'.le (by omega)) sb e⟩
/-- _law_purse(script, at) -/
def spPurse (K : PySem.W.Frag) : Sp := fun vs H Q _ => ∃ (a : Addr) (xs : List Int) (k : Nat), vs = [.ref a, .int (k : Int)] ∧ SqL K H a (xs.map V.int) ∧ k ≤ 100 ∧
  ∀ (p : Addr) (H' : Hp), H p = none → Pu H' p 1099511627776 → Same H H' → Q (.ref p) H'
theorem scPurse : FnScope ["_law_script", "_law_at", "_law_seed"] ["_law_script", "_law_at"] (defScope sPurse) := ⟨rfl, rfl, rfl, by decide +kernel, rfl, by decide +kernel, by decide +kernel⟩
theorem ok_purse {f : Addr} {fd : FuncData} (F : Fun K "_law_purse" "_law_purse" sPurse f fd) (B : Bl mg) : FnOk P w K mg base CX0 1 f fd ["_law_script", "_law_at"] (spPurse K) := by
  refine F.ok scPurse (fun vs H Q E h => ?_) (fun cdv A outer s H vs Q E hr h => ?_)
  · obtain ⟨a, xs, k, rfl, _⟩ := h
    rfl
  · obtain ⟨a, xs, k, rfl, ha, hk, q⟩ := h
    refine ⟨_, pss_cons (ps_set (i := 2) scPurse.nd rfl (Or.inl rfl) (pe_callB (cr_sum rfl) (by rfl) B.sum bootSum (pa_cons (pe_slice sl_list (pv 0) (po_some (pv 1)) (po_some (pe_op op_add (pv 1) pe_int))) pa_nil)))
      (pss_one (ps_ret (pe_lst (pa_cons (pe_op op_mod (pe_callB (call_max2 rfl) (by rfl) B.max bootMax (pa_cons (pe_op op_sub (pv 2) (pe_op op_pow pe_int pe_int)) (pa_cons pe_int pa_nil))) (pe_op op_powW (pe_op op_pow pe_int pe_int) pe_int))
        (pa_cons (pe_op op_mod (pv 2) pe_int) (pa_cons pe_int (pa_cons (pv 1) pa_nil))))))), ?_⟩
    refine ⟨_, rfl, _, rfl, _, rfl, _, rfl, _, _, rfl, rfl, _, rfl, a, _, rfl, ha, fun p np => ?_⟩
    have hc : cutV (xs.map V.int) (some (k : Int)) (some ((k : Int) + 1)) = ((xs.drop (HT.sIx xs.length 0 (some (k : Int)))).take (HT.sIx xs.length xs.length (some ((k : Int) + 1)) - HT.sIx xs.length 0 (some (k : Int)))).map V.int := by
      unfold cutV
      rw [List.length_map, List.map_take, List.map_drop]
    refine ⟨p, _, rfl, SqL.of (by rw [upd_same, hc]), ?_⟩
    generalize hz : (((xs.drop (HT.sIx xs.length 0 (some (k : Int)))).take (HT.sIx xs.length xs.length (some ((k : Int) + 1)) - HT.sIx xs.length 0 (some (k : Int))))).sum = z
    have s1 : Same H (upd H p (.lst (cutV (xs.map V.int) (some (k : Int)) (some ((k : Int) + 1))))) := same_new np
    generalize upd H p (.lst (cutV (xs.map V.int) (some (k : Int)) (some ((k : Int) + 1)))) = H1 at s1 ⊢
    refine ⟨_, rfl, _, _, rfl, rfl, ⟨by decide, by decide, by decide⟩, _, _, rfl, rfl, _, _, rfl, _, _, rfl, rfl, ⟨by decide, by decide, by decide⟩, _, _, rfl, rfl, ⟨by decide, by decide +kernel⟩, _, _, rfl, rfl, (by show (0 : Int) < _; decide +kernel), ?_⟩
    refine ⟨_, rfl, _, _, rfl, rfl, (by show (0 : Int) < 2147483629; decide), _, rfl, (by show 4 ≤ sizeLine; decide), fun p2 np2 => ?_⟩
    have s2 := s1.free np2
    refine q p2 _ s2 ⟨_, _, _, _, upd_same, Int.emod_nonneg _ (by decide +kernel), Int.emod_nonneg _ (by decide), Int.emod_lt_of_pos _ (by decide), by omega, by omega, by omega, by omega⟩ (same_put s1 s2)
end
end Nv
set_option maxHeartbeats 4000000
namespace Nv
open PySem PySem.Spec PyProof.Rows L2
/-- a name, a variable, a term -/
def IsNm (z : Str) : Prop := 1 ≤ z.length ∧ z.length ≤ 10 ∧ ∀ c ∈ z.cps.toList, 97 ≤ c ∧ c ≤ 122
def IsVr (z : Str) : Prop := 1 ≤ z.length ∧ z.length ≤ 3 ∧ ∀ c ∈ z.cps.toList, 65 ≤ c ∧ c ≤ 90
instance (z : Str) : Decidable (IsNm z) := by unfold IsNm; exact inferInstance
instance (z : Str) : Decidable (IsVr z) := by unfold IsVr; exact inferInstance
theorem flat_strs (xs : List Str) : (xs.map V.str).all flatV = true := by
  rw [List.all_eq_true]
  intro x hx
  obtain ⟨z, _, rfl⟩ := List.mem_map.mp hx
  rfl
theorem inV_strs (z : Str) (xs : List Str) : inV (.str z) (xs.map V.str) = decide (z ∈ xs) := by
  unfold inV
  rw [List.any_map]
  by_cases h : z ∈ xs
  · rw [decide_eq_true h, List.any_eq_true]
    exact ⟨z, h, by show (z == z) = true; exact beq_self_eq_true z⟩
  · rw [decide_eq_false h, List.any_eq_false]
    intro y hy
    show ¬ (y == z) = true
    intro e
    exact h (by rw [← eq_of_beq e]; exact hy)
theorem lett : ∀ j : Nat, j < 26 → atI (("abcdefghijklmnopqrstuvwxyz" : Str).cps.toList) (j : Int) = some (97 + j) := by decide +kernel
theorem perm_map_inv {α β : Type} {f : α → β} (hf : ∀ x y, f x = f y → x = y) {ws : List β} {xs : List α} (h : ws.Perm (xs.map f)) : ∃ us : List α, ws = us.map f ∧ us.Perm xs := by
  generalize hz : xs.map f = zs at h
  induction h generalizing xs with
  | nil =>
    cases xs with
    | nil => exact ⟨[], rfl, .nil⟩
    | cons x xs => cases hz
  | cons y h ih =>
    cases xs with
    | nil => cases hz
    | cons x xs =>
      injection hz with h1 h2
      obtain ⟨us, e, p⟩ := ih h2
      exact ⟨x :: us, by rw [e, ← h1] <;> rfl, .cons _ p⟩
  | swap x y l =>
    match xs, hz with
    | x1 :: x2 :: xs, hz =>
      injection hz with h1 h2
      injection h2 with h2 h3
      exact ⟨x2 :: x1 :: xs, by rw [← h1, ← h2, ← h3] <;> rfl, .swap _ _ _⟩
  | trans h1 h2 ih1 ih2 =>
    obtain ⟨us, e, p⟩ := ih2 hz
    obtain ⟨vs, e2, p2⟩ := ih1 e.symm
    exact ⟨vs, e2, p2.trans p⟩
theorem str_len_add (x y : Str) : (x ++ y).length = x.length + y.length := by
  show (x.cps ++ y.cps).size = _
  rw [Array.size_append] <;> rfl
theorem str_cps_add (x y : Str) : (x ++ y).cps.toList = x.cps.toList ++ y.cps.toList := by
  show (x.cps ++ y.cps).toList = _
  simp
section
variable {P : Program} {w : World} {K : PySem.W.Frag} {mg : Str → Option Value} {base : Heap}
/-- _law_purses(script, few) -/
def spPurses (K : PySem.W.Frag) : Sp := fun vs H Q _ => ∃ (a : Addr) (xs : List Int) (few : Nat), vs = [.ref a, .int (few : Int)] ∧ SqL K H a (xs.map V.int) ∧ xs.length ≤ 1000 ∧ few ≤ 100 ∧
  ∀ (p : Addr) (bs : List Addr) (H' : Hp), bs.Nodup → bs.length ≤ 100 → (∀ b ∈ bs, Pu H' b 1099511627776 ∧ H b = none) → H p = none → H' p = some (.lst (bs.map V.ref)) → Same H H' → Q (.ref p) H'
theorem scPurses : FnScope ["_law_script", "_law_few", "_law_at"] ["_law_script", "_law_few"] (defScope sPurses) := ⟨rfl, rfl, rfl, by decide +kernel, rfl, by decide +kernel, by decide +kernel⟩
theorem ok_purses {f fP : Addr} {fd fdP : FuncData} (F : Fun K "_law_purses" "_law_purses" sPurses f fd) (GP : FnOk P w K mg base CX0 1 fP fdP ["_law_script", "_law_at"] (spPurse K)) (kP : PySem.W.keepIn K (.ref fP) = true) (gP : mg "_law_purse" = some (.ref fP)) (bP : Binds K fdP ["_law_script", "_law_at"] []) (B : Bl mg) :
    FnOk P w K mg base CX0 2 f fd ["_law_script", "_law_few"] (spPurses K) := by
  refine F.ok scPurses (fun vs H Q E h => ?_) (fun cdv A outer s H vs Q E hr h => ?_)
  · obtain ⟨a, xs, few, rfl, _⟩ := h
    rfl
  · obtain ⟨a, xs, few, rfl, ha, hx, hf, q⟩ := h
    refine ⟨_, pss_one (ps_ret (by exact (pe_lc (own := [("_law_at", 2)]) (g := gName 2) (tt := tYes) rfl scPurses.nd
      (pi_range1 (by rfl) B.rg (pa_cons (pe_callB (call_max2 rfl) (by rfl) B.max bootMax (pa_cons pe_int (pa_cons (pe_callB (call_min2 rfl) (by rfl) B.min bootMin (pa_cons (pv 1) (pa_cons (pe_callB call_len_seq (by rfl) B.len PySem.boot_len (pa_cons (pv 0) pa_nil)) pa_nil))) pa_nil))) pa_nil))
      (blkOk_by (own := [("_law_at", 2)]) (N := ["_law_script", "_law_few", "_law_at"]) (sc := defScope sPurses) (by decide +kernel))
      (fun _ _ _ _ _ => pg_name (i := 2) scPurses.nd rfl (Or.inl rfl)) (fun _ _ _ _ _ => pts_nil)
      (fun _ _ _ _ _ => by exact (pe_call GP hr (by rfl) gP kP bP .nil pass0 (pa_cons (pv 0) (pa_cons (pv 2) pa_nil))))))), ?_⟩
    refine ⟨_, rfl, _, rfl, a, _, rfl, .inl ha, _, _, rfl, _, _, rfl, ?_⟩
    rw [List.length_map]
    generalize hM : (if (if (xs.length : Int) < (few : Int) then (xs.length : Int) else (few : Int)) > 1 then (if (xs.length : Int) < (few : Int) then (xs.length : Int) else (few : Int)) else 1) = M
    have hM0 : 0 ≤ M ∧ M ≤ 100 := by
      rw [← hM]
      split <;> split <;> omega
    refine ⟨M, rfl, by omega, by omega, fun D nD => ?_⟩
    refine lc_range (lo := 0) (n := M.toNat) (fun i H' => ∃ bs : List Addr, bs.length = i ∧ bs.Nodup ∧ (∀ b ∈ bs, Pu H' b 1099511627776 ∧ H b = none ∧ b ≠ D) ∧ H' D = some (.lst (bs.map V.ref)) ∧ Same H H') ⟨[], rfl, List.nodup_nil, (fun b hb => nomatch hb), upd_same, same_new nD⟩ ?_ ?_
    · rintro i H1 hi ⟨bs, hl, hnd, hb, e, sm⟩
      refine ⟨rfl, ?_⟩
      refine ⟨_, rfl, _, rfl, a, xs, i, (by rw [Int.zero_add]; rfl), sm.seq ha, by omega, fun p H2 np pu s2 => ?_⟩
      have e2 := s2 _ _ e
      have npH : H p = none := sm.free np
      have hpD : p ≠ D := fun z => by
        rw [z, e] at np
        cases np
      refine ⟨_, e2, by rw [List.length_map]; exact small1000 (by omega), bs ++ [p], by rw [List.length_append, hl] <;> rfl, ?_, ?_, by rw [upd_same, List.map_append] <;> rfl, ?_⟩
      · rw [List.nodup_append]
        refine ⟨hnd, by simp, fun x hx y hy => ?_⟩
        obtain rfl := List.mem_singleton.mp hy
        intro z
        subst z
        obtain ⟨o, eo⟩ := (hb _ hx).1.some
        rw [eo] at np
        cases np
      · intro b hbm
        rcases List.mem_append.mp hbm with hx | hx
        · obtain ⟨h1, h2, h3⟩ := hb b hx
          exact ⟨(h1.same s2).put (Ne.symm h3), h2, h3⟩
        · obtain rfl := List.mem_singleton.mp hx
          exact ⟨pu.put (Ne.symm hpD), npH, hpD⟩
      · exact same_put (sm.trans s2) nD
    · rintro H1 ⟨bs, hl, hnd, hb, e, sm⟩
      exact q D bs H1 hnd (by omega) (fun b hbm => ⟨(hb b hbm).1, (hb b hbm).2.1⟩) nD e sm
/-- _law_names(purse, many) -/
def spNames : Sp := fun vs H Q _ => ∃ (a : Addr) (n k : Nat), vs = [.ref a, .int (k : Int)] ∧ Pu H a (n + 18) ∧ k ≤ 6 ∧
  ∀ (p : Addr) (zs : List Str) (H' : Hp), zs.length = k → (∀ z ∈ zs, IsNm z) → zs.Nodup → H p = none → Pu H' a n → Sb a H H' → H' p = some (.lst (zs.map V.str)) → Q (.ref p) H'
theorem scNames : FnScope ["_law_purse_here", "_law_many", "_law_fresh", "_law_turn", "_law_some", "_law_word"] ["_law_purse_here", "_law_many"] (defScope sNames) := ⟨rfl, rfl, rfl, by decide +kernel, rfl, by decide +kernel, by decide +kernel⟩
def fixed6 : List Str := ["a", "b", "x", "xx", "ann", "abcdefghij"]
theorem fixed6_nm : ∀ z ∈ fixed6, IsNm z := by decide +kernel
theorem fixed6_nd : fixed6.Nodup := by decide +kernel
theorem ok_names {f fD fS : Addr} {fd fdD fdS : FuncData} (F : Fun K "_law_names" "_law_names" sNames f fd)
    (GD : FnOk P w K mg base CX0 2 fD fdD ["_law_purse_here", "_law_many"] spDraw) (kD : PySem.W.keepIn K (.ref fD) = true) (gD : mg "_law_draw" = some (.ref fD)) (bD : Binds K fdD ["_law_purse_here", "_law_many"] [])
    (GS : FnOk P w K mg base CX0 3 fS fdS ["_law_purse_here", "_law_some"] (spShuffled K)) (kS : PySem.W.keepIn K (.ref fS) = true) (gS : mg "_law_shuffled" = some (.ref fS)) (bS : Binds K fdS ["_law_purse_here", "_law_some"] []) (B : Bl mg) :
    FnOk P w K mg base CX0 4 f fd ["_law_purse_here", "_law_many"] spNames := by
  refine F.ok scNames (fun vs H Q E h => ?_) (fun cdv A outer s H vs Q E hr h => ?_)
  · obtain ⟨a, n, k, rfl, _⟩ := h
    rfl
  · obtain ⟨a, n, k, rfl, pu, hk, q⟩ := h
    have hr2 : Room 2 _ := hr.mono (by decide)
    refine ⟨_, pss_cons (ps_set (i := 2) scNames.nd rfl (Or.inl rfl) pe_str)
      (pss_cons (ps_for PassesOwn.never rfl (pi_range1 (by rfl) B.rg (pa_cons (pe_op op_add pe_int (by exact (pe_call GD hr2 (by rfl) gD kD bD .nil pass0 (pa_cons (pv 0) (pa_cons pe_int pa_nil))))) pa_nil)) (pg_name (i := 3) scNames.nd rfl (Or.inl rfl))
        (pss_one (ps_set (i := 2) scNames.nd rfl (Or.inl rfl) (pe_op op_add_str (pv 2) (pe_ix ix_str pe_str (by exact (pe_call GD hr2 (by rfl) gD kD bD .nil pass0 (pa_cons (pv 0) (pa_cons pe_int pa_nil)))) (fun _ _ => rfl))))))
      (pss_cons (ps_set (i := 4) scNames.nd rfl (Or.inr rfl) (pe_lst (pa_cons pe_str (pa_cons pe_str (pa_cons pe_str (pa_cons pe_str (pa_cons pe_str (pa_cons pe_str pa_nil))))))))
      (pss_one (ps_ret (pe_slice sl_list (by exact (pe_call GS hr (by rfl) gS kS bS .nil pass0 (pa_cons (pv 0) (pa_cons (pe_op op_cat (pv 4)
        (by exact (pe_lc (own := [("_law_word", 5)]) (g := gName 5) (tt := tTest (tOp (rIn K true) (tVar 5) (tVar 4))) rfl scNames.nd (pi_list (pe_lst (pa_cons (pv 2) pa_nil)))
          (blkOk_by (own := [("_law_word", 5)]) (N := ["_law_purse_here", "_law_many", "_law_fresh", "_law_turn", "_law_some", "_law_word"]) (sc := defScope sNames) (by decide +kernel))
          (fun _ _ _ _ _ => pg_name (i := 5) scNames.nd rfl (Or.inl rfl)) (fun _ _ _ _ _ => pts_one (by exact (pt_cmpR op_notIn_seq (pv 5) (pv 4) (by rfl)))) (fun _ _ _ _ _ => pv 5)))) pa_nil)))) po_none (po_some (pv 1))))))), ?_⟩
    refine ⟨_, rfl, a, n + 17, 10, rfl, pu, ⟨by decide, by decide⟩, fun r H0 h0 h1 pu0 sb0 => ⟨_, _, rfl, rfl, 1 + r, rfl, by omega, by omega, ?_⟩⟩
    refine for_range (lo := 0) (n := (1 + r).toNat) (fun i σ H' => ∃ (z : Str) (o3 : Option V), σ = [some (.ref a), some (.int (k : Int)), some (.str z), o3, none, none] ∧ z.length = i ∧ (∀ c ∈ z.cps.toList, 97 ≤ c ∧ c ≤ 122) ∧ Pu H' a (n + 7 + (10 - i)) ∧ Sb a H H')
      ⟨"", none, rfl, rfl, (fun c hc => nomatch hc), pu0, sb0⟩ ?_ ?_
    · rintro i σ H1 hi ⟨z, o3, rfl, hz, hc, pu1, sb1⟩
      refine ⟨_, rfl, _, rfl, a, n + 7 + (10 - (i + 1)), 26, rfl, pu1.le (by omega), ⟨by decide, by decide⟩, fun r2 H2 h2 h3 pu2 sb2 => ?_⟩
      obtain ⟨j, rfl⟩ : ∃ j : Nat, r2 = (j : Int) := ⟨r2.toNat, by omega⟩
      refine ⟨_, _, 97 + j, rfl, rfl, by decide +kernel, lett j (by omega), _, _, rfl, rfl, ?_, ?_⟩
      · show z.length + 1 ≤ sizeLine
        have : (1000 : Nat) ≤ sizeLine := by decide
        omega
      · refine ⟨_, _, rfl, ?_, ?_, pu2, sb1.trans sb2⟩
        · rw [str_len_add, hz] <;> rfl
        · intro c hc2
          rw [str_cps_add] at hc2
          rcases List.mem_append.mp hc2 with h | h
          · exact hc c h
          · have h : c ∈ [97 + j] := h
            obtain rfl := List.mem_singleton.mp h
            omega
    · rintro σ H1 ⟨z, o3, rfl, hz, hc, pu1, sb1⟩
      have nmz : IsNm z := ⟨by omega, by omega, hc⟩
      have pu1 : Pu H1 a (n + 7) := pu1.le (by omega)
      clear pu0 sb0
      refine ⟨by decide, fun p np => ?_⟩
      have npH := sb1.free pu1 np
      have pa : p ≠ a := pu1.ne np
      have sb2 : Sb a H (upd H1 p (.lst (fixed6.map V.str))) := sb1.put npH
      have pu2 : Pu (upd H1 p (.lst (fixed6.map V.str))) a (n + 7) := pu1.put pa
      have e2 : upd H1 p (.lst (fixed6.map V.str)) p = some (.lst (fixed6.map V.str)) := upd_same
      refine (show ∀ G : Hp, G = upd H1 p (.lst (fixed6.map V.str)) → tSeq _ _ { nx := fun _ H' => Q .non H', rt := Q } [some (.ref a), some (.int (k : Int)), some (.str z), o3, some (.ref p), none] G from fun G hG => ?_) _ rfl
      rw [← hG] at sb2 pu2 e2
      clear hG np npH
      refine ⟨_, rfl, _, rfl, _, rfl, (by show 1 ≤ sizeLine; decide), fun l nl => ⟨l, rfl, ⟨[.str z], SqL.of upd_same⟩, fun D nD => ?_⟩⟩
      have e3 : upd G l (.lst [.str z]) p = some (.lst (fixed6.map V.str)) := same_new nl _ _ e2
      have e4 : upd G l (.lst [.str z]) l = some (.lst [.str z]) := upd_same
      have pu3 : Pu (upd G l (.lst [.str z])) a (n + 7) := pu2.put (pu2.ne nl)
      have sb3 : Sb a H (upd G l (.lst [.str z])) := sb2.put (sb2.free pu2 nl)
      generalize upd G l (.lst [.str z]) = G1 at e3 e4 pu3 sb3 nD ⊢
      have pD : p ≠ D := ne_of_none e3 nD
      have lD : l ≠ D := ne_of_none e4 nD
      refine lc_list (K := K) (a := l) (xs := [.str z]) (fun i H' => Same G1 H' ∧ H' D = some (.lst ((if i = 0 then ([] : List Str) else if z ∈ fixed6 then [] else [z]).map V.str))) ⟨same_new nD, upd_same⟩ (fun i H' _ y => SqL.of (y.1 _ _ e4)) ?_ ?_
      · rintro i x G2 hi ⟨s1, e5⟩
        obtain ⟨rfl, rfl⟩ : i = 0 ∧ x = V.str z := by
          match i, hi with
          | 0, h => exact ⟨rfl, (Option.some.inj h).symm⟩
        rw [if_pos rfl] at e5
        refine ⟨rfl, _, rfl, _, rfl, p, fixed6.map V.str, rfl, .inl (SqL.of (s1 _ _ e3)), rfl, flat_strs _, _, rfl, ?_⟩
        rw [inV_strs]
        by_cases hz6 : z ∈ fixed6
        · rw [decide_eq_true hz6]
          refine iteF ⟨s1, ?_⟩
          rw [if_neg (by decide), if_pos hz6]
          exact e5
        · rw [decide_eq_false hz6]
          refine iteT ⟨_, rfl, _, e5, (by show 0 < sizeLine; decide), fun b o e => ?_, ?_⟩
          · rw [upd_ne (ne_of_none e nD)]
            exact s1 _ _ e
          · rw [upd_same, if_neg (by decide), if_neg hz6] <;> rfl
      · rintro G2 ⟨s1, e5⟩
        rw [if_neg (fun h => by cases h)] at e5
        generalize hys : (if z ∈ fixed6 then ([] : List Str) else [z]) = ys at e5
        have hy : ys.length ≤ 1 ∧ (∀ x ∈ ys, IsNm x ∧ x ∉ fixed6) ∧ ys.Nodup := by
          rw [← hys]
          split
          · exact ⟨by decide, (fun x hx => nomatch hx), List.nodup_nil⟩
          · rename_i h
            exact ⟨(by show 1 ≤ 1; decide), (fun x hx => by rw [List.mem_singleton.mp hx]; exact ⟨nmz, h⟩), by simp⟩
        have pu4 := pu3.same s1
        have sb4 := sb3.then s1
        refine ⟨_, _, _, _, rfl, rfl, s1 _ _ e3, e5, ?_, fun q1 nq => ?_⟩
        · rw [List.length_map, List.length_map]
          show 6 + ys.length ≤ sizeLine
          have : (1000 : Nat) ≤ sizeLine := by decide
          omega
        · have hl7 : (fixed6.map V.str ++ ys.map V.str).length ≤ 7 := by
            rw [List.length_append, List.length_map, List.length_map]
            show 6 + ys.length ≤ 7
            omega
          have nqa := pu4.ne nq
          refine ⟨a, q1, n, _, rfl, (pu4.put nqa).le (by omega), SqL.of upd_same, nqa, by omega, fun q2 ws H3 pm nq2 pu5 sb5 e6 => ?_⟩
          rw [← List.map_append] at pm
          obtain ⟨us, rfl, pu⟩ : ∃ us : List Str, ws = us.map V.str ∧ us.Perm (fixed6 ++ ys) := perm_map_inv (fun _ _ e => by injection e) pm
          have npq : H q2 = none := by
            have h1 : upd G2 q1 (.lst (fixed6.map V.str ++ ys.map V.str)) q2 = none := nq2
            have h2 : q2 ≠ q1 := fun z => by rw [z, upd_same] at h1; cases h1
            rw [upd_ne h2] at h1
            exact sb4.free pu4 h1
          refine ⟨_, rfl, _, rfl, q2, _, rfl, SqL.of e6, fun q3 nq3 => ?_⟩
          have sb6 : Sb a H H3 := (sb4.put (sb4.free pu4 nq)).trans sb5
          have hcut : cutV (us.map V.str) none (some (k : Int)) = (us.take k).map V.str := by
            unfold cutV
            have : us.length ≥ 6 := by
              rw [pu.length_eq, List.length_append]
              show 6 ≤ 6 + ys.length
              omega
            rw [HT.sIx_none, HT.sIx_nat, List.drop_zero, List.length_map, Nat.sub_zero, Nat.min_eq_left (by omega), List.map_take]
          rw [hcut]
          have hus : us.length ≥ 6 := by
            rw [pu.length_eq, List.length_append]
            show 6 ≤ 6 + ys.length
            omega
          refine q q3 (us.take k) _ (by rw [List.length_take]; omega) (fun x hx => ?_) ?_ (sb6.free pu5 nq3) (pu5.put (pu5.ne nq3)) (sb6.put (sb6.free pu5 nq3)) upd_same
          · have hx := pu.mem_iff.mp (List.mem_of_mem_take hx)
            rcases List.mem_append.mp hx with h | h
            · exact fixed6_nm _ h
            · exact (hy.2.1 _ h).1
          · refine List.Nodup.sublist (List.take_sublist _ _) (pu.nodup_iff.mpr (List.nodup_append.mpr ⟨fixed6_nd, hy.2.2, fun x hx y hy2 z => ?_⟩))
            subst z
            exact (hy.2.1 _ hy2).2 hx
end
end Nv
set_option maxHeartbeats 4000000
namespace Nv
open PySem PySem.Spec PyProof.Rows L2
def up1 (c : Nat) : Nat := if 97 ≤ c ∧ c ≤ 122 then c - 32 else c
theorem upper_list : ∀ l : List Nat, (∀ c ∈ l, c < 128) → Txt.upper ⟨l.toArray⟩ = ⟨(l.map up1).toArray⟩
  | [], _ => rfl
  | c :: l, h => by
    have e : (⟨(c :: l).toArray⟩ : Str) = (⟨#[c]⟩ : Str) ++ (⟨l.toArray⟩ : Str) := by
      show Str.mk _ = Str.mk _
      simp
    rw [e, PySem.W.KOpn.upper_app, PySem.W.KOpn.upper_one (h c List.mem_cons_self), upper_list l fun x hx => h x (List.mem_cons_of_mem _ hx)]
    show Str.mk _ = Str.mk _
    simp [up1]
theorem str_eta (z : Str) : z = ⟨z.cps.toList.toArray⟩ := by
  cases z
  simp
theorem upper_vr {z : Str} (h : IsVr z) : Txt.upper z = z := by
  rw [str_eta z, upper_list _ fun c hc => by have := h.2.2 c hc; omega]
  refine congrArg Str.mk (congrArg List.toArray ?_)
  refine (List.map_congr_left fun c hc => ?_).trans (List.map_id _)
  have := h.2.2 c hc
  unfold up1
  rw [if_neg (by omega)]
  rfl
theorem upper_nm {z : Str} (h : IsNm z) : Txt.upper z ≠ z := by
  intro e
  rw [str_eta z, upper_list _ fun c hc => by have := h.2.2 c hc; omega] at e
  have e2 : (z.cps.toList.map up1) = z.cps.toList := by
    have e3 := congrArg (fun s : Str => s.cps.toList) e
    simpa using e3
  have hl : z.cps.toList.length = z.length := by simp [Str.length]
  match hz : z.cps.toList with
  | [] =>
    rw [hz] at hl
    have := h.1
    simp at hl
    omega
  | c :: l =>
    rw [hz] at e2
    injection e2 with h1 h2
    have h3 := h.2.2 c (by rw [hz]; exact List.mem_cons_self)
    unfold up1 at h1
    rw [if_pos h3] at h1
    omega
end Nv
set_option maxHeartbeats 4000000
namespace Nv
open PySem PySem.Spec PyProof.Rows L2
/-- a word of a kind -/
def IsWd (w : Str) : Prop := IsNm w ∧ w ≠ "never"
instance (w : Str) : Decidable (IsWd w) := inferInstanceAs (Decidable (_ ∧ _))
/-- a kind: a tuple of a word and a number -/
def Kd (H : Hp) (v : V) : Prop := ∃ (t : Addr) (w : Str) (m : Nat), v = .ref t ∧ H t = some (.tup [.str w, .int (m : Int)]) ∧ IsWd w ∧ m ≤ 3
section
variable {a : Addr} {H H1 H2 : Hp} {n m : Nat} {v : V}
theorem Kd.same (k : Kd H v) (s : Same H H1) : Kd H1 v := by
  obtain ⟨t, w, m, rfl, e, h⟩ := k
  exact ⟨t, w, m, rfl, s _ _ e, h⟩
theorem Kd.ne (k : Kd H v) (pu : Pu H a n) : v ≠ .ref a := by
  obtain ⟨t, w, m, rfl, e, h⟩ := k
  obtain ⟨s, d, tt, kk, e2, _⟩ := pu.ex
  intro z
  cases z
  rw [e] at e2
  cases e2
theorem Kd.sb (k : Kd H v) (pu : Pu H a n) (s : Sb a H H1) : Kd H1 v := by
  have hn := k.ne pu
  obtain ⟨t, w, m, rfl, e, h⟩ := k
  exact ⟨t, w, m, rfl, s _ _ (fun z => hn (by rw [z])) e, h⟩
theorem kd_new {G : Hp} {t : Addr} {w : Str} {m : Nat} (sb : Same H G) (nt : G t = none) (hw : IsWd w) (hm : m ≤ 3) :
    Same H (upd G t (.tup [.str w, .int (m : Int)])) ∧ Same G (upd G t (.tup [.str w, .int (m : Int)])) ∧ Kd (upd G t (.tup [.str w, .int (m : Int)])) (.ref t) :=
  ⟨same_put sb (sb.free nt), same_new nt, t, w, m, rfl, upd_same, hw, hm⟩
end
section
variable {P : Program} {w : World} {K : PySem.W.Frag} {mg : Str → Option Value} {base : Heap}
/-- _law_kinds(purse, many) -/
def spKinds : Sp := fun vs H Q _ => ∃ (a : Addr) (n k : Nat), vs = [.ref a, .int (k : Int)] ∧ Pu H a (n + 9) ∧ k ≤ 7 ∧
  ∀ (p : Addr) (ks : List V) (H' : Hp), ks.length = k → (∀ v ∈ ks, Kd H' v) → H p = none → Pu H' a n → Sb a H H' → H' p = some (.lst ks) → Q (.ref p) H'
theorem scKinds : FnScope ["_law_purse_here", "_law_many", "_law_some"] ["_law_purse_here", "_law_many"] (defScope sKinds) := ⟨rfl, rfl, rfl, by decide +kernel, rfl, by decide +kernel, by decide +kernel⟩
theorem ok_kinds {f fD fS : Addr} {fd fdD fdS : FuncData} (F : Fun K "_law_kinds" "_law_kinds" sKinds f fd)
    (GD : FnOk P w K mg base CX0 2 fD fdD ["_law_purse_here", "_law_many"] spDraw) (kD : PySem.W.keepIn K (.ref fD) = true) (gD : mg "_law_draw" = some (.ref fD)) (bD : Binds K fdD ["_law_purse_here", "_law_many"] [])
    (GS : FnOk P w K mg base CX0 3 fS fdS ["_law_purse_here", "_law_some"] (spShuffled K)) (kS : PySem.W.keepIn K (.ref fS) = true) (gS : mg "_law_shuffled" = some (.ref fS)) (bS : Binds K fdS ["_law_purse_here", "_law_some"] []) (B : Bl mg) :
    FnOk P w K mg base CX0 4 f fd ["_law_purse_here", "_law_many"] spKinds := by
  refine F.ok scKinds (fun vs H Q E h => ?_) (fun cdv A outer s H vs Q E hr h => ?_)
  · obtain ⟨a, n, k, rfl, _⟩ := h
    rfl
  · obtain ⟨a, n, k, rfl, pu, hk, q⟩ := h
    have hr2 : Room 2 _ := hr.mono (by decide)
    refine ⟨_, pss_cons (ps_set (i := 2) scKinds.nd rfl (Or.inl rfl) (pe_lst (pa_cons (pe_tup (pa_cons pe_str (pa_cons pe_int pa_nil))) (pa_cons (pe_tup (pa_cons pe_str (pa_cons pe_int pa_nil))) (pa_cons (pe_tup (pa_cons pe_str (pa_cons pe_int pa_nil))) (pa_cons (pe_tup (pa_cons pe_str (pa_cons pe_int pa_nil))) (pa_cons (pe_tup (pa_cons pe_str (pa_cons pe_int pa_nil))) (pa_cons (pe_tup (pa_cons pe_str (pa_cons pe_int pa_nil))) (pa_cons (pe_tup (pa_cons pe_str (pa_cons pe_int pa_nil))) (pa_cons (pe_tup (pa_cons pe_str (pa_cons pe_int pa_nil))) pa_nil))))))))))
      (pss_one (ps_ret (pe_slice sl_list (by exact (pe_call GS hr (by rfl) gS kS bS .nil pass0 (pa_cons (pv 0) (pa_cons
        (pe_slice sl_list (pv 2) po_none (po_some (pe_op op_add pe_int (pe_callTy call_int1 (by rfl) B.int boot_int (pa_cons (pe_cmpR op_eq (by exact (pe_call GD hr2 (by rfl) gD kD bD .nil pass0 (pa_cons (pv 0) (pa_cons pe_int pa_nil)))) pe_int (nomark _)) pa_nil)))))
        pa_nil)))) po_none (po_some (pv 1))))), ?_⟩
    have s0 : Same H H := Same.refl H
    refine ⟨(by show 2 ≤ sizeLine; decide), fun t1 n1 => ?_⟩
    obtain ⟨s1, r1, k1⟩ := kd_new (w := "p") (m := 1) s0 n1 (by decide +kernel) (by decide)
    refine (show ∀ G : Hp, Same H G → Same H G → Kd G (.ref t1) → _ from fun G1 s1 r1 k1 => ?_) _ s1 r1 k1
    refine ⟨(by show 2 ≤ sizeLine; decide), fun t2 n2 => ?_⟩
    obtain ⟨s2, r2, k2⟩ := kd_new (w := "q") (m := 1) s1 n2 (by decide +kernel) (by decide)
    refine (show ∀ G : Hp, Same H G → Same G1 G → Kd G (.ref t2) → _ from fun G2 s2 r2 k2 => ?_) _ s2 r2 k2
    replace k1 := k1.same r2
    refine ⟨(by show 2 ≤ sizeLine; decide), fun t3 n3 => ?_⟩
    obtain ⟨s3, r3, k3⟩ := kd_new (w := "way") (m := 2) s2 n3 (by decide +kernel) (by decide)
    refine (show ∀ G : Hp, Same H G → Same G2 G → Kd G (.ref t3) → _ from fun G3 s3 r3 k3 => ?_) _ s3 r3 k3
    replace k1 := k1.same r3
    replace k2 := k2.same r3
    refine ⟨(by show 2 ≤ sizeLine; decide), fun t4 n4 => ?_⟩
    obtain ⟨s4, r4, k4⟩ := kd_new (w := "p") (m := 2) s3 n4 (by decide +kernel) (by decide)
    refine (show ∀ G : Hp, Same H G → Same G3 G → Kd G (.ref t4) → _ from fun G4 s4 r4 k4 => ?_) _ s4 r4 k4
    replace k1 := k1.same r4
    replace k2 := k2.same r4
    replace k3 := k3.same r4
    refine ⟨(by show 2 ≤ sizeLine; decide), fun t5 n5 => ?_⟩
    obtain ⟨s5, r5, k5⟩ := kd_new (w := "rain") (m := 0) s4 n5 (by decide +kernel) (by decide)
    refine (show ∀ G : Hp, Same H G → Same G4 G → Kd G (.ref t5) → _ from fun G5 s5 r5 k5 => ?_) _ s5 r5 k5
    replace k1 := k1.same r5
    replace k2 := k2.same r5
    replace k3 := k3.same r5
    replace k4 := k4.same r5
    refine ⟨(by show 2 ≤ sizeLine; decide), fun t6 n6 => ?_⟩
    obtain ⟨s6, r6, k6⟩ := kd_new (w := "not") (m := 2) s5 n6 (by decide +kernel) (by decide)
    refine (show ∀ G : Hp, Same H G → Same G5 G → Kd G (.ref t6) → _ from fun G6 s6 r6 k6 => ?_) _ s6 r6 k6
    replace k1 := k1.same r6
    replace k2 := k2.same r6
    replace k3 := k3.same r6
    replace k4 := k4.same r6
    replace k5 := k5.same r6
    refine ⟨(by show 2 ≤ sizeLine; decide), fun t7 n7 => ?_⟩
    obtain ⟨s7, r7, k7⟩ := kd_new (w := "a") (m := 1) s6 n7 (by decide +kernel) (by decide)
    refine (show ∀ G : Hp, Same H G → Same G6 G → Kd G (.ref t7) → _ from fun G7 s7 r7 k7 => ?_) _ s7 r7 k7
    replace k1 := k1.same r7
    replace k2 := k2.same r7
    replace k3 := k3.same r7
    replace k4 := k4.same r7
    replace k5 := k5.same r7
    replace k6 := k6.same r7
    refine ⟨(by show 2 ≤ sizeLine; decide), fun t8 n8 => ?_⟩
    obtain ⟨s8, r8, k8⟩ := kd_new (w := "longestone") (m := 3) s7 n8 (by decide +kernel) (by decide)
    refine (show ∀ G : Hp, Same H G → Same G7 G → Kd G (.ref t8) → _ from fun G8 s8 r8 k8 => ?_) _ s8 r8 k8
    replace k1 := k1.same r8
    replace k2 := k2.same r8
    replace k3 := k3.same r8
    replace k4 := k4.same r8
    replace k5 := k5.same r8
    replace k6 := k6.same r8
    replace k7 := k7.same r8
    refine ⟨(by show 8 ≤ sizeLine; decide), fun p np => ?_⟩
    have kall : ∀ v ∈ [V.ref t1, .ref t2, .ref t3, .ref t4, .ref t5, .ref t6, .ref t7, .ref t8], Kd G8 v := by
      intro v hv
      simp only [List.mem_cons, List.not_mem_nil, or_false] at hv
      rcases hv with rfl | rfl | rfl | rfl | rfl | rfl | rfl | rfl <;> assumption
    have hl8 : [V.ref t1, .ref t2, .ref t3, .ref t4, .ref t5, .ref t6, .ref t7, .ref t8].length = 8 := rfl
    generalize [V.ref t1, .ref t2, .ref t3, .ref t4, .ref t5, .ref t6, .ref t7, .ref t8] = xs at kall hl8 ⊢
    refine (show ∀ G : Hp, Same G8 G → G p = some (.lst xs) → tSeq _ _ { nx := fun _ H' => Q .non H', rt := Q } [some (.ref a), some (.int (k : Int)), some (.ref p)] G from fun G sG eG => ?_) _ (same_new np) upd_same
    have sG := s8.trans sG
    replace kall : ∀ v ∈ xs, Kd G v := fun v hv => (kall v hv).same (by assumption)
    have puG : Pu G a (n + 9) := pu.same sG
    have pa := puG.ne (q := p)
    refine ⟨_, rfl, _, rfl, _, rfl, a, n + 8, 8, rfl, puG, ⟨by decide, by decide⟩, fun r H1 h0 h1 pu1 sb1 => ?_⟩
    have pna : p ≠ a := fun z => by
      obtain ⟨s, d, t, kk, e2, _⟩ := puG.ex
      rw [z, e2] at eG
      injection eG with eG
      injection eG with eG
      have := congrArg List.length eG
      rw [hl8] at this
      cases this
    have e1 : H1 p = some (.lst xs) := sb1 _ _ pna eG
    have k1 : ∀ v ∈ xs, Kd H1 v := fun v hv => (kall v hv).sb puG sb1
    refine ⟨rfl, .inr ⟨_, rfl, ?_⟩⟩
    generalize hb : (if decide (V.int r = V.int 0) = true then (1 : Int) else 0) = b
    have hb2 : 0 ≤ b ∧ b ≤ 1 := by
      rw [← hb]
      split <;> decide
    obtain ⟨j, rfl⟩ : ∃ j : Nat, b = (j : Int) := ⟨b.toNat, by omega⟩
    refine ⟨_, _, rfl, rfl, _, rfl, p, xs, rfl, SqL.of e1, fun q1 nq1 => ?_⟩
    have hc : cutV xs none (some (7 + (j : Int))) = xs.take (7 + j) := by
      unfold cutV
      have e7 : (7 + (j : Int)) = ((7 + j : Nat) : Int) := by omega
      rw [e7, HT.sIx_none, HT.sIx_nat, List.drop_zero, Nat.sub_zero, Nat.min_eq_left (by omega)]
    rw [hc]
    have hl : (xs.take (7 + j)).length = 7 + j := by
      rw [List.length_take]
      omega
    have q1a := pu1.ne nq1
    refine ⟨a, q1, n, _, rfl, (pu1.put q1a).le (by omega), SqL.of upd_same, q1a, by omega, fun q2 ys H2 pm nq2 pu2 sb2 e2 => ?_⟩
    have sb3 : Sb a H1 H2 := (Sb.new nq1).trans sb2
    refine ⟨_, rfl, _, rfl, q2, ys, rfl, SqL.of e2, fun q3 nq3 => ?_⟩
    have hc2 : cutV ys none (some (k : Int)) = ys.take k := by
      unfold cutV
      have := pm.length_eq
      rw [HT.sIx_none, HT.sIx_nat, List.drop_zero, Nat.sub_zero, Nat.min_eq_left (by omega)]
    rw [hc2]
    have sb4 : Sb a H H2 := ((Sb.of sG).trans sb1).trans sb3
    have hly := pm.length_eq
    refine q q3 (ys.take k) _ (by rw [List.length_take]; omega) (fun v hv => ?_) (sb4.free pu2 nq3) (pu2.put (pu2.ne nq3)) (sb4.put (sb4.free pu2 nq3)) upd_same
    have hv2 := List.mem_of_mem_take (pm.mem_iff.mp (List.mem_of_mem_take hv))
    exact ((k1 v hv2).sb pu1 sb3).same (same_new nq3)
end
end Nv
set_option maxHeartbeats 4000000
namespace L2
open PySem PySem.Spec PyProof.Rows
/-! # Tuples made in the run, known to their object: it has no dict, so their methods can be called -/
section
variable {X : Cx} {o e : Expr} {es : List Expr} {to : TE} {t : TA} {pos : Pos}
/-- tuple(list) -/
def rTupF (K : PySem.W.Frag) : List V → Hp → VK → Prop := fun xs H Q => ∃ (p : Addr) (ys : List V), xs = [.ref p] ∧ SqL K H p ys ∧ ∀ (l : Addr) (ob : Obj), ob.dict = none → H l = none → Q (.ref l) (upd H l (.frz ob (.tup ys)))
theorem call_tupF : CallR X (.type "tuple") (rTupF X.K) := fun pins s σ H xs us Q I r h => by
  obtain ⟨p, ys, rfl, hq, q⟩ := h
  obtain ⟨u, rfl, rx⟩ := vals1 r
  obtain rfl : u = Value.ref p := rx
  obtain ⟨its, r', pl, hz⟩ := I.list hq
  have few : its.toArray.size ≤ sizeLine := by rw [List.size_toArray, ← r'.length]; exact hz
  refine call_tuple_list pl.isList (fun h' kp => ?_) few
  have I1 : Inv X pins σ H { s with heap := h' } := I.kept (t' := s.toks) kp
  refine ⟨.ref h'.objs.size, upd H h'.objs.size (.frz { cls := .type "tuple", data := .seq its.toArray } (.tup ys)), ?_, rfl, q _ _ rfl (I1.hok.fresh (Nat.le_refl _))⟩
  exact I1.laid (t' := s.toks) (fun b u z => Heap.get?_push_of_some _ z) (Nat.le_refl _) ⟨Heap.get?_push_size _ rfl, hz, its, r', IsTup.new _ _⟩
/-- (e, ..) -/
def tTupF (t : TA) : TE := fun σ H Q => t σ H fun xs H1 => xs.length ≤ sizeLine ∧ ∀ (p : Addr) (ob : Obj), ob.dict = none → H1 p = none → Q (.ref p) (upd H1 p (.frz ob (.tup xs)))
theorem pe_tupF {x1} (h : PA X es t) : PE X (.Tuple es x1 pos) (tTupF t) := ⟨fun pins s σ H Q I hq => by
  refine wpAny_Tuple_spliced (thn (h.run pos pins s σ H _ I hq) fun us s1 ⟨xs, H1, I1, r, z, q⟩ => ⟨by rw [← r.length]; exact z, .ref s1.heap.objs.size, upd H1 s1.heap.objs.size (.frz { cls := .type "tuple", data := .seq us.toArray } (.tup xs)), ?_, rfl, q _ _ rfl (I1.hok.fresh (Nat.le_refl _))⟩)
  exact I1.laid (t' := s1.toks) (fun b u e => Heap.get?_push_of_some _ e) (Nat.le_refl _) ⟨Heap.get?_push_size _ rfl, z, us, r, ⟨_, Heap.get?_push_size _ rfl, rfl, _, rfl⟩⟩⟩
/-- t.m(e, ..), t such a tuple -/
def tBMF (r : V → List V → Hp → VK → Prop) (to : TE) (t : TA) : TE := fun σ H Q => to σ H fun x H1 => (∃ (p : Addr) (ob : Obj) (ys : List V), x = .ref p ∧ ob.dict = none ∧ H1 p = some (.frz ob (.tup ys))) ∧ t σ H1 fun xs H2 => r x xs H2 Q
theorem pe_bmF {name : Str} {id : String} {apos cpos : Pos} {r : V → List V → Hp → VK → Prop} (pa : PlainAttrs "tuple") (slot : Slot "tuple" name id) (hty : typeOf (.builtin id) = pure (.type "method_descriptor")) (hm : MtR X id r) (ho : PE X o to) (ha : PA X (e :: es) t)
    (hbase : attributeBase o name X.env (eval o X.env) = eval o X.env := by rfl)
    (hfew : ((backTo cpos (starEach (e :: es) X.env)).all (fun x => !x.1) && (backToKw cpos (keywordEach [] X.env)).all (fun x => x.1.isSome) && decide ((e :: es).length + ([] : List Keyword).length + (if ([] : List Keyword).isEmpty then 0 else 1) < 30)) = true := by rfl)
    (hline : (apos.endLine == cpos.line) = true := by rfl) (hs : starEach (e :: es) X.env = (false, eval e X.env) :: starEach es X.env := by rfl) (hplain : (backTo cpos (starEach es X.env)).any (·.1) = false := by rfl) :
    PE X (.Call (.Attribute o name apos) (e :: es) [] cpos) (tBMF r to t) := ⟨fun pins s σ H Q I h => by
  refine wpAny_Call_method_late hbase hfew hline rfl (thn (ho.run pins s σ H _ I h) fun v s1 ⟨x, H1, I1, r1, ⟨p, ob, ys, ex, hd, ep⟩, q1⟩ => ?_)
  subst ex
  obtain rfl : v = Value.ref p := r1
  obtain ⟨eo, _, its, _, o2, e2, c2, _⟩ := (show ObjOk X.prog X.w H1 s1.heap p (.frz ob (.tup ys)) from I1.hok p _ ep)
  refine ⟨"tuple", id, pa, slot, hty, ⟨o2, e2, c2⟩, fun a ea => ⟨ob, by cases ea; exact eo, hd⟩, ?_⟩
  have go := ha.run cpos pins s1 σ H1 _ I1 q1
  rw [hs] at go ⊢
  refine Calls.callWith_builtin (by show (false || (backTo cpos (starEach es X.env)).any (·.1)) = false; rw [hplain] <;> rfl) (Calls.evalArgs_plain ?_)
  exact thn go fun us s2 ⟨vs, H2, I2, r2, q2⟩ => hm pins s2 σ H2 (.ref p) vs (.ref p) us Q I2 rfl r2 q2⟩
end
end L2
set_option maxHeartbeats 4000000
namespace Nv
open PySem PySem.Spec PyProof.Rows L2
theorem big1000 : (1000 : Nat) ≤ sizeLine := by decide
/-- a tuple of texts, also one whose object is known -/
def Tu (H : Hp) (t : Addr) (p : List Str) : Prop := Rd H t (.tup (p.map V.str))
/-- .. whose object has no dict of its own -/
def TX (H : Hp) (t : Addr) (p : List Str) : Prop := ∃ o : Obj, o.dict = none ∧ H t = some (.frz o (.tup (p.map V.str)))
/-- its object has no dict of its own -/
def DL (H : Hp) (t : Addr) : Prop := ∃ (o : Obj) (xs : List V), o.dict = none ∧ H t = some (.frz o (.tup xs))
/-- a list of tuples of texts, as they stand in the heap -/
inductive PaL (H : Hp) : List V → List (List Str) → Prop
  | nil : PaL H [] []
  | mk {t : Addr} {p : List Str} {vs : List V} {ps : List (List Str)} (e : Tu H t p) (h : PaL H vs ps) : PaL H (.ref t :: vs) (p :: ps)
section
variable {a t : Addr} {H H1 H2 : Hp} {n m : Nat} {vs us : List V} {p : List Str} {ps qs : List (List Str)}
theorem TX.ta (h : TX H t p) : Tu H t p := let ⟨o, _, e⟩ := h; .inr ⟨o, e⟩
theorem TX.same (h : TX H t p) (s : Same H H1) : TX H1 t p := let ⟨o, d, e⟩ := h; ⟨o, d, s _ _ e⟩
theorem DL.same (h : DL H t) (s : Same H H1) : DL H1 t := let ⟨o, xs, d, e⟩ := h; ⟨o, xs, d, s _ _ e⟩
theorem Tu.of (e : H t = some (.tup (p.map V.str))) : Tu H t p := .inl e
theorem Tu.same (h : Tu H t p) (s : Same H H1) : Tu H1 t p := h.elim (fun e => .inl (s _ _ e)) fun ⟨o, e⟩ => .inr ⟨o, s _ _ e⟩
theorem Tu.sq {K : PySem.W.Frag} (h : Tu H t p) : SqT K H t (p.map V.str) := .inl h
theorem Tu.some (h : Tu H t p) : ∃ u, H t = .some u := h.elim (fun e => ⟨_, e⟩) fun ⟨_, e⟩ => ⟨_, e⟩
theorem Tu.ne {b : Addr} {o : HO} (h : Tu H t p) (e : H b = .some o) (n1 : ∀ xs, o ≠ .tup xs) (n2 : ∀ ob xs, o ≠ .frz ob (.tup xs)) : t ≠ b := fun z => by
  subst z
  rcases h with h | ⟨ob, h⟩
  · rw [h] at e
    cases e
    exact n1 _ rfl
  · rw [h] at e
    cases e
    exact n2 _ _ rfl
theorem Tu.lst {b : Addr} {xs : List V} (h : Tu H t p) (e : H b = .some (.lst xs)) : t ≠ b := h.ne e (fun _ z => nomatch z) fun _ _ z => nomatch z
theorem Tu.ins {b C dx : Addr} {fs : List (Str × V)} (h : Tu H t p) (e : H b = .some (.ins C dx fs)) : t ≠ b := h.ne e (fun _ z => nomatch z) fun _ _ z => nomatch z
theorem Tu.non {b : Addr} (h : Tu H t p) (e : H b = none) : t ≠ b := fun z => by
  obtain ⟨u, h⟩ := h.some
  rw [z, e] at h
  cases h
theorem Tu.upd {b : Addr} {o : HO} (h : Tu H t p) (n : t ≠ b) : Tu (upd H b o) t p := h.elim (fun e => .inl (by rw [upd_ne n]; exact e)) fun ⟨ob, e⟩ => .inr ⟨ob, by rw [upd_ne n]; exact e⟩
theorem TX.upd {b : Addr} {o : HO} (h : TX H t p) (n : t ≠ b) : TX (upd H b o) t p := let ⟨ob, d, e⟩ := h; ⟨ob, d, by rw [upd_ne n]; exact e⟩
theorem Tu.ok {P : Program} {w : World} {h : Heap} (x : Tu H t p) (ok : HOk P w H h) : ObjOk P w H h t (.tup (p.map V.str)) := Rd.ok x ok
theorem PaL.cons {vs : List V} {ps : List (List Str)} (e : H t = .some (.tup (p.map V.str))) (h : PaL H vs ps) : PaL H (.ref t :: vs) (p :: ps) := .mk (.inl e) h
theorem PaL.same (h : PaL H vs ps) (s : Same H H1) : PaL H1 vs ps := by
  induction h with
  | nil => exact .nil
  | mk e _ ih => exact .mk (e.same s) ih
theorem tup_ne {t : Addr} {xs : List V} (pu : Pu H a n) (e : H t = .some (.tup xs)) : t ≠ a := fun z => by
  obtain ⟨s, d, tt, kk, e2, _⟩ := pu.ex
  rw [z, e2] at e
  cases e
theorem Tu.pu (h : Tu H t p) (pu : Pu H a n) : t ≠ a := by
  obtain ⟨s, d, tt, kk, e2, _⟩ := pu.ex
  exact h.lst e2
theorem Tu.sb (h : Tu H t p) (pu : Pu H a n) (s : Sb a H H1) : Tu H1 t p := h.elim (fun e => .inl (s _ _ (h.pu pu) e)) fun ⟨o, e⟩ => .inr ⟨o, s _ _ (h.pu pu) e⟩
theorem TX.sb (h : TX H t p) (pu : Pu H a n) (s : Sb a H H1) : TX H1 t p := let ⟨o, d, e⟩ := h; ⟨o, d, s _ _ (h.ta.pu pu) e⟩
theorem PaL.sb (h : PaL H vs ps) (pu : Pu H a n) (s : Sb a H H1) : PaL H1 vs ps := by
  induction h with
  | nil => exact .nil
  | mk e _ ih => exact .mk (e.sb pu s) ih
theorem PaL.len (h : PaL H vs ps) : vs.length = ps.length := by
  induction h with
  | nil => rfl
  | mk e _ ih => simp [ih]
theorem PaL.app (h : PaL H vs ps) (h2 : PaL H us qs) : PaL H (vs ++ us) (ps ++ qs) := by
  induction h with
  | nil => exact h2
  | mk e _ ih => exact .mk e ih
theorem PaL.at_ (h : PaL H vs ps) {i : Nat} {v : V} (hi : vs[i]? = some v) : ∃ (t : Addr) (p : List Str), v = .ref t ∧ ps[i]? = some p ∧ Tu H t p := by
  induction h generalizing i with
  | nil => cases i <;> cases hi
  | mk e _ ih =>
    cases i with
    | zero =>
      cases hi
      exact ⟨_, _, rfl, rfl, e⟩
    | succ i => exact ih hi
end
/-- a list of such tuples whose objects have no dict -/
inductive PaX (H : Hp) : List V → List (List Str) → Prop
  | nil : PaX H [] []
  | cons {t : Addr} {p : List Str} {vs : List V} {ps : List (List Str)} (e : TX H t p) (h : PaX H vs ps) : PaX H (.ref t :: vs) (p :: ps)
section
variable {a t D : Addr} {H H1 H2 : Hp} {n m : Nat} {vs us xs : List V} {p : List Str} {ps qs : List (List Str)}
theorem PaX.pal (h : PaX H vs ps) : PaL H vs ps := by
  induction h with
  | nil => exact .nil
  | cons e _ ih => exact .mk e.ta ih
theorem PaX.same (h : PaX H vs ps) (s : Same H H1) : PaX H1 vs ps := by
  induction h with
  | nil => exact .nil
  | cons e _ ih => exact .cons (e.same s) ih
theorem PaX.sb (h : PaX H vs ps) (pu : Pu H a n) (s : Sb a H H1) : PaX H1 vs ps := by
  induction h with
  | nil => exact .nil
  | cons e _ ih => exact .cons (e.sb pu s) ih
theorem PaX.len (h : PaX H vs ps) : vs.length = ps.length := h.pal.len
theorem PaX.app (h : PaX H vs ps) (h2 : PaX H us qs) : PaX H (vs ++ us) (ps ++ qs) := by
  induction h with
  | nil => exact h2
  | cons e _ ih => exact .cons e ih
theorem PaX.at_ (h : PaX H vs ps) {i : Nat} {v : V} (hi : vs[i]? = some v) : ∃ (t : Addr) (p : List Str), v = .ref t ∧ ps[i]? = some p ∧ TX H t p := by
  induction h generalizing i with
  | nil => cases i <;> cases hi
  | cons e _ ih =>
    cases i with
    | zero =>
      cases hi
      exact ⟨_, _, rfl, rfl, e⟩
    | succ i => exact ih hi
/-- a list is changed -/
theorem PaX.over {o : HO} (h : PaX H vs ps) (e : H D = some (.lst xs)) : PaX (upd H D o) vs ps := by
  induction h with
  | nil => exact .nil
  | cons x _ ih => exact .cons (x.upd (x.ta.lst e)) ih
theorem PaL.over {o : HO} (h : PaL H vs ps) (e : H D = some (.lst xs)) : PaL (upd H D o) vs ps := by
  induction h with
  | nil => exact .nil
  | mk x _ ih => exact .mk (x.upd (x.lst e)) ih
end
/-- a pattern's parts -/
def PatOk (p : List Str) : Prop := ∃ (w : Str) (ts : List Str), p = w :: ts ∧ IsNm w ∧ ts.length ≤ 3 ∧ ∀ x ∈ ts, IsVr x ∨ IsNm x
section
variable {P : Program} {w : World} {K : PySem.W.Frag} {mg : Str → Option Value} {base : Heap}
/-- _law_pattern(purse, kinds, terms) -/
def spPattern (K : PySem.W.Frag) : Sp := fun vs H Q _ => ∃ (a b c : Addr) (n : Nat) (ks : List V) (zs : List Str), vs = [.ref a, .ref b, .ref c] ∧ Pu H a (n + 4) ∧ (SqL K H b ks ∧ b ≠ a ∧ 1 ≤ ks.length ∧ ks.length ≤ 1000 ∧ ∀ v ∈ ks, Kd H v) ∧
  (SqL K H c (zs.map V.str) ∧ c ≠ a ∧ 1 ≤ zs.length ∧ zs.length ≤ 1000) ∧
  ∀ (t : Addr) (wd : Str) (ts : List Str) (H' : Hp), IsWd wd → ts.length ≤ 3 → (∀ x ∈ ts, x ∈ zs) → H t = none → Pu H' a n → Sb a H H' → TX H' t (wd :: ts) → Q (.ref t) H'
theorem scPattern : FnScope ["_law_purse_here", "_law_kinds_here", "_law_terms", "_law_word", "_law_many", "_law_turn"] ["_law_purse_here", "_law_kinds_here", "_law_terms"] (defScope sPattern) := ⟨rfl, rfl, rfl, by decide +kernel, rfl, by decide +kernel, by decide +kernel⟩
theorem ok_pattern {f fO : Addr} {fd fdO : FuncData} (F : Fun K "_law_pattern" "_law_pattern" sPattern f fd)
    (GO : FnOk P w K mg base CX0 3 fO fdO ["_law_purse_here", "_law_some"] (spOneOf K)) (kO : PySem.W.keepIn K (.ref fO) = true) (gO : mg "_law_one_of" = some (.ref fO)) (bO : Binds K fdO ["_law_purse_here", "_law_some"] []) (B : Bl mg) :
    FnOk P w K mg base CX0 4 f fd ["_law_purse_here", "_law_kinds_here", "_law_terms"] (spPattern K) := by
  refine F.ok scPattern (fun vs H Q E h => ?_) (fun cdv A outer s H vs Q E hr h => ?_)
  · obtain ⟨a, b, c, n, ks, zs, rfl, _⟩ := h
    rfl
  · obtain ⟨a, b, c, n, ks, zs, rfl, pu, ⟨hb, hba, hk1, hk2, hkd⟩, ⟨hc, hca, hz1, hz2⟩, q⟩ := h
    refine ⟨_, pss_cons (ps_asg (by exact (pe_call GO hr (by rfl) gO kO bO .nil pass0 (pa_cons (pv 0) (pa_cons (pv 1) pa_nil)))) (pg_tup (by rfl) (pgs_cons (pg_name (i := 3) scPattern.nd rfl (Or.inl rfl)) (pgs_cons (pg_name (i := 4) scPattern.nd rfl (Or.inl rfl)) pgs_nil))))
      (pss_one (ps_ret (pe_callTy call_tupF (by rfl) B.tup PyProof.Rows.boot_tuple (pa_cons (pe_op op_cat (pe_lst (pa_cons (pv 3) pa_nil))
        (by exact (pe_lc (own := [("_law_turn", 5)]) (g := gName 5) (tt := tYes) rfl scPattern.nd (pi_range1 (by rfl) B.rg (pa_cons (pv 4) pa_nil))
          (blkOk_by (own := [("_law_turn", 5)]) (N := ["_law_purse_here", "_law_kinds_here", "_law_terms", "_law_word", "_law_many", "_law_turn"]) (sc := defScope sPattern) (by decide +kernel))
          (fun _ _ _ _ _ => pg_name (i := 5) scPattern.nd rfl (Or.inl rfl)) (fun _ _ _ _ _ => pts_nil)
          (fun _ _ _ _ _ => by exact (pe_call GO hr (by rfl) gO kO bO .nil pass0 (pa_cons (pv 0) (pa_cons (pv 2) pa_nil))))))) pa_nil)))), ?_⟩
    refine ⟨_, rfl, _, rfl, a, b, n + 3, ks, rfl, pu, hb, hba, ⟨hk1, hk2⟩, fun v H1 hv pu1 sb1 => ?_⟩
    obtain ⟨t0, wd, m, rfl, e0, hw, hm⟩ := hkd v hv
    have e1 : H1 t0 = some (.tup [.str wd, .int (m : Int)]) := sb1 _ _ (tup_ne pu e0) e0
    refine ⟨t0, _, rfl, SqT.of e1, rfl, _, _, rfl, _, _, rfl, rfl, ?_⟩
    have hc1 := sb1.seq hca hc
    refine ⟨_, rfl, (by show 1 ≤ sizeLine; decide), fun l nl => ?_⟩
    have pu2 : Pu (upd H1 l (.lst [V.str wd])) a (n + 3) := pu1.put (pu1.ne nl)
    have sb2 : Sb a H (upd H1 l (.lst [V.str wd])) := sb1.put (sb1.free pu1 nl)
    have hc2 : SqL K (upd H1 l (.lst [V.str wd])) c (zs.map V.str) := (same_new nl).seq hc1
    have el : upd H1 l (.lst [V.str wd]) l = some (.lst [V.str wd]) := upd_same
    generalize upd H1 l (.lst [V.str wd]) = G at pu2 sb2 hc2 el ⊢
    refine ⟨_, rfl, (m : Int), rfl, by omega, by omega, fun D nD => ?_⟩
    have hDa := pu2.ne nD
    refine lc_range (lo := 0) (n := (m : Int).toNat) (fun i H' => ∃ ts : List Str, ts.length = i ∧ (∀ x ∈ ts, x ∈ zs) ∧ Pu H' a (n + (3 - i)) ∧ Sb a G H' ∧ H' D = some (.lst (ts.map V.str))) ⟨[], rfl, (fun x hx => nomatch hx), pu2.put hDa, Sb.new nD, upd_same⟩ ?_ ?_
    · rintro i H2 hi ⟨ts, hl, hts, pu3, sb3, e3⟩
      refine ⟨rfl, ?_⟩
      refine ⟨_, rfl, _, rfl, a, c, n + (3 - (i + 1)), zs.map V.str, rfl, pu3.le (by omega), sb3.seq hca hc2, hca, ⟨by rw [List.length_map]; exact hz1, by rw [List.length_map]; exact hz2⟩, fun v H3 hv pu4 sb4 => ?_⟩
      obtain ⟨z, hz, rfl⟩ := List.mem_map.mp hv
      refine ⟨_, sb4 _ _ hDa e3, by rw [List.length_map]; exact small1000 (by omega), ts ++ [z], by rw [List.length_append, hl] <;> rfl, ?_, pu4.put hDa, ?_, by rw [upd_same, List.map_append] <;> rfl⟩
      · intro x hx
        rcases List.mem_append.mp hx with h | h
        · exact hts x h
        · rw [List.mem_singleton.mp h]
          exact hz
      · exact (sb3.trans sb4).put nD
    · rintro H2 ⟨ts, hl, hts, pu3, sb3, e3⟩
      have hla : l ≠ a := by
        intro z
        obtain ⟨s, d, tt, kk, e2, _⟩ := pu2.ex
        rw [z, e2] at el
        injection el with el
        injection el with el
        cases el
      have el2 := sb3 _ _ hla el
      refine ⟨_, _, _, _, rfl, rfl, el2, e3, ?_, fun q1 nq => ?_⟩
      · rw [List.length_map]
        have := big1000
        show 1 + ts.length ≤ _
        omega
      · refine ⟨q1, _, rfl, SqL.of upd_same, fun q2 ob hob nq2 => ?_⟩
        have sb4 : Sb a H H2 := sb2.trans sb3
        have pu4 := pu3.put (o := .lst ([V.str wd] ++ ts.map V.str)) (pu3.ne nq)
        have sb5 : Sb a H (upd H2 q1 (.lst ([V.str wd] ++ ts.map V.str))) := sb4.put (sb4.free pu3 nq)
        refine q q2 wd ts _ hw (by omega) hts (sb5.free pu4 nq2) ((pu4.put (pu4.ne nq2)).le (by omega)) (sb5.put (sb5.free pu4 nq2)) ⟨ob, hob, upd_same⟩
def four : List Str := ["X", "Y", "Z", "XYZ"]
theorem four_vr : ∀ z ∈ four, IsVr z := by decide +kernel
/-- no variables but the four -/
def Vr4 (p : List Str) : Prop := ∀ y ∈ p.drop 1, y ∈ four ∨ IsNm y
/-- _law_told(purse, kinds, names, most, few) -/
def spTold (K : PySem.W.Frag) : Sp := fun vs H Q _ => ∃ (a b c : Addr) (n most few : Nat) (ks : List V) (zs : List Str), vs = [.ref a, .ref b, .ref c, .int (most : Int), .int (few : Int)] ∧ Pu H a (n + (2 + 4 * most)) ∧ (1 ≤ few ∧ few ≤ 4 ∧ most ≤ 100) ∧
  (SqL K H b ks ∧ b ≠ a ∧ 1 ≤ ks.length ∧ ks.length ≤ 1000 ∧ ∀ v ∈ ks, Kd H v) ∧ (SqL K H c (zs.map V.str) ∧ c ≠ a ∧ zs.length ≤ 100 ∧ ∀ z ∈ zs, IsNm z) ∧
  ∀ (p : Addr) (us : List V) (ps : List (List Str)) (H' : Hp), PaX H' us ps → (∀ x ∈ ps, PatOk x) → (∀ x ∈ ps, Vr4 x) → ps.length ≤ most → H p = none → Pu H' a n → Sb a H H' → H' p = some (.lst us) → Q (.ref p) H'
theorem scTold : FnScope ["_law_purse_here", "_law_kinds_here", "_law_names_here", "_law_most", "_law_few", "_law_terms", "_law_many", "_law_turn"] ["_law_purse_here", "_law_kinds_here", "_law_names_here", "_law_most", "_law_few"] (defScope sTold) := ⟨rfl, rfl, rfl, by decide +kernel, rfl, by decide +kernel, by decide +kernel⟩
theorem ok_told {f fO fD fP : Addr} {fd fdO fdD fdP : FuncData} (F : Fun K "_law_told" "_law_told" sTold f fd)
    (GO : FnOk P w K mg base CX0 3 fO fdO ["_law_purse_here", "_law_some"] (spOneOf K)) (kO : PySem.W.keepIn K (.ref fO) = true) (gO : mg "_law_one_of" = some (.ref fO)) (bO : Binds K fdO ["_law_purse_here", "_law_some"] [])
    (GD : FnOk P w K mg base CX0 2 fD fdD ["_law_purse_here", "_law_many"] spDraw) (kD : PySem.W.keepIn K (.ref fD) = true) (gD : mg "_law_draw" = some (.ref fD)) (bD : Binds K fdD ["_law_purse_here", "_law_many"] [])
    (GP : FnOk P w K mg base CX0 4 fP fdP ["_law_purse_here", "_law_kinds_here", "_law_terms"] (spPattern K)) (kP : PySem.W.keepIn K (.ref fP) = true) (gP : mg "_law_pattern" = some (.ref fP)) (bP : Binds K fdP ["_law_purse_here", "_law_kinds_here", "_law_terms"] []) (B : Bl mg) :
    FnOk P w K mg base CX0 5 f fd ["_law_purse_here", "_law_kinds_here", "_law_names_here", "_law_most", "_law_few"] (spTold K) := by
  refine F.ok scTold (fun vs H Q E h => ?_) (fun cdv A outer s H vs Q E hr h => ?_)
  · obtain ⟨a, b, c, n, most, few, ks, zs, rfl, _⟩ := h
    rfl
  · obtain ⟨a, b, c, n, most, few, ks, zs, rfl, pu, ⟨hf1, hf2, hm⟩, ⟨hb, hba, hk1, hk2, hkd⟩, ⟨hc, hca, hz1, hz2⟩, q⟩ := h
    have hr2 : Room 2 _ := hr.mono (by decide)
    have hr3 : Room 3 _ := hr.mono (by decide)
    refine ⟨_, pss_cons (ps_set (i := 5) scTold.nd rfl (Or.inr rfl) (pe_op op_cat (pe_op op_rep (pe_slice sl_list (pe_lst (pa_cons pe_str (pa_cons pe_str (pa_cons pe_str (pa_cons pe_str pa_nil))))) po_none (po_some (pv 4))) pe_int)
        (pe_slice sl_list (pv 2) po_none (po_some (by exact (pe_call GD hr2 (by rfl) gD kD bD .nil pass0 (pa_cons (pv 0) (pa_cons pe_int pa_nil))))))))
      (pss_cons (ps_set (i := 6) scTold.nd rfl (Or.inl rfl) (by exact (pe_call GO hr3 (by rfl) gO kO bO .nil pass0 (pa_cons (pv 0) (pa_cons (pe_lst (pa_cons pe_int (pa_cons pe_int (pa_cons pe_int (pa_cons pe_int (pa_cons pe_int (pa_cons pe_int (pa_cons (pv 3) pa_nil)))))))) pa_nil)))))
      (pss_one (ps_ret (by exact (pe_lc (own := [("_law_turn", 7)]) (g := gName 7) (tt := tYes) rfl scTold.nd
        (pi_range1 (by rfl) B.rg (pa_cons (pe_callB (call_min2 rfl) (by rfl) B.min bootMin (pa_cons (pv 6) (pa_cons (pv 3) pa_nil))) pa_nil))
        (blkOk_by (own := [("_law_turn", 7)]) (N := ["_law_purse_here", "_law_kinds_here", "_law_names_here", "_law_most", "_law_few", "_law_terms", "_law_many", "_law_turn"]) (sc := defScope sTold) (by decide +kernel))
        (fun _ _ _ _ _ => pg_name (i := 7) scTold.nd rfl (Or.inl rfl)) (fun _ _ _ _ _ => pts_nil)
        (fun _ _ _ _ _ => by exact (pe_call GP hr (by rfl) gP kP bP .nil pass0 (pa_cons (pv 0) (pa_cons (pv 1) (pa_cons (pv 5) pa_nil))))))))))
      , ?_⟩
    refine ⟨(by show 4 ≤ sizeLine; decide), fun l nl => ⟨_, rfl, _, rfl, l, four.map V.str, rfl, SqL.of upd_same, fun l2 nl2 => ?_⟩⟩
    have hc1 : cutV (four.map V.str) none (some (few : Int)) = (four.take few).map V.str := by
      unfold cutV
      rw [HT.sIx_none, HT.sIx_nat, List.drop_zero, Nat.sub_zero, List.map_take, List.length_map]
      rw [Nat.min_eq_left (by show few ≤ 4; omega)]
    rw [hc1]
    have s2 : Same H (upd (upd H l (.lst (four.map V.str))) l2 (.lst ((four.take few).map V.str))) := same_put (same_new nl) ((same_new nl).free nl2)
    refine (show ∀ G : Hp, Same H G → G l2 = some (.lst ((four.take few).map V.str)) → _ from fun G2 s2 e2 => ?_) _ s2 upd_same
    refine ⟨l2, 3, _, rfl, rfl, e2, by decide, by decide, ?_, fun l3 nl3 => ?_⟩
    · rw [List.length_map, List.length_take]
      have := big1000
      show min few 4 * 3 ≤ _
      omega
    · have hrep : (List.replicate (3 : Int).toNat ((four.take few).map V.str)).flatten = ((four.take few) ++ (four.take few) ++ (four.take few)).map V.str := by
        show (List.replicate 3 _).flatten = _
        simp [List.replicate]
      rw [hrep]
      have hv3 : ∀ z ∈ (four.take few) ++ (four.take few) ++ (four.take few), z ∈ four := by
        intro z hz
        simp only [List.mem_append] at hz
        rcases hz with (h | h) | h <;> exact List.mem_of_mem_take h
      have hl3 : ((four.take few) ++ (four.take few) ++ (four.take few)).length = 3 * few := by
        rw [List.length_append, List.length_append, List.length_take]
        have : min few four.length = few := by
          show min few 4 = few
          omega
        rw [this]
        omega
      generalize (four.take few) ++ (four.take few) ++ (four.take few) = vs at hv3 hl3 ⊢
      refine (show ∀ G : Hp, Same H G → G l3 = some (.lst (vs.map V.str)) → _ from fun G3 s3 e3 => ?_) _ (same_put s2 (s2.free nl3)) upd_same
      have pu3 := pu.same s3
      refine ⟨_, rfl, _, rfl, a, n + (1 + 4 * most), 2, rfl, pu3.le (by omega), ⟨by decide, by decide⟩, fun r H1 h0 h1 pu4 sb4 => ?_⟩
      obtain ⟨j, rfl⟩ : ∃ j : Nat, r = (j : Int) := ⟨r.toNat, by omega⟩
      have hl3a : l3 ≠ a := fun z => by
        obtain ⟨s, d, t, kk, e, _⟩ := pu3.ex
        rw [z, e] at e3
        injection e3 with e3
        injection e3 with e3
        cases vs with
        | nil => cases e3
        | cons v vs =>
          injection e3 with e3 _
          cases e3
      have e4 := sb4 _ _ hl3a e3
      have sb5 : Sb a H H1 := (Sb.of s3).trans sb4
      refine ⟨_, rfl, c, zs.map V.str, rfl, sb5.seq hca hc, fun l4 nl4 => ?_⟩
      have hc2 : cutV (zs.map V.str) none (some (j : Int)) = (zs.take j).map V.str := by
        unfold cutV
        rw [HT.sIx_none, HT.sIx_nat, List.drop_zero, Nat.sub_zero, List.map_take, List.length_map]
        rcases Nat.le_total j zs.length with h | h
        · rw [Nat.min_eq_left h]
        · rw [Nat.min_eq_right h, ← List.map_take, ← List.map_take, List.take_of_length_le h, List.take_of_length_le (Nat.le_refl _)]
      rw [hc2]
      have pu5 := pu4.put (o := .lst ((zs.take j).map V.str)) (pu4.ne nl4)
      have sb6 : Sb a H (upd H1 l4 (.lst ((zs.take j).map V.str))) := sb5.put (sb5.free pu4 nl4)
      have e5 : upd H1 l4 (.lst ((zs.take j).map V.str)) l3 = some (.lst (vs.map V.str)) := same_new nl4 _ _ e4
      refine (show ∀ G : Hp, G l4 = some (.lst ((zs.take j).map V.str)) → Pu G a (n + (1 + 4 * most)) → Sb a H G → G l3 = some (.lst (vs.map V.str)) → _ from fun G4 e6 pu5 sb6 e5 => ?_) _ upd_same pu5 sb6 e5
      have hlen : (vs.map V.str ++ (zs.take j).map V.str).length ≤ 200 := by
        rw [List.length_append, List.length_map, List.length_map, List.length_take]
        omega
      refine ⟨_, _, _, _, rfl, rfl, e5, e6, ?_, fun l5 nl5 => ?_⟩
      · have := big1000
        rw [List.length_append] at hlen
        omega
      · rw [← List.map_append]
        rw [← List.map_append] at hlen
        have ht : ∀ z ∈ vs ++ zs.take j, z ∈ four ∨ IsNm z := by
          intro z hz
          rcases List.mem_append.mp hz with h | h
          · exact .inl (hv3 z h)
          · exact .inr (hz2 z (List.mem_of_mem_take h))
        have ht1 : 1 ≤ (vs ++ zs.take j).length := by
          rw [List.length_append]
          omega
        generalize vs ++ zs.take j = ts at ht ht1 hlen ⊢
        rw [List.length_map] at hlen
        have l5a := pu5.ne nl5
        refine (show ∀ G : Hp, Pu G a (n + (1 + 4 * most)) → Sb a H G → G l5 = some (.lst (ts.map V.str)) → tSeq _ _ { nx := fun _ H' => Q .non H', rt := Q } [some (.ref a), some (.ref b), some (.ref c), some (.int (most : Int)), some (.int (few : Int)), some (.ref l5), none, none] G from fun G5 pu6 sb7 e7 => ?_) _ (pu5.put l5a) (sb6.put (sb6.free pu5 nl5)) upd_same
        refine ⟨_, rfl, _, rfl, (by show 7 ≤ sizeLine; decide), fun l6 nl6 => ?_⟩
        have pu7 := pu6.put (o := .lst [V.int 0, .int 1, .int 1, .int 1, .int 2, .int 2, .int (most : Int)]) (pu6.ne nl6)
        refine ⟨a, l6, n + 4 * most, [V.int 0, .int 1, .int 1, .int 1, .int 2, .int 2, .int (most : Int)], rfl, pu7.le (by omega), SqL.of upd_same, pu6.ne nl6, ⟨by show 1 ≤ 7; decide, by show 7 ≤ 1000; decide⟩, fun v H2 hv pu8 sb8 => ?_⟩
        obtain ⟨m, rfl, hm100⟩ : ∃ m : Nat, v = V.int (m : Int) ∧ m ≤ 100 := by
          simp only [List.mem_cons, List.not_mem_nil, or_false] at hv
          rcases hv with rfl | rfl | rfl | rfl | rfl | rfl | rfl
          · exact ⟨0, rfl, by decide⟩
          · exact ⟨1, rfl, by decide⟩
          · exact ⟨1, rfl, by decide⟩
          · exact ⟨1, rfl, by decide⟩
          · exact ⟨2, rfl, by decide⟩
          · exact ⟨2, rfl, by decide⟩
          · exact ⟨most, rfl, hm⟩
        have sb9 : Sb a G5 H2 := (Sb.new nl6).trans sb8
        have sb10 : Sb a H H2 := sb7.trans sb9
        have e8 : H2 l5 = some (.lst (ts.map V.str)) := sb9 _ _ l5a e7
        have hb2 := sb10.seq hba hb
        have hkd2 : ∀ v ∈ ks, Kd H2 v := fun v hv => (hkd v hv).sb pu sb10
        clear pu7 sb8
        refine ⟨_, rfl, _, rfl, (m : Int), (most : Int), rfl, ?_⟩
        generalize hM : (if (most : Int) < (m : Int) then (most : Int) else (m : Int)) = M
        have hM2 : 0 ≤ M ∧ M ≤ most := by
          rw [← hM]
          split <;> omega
        refine ⟨M, rfl, by omega, by omega, fun D nD => ?_⟩
        have Da := pu8.ne nD
        refine lc_range (lo := 0) (n := M.toNat) (fun i H' => ∃ (us : List V) (ps : List (List Str)), PaX H' us ps ∧ ps.length = i ∧ (∀ x ∈ ps, PatOk x ∧ Vr4 x) ∧ Pu H' a (n + 4 * (most - i)) ∧ Sb a H2 H' ∧ H' D = some (.lst us)) ⟨[], [], .nil, rfl, (fun x hx => nomatch hx), pu8.put Da, Sb.new nD, upd_same⟩ ?_ ?_
        · rintro i H3 hi ⟨us, ps, hp, hl, hok, pu9, sb11, e9⟩
          refine ⟨rfl, ?_⟩
          refine ⟨_, rfl, _, rfl, _, rfl, a, b, l5, n + 4 * (most - (i + 1)), ks, ts, rfl, pu9.le (by omega), ⟨sb11.seq hba hb2, hba, hk1, hk2, fun v hv => (hkd2 v hv).sb pu8 sb11⟩, ⟨SqL.of (sb11 _ _ l5a e8), l5a, ht1, by omega⟩, fun t wd xs H4 hw hx1 hx2 nt pu10 sb12 et => ?_⟩
          have e10 := sb12 _ _ Da e9
          have hD : t ≠ D := fun z => by
            rw [z, e9] at nt
            cases nt
          refine ⟨us, e10, by rw [hp.len, hl]; exact small1000 (by omega), us ++ [.ref t], ps ++ [wd :: xs], ?_, by rw [List.length_append, hl] <;> rfl, ?_, pu10.put Da, (sb11.trans sb12).put nD, upd_same⟩
          · have h1 : PaX H4 us ps := hp.sb pu9 sb12
            exact (h1.over e10).app (.cons (et.upd (et.ta.lst e10)) .nil)
          · intro x hx
            rcases List.mem_append.mp hx with h | h
            · exact hok x h
            · rw [List.mem_singleton.mp h]
              exact ⟨⟨wd, xs, rfl, hw.1, hx1, fun y hy => (ht y (hx2 y hy)).elim (fun h => .inl (four_vr y h)) .inr⟩, fun y hy => ht y (hx2 y hy)⟩
        · rintro H3 ⟨us, ps, hp, hl, hok, pu9, sb11, e9⟩
          refine q D us ps H3 hp (fun x hx => (hok x hx).1) (fun x hx => (hok x hx).2) (by omega) (sb10.free pu8 nD) (pu9.le (by omega)) (sb10.trans sb11) e9
end
end Nv
set_option maxHeartbeats 4000000
namespace Nv
open PySem PySem.Spec PyProof.Rows L2
/-- the variables among terms, in the order in which they first stand there -/
def vst (acc : List Str) (x : Str) : List Str := if IsVr x ∧ x ∉ acc then acc ++ [x] else acc
def varsIn (ts : List Str) : List Str := ts.foldl vst []
def tails (ps : List (List Str)) : List Str := (ps.map List.tail).flatten
theorem vst_len (acc : List Str) (x : Str) : (vst acc x).length ≤ acc.length + 1 := by
  unfold vst
  split
  · rw [List.length_append] <;> exact Nat.le_refl _
  · omega
theorem fold_len : ∀ (ts acc : List Str), (ts.foldl vst acc).length ≤ acc.length + ts.length
  | [], acc => Nat.le_refl _
  | x :: ts, acc => by
    have h1 := fold_len ts (vst acc x)
    have h2 := vst_len acc x
    show (ts.foldl vst (vst acc x)).length ≤ acc.length + (ts.length + 1)
    omega
theorem fold_mem : ∀ (ts acc : List Str) (y : Str), y ∈ ts.foldl vst acc ↔ y ∈ acc ∨ (y ∈ ts ∧ IsVr y)
  | [], acc, y => by simp
  | x :: ts, acc, y => by
    show y ∈ ts.foldl vst (vst acc x) ↔ _
    rw [fold_mem ts (vst acc x) y]
    unfold vst
    by_cases h : IsVr x ∧ x ∉ acc
    · rw [if_pos h]
      constructor
      · rintro (h1 | h1)
        · rcases List.mem_append.mp h1 with h2 | h2
          · exact .inl h2
          · rw [List.mem_singleton.mp h2]
            exact .inr ⟨List.mem_cons_self, h.1⟩
        · exact .inr ⟨List.mem_cons_of_mem _ h1.1, h1.2⟩
      · rintro (h1 | ⟨h1, h2⟩)
        · exact .inl (List.mem_append_left _ h1)
        · rcases List.mem_cons.mp h1 with rfl | h1
          · exact .inl (List.mem_append_right _ (List.mem_singleton.mpr rfl))
          · exact .inr ⟨h1, h2⟩
    · rw [if_neg h]
      constructor
      · rintro (h1 | h1)
        · exact .inl h1
        · exact .inr ⟨List.mem_cons_of_mem _ h1.1, h1.2⟩
      · rintro (h1 | ⟨h1, h2⟩)
        · exact .inl h1
        · rcases List.mem_cons.mp h1 with rfl | h1
          · refine .inl ?_
            by_cases hm : y ∈ acc
            · exact hm
            · exact absurd ⟨h2, hm⟩ h
          · exact .inr ⟨h1, h2⟩
theorem varsIn_mem {ts : List Str} {y : Str} : y ∈ varsIn ts ↔ y ∈ ts ∧ IsVr y := by
  unfold varsIn
  rw [fold_mem]
  simp
theorem fold_nd : ∀ (ts acc : List Str), acc.Nodup → (ts.foldl vst acc).Nodup
  | [], acc, h => h
  | x :: ts, acc, h => by
    show (ts.foldl vst (vst acc x)).Nodup
    refine fold_nd ts _ ?_
    unfold vst
    split
    · rename_i hx
      rw [List.nodup_append]
      refine ⟨h, by simp, fun a ha b hb e => ?_⟩
      rw [List.mem_singleton.mp hb] at e
      exact hx.2 (e ▸ ha)
    · exact h
theorem varsIn_nd (ts : List Str) : (varsIn ts).Nodup := fold_nd ts [] List.nodup_nil
theorem varsIn_len (ts : List Str) : (varsIn ts).length ≤ ts.length := by
  have := fold_len ts []
  simpa [varsIn] using this
theorem tails_take {ps : List (List Str)} {i : Nat} {p : List Str} (h : ps[i]? = some p) : tails (ps.take (i + 1)) = tails (ps.take i) ++ p.tail := by
  unfold tails
  rw [List.take_add_one, h, List.map_append, List.flatten_append]
  simp
theorem tails_len {ps : List (List Str)} (h : ∀ x ∈ ps, PatOk x) : (tails ps).length ≤ 3 * ps.length := by
  induction ps with
  | nil => simp [tails]
  | cons p ps ih =>
    obtain ⟨w, ts, rfl, _, h3, _⟩ := h p List.mem_cons_self
    have h2 := ih fun x hx => h x (List.mem_cons_of_mem _ hx)
    have e : tails ((w :: ts) :: ps) = ts ++ tails ps := by simp [tails]
    rw [e, List.length_append, List.length_cons]
    omega
theorem nm_not_vr {z : Str} (h : IsNm z) : ¬ IsVr z := fun v => upper_nm h (upper_vr v)
theorem cut1 (w : Str) (ts : List Str) : cutV ((w :: ts).map V.str) (some 1) none = ts.map V.str := by
  unfold cutV
  have e : HT.sIx ((w :: ts).map V.str).length 0 (some (1 : Int)) = 1 := by
    have := HT.sIx_nat ((w :: ts).map V.str).length 0 1
    rw [show ((1 : Nat) : Int) = 1 by rfl] at this
    rw [this, List.length_map, List.length_cons]
    omega
  rw [e, HT.sIx_none, List.length_map, List.length_cons]
  show (ts.map V.str).take (ts.length + 1 - 1) = _
  rw [Nat.add_sub_cancel, List.take_of_length_le (by rw [List.length_map]; exact Nat.le_refl _)]
section
variable {P : Program} {w : World} {K : PySem.W.Frag} {mg : Str → Option Value} {base : Heap}
/-- _law_variables(told) -/
def spVariables (K : PySem.W.Frag) : Sp := fun vs H Q _ => ∃ (a : Addr) (us : List V) (ps : List (List Str)), vs = [.ref a] ∧ SqL K H a us ∧ PaL H us ps ∧ (∀ x ∈ ps, PatOk x) ∧ ps.length ≤ 1000 ∧
  ∀ (p : Addr) (H' : Hp), H p = none → Same H H' → H' p = some (.lst ((varsIn (tails ps)).map V.str)) → Q (.ref p) H'
theorem scVariables : FnScope ["_law_told_here", "_law_found", "_law_pattern_here", "_law_term"] ["_law_told_here"] (defScope sVariables) := ⟨rfl, rfl, rfl, by decide +kernel, rfl, by decide +kernel, by decide +kernel⟩
theorem ok_variables {f : Addr} {fd : FuncData} (F : Fun K "_law_variables" "_law_variables" sVariables f fd) : FnOk P w K mg base CX0 1 f fd ["_law_told_here"] (spVariables K) := by
  refine F.ok scVariables (fun vs H Q E h => ?_) (fun cdv A outer s H vs Q E hr h => ?_)
  · obtain ⟨a, us, ps, rfl, _⟩ := h
    rfl
  · obtain ⟨a, us, ps, rfl, ha, hp, hok, hl, q⟩ := h
    refine ⟨_, pss_cons (ps_set (i := 1) scVariables.nd rfl (Or.inl rfl) (pe_lst pa_nil))
      (pss_cons (ps_for PassesOwn.never rfl (pi_list (pv 0)) (pg_name (i := 2) scVariables.nd rfl (Or.inl rfl))
        (pss_one (ps_for PassesOwn.never rfl (pi_tup (pe_slice sl_tup (pv 2) (po_some pe_int) po_none)) (pg_name (i := 3) scVariables.nd rfl (Or.inl rfl))
          (pss_one (ps_if (PW.pt (pw_and (pt_cmpR op_eq (pv 3) (pe_upper (pv 3)) (nomark _)) (pw_and1 (pt_cmpR op_notIn_seq (pv 3) (pv 1) (by rfl)))))
            (pss_one (ps_expr (pe_bm PySem.F.plainAttrs_list PySem.F.slot_list_append PySem.F.type_list_append mt_append (pv 1) (pa_cons (pv 3) pa_nil)))) pss_nil)))))
      (pss_one (ps_ret (pv 1)))), ?_⟩
    refine ⟨by decide, fun p np => ?_⟩
    have hul := hp.len
    refine ⟨_, rfl, a, rfl, ⟨_, (same_new np).seq ha⟩, for_list (K := K) (a := a) (xs := us) (fun i σ H' => ∃ (o2 o3 : Option V), σ = [some (.ref a), some (.ref p), o2, o3] ∧ Same H H' ∧ H' p = some (.lst ((varsIn (tails (ps.take i))).map V.str))) ⟨none, none, rfl, same_new np, upd_same⟩ (fun i σ H' _ z => ?_) ?_ ?_⟩
    · obtain ⟨_, _, _, sm, _⟩ := z
      exact sm.seq ha
    · rintro i v σ H1 hi ⟨o2, o3, rfl, sm, e1⟩
      obtain ⟨t, pat, rfl, hpi, et⟩ := hp.at_ hi
      obtain ⟨wd, ts, rfl, hw, h3, hts⟩ := hok pat (List.mem_of_getElem? hpi)
      have et1 := et.same sm
      have hacc : (varsIn (tails (ps.take i))).length ≤ 3000 := by
        have h1 := varsIn_len (tails (ps.take i))
        have h2 := tails_len (ps := ps.take i) fun x hx => hok x (List.mem_of_mem_take hx)
        rw [List.length_take] at h2
        omega
      rw [tails_take hpi]
      show tFor _ _ _ _ _ _
      have hfold : varsIn (tails (ps.take i) ++ (wd :: ts).tail) = ts.foldl vst (varsIn (tails (ps.take i))) := by
        unfold varsIn
        rw [List.foldl_append] <;> rfl
      rw [hfold]
      generalize varsIn (tails (ps.take i)) = acc at e1 hacc ⊢
      refine ⟨_, rfl, 1, rfl, t, _, rfl, et1.sq, ?_, fun t2 nt2 => ?_⟩
      · rintro ⟨h, _⟩
        have := HT.sIx_nat ((wd :: ts).map V.str).length 0 1
        rw [show ((1 : Nat) : Int) = 1 by rfl] at this
        rw [this, List.length_map, List.length_cons] at h
        omega
      · rw [cut1]
        have sm2 : Same H (upd H1 t2 (.tup (ts.map V.str))) := same_put sm (sm.free nt2)
        have e2 : upd H1 t2 (.tup (ts.map V.str)) p = some (.lst (acc.map V.str)) := same_new nt2 _ _ e1
        refine (show ∀ G : Hp, G t2 = some (.tup (ts.map V.str)) → Same H G → G p = some (.lst (acc.map V.str)) → _ from fun G et2 sm2 e2 => ?_) _ upd_same sm2 e2
        refine ⟨t2, rfl, ⟨_, SqT.of et2⟩, for_tup (K := K) (a := t2) (xs := ts.map V.str) (fun j σ H' => ∃ (o3 : Option V), σ = [some (.ref a), some (.ref p), some (.ref t), o3] ∧ Same H H' ∧ H' t2 = some (.tup (ts.map V.str)) ∧ H' p = some (.lst (((ts.take j).foldl vst acc).map V.str))) ⟨o3, rfl, sm2, et2, e2⟩ (fun j σ H' _ z => ?_) ?_ ?_⟩
        · obtain ⟨_, _, _, e, _⟩ := z
          exact SqT.of e
        · rintro j x σ H2 hj ⟨o, rfl, sm3, et3, e3⟩
          rw [List.getElem?_map] at hj
          obtain ⟨z, hz, rfl⟩ : ∃ z, ts[j]? = some z ∧ x = V.str z := by
            cases g : ts[j]? with
            | none =>
              rw [g] at hj
              cases hj
            | some z =>
              rw [g] at hj
              exact ⟨z, rfl, (Option.some.inj hj).symm⟩
          have hzt := hts z (List.mem_of_getElem? hz)
          have hzl : z.length ≤ 10 := by
            rcases hzt with h | h
            · have := h.2.1
              omega
            · exact h.2.1
          have htk : (ts.take (j + 1)).foldl vst acc = vst ((ts.take j).foldl vst acc) z := by
            rw [List.take_add_one, hz, List.foldl_append] <;> rfl
          rw [htk]
          have hal : ((ts.take j).foldl vst acc).length ≤ 3003 := by
            have := fold_len (ts.take j) acc
            rw [List.length_take] at this
            omega
          generalize (ts.take j).foldl vst acc = ac at e3 hal ⊢
          have hpt : t2 ≠ p := fun y => by
            rw [y, e3] at et3
            cases et3
          refine ⟨_, rfl, _, rfl, ⟨_, rfl⟩, z, rfl, rfl, (by omega), rfl, _, rfl, ?_⟩
          by_cases hv : IsVr z
          · rw [upper_vr hv, decide_eq_true rfl]
            refine iteT ⟨_, rfl, _, rfl, p, _, rfl, .inl (SqL.of e3), rfl, flat_strs _, _, rfl, ?_⟩
            rw [inV_strs]
            by_cases hm : z ∈ ac
            · rw [decide_eq_true hm]
              refine iteF ?_
              refine ⟨_, rfl, sm3, et3, ?_⟩
              unfold vst
              rw [if_neg (fun h => h.2 hm)]
              exact e3
            · rw [decide_eq_false hm]
              refine iteT ⟨_, rfl, .inl ⟨rfl, _, SqL.of e3⟩, _, rfl, p, _, _, rfl, rfl, e3, ?_, ?_⟩
              · rw [List.length_map]
                exact Nat.lt_of_le_of_lt hal (by decide)
              · refine ⟨_, rfl, same_put sm3 np, ?_, ?_⟩
                · rw [upd_ne hpt]
                  exact et3
                · unfold vst
                  rw [upd_same, if_pos ⟨hv, hm⟩, List.map_append] <;> rfl
          · have hn : IsNm z := hzt.resolve_left hv
            have hne : ¬ V.str z = V.str (Txt.upper z) := fun e => by
              injection e with e
              exact upper_nm hn e.symm
            rw [decide_eq_false hne]
            refine iteF ?_
            refine iteF ?_
            refine ⟨_, rfl, sm3, et3, ?_⟩
            unfold vst
            rw [if_neg (fun h => hv h.1)]
            exact e3
        · rintro σ H2 ⟨o, rfl, sm3, et3, e3⟩
          rw [List.length_map, List.take_length] at e3
          exact ⟨_, _, rfl, sm3, e3⟩
    · rintro σ H1 ⟨o2, o3, rfl, sm, e1⟩
      rw [hul, List.take_length] at e1
      exact ⟨_, rfl, q p H1 np sm e1⟩
end
end Nv
set_option maxHeartbeats 4000000
namespace Nv
open PySem PySem.Spec PyProof.Rows L2
/-- data that can be laid, of a depth of at most n -/
def Lay (n : Nat) (d : PyData) : Prop := d.canLay0 = true ∧ d.depth ≤ n
/-- signs of ASCII alone -/
def Asc (z : Str) : Prop := ∀ c ∈ z.cps.toList, c < 128
theorem IsNm.asc {z : Str} (h : IsNm z) : Asc z := fun c hc => by
  have := h.2.2 c hc
  omega
theorem IsVr.asc {z : Str} (h : IsVr z) : Asc z := fun c hc => by
  have := h.2.2 c hc
  omega
theorem PatOk.asc {p : List Str} (h : PatOk p) : ∀ x ∈ p, Asc x := by
  obtain ⟨w, ts, rfl, hw, _, ht⟩ := h
  intro x hx
  rcases List.mem_cons.mp hx with rfl | hx
  · exact hw.asc
  · rcases ht x hx with h | h
    · exact h.asc
    · exact h.asc
theorem Asc.ok {z : Str} (h : Asc z) : PyData.strOk z = true := by
  unfold PyData.strOk
  rw [Array.all_eq_true']
  intro c hc
  have := h c (by simpa using hc)
  simp
  omega
theorem lay_str {x : Str} (h : Asc x) : Lay 0 (.str x) := ⟨by simp [PyData.canLay0, h.ok], by simp [PyData.depth]⟩
theorem Lay.le {n m : Nat} {d : PyData} (h : Lay n d) (l : n ≤ m) : Lay m d := ⟨h.1, Nat.le_trans h.2 l⟩
theorem lay_all {n : Nat} : ∀ {ds : List PyData}, (∀ d ∈ ds, Lay n d) → PyData.canLayAll0 ds = true ∧ PyData.depthAll ds ≤ n
  | [], _ => ⟨by simp [PyData.canLayAll0], by simp [PyData.depthAll]⟩
  | d :: ds, h => by
    obtain ⟨h1, h2⟩ := h d List.mem_cons_self
    obtain ⟨h3, h4⟩ := lay_all (ds := ds) fun x hx => h x (List.mem_cons_of_mem _ hx)
    refine ⟨by simp [PyData.canLayAll0, h1, h3], ?_⟩
    simp only [PyData.depthAll]
    omega
theorem lay_list {n : Nat} {ds : List PyData} (h : ∀ d ∈ ds, Lay n d) : Lay (n + 1) (.list ds) := by
  obtain ⟨h1, h2⟩ := lay_all h
  refine ⟨by simpa [PyData.canLay0] using h1, ?_⟩
  simp only [PyData.depth]
  omega
theorem lay_tup {n : Nat} {ds : List PyData} (h : ∀ d ∈ ds, Lay n d) : Lay (n + 1) (.tuple ds) := by
  obtain ⟨h1, h2⟩ := lay_all h
  refine ⟨by simpa [PyData.canLay0] using h1, ?_⟩
  simp only [PyData.depth]
  omega
theorem Lay.shaped {n : Nat} {d : PyData} (h : Lay n d) (hn : n ≤ 50) : SeqAt.shaped d = true := by
  refine Bool.and_eq_true_iff.mpr ⟨h.1, decide_eq_true ?_⟩
  have := h.2
  omega
/-- a tuple of texts, a list of such, a list of texts, as data -/
def dT (p : List Str) : PyData := .tuple (p.map PyData.str)
def dL (ps : List (List Str)) : PyData := .list (ps.map dT)
def dS (xs : List Str) : PyData := .list (xs.map PyData.str)
theorem lay_dT {p : List Str} (h : ∀ x ∈ p, Asc x) : Lay 1 (dT p) := lay_tup fun d hd => by
  obtain ⟨x, hx, rfl⟩ := List.mem_map.mp hd
  exact lay_str (h x hx)
theorem lay_dL {ps : List (List Str)} (h : ∀ p ∈ ps, ∀ x ∈ p, Asc x) : Lay 2 (dL ps) := lay_list fun d hd => by
  obtain ⟨x, hx, rfl⟩ := List.mem_map.mp hd
  exact lay_dT (h x hx)
theorem lay_dS {xs : List Str} (h : ∀ x ∈ xs, Asc x) : Lay 1 (dS xs) := lay_list fun d hd => by
  obtain ⟨x, hx, rfl⟩ := List.mem_map.mp hd
  exact lay_str (h x hx)
theorem dp_strs {K : PySem.W.Frag} {H : Hp} : ∀ xs : List Str, DpAll K H (xs.map V.str) (xs.map PyData.str)
  | [] => .nil
  | x :: xs => .cons (.str x) (dp_strs xs)
theorem dp_T {K : PySem.W.Frag} {H : Hp} {t : Addr} {p : List Str} (e : Tu H t p) : Dp K H (.ref t) (dT p) := .tup e.sq (dp_strs p)
theorem dp_S {K : PySem.W.Frag} {H : Hp} {t : Addr} {p : List Str} (e : SqL K H t (p.map V.str)) : Dp K H (.ref t) (dS p) := .lst e (dp_strs p)
theorem PaL.dp {K : PySem.W.Frag} {H : Hp} {vs : List V} {ps : List (List Str)} (h : PaL H vs ps) : DpAll K H vs (ps.map dT) := by
  induction h with
  | nil => exact .nil
  | mk e _ ih => exact .cons (dp_T e) ih
theorem dp_L {K : PySem.W.Frag} {H : Hp} {t : Addr} {vs : List V} {ps : List (List Str)} (e : SqL K H t vs) (h : PaL H vs ps) : Dp K H (.ref t) (dL ps) := .lst e h.dp
theorem eqv_strs : ∀ xs ys : List Str, PyData.eqvAll (xs.map PyData.str) (ys.map PyData.str) = decide (xs = ys)
  | [], [] => by simp [PyData.eqvAll]
  | [], y :: ys => by simp [PyData.eqvAll]
  | x :: xs, [] => by simp [PyData.eqvAll]
  | x :: xs, y :: ys => by
    rw [List.map_cons, List.map_cons, PyData.eqvAll, eqv_strs xs ys, PyData.eqv]
    by_cases h : x = y
    · subst h
      simp
    · have : (x == y) = false := by simpa using h
      simp [this, h]
theorem eqv_T (p q : List Str) : PyData.eqv (dT p) (dT q) = decide (p = q) := by
  unfold dT
  rw [PyData.eqv, eqv_strs]
theorem eqv_S (p q : List Str) : PyData.eqv (dS p) (dS q) = decide (p = q) := by
  unfold dS
  rw [PyData.eqv, eqv_strs]
theorem eqv_Ts : ∀ ps qs : List (List Str), PyData.eqvAll (ps.map dT) (qs.map dT) = decide (ps = qs)
  | [], [] => by simp [PyData.eqvAll]
  | [], y :: ys => by simp [PyData.eqvAll]
  | x :: xs, [] => by simp [PyData.eqvAll]
  | x :: xs, y :: ys => by
    rw [List.map_cons, List.map_cons, PyData.eqvAll, eqv_Ts xs ys, eqv_T]
    by_cases h : x = y
    · subst h
      simp
    · simp [h]
theorem eqv_L (ps qs : List (List Str)) : PyData.eqv (dL ps) (dL qs) = decide (ps = qs) := by
  unfold dL
  rw [PyData.eqv, eqv_Ts]
end Nv
set_option maxHeartbeats 4000000
namespace Nv
open PySem PySem.Spec PyProof.Rows L2
/-- the built-ins that the program's text calls -/
structure Bp (mg : Str → Option Value) : Prop where
  isi : mg "isinstance" = none
  str : mg "str" = none
  tup : mg "tuple" = none
  lst : mg "list" = none
  set : mg "set" = none
  len : mg "len" = none
  all : mg "all" = none
  any : mg "any" = none
theorem bootIsi : bootBuiltins "isinstance" = some (.builtin "isinstance") := by decide +kernel
theorem bootAll : bootBuiltins "all" = some (.builtin "all") := by decide +kernel
theorem bootAny : bootBuiltins "any" = some (.builtin "any") := by decide +kernel
theorem lt_one (c d : Nat) : (([c] : List Nat) < [d]) ↔ c < d := by
  constructor
  · intro h
    cases h with
    | rel h => exact h
    | cons h => cases h
  · intro h
    exact .rel h
theorem take_one {α : Type} {l : List α} {i : Nat} {x : α} (h : l[i]? = some x) : l.take (i + 1) = l.take i ++ [x] := by
  rw [List.take_add_one, h] <;> rfl
section
variable {P : Program} {w : World} {K : PySem.W.Frag} {mg : Str → Option Value} {base : Heap}
/-- a test of any value that may only hold of a text -/
def spTxt (K : PySem.W.Frag) (p : Str → Bool) : Sp := fun vs H Q _ => ∃ v : V, vs = [v] ∧ ((∃ z : Str, v = .str z ∧ z.length ≤ sizeLine ∧ ∀ H', Same H H' → Q (.bl (p z)) H') ∨
  (∃ t : Value, TyX K H v t ∧ PySem.W.kitOne K t (.type "str") = some false ∧ ∀ H', Same H H' → Q (.bl false) H'))
theorem spTxt.yes {p : Str → Bool} {z : Str} {H : Hp} {Q : VK} {E : XK} (hz : z.length ≤ 1000) (q : ∀ H', Same H H' → Q (.bl (p z)) H') : spTxt K p [.str z] H Q E :=
  ⟨_, rfl, .inl ⟨z, rfl, Nat.le_trans hz big1000, q⟩⟩
theorem scIsName : FnScope ["value", "sign"] ["value"] (defScope sIsName) := ⟨rfl, rfl, rfl, by decide +kernel, rfl, by decide +kernel, by decide +kernel⟩
theorem ok_isName {f : Addr} {fd : FuncData} (F : Fun K "is_name" "is_name" sIsName f fd) (B : Bp mg) : FnOk P w K mg base CX0 1 f fd ["value"] (spTxt K fun z => decide (IsNm z)) := by
  refine F.ok scIsName (fun vs H Q E h => ?_) (fun cdv A outer s H vs Q E hr h => ?_)
  · obtain ⟨v, rfl, _⟩ := h
    rfl
  · obtain ⟨v, rfl, h⟩ := h
    refine ⟨_, pss_one (ps_ret (pe_and (pe_callB call_isi (by rfl) B.isi bootIsi (pa_cons (pv 0) (pa_cons (pe_bltn (v := V.ty "str") (by rfl) B.str PyProof.Rows.boot_str rfl) pa_nil)))
      (pe_and (pe_chain op_le op_le pe_int (pe_callB call_len_str (by rfl) B.len PySem.boot_len (pa_cons (pv 0) pa_nil)) pe_int)
      (pe_one (pe_callB (cr_all rfl) (by rfl) B.all bootAll (pa_cons (by exact (pe_lc (own := [("sign", 1)]) (g := gName 1) (tt := tYes) rfl scIsName.nd (pi_str (pv 0))
        (blkOk_by (own := [("sign", 1)]) (N := ["value", "sign"]) (sc := defScope sIsName) (by decide +kernel))
        (fun _ _ _ _ _ => pg_name (i := 1) scIsName.nd rfl (Or.inl rfl)) (fun _ _ _ _ _ => pts_nil)
        (fun _ _ _ _ _ => by exact (pe_chain op_le_str op_le_str pe_str (pv 1) pe_str)))) pa_nil)))))), ?_⟩
    rcases h with ⟨z, rfl, hz, q⟩ | ⟨t, ht, hk, q⟩
    · have q : ∀ H', Same H H' → Q (.bl (decide (IsNm z))) H' := q
      refine ⟨_, rfl, _, _, _, _, true, rfl, .ty _, .base (.str _), kit_ty (by decide +kernel), true, rfl, iteT ?_⟩
      refine ⟨_, rfl, z, rfl, hz, _, _, rfl, rfl, _, rfl, ?_⟩
      by_cases h1 : (1 : Int) ≤ (z.length : Int)
      · rw [decide_eq_true h1]
        refine iteT ⟨_, _, rfl, rfl, ?_⟩
        refine ⟨decide ((z.length : Int) ≤ 10), rfl, ?_⟩
        by_cases h2 : (z.length : Int) ≤ 10
        · rw [decide_eq_true h2]
          refine iteT ?_
          refine ⟨_, rfl, z, rfl, fun D nD => ?_⟩
          refine lc_it walk_str (fun i H' => Same H H' ∧ H' D = some (.lst ((z.cps.toList.take i).map fun c => V.bl (decide (97 ≤ c ∧ c ≤ 122))))) ⟨same_new nD, upd_same⟩ (fun _ _ _ _ => trivial) ?_ ?_
          · rintro i x H1 H2 hi ⟨sm, e⟩ ⟨rfl, c, hc, rfl⟩
            have hc2 : z.cps.toList[i]? = some c := by simpa using hc
            refine ⟨rfl, ?_⟩
            have hil : i ≤ 10 := by
              have : z.cps.size = z.length := rfl
              omega
            refine ⟨_, rfl, _, _, rfl, rfl, _, rfl, ?_⟩
            have e1 : (!decide (([c] : List Nat) < [97])) = decide (97 ≤ c) := by
              by_cases h : c < 97
              · rw [decide_eq_true ((lt_one _ _).mpr h), decide_eq_false (by omega)] <;> rfl
              · rw [decide_eq_false (fun y => h ((lt_one _ _).mp y)), decide_eq_true (by omega)] <;> rfl
            have e2 : (!decide (([122] : List Nat) < [c])) = decide (c ≤ 122) := by
              by_cases h : 122 < c
              · rw [decide_eq_true ((lt_one _ _).mpr h), decide_eq_false (by omega)] <;> rfl
              · rw [decide_eq_false (fun y => h ((lt_one _ _).mp y)), decide_eq_true (by omega)] <;> rfl
            have put : ∀ b : Bool, b = decide (97 ≤ c ∧ c ≤ 122) → ∃ acc, H2 D = some (.lst acc) ∧ acc.length < sizeLine ∧ (Same H (upd H2 D (.lst (acc ++ [V.bl b]))) ∧ upd H2 D (.lst (acc ++ [V.bl b])) D = some (.lst ((z.cps.toList.take (i + 1)).map fun c => V.bl (decide (97 ≤ c ∧ c ≤ 122))))) := fun b hb => by
              refine ⟨_, e, ?_, same_put sm nD, ?_⟩
              · rw [List.length_map, List.length_take]
                exact Nat.lt_of_le_of_lt (by omega : _ ≤ 10) (by decide)
              · rw [upd_same, take_one hc2, List.map_append, hb] <;> rfl
            show if (!decide (([c] : List Nat) < [97])) = true then _ else _
            rw [e1]
            by_cases h3 : 97 ≤ c
            · rw [decide_eq_true h3]
              refine iteT ⟨_, _, rfl, rfl, ?_⟩
              refine put _ (e2.trans ?_)
              simp [h3]
            · rw [decide_eq_false h3]
              refine iteF (put _ ?_)
              simp [h3]
          · rintro H1 ⟨sm, e⟩
            have ht : z.cps.toList.take z.cps.size = z.cps.toList := List.take_of_length_le (by simp)
            rw [ht] at e
            refine ⟨D, z.cps.toList.map fun c => decide (97 ≤ c ∧ c ≤ 122), rfl, SqL.of (by rw [e, List.map_map] <;> rfl), ?_⟩
            have hb : (z.cps.toList.map fun c => decide (97 ≤ c ∧ c ≤ 122)).all id = decide (IsNm z) := by
              rw [List.all_map]
              by_cases hn : IsNm z
              · rw [decide_eq_true hn, List.all_eq_true]
                intro c hc
                exact decide_eq_true (hn.2.2 c hc)
              · rw [decide_eq_false hn, ← Bool.not_eq_true]
                intro y
                refine hn ⟨by omega, by omega, fun c hc => ?_⟩
                exact of_decide_eq_true (List.all_eq_true.mp y c hc)
            rw [hb]
            exact q _ sm
        · rw [decide_eq_false h2]
          refine iteF ?_
          have := q H (Same.refl H)
          rw [decide_eq_false (fun h : IsNm z => h2 (by have := h.2.1; omega))] at this
          exact this
      · rw [decide_eq_false h1]
        refine iteF ⟨false, rfl, iteF ?_⟩
        have := q H (Same.refl H)
        rw [decide_eq_false (fun h : IsNm z => h1 (by have := h.1; omega))] at this
        exact this
    · refine ⟨_, rfl, _, _, _, _, false, rfl, .ty _, ht, hk, false, rfl, iteF ?_⟩
      exact q H (Same.refl H)
end
end Nv
set_option maxHeartbeats 4000000
namespace Nv
open PySem PySem.Spec PyProof.Rows L2
section
variable {P : Program} {w : World} {K : PySem.W.Frag} {mg : Str → Option Value} {base : Heap}
theorem scIsVar : FnScope ["value", "sign"] ["value"] (defScope sIsVar) := ⟨rfl, rfl, rfl, by decide +kernel, rfl, by decide +kernel, by decide +kernel⟩
theorem ok_isVar {f : Addr} {fd : FuncData} (F : Fun K "is_variable" "is_variable" sIsVar f fd) (B : Bp mg) : FnOk P w K mg base CX0 1 f fd ["value"] (spTxt K fun z => decide (IsVr z)) := by
  refine F.ok scIsVar (fun vs H Q E h => ?_) (fun cdv A outer s H vs Q E hr h => ?_)
  · obtain ⟨v, rfl, _⟩ := h
    rfl
  · obtain ⟨v, rfl, h⟩ := h
    refine ⟨_, pss_one (ps_ret (pe_and (pe_callB call_isi (by rfl) B.isi bootIsi (pa_cons (pv 0) (pa_cons (pe_bltn (v := V.ty "str") (by rfl) B.str PyProof.Rows.boot_str rfl) pa_nil)))
      (pe_and (pe_chain op_le op_le pe_int (pe_callB call_len_str (by rfl) B.len PySem.boot_len (pa_cons (pv 0) pa_nil)) pe_int)
      (pe_one (pe_callB (cr_all rfl) (by rfl) B.all bootAll (pa_cons (by exact (pe_lc (own := [("sign", 1)]) (g := gName 1) (tt := tYes) rfl scIsVar.nd (pi_str (pv 0))
        (blkOk_by (own := [("sign", 1)]) (N := ["value", "sign"]) (sc := defScope sIsVar) (by decide +kernel))
        (fun _ _ _ _ _ => pg_name (i := 1) scIsVar.nd rfl (Or.inl rfl)) (fun _ _ _ _ _ => pts_nil)
        (fun _ _ _ _ _ => by exact (pe_chain op_le_str op_le_str pe_str (pv 1) pe_str)))) pa_nil)))))), ?_⟩
    rcases h with ⟨z, rfl, hz, q⟩ | ⟨t, ht, hk, q⟩
    · have q : ∀ H', Same H H' → Q (.bl (decide (IsVr z))) H' := q
      refine ⟨_, rfl, _, _, _, _, true, rfl, .ty _, .base (.str _), kit_ty (by decide +kernel), true, rfl, iteT ?_⟩
      refine ⟨_, rfl, z, rfl, hz, _, _, rfl, rfl, _, rfl, ?_⟩
      by_cases h1 : (1 : Int) ≤ (z.length : Int)
      · rw [decide_eq_true h1]
        refine iteT ⟨_, _, rfl, rfl, ?_⟩
        refine ⟨decide ((z.length : Int) ≤ 3), rfl, ?_⟩
        by_cases h2 : (z.length : Int) ≤ 3
        · rw [decide_eq_true h2]
          refine iteT ?_
          refine ⟨_, rfl, z, rfl, fun D nD => ?_⟩
          refine lc_it walk_str (fun i H' => Same H H' ∧ H' D = some (.lst ((z.cps.toList.take i).map fun c => V.bl (decide (65 ≤ c ∧ c ≤ 90))))) ⟨same_new nD, upd_same⟩ (fun _ _ _ _ => trivial) ?_ ?_
          · rintro i x H1 H2 hi ⟨sm, e⟩ ⟨rfl, c, hc, rfl⟩
            have hc2 : z.cps.toList[i]? = some c := by simpa using hc
            refine ⟨rfl, ?_⟩
            have hil : i ≤ 3 := by
              have : z.cps.size = z.length := rfl
              omega
            refine ⟨_, rfl, _, _, rfl, rfl, _, rfl, ?_⟩
            have e1 : (!decide (([c] : List Nat) < [65])) = decide (65 ≤ c) := by
              by_cases h : c < 65
              · rw [decide_eq_true ((lt_one _ _).mpr h), decide_eq_false (by omega)] <;> rfl
              · rw [decide_eq_false (fun y => h ((lt_one _ _).mp y)), decide_eq_true (by omega)] <;> rfl
            have e2 : (!decide (([90] : List Nat) < [c])) = decide (c ≤ 90) := by
              by_cases h : 90 < c
              · rw [decide_eq_true ((lt_one _ _).mpr h), decide_eq_false (by omega)] <;> rfl
              · rw [decide_eq_false (fun y => h ((lt_one _ _).mp y)), decide_eq_true (by omega)] <;> rfl
            have put : ∀ b : Bool, b = decide (65 ≤ c ∧ c ≤ 90) → ∃ acc, H2 D = some (.lst acc) ∧ acc.length < sizeLine ∧ (Same H (upd H2 D (.lst (acc ++ [V.bl b]))) ∧ upd H2 D (.lst (acc ++ [V.bl b])) D = some (.lst ((z.cps.toList.take (i + 1)).map fun c => V.bl (decide (65 ≤ c ∧ c ≤ 90))))) := fun b hb => by
              refine ⟨_, e, ?_, same_put sm nD, ?_⟩
              · rw [List.length_map, List.length_take]
                exact Nat.lt_of_le_of_lt (by omega : _ ≤ 3) (by decide)
              · rw [upd_same, take_one hc2, List.map_append, hb] <;> rfl
            show if (!decide (([c] : List Nat) < [65])) = true then _ else _
            rw [e1]
            by_cases h3 : 65 ≤ c
            · rw [decide_eq_true h3]
              refine iteT ⟨_, _, rfl, rfl, ?_⟩
              refine put _ (e2.trans ?_)
              simp [h3]
            · rw [decide_eq_false h3]
              refine iteF (put _ ?_)
              simp [h3]
          · rintro H1 ⟨sm, e⟩
            have ht : z.cps.toList.take z.cps.size = z.cps.toList := List.take_of_length_le (by simp)
            rw [ht] at e
            refine ⟨D, z.cps.toList.map fun c => decide (65 ≤ c ∧ c ≤ 90), rfl, SqL.of (by rw [e, List.map_map] <;> rfl), ?_⟩
            have hb : (z.cps.toList.map fun c => decide (65 ≤ c ∧ c ≤ 90)).all id = decide (IsVr z) := by
              rw [List.all_map]
              by_cases hn : IsVr z
              · rw [decide_eq_true hn, List.all_eq_true]
                intro c hc
                exact decide_eq_true (hn.2.2 c hc)
              · rw [decide_eq_false hn, ← Bool.not_eq_true]
                intro y
                refine hn ⟨by omega, by omega, fun c hc => ?_⟩
                exact of_decide_eq_true (List.all_eq_true.mp y c hc)
            rw [hb]
            exact q _ sm
        · rw [decide_eq_false h2]
          refine iteF ?_
          have := q H (Same.refl H)
          rw [decide_eq_false (fun h : IsVr z => h2 (by have := h.2.1; omega))] at this
          exact this
      · rw [decide_eq_false h1]
        refine iteF ⟨false, rfl, iteF ?_⟩
        have := q H (Same.refl H)
        rw [decide_eq_false (fun h : IsVr z => h1 (by have := h.1; omega))] at this
        exact this
    · refine ⟨_, rfl, _, _, _, _, false, rfl, .ty _, ht, hk, false, rfl, iteF ?_⟩
      exact q H (Same.refl H)
def IsTm (z : Str) : Prop := IsNm z ∨ IsVr z
instance (z : Str) : Decidable (IsTm z) := by unfold IsTm; exact inferInstance
theorem scIsTerm : FnScope ["value"] ["value"] (defScope sIsTerm) := ⟨rfl, rfl, rfl, by decide +kernel, rfl, by decide +kernel, by decide +kernel⟩
/-- a value, a text or none -/
def Tv (K : PySem.W.Frag) (H : Hp) (v : V) : Option Str → Prop
  | some z => v = .str z ∧ z.length ≤ sizeLine
  | none => ∃ t : Value, TyX K H v t ∧ PySem.W.kitOne K t (.type "str") = some false
theorem tyx_same {H H' : Hp} {v : V} {t : Value} (s : Same H H') (h : TyX K H v t) : TyX K H' v t := by
  cases h with
  | base b =>
    cases b with
    | non => exact .base .non
    | bl y => exact .base (.bl y)
    | int i => exact .base (.int i)
    | str y => exact .base (.str y)
    | flt y => exact .base (.flt y)
    | lst e => exact .base (.lst (s _ _ e))
    | frz e => exact .base (.frz (s _ _ e))
    | tup e => exact .base (.tup (s _ _ e))
    | dK e => exact .base (.dK (s _ _ e))
    | dT e => exact .base (.dT (s _ _ e))
    | ins e cl ha hn htk hm => exact .base (.ins (s _ _ e) cl ha hn htk hm)
  | byt b => exact .byt b
  | set e => exact .set (s _ _ e)
  | kList e c => exact .kList e c
  | kTuple e c => exact .kTuple e c
  | kDict e c => exact .kDict e c
  | fTuple e => exact .fTuple (s _ _ e)
  | fDict e => exact .fDict (s _ _ e)
theorem Tv.same {H H' : Hp} {v : V} : ∀ {o : Option Str}, Tv K H v o → Same H H' → Tv K H' v o
  | some z, h, _ => h
  | none, ⟨t, h, k⟩, s => ⟨t, tyx_same s h, k⟩
theorem spTxt.of {p : Str → Bool} {v : V} {H : Hp} {Q : VK} {E : XK} : ∀ {o : Option Str}, Tv K H v o → (∀ H', Same H H' → Q (.bl (o.any p)) H') → spTxt K p [v] H Q E
  | some z, ⟨e, hz⟩, q => ⟨_, rfl, .inl ⟨z, e, hz, q⟩⟩
  | none, ⟨t, ht, hk⟩, q => ⟨_, rfl, .inr ⟨t, ht, hk, q⟩⟩
theorem ok_isTerm {f fN fV : Addr} {fd fdN fdV : FuncData} (F : Fun K "is_term" "is_term" sIsTerm f fd)
    (GN : FnOk P w K mg base CX0 1 fN fdN ["value"] (spTxt K fun z => decide (IsNm z))) (kN : PySem.W.keepIn K (.ref fN) = true) (gN : mg "is_name" = some (.ref fN)) (bN : Binds K fdN ["value"] [])
    (GV : FnOk P w K mg base CX0 1 fV fdV ["value"] (spTxt K fun z => decide (IsVr z))) (kV : PySem.W.keepIn K (.ref fV) = true) (gV : mg "is_variable" = some (.ref fV)) (bV : Binds K fdV ["value"] []) :
    FnOk P w K mg base CX0 2 f fd ["value"] (spTxt K fun z => decide (IsTm z)) := by
  refine F.ok scIsTerm (fun vs H Q E h => ?_) (fun cdv A outer s H vs Q E hr h => ?_)
  · obtain ⟨v, rfl, _⟩ := h
    rfl
  · obtain ⟨v, rfl, h⟩ := h
    refine ⟨_, pss_one (ps_ret (pe_or (by exact (pe_call GN hr (by rfl) gN kN bN .nil pass0 (pa_cons (pv 0) pa_nil))) (pe_one (by exact (pe_call GV hr (by rfl) gV kV bV .nil pass0 (pa_cons (pv 0) pa_nil)))))), ?_⟩
    refine ⟨_, rfl, ?_⟩
    rcases h with ⟨z, rfl, hz, q⟩ | ⟨t, ht, hk, q⟩
    · have q : ∀ H', Same H H' → Q (.bl (decide (IsTm z))) H' := q
      refine ⟨_, rfl, .inl ⟨z, rfl, hz, fun H1 s1 => ⟨decide (IsNm z), rfl, ?_⟩⟩⟩
      by_cases h1 : IsNm z
      · rw [decide_eq_true h1]
        refine iteT ?_
        have := q H1 s1
        rw [show decide (IsTm z) = true from decide_eq_true (Or.inl h1)] at this
        exact this
      · rw [decide_eq_false h1]
        refine iteF ⟨_, rfl, _, rfl, .inl ⟨z, rfl, hz, fun H2 s2 => ?_⟩⟩
        have := q H2 (s1.trans s2)
        have e : decide (IsTm z) = decide (IsVr z) := decide_eq_decide.mpr ⟨fun h => h.resolve_left h1, .inr⟩
        rw [e] at this
        exact this
    · refine ⟨_, rfl, .inr ⟨t, ht, hk, fun H1 s1 => ⟨false, rfl, iteF ?_⟩⟩⟩
      refine ⟨_, rfl, _, rfl, .inr ⟨t, tyx_same s1 ht, hk, fun H2 s2 => q H2 (s1.trans s2)⟩⟩
end
end Nv
set_option maxHeartbeats 4000000
namespace Nv
open PySem PySem.Spec PyProof.Rows L2
/-- item by item -/
inductive All2 {α β : Type} (R : α → β → Prop) : List α → List β → Prop
  | nil : All2 R [] []
  | cons {x : α} {y : β} {xs : List α} {ys : List β} (h : R x y) (t : All2 R xs ys) : All2 R (x :: xs) (y :: ys)
section
variable {α β : Type} {R S : α → β → Prop} {xs : List α} {ys : List β}
theorem All2.len (h : All2 R xs ys) : xs.length = ys.length := by
  induction h with
  | nil => rfl
  | cons _ _ ih => simp [ih]
theorem All2.imp (h : All2 R xs ys) (i : ∀ x y, R x y → S x y) : All2 S xs ys := by
  induction h with
  | nil => exact .nil
  | cons h _ ih => exact .cons (i _ _ h) ih
theorem All2.at_ (h : All2 R xs ys) {i : Nat} {x : α} (hi : xs[i]? = some x) : ∃ y, ys[i]? = some y ∧ R x y := by
  induction h generalizing i with
  | nil => cases i <;> cases hi
  | cons h _ ih =>
    cases i with
    | zero =>
      cases hi
      exact ⟨_, rfl, h⟩
    | succ i => exact ih hi
end
/-- a value that may be a pattern: its parts, where it is a tuple -/
def Tp (K : PySem.W.Frag) (H : Hp) (v : V) : Option (List (Option Str)) → Prop
  | some os => ∃ (t : Addr) (xs : List V), v = .ref t ∧ Rd H t (.tup xs) ∧ All2 (Tv K H) xs os ∧ os.length ≤ 1000
  | none => ∃ t : Value, TyX K H v t ∧ PySem.W.kitOne K t (.type "tuple") = some false
theorem Tp.same {K : PySem.W.Frag} {H H' : Hp} {v : V} : ∀ {o : Option (List (Option Str))}, Tp K H v o → Same H H' → Tp K H' v o
  | some os, ⟨t, xs, e, h, a, l⟩, s => ⟨t, xs, e, h.elim (fun h => .inl (s _ _ h)) (fun ⟨o, h⟩ => .inr ⟨o, s _ _ h⟩), a.imp fun _ _ z => z.same s, l⟩
  | none, ⟨t, h, k⟩, s => ⟨t, tyx_same s h, k⟩
theorem tp_strs {K : PySem.W.Frag} {H : Hp} {t : Addr} {p : List Str} (e : Tu H t p) (hp : ∀ x ∈ p, x.length ≤ 1000) (hl : p.length ≤ 1000) : Tp K H (.ref t) (some (p.map some)) := by
  refine ⟨t, _, rfl, e, ?_, by rw [List.length_map]; exact hl⟩
  clear e hl
  induction p with
  | nil => exact .nil
  | cons x p ih => exact .cons ⟨rfl, Nat.le_trans (hp x List.mem_cons_self) big1000⟩ (ih fun y hy => hp y (List.mem_cons_of_mem _ hy))
def nmO (o : Option Str) : Bool := o.any fun z => decide (IsNm z)
def tmO (o : Option Str) : Bool := o.any fun z => decide (IsTm z)
def vrO (o : Option Str) : Bool := o.any fun z => decide (IsVr z)
def patB : Option (List (Option Str)) → Bool
  | some (o :: os) => decide (os.length ≤ 3) && (nmO o && os.all tmO)
  | _ => false
section
variable {P : Program} {w : World} {K : PySem.W.Frag} {mg : Str → Option Value} {base : Heap}
def spIsPattern (K : PySem.W.Frag) : Sp := fun vs H Q _ => ∃ (v : V) (o : Option (List (Option Str))), vs = [v] ∧ Tp K H v o ∧ ∀ H', Same H H' → Q (.bl (patB o)) H'
theorem scIsPattern : FnScope ["value", "part"] ["value"] (defScope sIsPattern) := ⟨rfl, rfl, rfl, by decide +kernel, rfl, by decide +kernel, by decide +kernel⟩
theorem rd_same {H H' : Hp} {t : Addr} {u : HO} (h : Rd H t u) (s : Same H H') : Rd H' t u := h.elim (fun h => .inl (s _ _ h)) fun ⟨o, h⟩ => .inr ⟨o, s _ _ h⟩
theorem tyx_tup {H : Hp} {t : Addr} {xs : List V} (e : Rd H t (.tup xs)) : TyX K H (.ref t) (.type "tuple") := e.elim (fun e => .base (.tup e)) fun ⟨_, e⟩ => .fTuple e
theorem tyx_lst {H : Hp} {t : Addr} {xs : List V} (e : H t = some (.lst xs)) : TyX K H (.ref t) (.type "list") := .base (.lst e)
theorem cut_one (xs : List V) : cutV xs (some 1) none = xs.drop 1 := by
  unfold cutV
  have e : HT.sIx xs.length 0 (some (1 : Int)) = min 1 xs.length := HT.sIx_nat xs.length 0 1
  rw [e, HT.sIx_none]
  cases xs with
  | nil => rfl
  | cons x xs =>
    rw [List.length_cons, Nat.min_eq_left (by omega), Nat.add_sub_cancel, List.drop_succ_cons, List.drop_zero, List.take_of_length_le (Nat.le_refl _)]
theorem ok_isPattern {f fN fT : Addr} {fd fdN fdT : FuncData} (F : Fun K "is_pattern" "is_pattern" sIsPattern f fd) (B : Bp mg)
    (GN : FnOk P w K mg base CX0 1 fN fdN ["value"] (spTxt K fun z => decide (IsNm z))) (kN : PySem.W.keepIn K (.ref fN) = true) (gN : mg "is_name" = some (.ref fN)) (bN : Binds K fdN ["value"] [])
    (GT : FnOk P w K mg base CX0 2 fT fdT ["value"] (spTxt K fun z => decide (IsTm z))) (kT : PySem.W.keepIn K (.ref fT) = true) (gT : mg "is_term" = some (.ref fT)) (bT : Binds K fdT ["value"] []) :
    FnOk P w K mg base CX0 3 f fd ["value"] (spIsPattern K) := by
  refine F.ok scIsPattern (fun vs H Q E h => ?_) (fun cdv A outer s H vs Q E hr h => ?_)
  · obtain ⟨v, o, rfl, _⟩ := h
    rfl
  · obtain ⟨v, o, rfl, h, q⟩ := h
    have hr1 : Room 1 _ := hr.mono (by decide)
    refine ⟨_, pss_cons (ps_if (PW.pt (pw_or (pt_not (pt_val (pe_callB call_isi (by rfl) B.isi bootIsi (pa_cons (pv 0) (pa_cons (pe_bltn (v := V.ty "tuple") (by rfl) B.tup PyProof.Rows.boot_tuple rfl) pa_nil)))))
        (pw_or1 (pt_not (pt_chain op_le op_le pe_int (pe_callB call_len_seq (by rfl) B.len PySem.boot_len (pa_cons (pv 0) pa_nil)) pe_int))))) (pss_one (ps_ret pe_bl)) pss_nil)
      (pss_one (ps_ret (pe_and (by exact (pe_call GN hr1 (by rfl) gN kN bN .nil pass0 (pa_cons (pe_ix ix_tup (pv 0) pe_int (fun _ _ => rfl)) pa_nil)))
        (pe_one (pe_callB (cr_all rfl) (by rfl) B.all bootAll (pa_cons (by exact (pe_lc (own := [("part", 1)]) (g := gName 1) (tt := tYes) rfl scIsPattern.nd (pi_tup (pe_slice sl_tup (pv 0) (po_some pe_int) po_none))
          (blkOk_by (own := [("part", 1)]) (N := ["value", "part"]) (sc := defScope sIsPattern) (by decide +kernel))
          (fun _ _ _ _ _ => pg_name (i := 1) scIsPattern.nd rfl (Or.inl rfl)) (fun _ _ _ _ _ => pts_nil)
          (fun _ _ _ _ _ => by exact (pe_call GT hr (by rfl) gT kT bT .nil pass0 (pa_cons (pv 1) pa_nil))))) pa_nil)))))), ?_⟩
    cases o with
    | none =>
      obtain ⟨t, ht, hk⟩ := h
      refine ⟨_, rfl, _, _, _, _, false, rfl, .ty _, ht, hk, false, rfl, iteT (iteT ?_)⟩
      exact q H (Same.refl H)
    | some os =>
      obtain ⟨t, xs, rfl, e, ha, hl⟩ := h
      have hxl := ha.len
      refine ⟨_, rfl, _, _, _, _, true, rfl, .ty _, tyx_tup e, kit_ty (by decide +kernel), true, rfl, iteF ?_⟩
      refine ⟨_, rfl, t, xs, rfl, .inr (.inl e), _, _, rfl, rfl, _, rfl, ?_⟩
      cases ha with
      | nil =>
        refine iteF ⟨false, rfl, iteT ?_⟩
        exact q H (Same.refl H)
      | @cons x o1 xs1 os1 h1 ht =>
        have e1 : decide ((1 : Int) ≤ ((x :: xs1).length : Int)) = true := decide_eq_true (by rw [List.length_cons]; omega)
        show if decide ((1 : Int) ≤ ((x :: xs1).length : Int)) = true then _ else _
        rw [e1]
        refine iteT ⟨_, _, rfl, rfl, ?_⟩
        refine ⟨decide (((x :: xs1).length : Int) ≤ 4), rfl, ?_⟩
        by_cases h4 : os1.length ≤ 3
        · have e4 : decide (((x :: xs1).length : Int) ≤ 4) = true := decide_eq_true (by rw [List.length_cons] at *; rw [List.length_cons] at hxl; omega)
          rw [e4]
          refine iteF ?_
          have q : ∀ H', Same H H' → Q (.bl (nmO o1 && os1.all tmO)) H' := fun H' s => by
            have := q H' s
            simp only [patB, decide_eq_true h4, Bool.true_and] at this
            exact this
          refine ⟨_, rfl, t, _, _, x, rfl, rfl, .inl e, atI_nat (j := 0) rfl, ?_⟩
          dsimp only [tNil]
          refine spTxt.of h1 fun H1 s1 => ?_
          refine ⟨nmO o1, rfl, ?_⟩
          cases hn : nmO o1 with
          | false =>
            refine iteF ?_
            have := q H1 s1
            rw [hn] at this
            exact this
          | true =>
            rw [hn] at q
            refine iteT ?_
            refine ⟨_, rfl, 1, rfl, t, _, rfl, .inl (rd_same e s1), ?_, fun t2 nt2 => ?_⟩
            · rintro ⟨h, _⟩
              have := HT.sIx_nat (x :: xs1).length 0 1
              rw [show ((1 : Nat) : Int) = 1 by rfl] at this
              rw [this, List.length_cons] at h
              omega
            · rw [cut_one, List.drop_succ_cons, List.drop_zero]
              have s2 : Same H (upd H1 t2 (.tup xs1)) := same_put s1 (s1.free nt2)
              have e2 : upd H1 t2 (.tup xs1) t2 = some (.tup xs1) := upd_same
              generalize upd H1 t2 (.tup xs1) = G at s2 e2 ⊢
              refine ⟨t2, rfl, ⟨_, SqT.of e2⟩, fun D nD => ?_⟩
              refine lc_tup (K := K) (a := t2) (xs := xs1) (fun i H' => Same G H' ∧ H' D = some (.lst ((os1.take i).map fun o => V.bl (tmO o)))) ⟨same_new nD, upd_same⟩ (fun i H' _ y => SqT.of (y.1 _ _ e2)) ?_ ?_
              · rintro i y H3 hi ⟨s3, e3⟩
                obtain ⟨o2, ho2, hy⟩ := ht.at_ hi
                refine ⟨rfl, ?_⟩
                refine ⟨_, rfl, ?_⟩
                dsimp only [tNil]
                refine spTxt.of (hy.same (s2.trans s3)) fun H4 s4 => ?_
                refine ⟨_, s4 _ _ e3, ?_, same_put (s3.trans s4) nD, ?_⟩
                · rw [List.length_map, List.length_take]
                  exact Nat.lt_of_le_of_lt (by omega : _ ≤ 3) (by decide)
                · rw [upd_same, take_one ho2, List.map_append] <;> rfl
              · rintro H3 ⟨s3, e3⟩
                have hlen := ht.len
                rw [hlen, List.take_length] at e3
                refine ⟨D, os1.map tmO, rfl, SqL.of (by rw [e3, List.map_map] <;> rfl), ?_⟩
                have := q H3 (s2.trans s3)
                rw [Bool.true_and] at this
                rw [List.all_map]
                exact this
        · have e4 : decide (((x :: xs1).length : Int) ≤ 4) = false := decide_eq_false (by rw [List.length_cons] at *; rw [List.length_cons] at hxl; omega)
          rw [e4]
          refine iteT ?_
          have := q H (Same.refl H)
          simp only [patB, decide_eq_false h4, Bool.false_and] at this
          exact this
end
end Nv
set_option maxHeartbeats 4000000
namespace Nv
open PySem PySem.Spec PyProof.Rows L2
/-- a value that may be a list of tuples: what stands in it, where it is a list -/
def Tps (K : PySem.W.Frag) (H : Hp) (v : V) : Option (List (Option (List (Option Str)))) → Prop
  | some ls => ∃ (a : Addr) (xs : List V), v = .ref a ∧ H a = some (.lst xs) ∧ All2 (Tp K H) xs ls ∧ ls.length ≤ 1000
  | none => ∃ t : Value, TyX K H v t ∧ PySem.W.kitOne K t (.type "list") = some false
theorem Tps.same {K : PySem.W.Frag} {H H' : Hp} {v : V} : ∀ {o : Option (List (Option (List (Option Str))))}, Tps K H v o → Same H H' → Tps K H' v o
  | some os, ⟨t, xs, e, h, a, l⟩, s => ⟨t, xs, e, s _ _ h, a.imp fun _ _ z => z.same s, l⟩
  | none, ⟨t, h, k⟩, s => ⟨t, tyx_same s h, k⟩
theorem PaL.tps {K : PySem.W.Frag} {H : Hp} {vs : List V} {ps : List (List Str)} (h : PaL H vs ps) (hp : ∀ p ∈ ps, p.length ≤ 1000 ∧ ∀ x ∈ p, x.length ≤ 1000) : All2 (Tp K H) vs (ps.map fun p => some (p.map some)) := by
  induction h with
  | nil => exact .nil
  | mk e _ ih =>
    obtain ⟨h1, h2⟩ := hp _ List.mem_cons_self
    exact .cons (tp_strs e h2 h1) (ih fun p hq => hp p (List.mem_cons_of_mem _ hq))
def prB : Option (List (Option Str)) → Bool
  | some [o1, o2] => tmO o1 && (tmO o2 && (decide (o1 ≠ o2) && (vrO o1 || vrO o2)))
  | _ => false
def listB (p : Option (List (Option Str)) → Bool) (o : Option (List (Option (List (Option Str))))) : Bool := o.any fun ls => ls.all p
section
variable {P : Program} {w : World} {K : PySem.W.Frag} {mg : Str → Option Value} {base : Heap}
def spTup (K : PySem.W.Frag) (p : Option (List (Option Str)) → Bool) : Sp := fun vs H Q _ => ∃ (v : V) (o : Option (List (Option Str))), vs = [v] ∧ Tp K H v o ∧ ∀ H', Same H H' → Q (.bl (p o)) H'
def spLst (K : PySem.W.Frag) (p : Option (List (Option Str)) → Bool) : Sp := fun vs H Q _ => ∃ (v : V) (o : Option (List (Option (List (Option Str))))), vs = [v] ∧ Tps K H v o ∧ ∀ H', Same H H' → Q (.bl (listB p o)) H'
theorem scIsPatterns : FnScope ["value", "part"] ["value"] (defScope sIsPatterns) := ⟨rfl, rfl, rfl, by decide +kernel, rfl, by decide +kernel, by decide +kernel⟩
theorem ok_isPatterns {f fN : Addr} {fd fdN : FuncData} {p : Option (List (Option Str)) → Bool} (F : Fun K "is_patterns" "is_patterns" sIsPatterns f fd) (B : Bp mg)
    (GN : FnOk P w K mg base CX0 3 fN fdN ["value"] (spTup K p)) (kN : PySem.W.keepIn K (.ref fN) = true) (gN : mg "is_pattern" = some (.ref fN)) (bN : Binds K fdN ["value"] []) :
    FnOk P w K mg base CX0 4 f fd ["value"] (spLst K p) := by
  refine F.ok scIsPatterns (fun vs H Q E h => ?_) (fun cdv A outer s H vs Q E hr h => ?_)
  · obtain ⟨v, o, rfl, _⟩ := h
    rfl
  · obtain ⟨v, o, rfl, h, q⟩ := h
    refine ⟨_, pss_one (ps_ret (pe_and (pe_callB call_isi (by rfl) B.isi bootIsi (pa_cons (pv 0) (pa_cons (pe_bltn (v := V.ty "list") (by rfl) B.lst PyProof.Rows.boot_list rfl) pa_nil)))
      (pe_one (pe_callB (cr_all rfl) (by rfl) B.all bootAll (pa_cons (by exact (pe_lc (own := [("part", 1)]) (g := gName 1) (tt := tYes) rfl scIsPatterns.nd (pi_list (pv 0))
          (blkOk_by (own := [("part", 1)]) (N := ["value", "part"]) (sc := defScope sIsPatterns) (by decide +kernel))
          (fun _ _ _ _ _ => pg_name (i := 1) scIsPatterns.nd rfl (Or.inl rfl)) (fun _ _ _ _ _ => pts_nil)
          (fun _ _ _ _ _ => by exact (pe_call GN hr (by rfl) gN kN bN .nil pass0 (pa_cons (pv 1) pa_nil))))) pa_nil))))), ?_⟩
    cases o with
    | none =>
      obtain ⟨t, ht, hk⟩ := h
      refine ⟨_, rfl, _, _, _, _, false, rfl, .ty _, ht, hk, false, rfl, iteF ?_⟩
      exact q H (Same.refl H)
    | some ls =>
      obtain ⟨a, xs, rfl, e, ha, hl⟩ := h
      have hxl := ha.len
      refine ⟨_, rfl, _, _, _, _, true, rfl, .ty _, tyx_lst e, kit_ty (by decide +kernel), true, rfl, iteT ?_⟩
      refine ⟨_, rfl, a, rfl, ⟨_, SqL.of e⟩, fun D nD => ?_⟩
      refine lc_list (K := K) (a := a) (xs := xs) (fun i H' => Same H H' ∧ H' D = some (.lst ((ls.take i).map fun o => V.bl (p o)))) ⟨same_new nD, upd_same⟩ (fun i H' _ y => SqL.of (y.1 _ _ e)) ?_ ?_
      · rintro i y H3 hi ⟨s3, e3⟩
        obtain ⟨o2, ho2, hy⟩ := ha.at_ hi
        refine ⟨rfl, _, rfl, y, o2, rfl, hy.same s3, fun H4 s4 => ?_⟩
        refine ⟨_, s4 _ _ e3, ?_, same_put (s3.trans s4) nD, ?_⟩
        · rw [List.length_map, List.length_take]
          exact Nat.lt_of_le_of_lt (by omega : _ ≤ 1000) (by decide)
        · rw [upd_same, take_one ho2, List.map_append] <;> rfl
      · rintro H3 ⟨s3, e3⟩
        rw [hxl, List.take_length] at e3
        refine ⟨D, ls.map p, rfl, SqL.of (by rw [e3, List.map_map] <;> rfl), ?_⟩
        rw [List.all_map]
        exact q H3 s3
theorem scIsPairs : FnScope ["value", "part"] ["value"] (defScope sIsPairs) := ⟨rfl, rfl, rfl, by decide +kernel, rfl, by decide +kernel, by decide +kernel⟩
theorem ok_isPairs {f fN : Addr} {fd fdN : FuncData} {p : Option (List (Option Str)) → Bool} (F : Fun K "is_pairs" "is_pairs" sIsPairs f fd) (B : Bp mg)
    (GN : FnOk P w K mg base CX0 3 fN fdN ["value"] (spTup K p)) (kN : PySem.W.keepIn K (.ref fN) = true) (gN : mg "is_pair" = some (.ref fN)) (bN : Binds K fdN ["value"] []) :
    FnOk P w K mg base CX0 4 f fd ["value"] (spLst K p) := by
  refine F.ok scIsPairs (fun vs H Q E h => ?_) (fun cdv A outer s H vs Q E hr h => ?_)
  · obtain ⟨v, o, rfl, _⟩ := h
    rfl
  · obtain ⟨v, o, rfl, h, q⟩ := h
    refine ⟨_, pss_one (ps_ret (pe_and (pe_callB call_isi (by rfl) B.isi bootIsi (pa_cons (pv 0) (pa_cons (pe_bltn (v := V.ty "list") (by rfl) B.lst PyProof.Rows.boot_list rfl) pa_nil)))
      (pe_one (pe_callB (cr_all rfl) (by rfl) B.all bootAll (pa_cons (by exact (pe_lc (own := [("part", 1)]) (g := gName 1) (tt := tYes) rfl scIsPairs.nd (pi_list (pv 0))
          (blkOk_by (own := [("part", 1)]) (N := ["value", "part"]) (sc := defScope sIsPairs) (by decide +kernel))
          (fun _ _ _ _ _ => pg_name (i := 1) scIsPairs.nd rfl (Or.inl rfl)) (fun _ _ _ _ _ => pts_nil)
          (fun _ _ _ _ _ => by exact (pe_call GN hr (by rfl) gN kN bN .nil pass0 (pa_cons (pv 1) pa_nil))))) pa_nil))))), ?_⟩
    cases o with
    | none =>
      obtain ⟨t, ht, hk⟩ := h
      refine ⟨_, rfl, _, _, _, _, false, rfl, .ty _, ht, hk, false, rfl, iteF ?_⟩
      exact q H (Same.refl H)
    | some ls =>
      obtain ⟨a, xs, rfl, e, ha, hl⟩ := h
      have hxl := ha.len
      refine ⟨_, rfl, _, _, _, _, true, rfl, .ty _, tyx_lst e, kit_ty (by decide +kernel), true, rfl, iteT ?_⟩
      refine ⟨_, rfl, a, rfl, ⟨_, SqL.of e⟩, fun D nD => ?_⟩
      refine lc_list (K := K) (a := a) (xs := xs) (fun i H' => Same H H' ∧ H' D = some (.lst ((ls.take i).map fun o => V.bl (p o)))) ⟨same_new nD, upd_same⟩ (fun i H' _ y => SqL.of (y.1 _ _ e)) ?_ ?_
      · rintro i y H3 hi ⟨s3, e3⟩
        obtain ⟨o2, ho2, hy⟩ := ha.at_ hi
        refine ⟨rfl, _, rfl, y, o2, rfl, hy.same s3, fun H4 s4 => ?_⟩
        refine ⟨_, s4 _ _ e3, ?_, same_put (s3.trans s4) nD, ?_⟩
        · rw [List.length_map, List.length_take]
          exact Nat.lt_of_le_of_lt (by omega : _ ≤ 1000) (by decide)
        · rw [upd_same, take_one ho2, List.map_append] <;> rfl
      · rintro H3 ⟨s3, e3⟩
        rw [hxl, List.take_length] at e3
        refine ⟨D, ls.map p, rfl, SqL.of (by rw [e3, List.map_map] <;> rfl), ?_⟩
        rw [List.all_map]
        exact q H3 s3
theorem scIsPair : FnScope ["value", "part"] ["value"] (defScope sIsPair) := ⟨rfl, rfl, rfl, by decide +kernel, rfl, by decide +kernel, by decide +kernel⟩
theorem tm_some {o : Option Str} (h : tmO o = true) : ∃ z, o = some z := by
  cases o with
  | none => cases h
  | some z => exact ⟨z, rfl⟩
theorem ok_isPair {f fT fV : Addr} {fd fdT fdV : FuncData} (F : Fun K "is_pair" "is_pair" sIsPair f fd) (B : Bp mg)
    (GT : FnOk P w K mg base CX0 2 fT fdT ["value"] (spTxt K fun z => decide (IsTm z))) (kT : PySem.W.keepIn K (.ref fT) = true) (gT : mg "is_term" = some (.ref fT)) (bT : Binds K fdT ["value"] [])
    (GV : FnOk P w K mg base CX0 1 fV fdV ["value"] (spTxt K fun z => decide (IsVr z))) (kV : PySem.W.keepIn K (.ref fV) = true) (gV : mg "is_variable" = some (.ref fV)) (bV : Binds K fdV ["value"] []) :
    FnOk P w K mg base CX0 3 f fd ["value"] (spTup K prB) := by
  refine F.ok scIsPair (fun vs H Q E h => ?_) (fun cdv A outer s H vs Q E hr h => ?_)
  · obtain ⟨v, o, rfl, _⟩ := h
    rfl
  · obtain ⟨v, o, rfl, h, q⟩ := h
    have hr1 : Room 1 _ := hr.mono (by decide)
    refine ⟨_, pss_cons (ps_if (PW.pt (pw_or (pt_not (pt_val (pe_callB call_isi (by rfl) B.isi bootIsi (pa_cons (pv 0) (pa_cons (pe_bltn (v := V.ty "tuple") (by rfl) B.tup PyProof.Rows.boot_tuple rfl) pa_nil)))))
        (pw_or (pt_cmpR op_ne (pe_callB call_len_seq (by rfl) B.len PySem.boot_len (pa_cons (pv 0) pa_nil)) pe_int (nomark _))
        (pw_or1 (pt_not (pt_val (pe_callB (cr_all rfl) (by rfl) B.all bootAll (pa_cons (by exact (pe_lc (own := [("part", 1)]) (g := gName 1) (tt := tYes) rfl scIsPair.nd (pi_tup (pv 0))
          (blkOk_by (own := [("part", 1)]) (N := ["value", "part"]) (sc := defScope sIsPair) (by decide +kernel))
          (fun _ _ _ _ _ => pg_name (i := 1) scIsPair.nd rfl (Or.inl rfl)) (fun _ _ _ _ _ => pts_nil)
          (fun _ _ _ _ _ => by exact (pe_call GT hr (by rfl) gT kT bT .nil pass0 (pa_cons (pv 1) pa_nil))))) pa_nil)))))))) (pss_one (ps_ret pe_bl)) pss_nil)
      (pss_one (ps_ret (pe_and (pe_cmpR op_ne (pe_ix ix_tup (pv 0) pe_int (fun _ _ => rfl)) (pe_ix ix_tup (pv 0) pe_int (fun _ _ => rfl)) (nomark _))
        (pe_one (pe_callB (cr_any rfl) (by rfl) B.any bootAny (pa_cons (by exact (pe_lc (own := [("part", 1)]) (g := gName 1) (tt := tYes) rfl scIsPair.nd (pi_tup (pv 0))
          (blkOk_by (own := [("part", 1)]) (N := ["value", "part"]) (sc := defScope sIsPair) (by decide +kernel))
          (fun _ _ _ _ _ => pg_name (i := 1) scIsPair.nd rfl (Or.inl rfl)) (fun _ _ _ _ _ => pts_nil)
          (fun _ _ _ _ _ => by exact (pe_call GV hr1 (by rfl) gV kV bV .nil pass0 (pa_cons (pv 1) pa_nil))))) pa_nil)))))), ?_⟩
    cases o with
    | none =>
      obtain ⟨t, ht, hk⟩ := h
      refine ⟨_, rfl, _, _, _, _, false, rfl, .ty _, ht, hk, false, rfl, iteT (iteT ?_)⟩
      exact q H (Same.refl H)
    | some os =>
      obtain ⟨t, xs, rfl, e, ha, hl⟩ := h
      have hxl := ha.len
      refine ⟨_, rfl, _, _, _, _, true, rfl, .ty _, tyx_tup e, kit_ty (by decide +kernel), true, rfl, iteF ?_⟩
      refine ⟨_, rfl, t, xs, rfl, .inr (.inl e), rfl, _, rfl, ?_⟩
      by_cases h2 : os.length = 2
      · obtain ⟨o1, o2, rfl⟩ : ∃ o1 o2, os = [o1, o2] := by
          match os, h2 with
          | [o1, o2], _ => exact ⟨o1, o2, rfl⟩
        have hx2 : V.int (xs.length : Int) = V.int 2 := by
          rw [hxl] <;> rfl
        rw [decide_eq_true hx2]
        refine iteF ?_
        refine ⟨_, rfl, t, rfl, ⟨_, .inl e⟩, fun D nD => ?_⟩
        refine lc_tup (K := K) (a := t) (xs := xs) (fun i H' => Same H H' ∧ H' D = some (.lst (([o1, o2].take i).map fun o => V.bl (tmO o)))) ⟨same_new nD, upd_same⟩ (fun i H' _ y => .inl (rd_same e y.1)) ?_ ?_
        · rintro i y H3 hi ⟨s3, e3⟩
          obtain ⟨o, ho, hy⟩ := ha.at_ hi
          refine ⟨rfl, _, rfl, ?_⟩
          dsimp only [tNil]
          refine spTxt.of (hy.same s3) fun H4 s4 => ?_
          refine ⟨_, s4 _ _ e3, ?_, same_put (s3.trans s4) nD, ?_⟩
          · rw [List.length_map, List.length_take]
            exact Nat.lt_of_le_of_lt (Nat.min_le_right _ _) (by show 2 < sizeLine; decide)
          · rw [upd_same, take_one ho, List.map_append] <;> rfl
        · rintro H3 ⟨s3, e3⟩
          rw [hxl, List.take_length] at e3
          refine ⟨D, [o1, o2].map tmO, rfl, SqL.of (by rw [e3] <;> rfl), _, rfl, ?_⟩
          have hq := q H3 s3
          cases h1 : tmO o1 with
          | false =>
            have e5 : ([o1, o2].map tmO).all id = false := by simp [h1]
            rw [e5]
            refine iteT ?_
            simp only [prB, h1, Bool.false_and] at hq
            exact hq
          | true =>
            cases h3 : tmO o2 with
            | false =>
              have e5 : ([o1, o2].map tmO).all id = false := by simp [h3]
              rw [e5]
              refine iteT ?_
              simp only [prB, h1, h3, Bool.false_and, Bool.true_and] at hq
              exact hq
            | true =>
              have e5 : ([o1, o2].map tmO).all id = true := by simp [h1, h3]
              rw [e5]
              refine iteF ?_
              obtain ⟨z1, rfl⟩ := tm_some h1
              obtain ⟨z2, rfl⟩ := tm_some h3
              have q : ∀ H', Same H H' → Q (.bl (decide (some z1 ≠ some z2) && (vrO (some z1) || vrO (some z2)))) H' := fun H' s => by
                have := q H' s
                simp only [prB, h1, h3, Bool.true_and] at this
                exact this
              obtain ⟨x1, x2, rfl⟩ : ∃ x1 x2, xs = [x1, x2] := by
                match xs, hxl with
                | [x1, x2], _ => exact ⟨x1, x2, rfl⟩
              have g1 : x1 = V.str z1 := by
                obtain ⟨o, ho, hy⟩ := ha.at_ (i := 0) rfl
                cases ho
                exact hy.1
              have g2 : x2 = V.str z2 := by
                obtain ⟨o, ho, hy⟩ := ha.at_ (i := 1) rfl
                cases ho
                exact hy.1
              subst g1 g2
              refine ⟨_, rfl, t, _, _, _, rfl, rfl, .inl (rd_same e s3), atI_nat (j := 0) rfl, _, rfl, t, _, _, _, rfl, rfl, .inl (rd_same e s3), atI_nat (j := 1) rfl, rfl, ?_⟩
              refine ⟨!decide (V.str z1 = V.str z2), rfl, ?_⟩
              by_cases hz : z1 = z2
              · rw [decide_eq_true (by rw [hz] : V.str z1 = V.str z2)]
                refine iteF ?_
                have := q H3 s3
                have e7 : decide (some z1 ≠ some z2) = false := decide_eq_false (fun y => y (by rw [hz]))
                rw [e7, Bool.false_and] at this
                exact this
              · rw [decide_eq_false (fun y => hz (by injection y) : ¬ V.str z1 = V.str z2)]
                refine iteT ?_
                refine ⟨_, rfl, t, rfl, ⟨_, .inl (rd_same e s3)⟩, fun D2 nD2 => ?_⟩
                refine lc_tup (K := K) (a := t) (xs := [V.str z1, V.str z2]) (fun i H' => Same H3 H' ∧ H' D2 = some (.lst (([some z1, some z2].take i).map fun o => V.bl (vrO o)))) ⟨same_new nD2, upd_same⟩ (fun i H' _ y => .inl (rd_same (rd_same e s3) y.1)) ?_ ?_
                · rintro i y H4 hi ⟨s4, e4⟩
                  obtain ⟨o, ho, hy⟩ := ha.at_ hi
                  refine ⟨rfl, _, rfl, ?_⟩
                  dsimp only [tNil]
                  refine spTxt.of (hy.same (s3.trans s4)) fun H5 s5 => ?_
                  refine ⟨_, s5 _ _ e4, ?_, same_put (s4.trans s5) nD2, ?_⟩
                  · rw [List.length_map, List.length_take]
                    exact Nat.lt_of_le_of_lt (Nat.min_le_right _ _) (by show 2 < sizeLine; decide)
                  · rw [upd_same, take_one ho, List.map_append] <;> rfl
                · rintro H4 ⟨s4, e4⟩
                  refine ⟨D2, [some z1, some z2].map vrO, rfl, SqL.of (by rw [e4] <;> rfl), ?_⟩
                  have := q H4 (s3.trans s4)
                  have e7 : decide (some z1 ≠ some z2) = true := decide_eq_true (fun y => hz (by injection y))
                  rw [e7, Bool.true_and] at this
                  have e6 : ([some z1, some z2].map vrO).any id = (vrO (some z1) || vrO (some z2)) := by simp
                  rw [e6]
                  exact this
      · have hx2 : ¬ V.int (xs.length : Int) = V.int 2 := fun y => by
          injection y with y
          omega
        rw [decide_eq_false hx2]
        refine iteT (iteT ?_)
        have := q H (Same.refl H)
        have e5 : prB (some os) = false := by
          match os, h2 with
          | [], _ => rfl
          | [_], _ => rfl
          | [_, _], h => exact absurd rfl h
          | _ :: _ :: _ :: _, _ => rfl
        rw [e5] at this
        exact this
end
end Nv
set_option maxHeartbeats 4000000
namespace Nv
open PySem PySem.Spec PyProof.Rows L2
theorem sqT_same {K : PySem.W.Frag} {H H' : Hp} {a : Addr} {xs : List V} (e : Same H H') (h : SqT K H a xs) : SqT K H' a xs :=
  h.elim (fun h => .inl (h.elim (fun h => .inl (e _ _ h)) fun ⟨o, h⟩ => .inr ⟨o, e _ _ h⟩)) fun h => .inr h
theorem walk_any {J : It} {n : Nat} {G : Hp → Prop} {Y : Nat → Hp → V → Hp → Prop} (w : Walk J n G Y) {S : Hp → Prop} {BODY : (Hp → Prop) → V → Hp → Prop} {H0 : Hp} (Pv : Nat → Hp → Prop) (h0 : Pv 0 H0) (hG : ∀ i H, i ≤ n → Pv i H → G H)
    (hs : ∀ i x H H', i < n → Pv i H → Y i H x H' → BODY (Pv (i + 1)) x H') (hd : ∀ H, Pv n H → S H) :
    ∃ W : Nat → Nat → Hp → Prop, (∃ m, W 0 m H0) ∧ ∀ i m H, W i m H → (J.stop i H ∧ S H) ∨ (J.go i H ∧ ∃ Nx : Hp → Prop, (∀ H', Nx H' → ∃ m', m' < m ∧ W (i + 1) m' H') ∧ ∀ x H', J.yld i H x H' → BODY Nx x H') := by
  refine ⟨fun i m H => m = n - i ∧ i ≤ n ∧ Pv i H, ⟨n, by simp, Nat.zero_le _, h0⟩, ?_⟩
  rintro i m H ⟨rfl, hi, p⟩
  have q := hG i H hi p
  by_cases hlt : i < n
  · refine .inr ⟨w.goes i H hlt q, Pv (i + 1), fun H' p' => ⟨n - (i + 1), by omega, rfl, hlt, p'⟩, fun x H' y => hs i x H H' hlt p (w.yields i H x H' hlt q y)⟩
  · have e : i = n := by omega
    subst e
    exact .inl ⟨w.stops H q, hd H p⟩
section
variable {P : Program} {w : World} {K : PySem.W.Frag} {mg : Str → Option Value} {base : Heap}
def spTermsOf (K : PySem.W.Frag) : Sp := fun vs H Q _ => ∃ (a : Addr) (us : List V) (ps : List (List Str)), vs = [.ref a] ∧ SqL K H a us ∧ PaL H us ps ∧ (∀ x ∈ ps, PatOk x) ∧ ps.length ≤ 1000 ∧
  ∀ (p : Addr) (H' : Hp), H p = none → Same H H' → H' p = some (.lst ((tails ps).map V.str)) → Q (.ref p) H'
theorem scTermsOf : FnScope ["patterns", "pattern", "term"] ["patterns"] (defScope sTermsOf) := ⟨rfl, rfl, rfl, by decide +kernel, rfl, by decide +kernel, by decide +kernel⟩
theorem tails_le {ps : List (List Str)} (h : ∀ x ∈ ps, PatOk x) (hl : ps.length ≤ 1000) : (tails ps).length ≤ 3000 := by
  have := tails_len h
  omega
theorem ok_termsOf {f : Addr} {fd : FuncData} (F : Fun K "terms_of" "terms_of" sTermsOf f fd) : FnOk P w K mg base CX0 1 f fd ["patterns"] (spTermsOf K) := by
  refine F.ok scTermsOf (fun vs H Q E h => ?_) (fun cdv A outer s H vs Q E hr h => ?_)
  · obtain ⟨a, us, ps, rfl, _⟩ := h
    rfl
  · obtain ⟨a, us, ps, rfl, ha, hp, hok, hl, q⟩ := h
    refine ⟨_, pss_one (ps_ret (by exact (pe_lc2 (own := [("pattern", 1), ("term", 2)]) (vs1 := [2]) (g := gName 1) (g1 := gName 2) (tt := tYes) (tt1 := tYes) (wi1 := iTup K (tSl (rSlT K) (tVar 1) (tPart (tC (V.int 1))) tNoPart)) (te := tVar 2) rfl scTermsOf.nd (pi_list (pv 0))
      (blkOk_by (own := [("pattern", 1), ("term", 2)]) (N := ["patterns", "pattern", "term"]) (sc := defScope sTermsOf) (by decide +kernel)) (by decide)
      (fun _ _ _ _ _ => pg_name (i := 1) scTermsOf.nd rfl (Or.inl rfl)) (fun _ _ _ _ _ => pts_nil)
      (fun _ _ _ _ _ => by exact (pi_tup (pe_slice sl_tup (pv 1) (po_some pe_int) po_none)))
      (fun _ _ _ _ _ => pg_name (i := 2) scTermsOf.nd rfl (Or.inl rfl)) (fun _ _ _ _ _ => pts_nil) (fun _ _ _ _ _ => by exact (pv 2))))), ?_⟩
    have hul := hp.len
    refine ⟨_, rfl, a, rfl, ⟨_, ha⟩, fun D nD => ?_⟩
    refine walk_any (walk_list (K := K) (a := a) (xs := us)) (fun i H' => Same H H' ∧ H' D = some (.lst ((tails (ps.take i)).map V.str))) ⟨same_new nD, upd_same⟩ (fun i H' _ y => y.1.seq ha) ?_ ?_
    · rintro i v H1 H1' hi ⟨sm, e1⟩ ⟨rfl, hv⟩
      obtain ⟨t, pat, rfl, hpi, et⟩ := hp.at_ hv
      obtain ⟨wd, ts, rfl, hw, h3, hts⟩ := hok pat (List.mem_of_getElem? hpi)
      have et1 := et.same sm
      have hacc : (tails (ps.take i)).length ≤ 3000 := by
        refine tails_le (fun x hx => hok x (List.mem_of_mem_take hx)) ?_
        rw [List.length_take]
        omega
      rw [tails_take hpi]
      show gName 1 _ _ _ _
      generalize tails (ps.take i) = acc at e1 hacc ⊢
      refine ⟨rfl, _, rfl, 1, rfl, t, _, rfl, et1.sq, ?_, fun t2 nt2 => ?_⟩
      · rintro ⟨h, _⟩
        have := HT.sIx_nat ((wd :: ts).map V.str).length 0 1
        rw [show ((1 : Nat) : Int) = 1 by rfl] at this
        rw [this, List.length_map, List.length_cons] at h
        omega
      · rw [cut1]
        have sm2 : Same H (upd H1' t2 (.tup (ts.map V.str))) := same_put sm (sm.free nt2)
        have e2 : upd H1' t2 (.tup (ts.map V.str)) D = some (.lst (acc.map V.str)) := same_new nt2 _ _ e1
        have et2 : upd H1' t2 (.tup (ts.map V.str)) t2 = some (.tup (ts.map V.str)) := upd_same
        generalize upd H1' t2 (.tup (ts.map V.str)) = G at sm2 e2 et2 ⊢
        refine ⟨t2, rfl, ⟨_, SqT.of et2⟩, ?_⟩
        refine walk_any (walk_tup (K := K) (a := t2) (xs := ts.map V.str)) (fun j H' => Same H H' ∧ H' t2 = some (.tup (ts.map V.str)) ∧ H' D = some (.lst ((acc ++ ts.take j).map V.str))) ⟨sm2, et2, by rw [List.take_zero, List.append_nil]; exact e2⟩ (fun j H' _ z => SqT.of z.2.1) ?_ ?_
        · rintro j x H2 H2' hj ⟨sm3, et3, e3⟩ ⟨rfl, hx⟩
          rw [List.getElem?_map] at hx
          obtain ⟨z, hz, rfl⟩ : ∃ z, ts[j]? = some z ∧ x = V.str z := by
            cases g : ts[j]? with
            | none =>
              rw [g] at hx
              cases hx
            | some z =>
              rw [g] at hx
              exact ⟨z, rfl, (Option.some.inj hx).symm⟩
          have htD : t2 ≠ D := fun y => by
            rw [y, e3] at et3
            cases et3
          refine ⟨rfl, _, rfl, _, e3, ?_, same_put sm3 nD, ?_, ?_⟩
          · rw [List.length_map, List.length_append, List.length_take]
            exact Nat.lt_of_le_of_lt (by omega : _ ≤ 3003) (by decide)
          · rw [upd_ne htD]
            exact et3
          · rw [upd_same, take_one hz]
            simp only [List.map_append, List.map_cons, List.map_nil, List.append_assoc]
        · rintro H2 ⟨sm3, et3, e3⟩
          refine ⟨sm3, ?_⟩
          rw [e3, List.length_map, List.take_length] <;> rfl
    · rintro H1 ⟨sm, e1⟩
      rw [hul, List.take_length] at e1
      exact q D H1 nD sm e1
/-- variables_among(terms) -/
def spVarsAmong (K : PySem.W.Frag) : Sp := fun vs H Q _ => ∃ (a : Addr) (ts : List Str), vs = [.ref a] ∧ (SqL K H a (ts.map V.str) ∨ SqT K H a (ts.map V.str)) ∧ (∀ x ∈ ts, x.length ≤ 1000) ∧ ts.length ≤ 5000 ∧
  ∀ (p : Addr) (H' : Hp), H p = none → Same H H' → H' p = some (.lst ((varsIn ts).map V.str)) → Q (.ref p) H'
theorem scVarsAmong : FnScope ["terms", "found", "term"] ["terms"] (defScope sVarsAmong) := ⟨rfl, rfl, rfl, by decide +kernel, rfl, by decide +kernel, by decide +kernel⟩
def tk (z : Str) : Key × V := (Sum.inr z, V.bl true)
theorem put_tk (l : List Str) (z : Str) : putK (l.map tk) (Sum.inr z) (V.bl true) = (if z ∈ l then l else l ++ [z]).map tk := by
  unfold putK
  have e : ((l.map tk).any fun kv => decide (kv.1 = Sum.inr z)) = decide (z ∈ l) := by
    rw [List.any_map]
    by_cases h : z ∈ l
    · rw [decide_eq_true h, List.any_eq_true]
      exact ⟨z, h, decide_eq_true rfl⟩
    · rw [decide_eq_false h, List.any_eq_false]
      intro y hy y2
      have := of_decide_eq_true y2
      injection this with this
      exact h (this ▸ hy)
  rw [e]
  by_cases h : z ∈ l
  · rw [decide_eq_true h, if_pos rfl, if_pos h, List.map_map]
    refine List.map_congr_left fun y hy => ?_
    show (if (tk y).1 = Sum.inr z then ((tk y).1, V.bl true) else tk y) = tk y
    split <;> rfl
  · rw [decide_eq_false h, if_neg (by decide), if_neg h, List.map_append] <;> rfl
theorem vst_vr {acc : List Str} {z : Str} (h : IsVr z) : vst acc z = if z ∈ acc then acc else acc ++ [z] := by
  unfold vst
  by_cases hm : z ∈ acc
  · rw [if_neg (fun y => y.2 hm), if_pos hm]
  · rw [if_pos ⟨h, hm⟩, if_neg hm]
theorem vst_no {acc : List Str} {z : Str} (h : ¬ IsVr z) : vst acc z = acc := by
  unfold vst
  rw [if_neg (fun y => h y.1)]
theorem ok_varsAmong {f fV : Addr} {fd fdV : FuncData} (F : Fun K "variables_among" "variables_among" sVarsAmong f fd) (B : Bp mg)
    (GV : FnOk P w K mg base CX0 1 fV fdV ["value"] (spTxt K fun z => decide (IsVr z))) (kV : PySem.W.keepIn K (.ref fV) = true) (gV : mg "is_variable" = some (.ref fV)) (bV : Binds K fdV ["value"] []) :
    FnOk P w K mg base CX0 2 f fd ["terms"] (spVarsAmong K) := by
  refine F.ok scVarsAmong (fun vs H Q E h => ?_) (fun cdv A outer s H vs Q E hr h => ?_)
  · obtain ⟨a, ts, rfl, _⟩ := h
    rfl
  · obtain ⟨a, ts, rfl, ha, hz, hl, q⟩ := h
    have hu := hu_of hr
    have turn : ∀ (i : Nat) (x : V) (d : Addr) (σ : L2.St) (H1 : Hp) (z : Str), H d = none → x = V.str z → ts[i]? = some z → (∃ o : Option V, σ = [some (.ref a), some (.ref d), o] ∧ Same H H1 ∧ H1 d = some (.dK (((ts.take i).foldl vst []).map tk))) →
        ∃ o : Option V, σ = [some (.ref a), some (.ref d), o] ∧ Same H H1 ∧ H1 d = some (.dK (((ts.take i).foldl vst []).map tk)) ∧ ((ts.take i).foldl vst []).length ≤ 5000 ∧ (ts.take (i + 1)).foldl vst [] = vst ((ts.take i).foldl vst []) z := by
      rintro i x d σ H1 z nd rfl hi ⟨o, rfl, sm, e⟩
      refine ⟨o, rfl, sm, e, ?_, ?_⟩
      · have := fold_len (ts.take i) []
        rw [List.length_take] at this
        have h0 : ([] : List Str).length = 0 := rfl
        omega
      · rw [take_one hi, List.foldl_append] <;> rfl
    rcases ha with ha | ha
    · refine ⟨_, pss_cons (ps_set (i := 1) scVarsAmong.nd rfl (Or.inl rfl) pe_dnewK)
        (pss_cons (ps_for PassesOwn.never rfl (pi_list (pv 0)) (pg_name (i := 2) scVarsAmong.nd rfl (Or.inl rfl))
          (pss_one (ps_if (pt_val (by exact (pe_call GV hr (by rfl) gV kV bV .nil pass0 (pa_cons (pv 2) pa_nil)))) (pss_one (ps_dput hu (pv 1) (pv 2) pe_bl rfl)) pss_nil)))
        (pss_one (ps_ret (pe_callTy (call_list_dK rfl) (by rfl) B.lst PyProof.Rows.boot_list (pa_cons (pv 1) pa_nil))))), ?_⟩
      intro d nd
      refine ⟨_, rfl, a, rfl, ⟨_, (same_new nd).seq ha⟩, for_list (K := K) (a := a) (xs := ts.map V.str) (fun i σ H' => ∃ o : Option V, σ = [some (.ref a), some (.ref d), o] ∧ Same H H' ∧ H' d = some (.dK (((ts.take i).foldl vst []).map tk))) ⟨none, rfl, same_new nd, upd_same⟩ (fun i σ H' _ z => ?_) ?_ ?_⟩
      · obtain ⟨_, _, sm, _⟩ := z
        exact sm.seq ha
      · rintro i x σ H1 hi h
        rw [List.getElem?_map] at hi
        obtain ⟨z, hiz, rfl⟩ : ∃ z, ts[i]? = some z ∧ x = V.str z := by
          cases g : ts[i]? with
          | none =>
            rw [g] at hi
            cases hi
          | some z =>
            rw [g] at hi
            exact ⟨z, rfl, (Option.some.inj hi).symm⟩
        obtain ⟨o, rfl, sm, e, hl2, hf⟩ := turn i _ d σ H1 z nd rfl hiz h
        rw [hf]
        generalize (ts.take i).foldl vst [] = acc at e hl2 ⊢
        refine ⟨_, rfl, ?_⟩
        dsimp only [tNil]
        refine spTxt.yes (hz z (List.mem_of_getElem? hiz)) fun H2 s2 => ⟨_, rfl, ?_⟩
        have e2 := s2 _ _ e
        show if decide (IsVr z) = true then _ else _
        by_cases hv : IsVr z
        · rw [decide_eq_true hv]
          refine iteT ⟨_, rfl, _, rfl, d, _, rfl, DPut.k (k := Sum.inr z) e2 ?_, ?_⟩
          · rw [List.length_map]
            exact Nat.lt_of_le_of_lt hl2 (by decide)
          · refine ⟨_, rfl, same_put (sm.trans s2) nd, ?_⟩
            rw [upd_same, put_tk, vst_vr hv]
        · rw [decide_eq_false hv]
          refine iteF ⟨_, rfl, sm.trans s2, ?_⟩
          rw [vst_no hv]
          exact e2
      · rintro σ H1 ⟨o, rfl, sm, e⟩
        rw [List.length_map, List.take_length] at e
        refine ⟨_, rfl, d, _, rfl, e, fun p np => ?_⟩
        refine q p _ (sm.free np) (same_put sm (sm.free np)) ?_
        rw [upd_same, List.map_map] <;> rfl
    · refine ⟨_, pss_cons (ps_set (i := 1) scVarsAmong.nd rfl (Or.inl rfl) pe_dnewK)
        (pss_cons (ps_for PassesOwn.never rfl (pi_tup (pv 0)) (pg_name (i := 2) scVarsAmong.nd rfl (Or.inl rfl))
          (pss_one (ps_if (pt_val (by exact (pe_call GV hr (by rfl) gV kV bV .nil pass0 (pa_cons (pv 2) pa_nil)))) (pss_one (ps_dput hu (pv 1) (pv 2) pe_bl rfl)) pss_nil)))
        (pss_one (ps_ret (pe_callTy (call_list_dK rfl) (by rfl) B.lst PyProof.Rows.boot_list (pa_cons (pv 1) pa_nil))))), ?_⟩
      intro d nd
      refine ⟨_, rfl, a, rfl, ⟨_, sqT_same (same_new nd) ha⟩, for_tup (K := K) (a := a) (xs := ts.map V.str) (fun i σ H' => ∃ o : Option V, σ = [some (.ref a), some (.ref d), o] ∧ Same H H' ∧ H' d = some (.dK (((ts.take i).foldl vst []).map tk))) ⟨none, rfl, same_new nd, upd_same⟩ (fun i σ H' _ z => ?_) ?_ ?_⟩
      · obtain ⟨_, _, sm, _⟩ := z
        exact sqT_same sm ha
      · rintro i x σ H1 hi h
        rw [List.getElem?_map] at hi
        obtain ⟨z, hiz, rfl⟩ : ∃ z, ts[i]? = some z ∧ x = V.str z := by
          cases g : ts[i]? with
          | none =>
            rw [g] at hi
            cases hi
          | some z =>
            rw [g] at hi
            exact ⟨z, rfl, (Option.some.inj hi).symm⟩
        obtain ⟨o, rfl, sm, e, hl2, hf⟩ := turn i _ d σ H1 z nd rfl hiz h
        rw [hf]
        generalize (ts.take i).foldl vst [] = acc at e hl2 ⊢
        refine ⟨_, rfl, ?_⟩
        dsimp only [tNil]
        refine spTxt.yes (hz z (List.mem_of_getElem? hiz)) fun H2 s2 => ⟨_, rfl, ?_⟩
        have e2 := s2 _ _ e
        show if decide (IsVr z) = true then _ else _
        by_cases hv : IsVr z
        · rw [decide_eq_true hv]
          refine iteT ⟨_, rfl, _, rfl, d, _, rfl, DPut.k (k := Sum.inr z) e2 ?_, ?_⟩
          · rw [List.length_map]
            exact Nat.lt_of_le_of_lt hl2 (by decide)
          · refine ⟨_, rfl, same_put (sm.trans s2) nd, ?_⟩
            rw [upd_same, put_tk, vst_vr hv]
        · rw [decide_eq_false hv]
          refine iteF ⟨_, rfl, sm.trans s2, ?_⟩
          rw [vst_no hv]
          exact e2
      · rintro σ H1 ⟨o, rfl, sm, e⟩
        rw [List.length_map, List.take_length] at e
        refine ⟨_, rfl, d, _, rfl, e, fun p np => ?_⟩
        refine q p _ (sm.free np) (same_put sm (sm.free np)) ?_
        rw [upd_same, List.map_map] <;> rfl
/-- variables_of(patterns) -/
def spVarsOf (K : PySem.W.Frag) : Sp := fun vs H Q _ => ∃ (a : Addr) (us : List V) (ps : List (List Str)), vs = [.ref a] ∧ SqL K H a us ∧ PaL H us ps ∧ (∀ x ∈ ps, PatOk x) ∧ ps.length ≤ 1000 ∧
  ∀ (p : Addr) (H' : Hp), H p = none → Same H H' → H' p = some (.lst ((varsIn (tails ps)).map V.str)) → Q (.ref p) H'
theorem scVarsOf : FnScope ["patterns"] ["patterns"] (defScope sVarsOf) := ⟨rfl, rfl, rfl, by decide +kernel, rfl, by decide +kernel, by decide +kernel⟩
theorem tails_short {ps : List (List Str)} (h : ∀ x ∈ ps, PatOk x) : ∀ z ∈ tails ps, (IsVr z ∨ IsNm z) ∧ z.length ≤ 10 := by
  intro z hz
  unfold tails at hz
  obtain ⟨l, hl, hzl⟩ := List.mem_flatten.mp hz
  obtain ⟨p, hp, rfl⟩ := List.mem_map.mp hl
  obtain ⟨w, ts, rfl, _, _, ht⟩ := h p hp
  have h1 := ht z hzl
  refine ⟨h1, ?_⟩
  rcases h1 with h2 | h2
  · have := h2.2.1
    omega
  · exact h2.2.1
theorem ok_varsOf {f fT fA : Addr} {fd fdT fdA : FuncData} (F : Fun K "variables_of" "variables_of" sVarsOf f fd)
    (GT : FnOk P w K mg base CX0 1 fT fdT ["patterns"] (spTermsOf K)) (kT : PySem.W.keepIn K (.ref fT) = true) (gT : mg "terms_of" = some (.ref fT)) (bT : Binds K fdT ["patterns"] [])
    (GA : FnOk P w K mg base CX0 2 fA fdA ["terms"] (spVarsAmong K)) (kA : PySem.W.keepIn K (.ref fA) = true) (gA : mg "variables_among" = some (.ref fA)) (bA : Binds K fdA ["terms"] []) :
    FnOk P w K mg base CX0 3 f fd ["patterns"] (spVarsOf K) := by
  refine F.ok scVarsOf (fun vs H Q E h => ?_) (fun cdv A outer s H vs Q E hr h => ?_)
  · obtain ⟨a, us, ps, rfl, _⟩ := h
    rfl
  · obtain ⟨a, us, ps, rfl, ha, hp, hok, hl, q⟩ := h
    have hr1 : Room 1 _ := hr.mono (by decide)
    refine ⟨_, pss_one (ps_ret (by exact (pe_call GA hr (by rfl) gA kA bA .nil pass0 (pa_cons (by exact (pe_call GT hr1 (by rfl) gT kT bT .nil pass0 (pa_cons (pv 0) pa_nil))) pa_nil)))), ?_⟩
    refine ⟨_, rfl, a, us, ps, rfl, ha, hp, hok, hl, fun p H1 np sm e => ?_⟩
    refine ⟨p, tails ps, rfl, .inl (SqL.of e), (fun x hx => by have := (tails_short hok x hx).2; omega), by have := tails_le hok hl; omega, fun p2 H2 np2 sm2 e2 => ?_⟩
    exact q p2 H2 (sm.free np2) (sm.trans sm2) e2
end
end Nv
set_option maxHeartbeats 4000000
namespace Nv
open PySem PySem.Spec PyProof.Rows L2
def hasMore (ts : List Str) (ps : List (List Str)) : Bool := (varsIn ts).any fun x => !decide (x ∈ varsIn (tails ps))
theorem at_map {ts : List Str} {i : Nat} {x : V} (hx : (ts.map V.str)[i]? = some x) : ∃ z, ts[i]? = some z ∧ x = V.str z := by
  rw [List.getElem?_map] at hx
  cases g : ts[i]? with
  | none =>
    rw [g] at hx
    cases hx
  | some z =>
    rw [g] at hx
    exact ⟨z, rfl, (Option.some.inj hx).symm⟩
section
variable {P : Program} {w : World} {K : PySem.W.Frag} {mg : Str → Option Value} {base : Heap}
/-- _sides(pairs) -/
def spSides (K : PySem.W.Frag) : Sp := fun vs H Q _ => ∃ (a : Addr) (us : List V) (qs : List (List Str)), vs = [.ref a] ∧ SqL K H a us ∧ PaL H us qs ∧ (∀ x ∈ qs, x.length = 2) ∧ qs.length ≤ 1000 ∧
  ∀ (p : Addr) (H' : Hp), H p = none → Same H H' → H' p = some (.lst (qs.flatten.map V.str)) → Q (.ref p) H'
theorem scSides : FnScope ["pairs", "pair", "term"] ["pairs"] (defScope sSides) := ⟨rfl, rfl, rfl, by decide +kernel, rfl, by decide +kernel, by decide +kernel⟩
theorem flat_len {qs : List (List Str)} (h : ∀ x ∈ qs, x.length = 2) : qs.flatten.length = 2 * qs.length := by
  induction qs with
  | nil => rfl
  | cons q qs ih =>
    rw [List.flatten_cons, List.length_append, ih fun x hx => h x (List.mem_cons_of_mem _ hx), h q List.mem_cons_self, List.length_cons]
    omega
theorem ok_sides {f : Addr} {fd : FuncData} (F : Fun K "sides_of" "sides_of" sSides f fd) : FnOk P w K mg base CX0 1 f fd ["pairs"] (spSides K) := by
  refine F.ok scSides (fun vs H Q E h => ?_) (fun cdv A outer s H vs Q E hr h => ?_)
  · obtain ⟨a, us, ps, rfl, _⟩ := h
    rfl
  · obtain ⟨a, us, qs, rfl, ha, hp, h2, hl, q⟩ := h
    refine ⟨_, pss_one (ps_ret (by exact (pe_lc2 (own := [("pair", 1), ("term", 2)]) (vs1 := [2]) (g := gName 1) (g1 := gName 2) (tt := tYes) (tt1 := tYes) (wi1 := iTup K (tVar 1)) (te := tVar 2) rfl scSides.nd (pi_list (pv 0))
      (blkOk_by (own := [("pair", 1), ("term", 2)]) (N := ["pairs", "pair", "term"]) (sc := defScope sSides) (by decide +kernel)) (by decide)
      (fun _ _ _ _ _ => pg_name (i := 1) scSides.nd rfl (Or.inl rfl)) (fun _ _ _ _ _ => pts_nil)
      (fun _ _ _ _ _ => by exact (pi_tup (pv 1)))
      (fun _ _ _ _ _ => pg_name (i := 2) scSides.nd rfl (Or.inl rfl)) (fun _ _ _ _ _ => pts_nil) (fun _ _ _ _ _ => by exact (pv 2))))), ?_⟩
    have hul := hp.len
    refine ⟨_, rfl, a, rfl, ⟨_, ha⟩, fun D nD => ?_⟩
    refine walk_any (walk_list (K := K) (a := a) (xs := us)) (fun i H' => Same H H' ∧ H' D = some (.lst ((qs.take i).flatten.map V.str))) ⟨same_new nD, upd_same⟩ (fun i H' _ y => y.1.seq ha) ?_ ?_
    · rintro i v H1 H1' hi ⟨sm, e1⟩ ⟨rfl, hv⟩
      obtain ⟨t, ts, rfl, hpi, et⟩ := hp.at_ hv
      have et1 := (et.same sm)
      have hts := h2 ts (List.mem_of_getElem? hpi)
      have hacc : (qs.take i).flatten.length ≤ 2000 := by
        rw [flat_len fun x hx => h2 x (List.mem_of_mem_take hx), List.length_take]
        omega
      have htk : (qs.take (i + 1)).flatten = (qs.take i).flatten ++ ts := by
        rw [take_one hpi, List.flatten_append]
        simp
      rw [htk]
      show gName 1 _ _ _ _
      generalize (qs.take i).flatten = acc at e1 hacc ⊢
      refine ⟨rfl, _, rfl, t, rfl, ⟨_, .inl et1⟩, ?_⟩
      refine walk_any (walk_tup (K := K) (a := t) (xs := ts.map V.str)) (fun j H' => Same H H' ∧ H' D = some (.lst ((acc ++ ts.take j).map V.str))) ⟨sm, by rw [List.take_zero, List.append_nil]; exact e1⟩ (fun j H' _ z => (et.same z.1).sq) ?_ ?_
      · rintro j x H2 H2' hj ⟨sm3, e3⟩ ⟨rfl, hx⟩
        obtain ⟨z, hz, rfl⟩ := at_map hx
        refine ⟨rfl, _, rfl, _, e3, ?_, same_put sm3 nD, ?_⟩
        · rw [List.length_map, List.length_append, List.length_take]
          exact Nat.lt_of_le_of_lt (by omega : _ ≤ 3003) (by decide)
        · rw [upd_same, take_one hz]
          simp only [List.map_append, List.map_cons, List.map_nil, List.append_assoc]
      · rintro H2 ⟨sm3, e3⟩
        refine ⟨sm3, ?_⟩
        rw [e3, List.length_map, List.take_length] <;> rfl
    · rintro H1 ⟨sm, e1⟩
      rw [hul, List.take_length] at e1
      exact q D H1 nD sm e1
/-- _has_more(terms, told) -/
def spHasMore (K : PySem.W.Frag) : Sp := fun vs H Q _ => ∃ (a b : Addr) (ts : List Str) (us : List V) (ps : List (List Str)), vs = [.ref a, .ref b] ∧ ((SqL K H a (ts.map V.str) ∨ SqT K H a (ts.map V.str)) ∧ (∀ x ∈ ts, x.length ≤ 1000) ∧ ts.length ≤ 5000) ∧
  (SqL K H b us ∧ PaL H us ps ∧ (∀ x ∈ ps, PatOk x) ∧ ps.length ≤ 1000) ∧ ∀ H' : Hp, Same H H' → Q (.bl (hasMore ts ps)) H'
theorem scHasMore : FnScope ["terms", "told", "known", "term"] ["terms", "told"] (defScope sHasMore) := ⟨rfl, rfl, rfl, by decide +kernel, rfl, by decide +kernel, by decide +kernel⟩
theorem ok_hasMore {f fA fO : Addr} {fd fdA fdO : FuncData} (F : Fun K "has_more" "has_more" sHasMore f fd) (B : Bp mg)
    (GA : FnOk P w K mg base CX0 2 fA fdA ["terms"] (spVarsAmong K)) (kA : PySem.W.keepIn K (.ref fA) = true) (gA : mg "variables_among" = some (.ref fA)) (bA : Binds K fdA ["terms"] [])
    (GO : FnOk P w K mg base CX0 3 fO fdO ["patterns"] (spVarsOf K)) (kO : PySem.W.keepIn K (.ref fO) = true) (gO : mg "variables_of" = some (.ref fO)) (bO : Binds K fdO ["patterns"] []) :
    FnOk P w K mg base CX0 4 f fd ["terms", "told"] (spHasMore K) := by
  refine F.ok scHasMore (fun vs H Q E h => ?_) (fun cdv A outer s H vs Q E hr h => ?_)
  · obtain ⟨a, b, ts, us, ps, rfl, _⟩ := h
    rfl
  · obtain ⟨a, b, ts, us, ps, rfl, ⟨ha, hz, hl⟩, ⟨hb, hp, hok, hpl⟩, q⟩ := h
    have hr2 : Room 2 _ := hr.mono (by decide)
    refine ⟨_, pss_cons (ps_set (i := 2) scHasMore.nd rfl (Or.inr rfl) (by exact (pe_call GO hr (by rfl) gO kO bO .nil pass0 (pa_cons (pv 1) pa_nil))))
      (pss_one (ps_ret (pe_callB (cr_any rfl) (by rfl) B.any bootAny (pa_cons (by exact (pe_lc (own := [("term", 3)]) (g := gName 3) (tt := tYes) (te := tOp (rIn K true) (tVar 3) (tVar 2)) rfl scHasMore.nd
        (pi_list (by exact (pe_call GA hr2 (by rfl) gA kA bA .nil pass0 (pa_cons (pv 0) pa_nil))))
        (blkOk_by (own := [("term", 3)]) (N := ["terms", "told", "known", "term"]) (sc := defScope sHasMore) (by decide +kernel))
        (fun _ _ _ _ _ => pg_name (i := 3) scHasMore.nd rfl (Or.inl rfl)) (fun _ _ _ _ _ => pts_nil)
        (fun _ _ _ _ _ => by exact (pe_cmpR op_notIn_seq (pv 3) (pv 2) (by rfl))))) pa_nil)))), ?_⟩
    refine ⟨_, rfl, b, us, ps, rfl, hb, hp, hok, hpl, fun p1 H1 np1 sm1 e1 => ?_⟩
    refine (show ∀ G : Hp, G = H1 → tSeq _ _ { nx := fun _ H' => Q .non H', rt := Q } [some (.ref a), some (.ref b), some (.ref p1), none] G from fun G hG => ?_) _ rfl
    subst hG
    refine ⟨_, rfl, a, ts, rfl, ?_, hz, hl, fun p2 H2 np2 sm2 e2 => ?_⟩
    · rcases ha with h | h
      · exact .inl (sm1.seq h)
      · exact .inr (sqT_same sm1 h)
    · have e12 := sm2 _ _ e1
      refine ⟨p2, rfl, ⟨_, SqL.of e2⟩, fun D nD => ?_⟩
      refine lc_list (K := K) (a := p2) (xs := (varsIn ts).map V.str) (fun i H' => Same H2 H' ∧ H' D = some (.lst (((varsIn ts).take i).map fun x => V.bl (!decide (x ∈ varsIn (tails ps)))))) ⟨same_new nD, upd_same⟩ (fun i H' _ y => SqL.of (y.1 _ _ e2)) ?_ ?_
      · rintro i x H3 hi ⟨s3, e3⟩
        obtain ⟨z, hz2, rfl⟩ := at_map hi
        refine ⟨rfl, _, rfl, _, rfl, p1, _, rfl, .inl (SqL.of (s3 _ _ e12)), rfl, flat_strs _, ?_⟩
        rw [inV_strs]
        refine ⟨_, e3, ?_, same_put s3 nD, ?_⟩
        · rw [List.length_map, List.length_take]
          have := varsIn_len ts
          exact Nat.lt_of_le_of_lt (by omega : _ ≤ 5000) (by decide)
        · rw [upd_same, take_one hz2, List.map_append] <;> rfl
      · rintro H3 ⟨s3, e3⟩
        rw [List.length_map, List.take_length] at e3
        refine ⟨D, (varsIn ts).map fun x => !decide (x ∈ varsIn (tails ps)), rfl, SqL.of (by rw [e3, List.map_map] <;> rfl), ?_⟩
        rw [List.any_map]
        exact q H3 ((sm1.trans sm2).trans s3)
end
end Nv
set_option maxHeartbeats 4000000
namespace Nv
open PySem PySem.Spec PyProof.Rows
theorem str_at : ∀ {us : List Value} {zs : List Str}, StrsAre us zs → ∀ {j : Nat} {u : Value}, us[j]? = some u → ∃ (z : Str) (t : Tok), zs[j]? = some z ∧ u = .str z t
  | _, _, .nil, j, u, h => by cases j <;> cases h
  | _, _, .cons z t r, 0, u, h => by
    cases h
    exact ⟨z, t, rfl, rfl⟩
  | _, _, .cons z t r, j + 1, u, h => str_at r (j := j) (by simpa using h)
end Nv
set_option maxHeartbeats 4000000
namespace Nv
open PySem PySem.Spec PyProof.Rows
section
variable {prog : Program} {w : World} {A : Around} {E : Value → Shared → Prop} {s : Shared}
/-- the empty set, as it is laid -/
abbrev freshSet (led : Bool) : Obj := { cls := .type "set", dict := none, data := .set #[] 0 (.fresh 0 0 led) }
end
end Nv
set_option maxHeartbeats 4000000
set_option maxHeartbeats 4000000
namespace Nv
open PySem PySem.Spec PyProof.Rows L2
/-! # sets of tuples of texts -/
/-- the tuple at a has the texts k -/
abbrev TupTx (P : Program) (w : World) (h : Heap) (k : List Str) (a : Addr) : Prop := IsTupleKey (PySem.strKind P w) h k a
abbrev hTx (P : Program) (w : World) (k : List Str) : Int := tupleKeyHash (PySem.strKind P w) k
section
variable {P : Program} {w : World} {A : Around} {E : Value → Shared → Prop} {s : Shared}
theorem tx_shape {k : Str} {v : Value} (h : (PySem.strKind P w).is k v = true) : ∃ t, v = .str k t := by
  cases v <;> simp [PySem.strKind, Value.isStrOf] at h
  exact ⟨_, by rw [h]⟩
theorem tx_items {k : List Str} {vs : List Value} (h : ItemsAre (PySem.strKind P w) k vs) : ∀ v ∈ vs, ∃ z t, v = Value.str z t := by
  induction h with
  | nil => exact fun v hv => nomatch hv
  | cons h1 _ ih =>
    intro v hv
    rcases List.mem_cons.mp hv with rfl | hv
    · obtain ⟨t, e⟩ := tx_shape h1
      exact ⟨_, t, e⟩
    · exact ih v hv
theorem cls_str (n : Nat) (z : Str) (t : Tok) : ofAClassStatement n (.str z t) = pure false := by
  cases n <;> rfl
theorem hv_str (n : Nat) (z : Str) (t : Tok) : hashByValue n (.str z t) = pure false := by
  unfold hashByValue
  rfl
/-- neither its class nor its hash is of a class statement -/
theorem cls_tx {k : List Str} {b : Addr} {Q : Bool → Shared → Prop} (hk : TupTx P w s.heap k b) (h : Q false s) : wpAny (model P w) A (ofAClassStatement 8 (.ref b)) Q E s := by
  have ty := hk.typeIs
  obtain ⟨o, its, n, ho, _, hd, hi⟩ := hk
  unfold ofAClassStatement
  refine wpAny_bind (wpAny_typeOf ty ?_)
  dsimp only
  have e : (("tuple" : String) == "tuple") = true := by decide
  simp only [e, if_true, Bool.not_true, Bool.false_eq_true, if_false]
  try refine wpAny_bind (wpAny_pure ?_)
  try simp only [Bool.not_true, Bool.false_eq_true, if_false]
  show wpAny _ _ (seqItems? (.ref b) >>= _) _ _ s
  refine wpAny_bind (wpAny_seqItems ho hd ?_)
  dsimp only
  refine wpAny_bind ?_
  show wpAny _ _ (forIn its _ _) _ _ s
  rw [← Array.forIn_toList]
  refine wpAny_forIn_list _ (fun rest r s' => r.1 = none ∧ s' = s ∧ ∀ v ∈ rest, ∃ z t, v = Value.str z t) _ ?_ ?_ _ _ ⟨rfl, rfl, tx_items hi⟩
  · rintro v rest r s' ⟨_, rfl, all⟩
    obtain ⟨z, t, rfl⟩ := all v List.mem_cons_self
    rw [cls_str]
    refine wpAny_bind (wpAny_pure ?_)
    simp only [Bool.false_eq_true, if_false]
    exact wpAny_pure ⟨rfl, rfl, fun u hu => all u (List.mem_cons_of_mem _ hu)⟩
  · rintro ⟨r1, r2⟩ s' ⟨hr, rfl, _⟩
    simp only at hr
    subst hr
    exact wpAny_pure h
theorem hv_tx {k : List Str} {b : Addr} {Q : Bool → Shared → Prop} (hk : TupTx P w s.heap k b) (h : ∀ y, Q y s) : wpAny (model P w) A (hashByValue 8 (.ref b)) Q E s := by
  have ty := hk.typeIs
  obtain ⟨o, its, n, ho, _, hd, hi⟩ := hk
  unfold hashByValue
  refine wpAny_bind (wpAny_specialOf ty F.slot_tuple_hash.lookup ?_)
  show wpAny _ _ (seqItems? (.ref b) >>= _) _ _ s
  refine wpAny_bind (wpAny_seqItems ho hd ?_)
  refine wpAny_bind ?_
  show wpAny _ _ (forIn its _ _) _ _ s
  rw [← Array.forIn_toList]
  refine wpAny_forIn_list _ (fun rest r s' => r.1 = none ∧ s' = s ∧ ∀ v ∈ rest, ∃ z t, v = Value.str z t) _ ?_ ?_ _ _ ⟨rfl, rfl, tx_items hi⟩
  · rintro v rest r s' ⟨_, rfl, all⟩
    obtain ⟨z, t, rfl⟩ := all v List.mem_cons_self
    rw [hv_str]
    refine wpAny_bind (wpAny_pure ?_)
    simp only [Bool.not_false, if_true]
    exact wpAny_pure (wpAny_pure (h false))
  · rintro ⟨r1, r2⟩ s' ⟨hr, rfl, _⟩
    simp only at hr
    subst hr
    exact wpAny_pure (h true)
/-- to look for a tuple among tuples shows nothing -/
theorem dark_tx {k : List Str} {b : Addr} {Q : Bool → Shared → Prop} (hk : TupTx P w s.heap k b) {ys : List Value} (hy : ∀ y ∈ ys, ∃ z c, y = Value.ref c ∧ TupTx P w s.heap z c) (h : Q false s) :
    wpAny (model P w) A (searchCouldBeSeen (.ref b) ys) Q E s := by
  unfold searchCouldBeSeen
  refine wpAny_bind ?_
  refine wpAny_forIn_list _ (fun rest r s' => r.1 = none ∧ s' = s ∧ ∀ y ∈ rest, ∃ z c, y = Value.ref c ∧ TupTx P w s.heap z c) _ ?_ ?_ _ _ ⟨rfl, rfl, hy⟩
  · rintro v rest r s' ⟨_, rfl, all⟩
    obtain ⟨z, c, rfl, hc⟩ := all v List.mem_cons_self
    have all' : ∀ y ∈ rest, ∃ z c, y = Value.ref c ∧ TupTx P w s'.heap z c := fun u hu => all u (List.mem_cons_of_mem _ hu)
    dsimp only
    by_cases hv : (b == c || (carriedByValue (.ref b) && carriedByValue (.ref c))) = true
    · exact wp_if_pos hv (wpAny_pure ⟨rfl, rfl, all'⟩)
    · refine wp_if_neg hv ?_
      refine wpAny_bind (wpAny_eqIsQuiet_tuple hk ?_)
      simp only [Bool.not_true, Bool.false_eq_true, if_false]
      refine wpAny_bind (wpAny_eqIsQuiet_tuple hc ?_)
      simp only [Bool.not_true, Bool.false_eq_true, if_false]
      refine wpAny_bind (cls_tx hk ?_)
      simp only [Bool.false_eq_true, if_false]
      refine wpAny_bind (cls_tx hc ?_)
      simp only [Bool.false_eq_true, if_false]
      exact wpAny_pure ⟨rfl, rfl, all'⟩
  · rintro ⟨r1, r2⟩ s' ⟨hr, rfl, _⟩
    simp only at hr
    subst hr
    exact wpAny_pure h
end
end Nv
set_option maxHeartbeats 4000000
namespace Nv
open PySem PySem.Spec PyProof.Rows L2
/-- the c-th step of the way of a hash -/
abbrev stp (m : Nat) (h : Int) (c : Nat) : SetTable.Probe := nth m (runAt m (SetTable.bits h % (m + 1)) (SetTable.bits h)) c
theorem stp_add {m : Nat} {h : Int} (c q : Nat) : nth m (stp m h c) q = stp m h (c + q) := (nth_add m c _ q).symm
theorem nth_dummy {m : Nat} : ∀ (c : Nat) {p : SetTable.Probe}, p.dummy = none → (nth m p c).dummy = none
  | 0, _, h => h
  | c + 1, p, h => nth_dummy c (p := adv m p) (by unfold adv; split <;> exact h)
/-- the set at a: its tuples L, in the table's order -/
structure TxSet (P : Program) (w : World) (h : Heap) (a : Addr) (L : List (Addr × List Str)) (es : Array (Int × Value)) (ep : Nat) (t : SetTable) : Prop where
  ob : ∃ o, h.get? a = some o ∧ o.ExactSet ∧ o.data = .set es ep t
  rows : es.toList = L.map fun p => (hTx P w p.2, Value.ref p.1)
  tab : TabOk t (L.map fun p => hTx P w p.2)
  nd : (L.map (·.2)).Nodup
  tup : ∀ p ∈ L, TupTx P w h p.2 p.1
  room : L.length * 5 < t.mask * 3
  few : L.length < 64
section
variable {P : Program} {w : World} {A : Around} {E : Value → Shared → Prop} {s : Shared}
variable {a : Addr} {L : List (Addr × List Str)} {es : Array (Int × Value)} {ep : Nat} {t : SetTable}
theorem rows_size {L : List (Addr × List Str)} {es : Array (Int × Value)} (h : es.toList = L.map fun p => (hTx P w p.2, Value.ref p.1)) : es.size = L.length := by
  rw [← Array.length_toList, h, List.length_map]
theorem rows_at {L : List (Addr × List Str)} {es : Array (Int × Value)} (h : es.toList = L.map fun p => (hTx P w p.2, Value.ref p.1)) {i : Nat} {p : Addr × List Str} (e : L[i]? = some p) : es[i]? = some (hTx P w p.2, Value.ref p.1) := by
  rw [← Array.getElem?_toList, h, List.getElem?_map, e] <;> rfl
theorem fits_of (hs : t.place.size = es.size) (dm : t.dummies = #[]) (hl : es.size ≤ t.mask) : t.fits es.size = true := by
  unfold SetTable.fits SetTable.fill
  rw [dm, Bool.and_eq_true, beq_iff_eq, decide_eq_true_eq]
  show t.place.size = es.size ∧ t.place.size + 0 ≤ t.mask
  omega
theorem TxSet.psz (R : TxSet P w s.heap a L es ep t) : t.place.size = es.size := by
  have h1 := R.tab.sz
  rw [List.length_map] at h1
  rw [h1, rows_size R.rows]
theorem TxSet.fits (R : TxSet P w s.heap a L es ep t) : t.fits es.size = true := fits_of R.psz R.tab.dm (by have h1 := rows_size R.rows; have h2 := R.room; omega)
theorem same_mem (t : SetTable) : t.sameMemory t.moves t.mask = some true := by
  unfold SetTable.sameMemory
  exact if_pos (beq_self_eq_true _)
theorem seek (R : TxSet P w s.heap a L es ep t) {x : Addr} {k : List Str} (hx : TupTx P w s.heap k x) (hu : A.units < cLine) {K : Nat} (hf : K < 10 * SetTable.turns t.mask)
    (free : way t.mask (hTx P w k) K ∉ t.place.toList) (full : ∀ c, c < K → way t.mask (hTx P w k) c ∈ t.place.toList) {Q : SetFound → Shared → Prop} (yes : k ∈ L.map (·.2) → Q (.there none) s)
    (no : k ∉ L.map (·.2) → Q (.free (way t.mask (hTx P w k) K) false) s) : ∀ (f c : Nat) (st : Option SetTable.Probe), st.getD (t.probeStart (hTx P w k)) = stp t.mask (hTx P w k) c → c ≤ K → K - c < f →
      (∀ (i : Nat) p, L[i]? = some p → p.2 = k → ∃ c', c ≤ c' ∧ c' < K ∧ t.place.toList[i]? = some (way t.mask (hTx P w k) c')) → wpAny (model P w) A (setSearchFrom a (.ref x) (hTx P w k) true f st) Q E s := by
  obtain ⟨o, ho, _, hd⟩ := R.ob
  intro f
  induction f with
  | zero => exact fun c st _ _ h _ => absurd h (Nat.not_lt_zero _)
  | succ f ih =>
    intro c st hst hc hl ahead
    rw [setSearchFrom_succ]
    refine wpAny_bind (wpAny_setState_of ho hd R.fits ?_)
    dsimp only
    refine wp_if_neg (by unfold SetTable.gaveWay; rw [mask_odd R.tab.mok]; decide) ?_
    try refine wpAny_bind (wpAny_pure ?_)
    have wy : ∀ q, (nth t.mask (stp t.mask (hTx P w k) c) q).j = way t.mask (hTx P w k) (c + q) := fun q => congrArg SetTable.Probe.j (stp_add c q)
    have hsh : ∀ (i : Nat) p, L[i]? = some p → (es[i]?.map (·.1)).getD 0 = hTx P w p.2 := fun i p hp => by
      rw [rows_at R.rows hp] <;> rfl
    have kc : c + (K - c) = K := by omega
    rcases go_spec t R.tab.ris R.tab.dm (fun i => (es[i]?.map (·.1)).getD 0) (hTx P w k) (10 * SetTable.turns t.mask) (K - c) (stp t.mask (hTx P w k) c) (nth_dummy c rfl) (by omega)
      (fun q hq => by rw [wy]; exact full _ (by omega)) (by rw [wy, kc]; exact free) with ⟨q, i, hq, hi, hh, hno, hp⟩ | ⟨hno, hp⟩
    · have hp' : t.probe (fun i => (es[i]?.map (·.1)).getD 0) (hTx P w k) (st.getD (t.probeStart (hTx P w k))) = some (.candidate (way t.mask (hTx P w k) (c + q)) i (stp t.mask (hTx P w k) (c + (q + 1)))) := by
        rw [hst, ← wy, ← stp_add]
        exact hp
      rw [hp']
      dsimp only
      rw [wy] at hi
      have il : i < L.length := by
        have h1 := (List.getElem?_eq_some_iff.mp hi).1
        rw [Array.length_toList, R.psz, rows_size R.rows] at h1
        exact h1
      obtain ⟨p, hL⟩ : ∃ p, L[i]? = some p := ⟨_, List.getElem?_eq_getElem il⟩
      have mem := List.mem_of_getElem? hL
      have tp := R.tup p mem
      have rest : wpAny (model P w) A (searchRest a (.ref x) (hTx P w k) true f es t (way t.mask (hTx P w k) (c + q)) i (stp t.mask (hTx P w k) (c + (q + 1)))) Q E s := by
        unfold searchRest
        rw [rows_at R.rows hL]
        dsimp only
        refine wpAny_bind (wpAny_holding (wpAny_eqBool_tuple hu tp hx ?_))
        refine wpAny_bind (wpAny_setState_of ho hd R.fits ?_)
        dsimp only
        by_cases e : p.2 = k
        · exact wp_if_pos (by simp [e]) (wpAny_pure (yes (List.mem_map.mpr ⟨p, mem, e⟩)))
        · refine wp_if_neg (by simp [e]) ?_
          try refine wpAny_bind (wpAny_pure ?_)
          rw [same_mem]
          dsimp only
          have sl := slot_live R.tab.ris hi
          simp only [if_true, sl, rows_at R.rows hL]
          refine wpAny_bind (wpAny_isSame_ref_self (wpAny_bind (wpAny_pure ?_)))
          simp only [if_true]
          refine wp_if_neg (by simp [e]) (ih (c + (q + 1)) _ rfl (by omega) (by omega) fun i0 p0 h0 e0 => ?_)
          obtain ⟨c', l1, l2, l3⟩ := ahead i0 p0 h0 e0
          refine ⟨c', ?_, l2, l3⟩
          rcases Nat.lt_trichotomy c' (c + q) with z | z | z
          · exact absurd ((hsh i0 p0 h0).trans (by rw [e0])) (hno (c' - c) i0 (by omega) (by rw [wy, show c + (c' - c) = c' by omega]; exact l3))
          · rw [z] at l3
            have s0 := slot_live R.tab.ris l3
            rw [sl] at s0
            injection s0 with s0
            rw [← s0, hL] at h0
            exact absurd ((congrArg Prod.snd (Option.some.inj h0)).trans e0) e
          · omega
      by_cases hl : t.led = true
      · refine wp_if_neg (by simp [hl]) ?_
        try refine wpAny_bind (wpAny_pure ?_)
        exact rest
      · refine wp_if_pos (by simp [hl]) (wpAny_bind (dark_tx hx (fun y hy => ?_) ?_))
        · obtain ⟨e, he, rfl⟩ := List.mem_map.mp hy
          have he1 : e ∈ es ∧ e.1 = hTx P w k := by simpa using he
          have he2 : e ∈ es.toList := by simpa using he1.1
          rw [R.rows] at he2
          obtain ⟨p2, m2, rfl⟩ := List.mem_map.mp he2
          exact ⟨p2.2, p2.1, rfl, R.tup p2 m2⟩
        · refine wp_if_neg (by decide) ?_
          try refine wpAny_bind (wpAny_pure ?_)
          exact rest
    · have hp' : t.probe (fun i => (es[i]?.map (·.1)).getD 0) (hTx P w k) (st.getD (t.probeStart (hTx P w k))) = some (.empty (way t.mask (hTx P w k) K) none) := by
        have e2 : way t.mask (hTx P w k) K = (nth t.mask (stp t.mask (hTx P w k) c) (K - c)).j := by
          rw [wy, kc]
        rw [hst, e2]
        exact hp
      rw [hp']
      dsimp only
      refine wpAny_pure (no fun hm => ?_)
      obtain ⟨p0, h0, e0⟩ := List.mem_map.mp hm
      obtain ⟨i0, h0⟩ := List.getElem?_of_mem h0
      obtain ⟨c', l1, l2, l3⟩ := ahead i0 p0 h0 e0
      exact absurd ((hsh i0 p0 h0).trans (by rw [e0])) (hno (c' - c) i0 (by omega) (by rw [wy, show c + (c' - c) = c' by omega]; exact l3))
theorem seek_add (R : TxSet P w s.heap a L es ep t) {x : Addr} {k : List Str} (hx : TupTx P w s.heap k x) (hu : A.units < cLine) {Q : SetFound → Shared → Prop} (yes : k ∈ L.map (·.2) → Q (.there none) s)
    (no : ∀ K, k ∉ L.map (·.2) → way t.mask (hTx P w k) K ∉ t.place.toList → (∀ c, c < K → way t.mask (hTx P w k) c ∈ t.place.toList) → Q (.free (way t.mask (hTx P w k) K) false) s) :
    wpAny (model P w) A (setSearch a (.ref x) (hTx P w k) true) Q E s := by
  obtain ⟨K, hK, free, full⟩ := R.tab.first (by rw [List.length_map]; have := R.room; omega) (hTx P w k)
  have small : 10 * SetTable.turns t.mask ≤ 1420 := by
    unfold SetTable.turns
    rcases R.tab.mok with e | e | e <;> omega
  unfold setSearch
  refine seek R hx hu hK free full yes (fun hn => no K hn free full) 100000 0 none rfl (Nat.zero_le _) (by omega) fun i p hp e => ?_
  have il : i < t.place.toList.length := by
    rw [Array.length_toList, R.psz, rows_size R.rows]
    exact (List.getElem?_eq_some_iff.mp hp).1
  have hj := List.getElem?_eq_getElem il
  obtain ⟨c, hc, e2⟩ := R.tab.before (i := i) (h := hTx P w k) free (by rw [List.getElem?_map, hp, ← e] <;> rfl) hj
  exact ⟨c, Nat.zero_le _, hc, by rw [hj, e2]⟩
end
end Nv
set_option maxHeartbeats 4000000
namespace Nv
open PySem PySem.Spec PyProof.Rows L2
section
variable {α β : Type}
theorem picks_map {L : List α} {g : α → β} {d : β} : ∀ {l : List Nat}, (∀ i ∈ l, i < L.length) → (l.filterMap fun i => L[i]?).map g = l.map fun i => ((L.map g)[i]?).getD d
  | [], _ => rfl
  | i :: l, h => by
    have hi := h i List.mem_cons_self
    rw [List.filterMap_cons_some (List.getElem?_eq_getElem hi), List.map_cons, List.map_cons, picks_map fun j hj => h j (List.mem_cons_of_mem _ hj), List.getElem?_map, List.getElem?_eq_getElem hi] <;> rfl
theorem picks_all (L : List α) : ((List.range L.length).filterMap fun i => L[i]?) = L := by
  refine List.ext_getElem? fun j => ?_
  have key : ∀ n, n ≤ L.length → ((List.range n).filterMap fun i => L[i]?) = L.take n := by
    intro n
    induction n with
    | zero => exact fun _ => rfl
    | succ n ih =>
      intro hn
      rw [List.range_succ, List.filterMap_append, ih (Nat.le_of_lt hn), List.take_succ, List.filterMap_cons_some (List.getElem?_eq_getElem hn), List.getElem?_eq_getElem hn] <;> rfl
  rw [key _ (Nat.le_refl _), List.take_length]
theorem perm_into (L : List α) (p : Nat) (x : α) : (L.take p ++ x :: L.drop p).Perm (x :: L) := by
  have h : (L.take p ++ x :: L.drop p).Perm (x :: (L.take p ++ L.drop p)) := List.perm_middle
  rwa [List.take_append_drop] at h
end
section
variable {P : Program} {w : World} {A : Around} {E : Value → Shared → Prop} {s : Shared}
variable {a : Addr} {L : List (Addr × List Str)} {es : Array (Int × Value)} {ep : Nat} {t : SetTable}
abbrev rowTx (P : Program) (w : World) (p : Addr × List Str) : Int × Value := (hTx P w p.2, Value.ref p.1)
theorem tx_other {h h' : Heap} {k : List Str} {a b : Addr} {o : Obj} {es : Array (Int × Value)} {ep : Nat} {t : SetTable} (hb : TupTx P w h k b) (ho : h.get? a = some o) (hd : o.data = .set es ep t) (hs : Heap.SameBut a h h') : TupTx P w h' k b := by
  obtain ⟨o2, its, n, ho2, hc, hd2, hi⟩ := hb
  refine ⟨o2, its, n, (hs.2 b fun e => ?_).trans ho2, hc, hd2, hi⟩
  subst e
  obtain rfl := Option.some.inj (ho2.symm.trans ho)
  rw [hd] at hd2
  cases hd2
/-- what the table is laid anew of -/
theorem reorder {es : Array (Int × Value)} {order : Array Nat} (hr : es.toList = L.map (rowTx P w)) (hp : order.toList.Perm (List.range L.length)) :
    ∃ L2 : List (Addr × List Str), (order.filterMap (es[·]?)).toList = L2.map (rowTx P w) ∧ L2.Perm L ∧ (L2.map fun p => hTx P w p.2) = order.toList.map fun i => (es.map (·.1)).getD i 0 := by
  have lt : ∀ i ∈ order.toList, i < L.length := fun i hi => List.mem_range.mp (hp.mem_iff.mp hi)
  refine ⟨order.toList.filterMap fun i => L[i]?, ?_, ?_, ?_⟩
  · rw [List.map_filterMap, Array.toList_filterMap]
    refine congrArg (fun f => List.filterMap f order.toList) (funext fun i => ?_)
    rw [← Array.getElem?_toList, hr, List.getElem?_map]
  · have h := hp.filterMap fun i => L[i]?
    rwa [picks_all] at h
  · rw [picks_map (d := 0) lt]
    refine congrArg (fun f => List.map f order.toList) (funext fun i => ?_)
    rw [Array.getD_eq_getD_getElem?, Array.getElem?_map, ← Array.getElem?_toList, hr, List.getElem?_map, List.getElem?_map, Option.map_map] <;> rfl
theorem relay_tx {o : Obj} (ho : s.heap.get? a = some o) (hex : o.ExactSet) (hd : o.data = .set es ep t) (hr : es.toList = L.map (rowTx P w)) (hsz : t.place.size = es.size) (dm : t.dummies = #[]) (hl : es.size ≤ t.mask) (nd : (L.map (·.2)).Nodup)
    (tup : ∀ p ∈ L, TupTx P w s.heap p.2 p.1) (few : L.length < 64) {wanted M : Nat} (hw : SetTable.sizeAbove wanted - 1 = M) (hM : MaskOk M) (h128 : SetTable.sizeAbove wanted ≤ 128) (room : L.length * 5 < M * 3) {Q : Unit → Shared → Prop}
    (q : ∀ h' L' es' ep' t', Heap.SameBut a s.heap h' → TxSet P w h' a L' es' ep' t' → L'.Perm L → Q () { s with heap := h' }) : wpAny (model P w) A (setRelay a wanted) Q E s := by
  have sz := rows_size hr
  obtain ⟨t', order, e, hp, T, em, _, _, _⟩ := relaid_ok t (hs := es.map (·.1)) (wanted := wanted) hw hM (by rw [Array.size_map, sz]; omega)
  rw [Array.size_map, sz] at hp
  obtain ⟨L2, r1, r2, r3⟩ := reorder hr hp
  rw [← r3] at T
  have sz2 : (order.filterMap (es[·]?)).size = es.size := by rw [rows_size r1, r2.length_eq, sz]
  rw [setRelay_eq]
  refine wpAny_bind (wpAny_setState_of ho hd (fits_of hsz dm hl) ?_)
  dsimp only
  refine wp_if_neg (by rw [sizeLine_eq]; omega) ?_
  try refine wpAny_bind (wpAny_pure ?_)
  rw [e]
  dsimp only
  refine wpAny_bind ?_
  refine wp_if_neg (by rw [sz2]; simp) ?_
  try refine wpAny_bind (wpAny_pure ?_)
  refine wpAny_pure ?_
  dsimp only
  refine wpAny_storeSet_of ho hd ?_ (by rw [sz2, sz, sizeLine_eq]; omega)
  have sb : Heap.SameBut a s.heap (s.heap.update a (Obj.putSet (order.filterMap (es[·]?)) t')) := Heap.SameBut.update ..
  exact q _ L2 _ (ep + 1) t' sb ⟨⟨_, store_at ho hd, ⟨hex.1, hex.2.1, hex.2.2⟩, rfl⟩, r1, T, (r2.map (·.2)).nodup_iff.mpr nd, fun p hm => tx_other (tup p (r2.mem_iff.mp hm)) ho hd sb, by rw [r2.length_eq, em]; exact room, by rw [r2.length_eq]; exact few⟩ r2
theorem add_tx (R : TxSet P w s.heap a L es ep t) {x : Addr} {k : List Str} (hx : TupTx P w s.heap k x) (hu : A.units < cLine) (few : L.length + 1 < 64) {Q : Bool → Shared → Prop}
    (q : ∀ b h' L' es' ep' t', Heap.SameBut a s.heap h' → TxSet P w h' a L' es' ep' t' → (k ∈ L.map (·.2) → L' = L) → (k ∉ L.map (·.2) → L'.Perm ((x, k) :: L)) → Q b { s with heap := h' }) :
    wpAny (model P w) A (setAddHashed a (.ref x) (hTx P w k)) Q E s := by
  obtain ⟨o, ho, hex, hd⟩ := R.ob
  have sz := rows_size R.rows
  have room := R.room
  unfold setAddHashed
  refine wpAny_holding ?_
  rw [show (100000 : Nat) = 99999 + 1 from rfl, setAddHashedIn_succ]
  refine wpAny_bind (wpAny_setState_of ho hd R.fits ?_)
  dsimp only
  refine wp_if_neg (by simp [byScan, Value.scannable]) ?_
  try refine wpAny_bind (wpAny_pure ?_)
  refine wpAny_bind (seek_add R hx hu (fun hm => ?_) fun K hm free full => ?_)
  · dsimp only
    exact wpAny_pure (q false s.heap L es ep t (Heap.SameBut.refl a s.heap) R (fun _ => rfl) fun z => absurd hm z)
  dsimp only
  refine wpAny_bind (wpAny_setState_of ho hd R.fits ?_)
  dsimp only
  obtain ⟨q1, _, q3, q4, _, _, _, _, q9⟩ := R.tab.put free full
  generalize hpt : t.put (way t.mask (hTx P w k) K) = pt at q1 q3 q4 q9 ⊢
  obtain ⟨t1, p⟩ := pt
  dsimp only at q1 q3 q4 q9 ⊢
  subst q1
  have go : ∀ t2 : SetTable, t2.place = t1.place → t2.dummies = t1.dummies → t2.mask = t1.mask → wpAny (model P w) A (do
      storeSet a (SetTable.insertAt es (SetTable.below t.place (way t.mask (hTx P w k) K)) (hTx P w k, Value.ref x)) t2
      if (!false && t2.tooFull) = true then setRelay a (SetTable.grown (es.size + 1))
      return true) Q E s := by
    intro t2 e1 e2 e3
    have hin : (SetTable.insertAt es (SetTable.below t.place (way t.mask (hTx P w k) K)) (hTx P w k, Value.ref x)).toList = (L.take (SetTable.below t.place (way t.mask (hTx P w k) K)) ++ (x, k) :: L.drop (SetTable.below t.place (way t.mask (hTx P w k) K))).map (rowTx P w) := by
      rw [SetTable.toList_insertAt, R.rows, List.map_append, List.map_cons, List.map_take, List.map_drop]
    have hhs : (L.take (SetTable.below t.place (way t.mask (hTx P w k) K)) ++ (x, k) :: L.drop (SetTable.below t.place (way t.mask (hTx P w k) K))).map (fun p => hTx P w p.2) =
        (L.map fun p => hTx P w p.2).take (SetTable.below t.place (way t.mask (hTx P w k) K)) ++ hTx P w k :: (L.map fun p => hTx P w p.2).drop (SetTable.below t.place (way t.mask (hTx P w k) K)) := by
      rw [List.map_append, List.map_cons, List.map_take, List.map_drop]
    rw [← hhs] at q3
    have pm := perm_into L (SetTable.below t.place (way t.mask (hTx P w k) K)) (x, k)
    generalize L.take (SetTable.below t.place (way t.mask (hTx P w k) K)) ++ (x, k) :: L.drop (SetTable.below t.place (way t.mask (hTx P w k) K)) = L1 at pm q3 hin
    generalize SetTable.insertAt es (SetTable.below t.place (way t.mask (hTx P w k) K)) (hTx P w k, Value.ref x) = es1 at hin ⊢
    have hlen : L1.length = L.length + 1 := pm.length_eq
    have hes : es1.size = L.length + 1 := by rw [rows_size hin, hlen]
    have nd1 : (L1.map (·.2)).Nodup := (pm.map (·.2)).nodup_iff.mpr (List.nodup_cons.mpr ⟨hm, R.nd⟩)
    have q3' : TabOk t2 (L1.map fun p => hTx P w p.2) := by
      refine ⟨by rw [e1]; exact q3.ris, by rw [e2]; exact q3.dm, by rw [e1]; exact q3.sz, by rw [e3]; exact q3.mok, fun y hy => by rw [e3]; rw [e1] at hy; exact q3.bd y hy, fun i h j h1 h2 => ?_⟩
      rw [e1] at h2 ⊢
      rw [e3]
      exact q3.reach i h j h1 h2
    refine wpAny_bind (wpAny_storeSet_of ho hd ?_ (by rw [hes, sizeLine_eq]; omega))
    have sb : Heap.SameBut a s.heap (s.heap.update a (Obj.putSet es1 t2)) := Heap.SameBut.update ..
    have ho1 := store_at (es' := es1) (t' := t2) ho hd
    generalize s.heap.update a (Obj.putSet es1 t2) = h1 at sb ho1 ⊢
    have tup1 : ∀ p ∈ L1, TupTx P w h1 p.2 p.1 := fun p hp => by
      rcases List.mem_cons.mp (pm.mem_iff.mp hp) with rfl | hp
      · exact tx_other hx ho hd sb
      · exact tx_other (R.tup p hp) ho hd sb
    have psz : t2.place.size = es1.size := by
      have h := q3'.sz
      rw [List.length_map] at h
      rw [h, hes, hlen]
    have fill : t2.fill = L.length + 1 := by
      unfold SetTable.fill
      rw [psz, q3'.dm, hes]
      rfl
    have ful : t2.tooFull = decide ((L.length + 1) * 5 ≥ t.mask * 3) := by
      unfold SetTable.tooFull
      rw [fill, e3, q4]
    by_cases hf : (L.length + 1) * 5 ≥ t.mask * 3
    · have hf2 : t2.tooFull = true := by rw [ful]; exact decide_eq_true hf
      first
        | (refine wpAny_bind ?_; refine wp_if_pos (by simp [hf2]) ?_)
        | (refine wp_if_pos (by simp [hf2]) ?_; refine wpAny_bind ?_)
      rw [sz]
      have two : (t.mask = 7 ∧ L.length = 4) ∨ (t.mask = 31 ∧ L.length = 18) := by
        rcases R.tab.mok with e | e | e
        · left; rw [e] at hf room; exact ⟨e, by omega⟩
        · right; rw [e] at hf room; exact ⟨e, by omega⟩
        · exfalso; rw [e] at hf; omega
      have lay : ∀ M, SetTable.sizeAbove (SetTable.grown (L.length + 1)) - 1 = M → MaskOk M → SetTable.sizeAbove (SetTable.grown (L.length + 1)) ≤ 128 → (L.length + 1) * 5 < M * 3 →
          wpAny (model P w) A (setRelay a (SetTable.grown (L.length + 1))) (fun _ s' => wpAny (model P w) A (pure true) Q E s') E { s with heap := h1 } := fun M m1 m2 m3 m4 => by
        refine relay_tx (s := { s with heap := h1 }) ho1 ⟨hex.1, hex.2.1, hex.2.2⟩ rfl hin psz q3'.dm (by rw [hes, e3, q4]; rcases two with ⟨z, z2⟩ | ⟨z, z2⟩ <;> omega) nd1 tup1 (by rw [hlen]; exact few) m1 m2 m3 (by rw [hlen]; exact m4) ?_
        intro h2 L2 es2 ep2 t3 sb2 R2 pm2
        exact wpAny_pure (q true h2 L2 es2 ep2 t3 (sb.trans sb2) R2 (fun z => absurd z hm) fun _ => pm2.trans pm)
      rcases two with ⟨_, z⟩ | ⟨_, z⟩
      · exact lay 31 (by rw [z, size_20]) (.inr (.inl rfl)) (by rw [z, size_20]; decide) (by omega)
      · exact lay 127 (by rw [z, size_76]) (.inr (.inr rfl)) (by rw [z, size_76]; decide) (by omega)
    · have hf2 : t2.tooFull = false := by rw [ful]; exact decide_eq_false hf
      first
        | refine wp_if_neg (by simp [hf2]) ?_
        | (refine wpAny_bind ?_; refine wp_if_neg (by simp [hf2]) ?_; refine wpAny_pure ?_)
      exact wpAny_pure (q true h1 L1 es1 (ep + 1) t2 sb ⟨⟨_, ho1, ⟨hex.1, hex.2.1, hex.2.2⟩, rfl⟩, hin, q3', nd1, tup1, by rw [e3, q4, hlen]; omega, by rw [hlen]; exact few⟩ (fun z => absurd z hm) fun _ => pm)
  by_cases hp1 : t1.plain = true
  · first
      | (refine wpAny_bind ?_; refine wp_if_pos hp1 ?_; refine hv_tx hx fun y => ?_)
      | refine wp_if_pos hp1 (wpAny_bind (hv_tx hx fun y => ?_))
    cases y
    · simp only [Bool.false_eq_true, if_false]
      exact go { t1 with plain := false } rfl rfl rfl
    · simp only [if_true]
      exact go t1 rfl rfl rfl
  · first
      | (refine wpAny_bind ?_; refine wp_if_neg hp1 ?_; refine wpAny_pure ?_)
      | refine wp_if_neg hp1 (wpAny_bind (wpAny_pure ?_))
    simp only [if_true]
    exact go t1 rfl rfl rfl
end
end Nv
set_option maxHeartbeats 4000000
namespace Nv
open PySem PySem.Spec PyProof.Rows L2
/-- what a set has of the first i items -/
structure Has (ks : List (Addr × List Str)) (i : Nat) (L : List (Addr × List Str)) : Prop where
  sub : ∀ p ∈ L, p ∈ ks.take i
  all : ∀ p ∈ ks.take i, p.2 ∈ L.map (·.2)
  len : L.length ≤ i
theorem Has.step {ks L L' : List (Addr × List Str)} {i : Nat} {x : Addr × List Str} (g : Has ks i L) (h : ks[i]? = some x) (c1 : x.2 ∈ L.map (·.2) → L' = L) (c2 : x.2 ∉ L.map (·.2) → L'.Perm (x :: L)) : Has ks (i + 1) L' := by
  have e : ks.take (i + 1) = ks.take i ++ [x] := by rw [List.take_succ, h] <;> rfl
  by_cases m : x.2 ∈ L.map (·.2)
  · rw [c1 m]
    refine ⟨fun p hp => by rw [e]; exact List.mem_append_left _ (g.sub p hp), fun p hp => ?_, Nat.le_succ_of_le g.len⟩
    rw [e] at hp
    rcases List.mem_append.mp hp with z | z
    · exact g.all p z
    · rw [List.mem_singleton.mp z]
      exact m
  · have pm := c2 m
    refine ⟨fun p hp => ?_, fun p hp => ?_, by rw [pm.length_eq]; exact Nat.succ_le_succ g.len⟩
    · rw [e]
      rcases List.mem_cons.mp (pm.mem_iff.mp hp) with rfl | z
      · exact List.mem_append_right _ (List.mem_singleton.mpr rfl)
      · exact List.mem_append_left _ (g.sub p z)
    · rw [(pm.map (·.2)).mem_iff, List.map_cons]
      rw [e] at hp
      rcases List.mem_append.mp hp with z | z
      · exact List.mem_cons_of_mem _ (g.all p z)
      · rw [List.mem_singleton.mp z]
        exact List.mem_cons_self
section
variable {κ : Type} [DecidableEq κ]
theorem pig : ∀ (l D : List κ), l.Nodup → (∀ x ∈ l, x ∈ D) → l.length ≤ D.length
  | [], _, _, _ => Nat.zero_le _
  | x :: l, D, hn, hs => by
    obtain ⟨h1, h2⟩ := List.nodup_cons.mp hn
    have hx := hs x List.mem_cons_self
    have ih := pig l (D.erase x) h2 fun y hy => (List.mem_erase_of_ne (fun e : y = x => h1 (by rw [← e]; exact hy))).2 (hs y (List.mem_cons_of_mem _ hy))
    rw [List.length_erase_of_mem hx] at ih
    have := List.length_pos_of_mem hx
    rw [List.length_cons]
    omega
theorem pig_nd : ∀ (l D : List κ), l.Nodup → (∀ x ∈ l, x ∈ D) → D.length ≤ l.length → D.Nodup
  | [], D, _, _, h => by
    rw [List.length_eq_zero_iff.mp (Nat.le_zero.mp h)]
    exact List.nodup_nil
  | x :: l, D, hn, hs, h => by
    obtain ⟨h1, h2⟩ := List.nodup_cons.mp hn
    have hx := hs x List.mem_cons_self
    have sub : ∀ y ∈ l, y ∈ D.erase x := fun y hy => (List.mem_erase_of_ne (fun e : y = x => h1 (by rw [← e]; exact hy))).2 (hs y (List.mem_cons_of_mem _ hy))
    have len := List.length_erase_of_mem hx
    have pos := List.length_pos_of_mem hx
    rw [List.length_cons] at h
    refine (List.perm_cons_erase hx).nodup_iff.mpr (List.nodup_cons.mpr ⟨fun z => ?_, pig_nd l _ h2 sub (by omega)⟩)
    have := pig (x :: l) (D.erase x) hn fun y hy => by
      rcases List.mem_cons.mp hy with rfl | hy
      · exact z
      · exact sub y hy
    rw [List.length_cons] at this
    omega
end
/-- how many there are -/
theorem Has.count {ks L : List (Addr × List Str)} (g : Has ks ks.length L) (nd : (L.map (·.2)).Nodup) : L.length ≤ ks.length ∧ (L.length = ks.length ↔ (ks.map (·.2)).Nodup) := by
  have sub : ∀ k ∈ L.map (·.2), k ∈ ks.map (·.2) := fun k hk => by
    obtain ⟨p, hp, rfl⟩ := List.mem_map.mp hk
    exact List.mem_map.mpr ⟨p, List.mem_of_mem_take (g.sub p hp), rfl⟩
  have all : ∀ k ∈ ks.map (·.2), k ∈ L.map (·.2) := fun k hk => by
    obtain ⟨p, hp, rfl⟩ := List.mem_map.mp hk
    exact g.all p (by rw [List.take_length]; exact hp)
  refine ⟨g.len, fun e => pig_nd _ _ nd sub (by rw [List.length_map, List.length_map, e]; exact Nat.le_refl _), fun h => Nat.le_antisymm g.len ?_⟩
  have := pig _ _ h all
  rwa [List.length_map, List.length_map] at this
section
variable {prog : Program} {w : World} {A : Around} {R : Result → Shared → Prop} {J : Addr} {fp wr : List Addr} {G : Array GenState → Array GenState → Prop} {n : Nat} {P : Nat → Value → Prop} {St : Nat → Shared → Prop}
theorem TxSet.move {h h' : Heap} {a : Addr} {L : List (Addr × List Str)} {es : Array (Int × Value)} {ep : Nat} {t : SetTable} (S : TxSet prog w h a L es ep t) (ha : ∀ o, h.get? a = some o → h'.get? a = some o) (ht : ∀ p ∈ L, TupTx prog w h' p.2 p.1) : TxSet prog w h' a L es ep t := by
  obtain ⟨o, ho, r⟩ := S.ob
  exact ⟨⟨o, ha o ho, r⟩, S.rows, S.tab, S.nd, ht, S.room, S.few⟩
theorem tx_ext {h h' : Heap} {k : List Str} {b : Addr} (x : TupTx prog w h k b) (e : ∀ c o, h.get? c = some o → h'.get? c = some o) : TupTx prog w h' k b := by
  obtain ⟨o, its, n, ho, r⟩ := x
  exact ⟨o, its, n, e b o ho, r⟩
/-- a set is filled from a walk over tuples of texts -/
theorem fillTx (W : WalksS prog w A.in1 J fp wr G n P St) (b : Addr) (hb : b ∉ fp) (ks : List (Addr × List Str)) (hn : n = ks.length) (few : ks.length < 64) (hP : ∀ i v, P i v → ∃ p, ks[i]? = some p ∧ v = .ref p.1) (h0 : Heap)
    (hk : ∀ p ∈ ks, TupTx prog w h0 p.2 p.1) (nb : h0.get? b = none) (nw : ∀ c ∈ wr, h0.get? c = none) (hu : A.in1.units < cLine) :
    ∀ (k i : Nat) (s : Shared), n - i = k → i ≤ n → St i s → (∀ c o, h0.get? c = some o → s.heap.get? c = some o) → (∃ L es ep t, TxSet prog w s.heap b L es ep t ∧ Has ks i L) →
      (∀ s' L es ep t, Moved (b :: wr) G s s' → TxSet prog w s'.heap b L es ep t → Has ks n L → R (.ok (.ret .none)) s') →
      codeAny (model prog w) A (.builtin "set.update.loop" ⟨[.ref b, .ref J], []⟩) R s := by
  have hbw : b ∉ wr := fun h => hb (W.sub _ h)
  have more : ∀ c ∈ wr, c ∈ b :: wr := fun c hc => List.mem_cons_of_mem _ hc
  have old : ∀ {s s' : Shared}, Moved wr G s s' → (∀ c o, h0.get? c = some o → s.heap.get? c = some o) → ∀ c o, h0.get? c = some o → s'.heap.get? c = some o := fun m e c o z =>
    m.heap c o (fun q => by rw [nw c q] at z; cases z) (e c o z)
  intro k
  induction k with
  | zero =>
    intro i s hk' hi hst e0 ⟨L, es, ep, t, S, g⟩ hR
    obtain rfl : i = n := by omega
    refine codeAny_builtin PyProof.Rows.F.entry_set_update_loop ?_
    rw [Around.under_plainId PyProof.Rows.F.plain_set_update_loop _]
    show wpAny _ A.in1 (pyNext (.ref J) >>= _) _ _ s
    refine wpAny_bind (W.done s _ _ hst fun s1 m1 => ?_)
    show wpAny _ A.in1 (ret Value.none) _ _ s1
    exact wpAny_pure (hR s1 L es ep t (m1.mono more) (S.move (fun o e => m1.heap b o hbw e) fun p hp => tx_ext (hk p (List.mem_of_mem_take (g.sub p hp))) (old m1 e0)) g)
  | succ k ih =>
    intro i s hk' hi hst e0 ⟨L, es, ep, t, S, g⟩ hR
    have lt : i < n := by omega
    refine codeAny_builtin PyProof.Rows.F.entry_set_update_loop ?_
    rw [Around.under_plainId PyProof.Rows.F.plain_set_update_loop _]
    show wpAny _ A.in1 (pyNext (.ref J) >>= _) _ _ s
    refine wpAny_bind (W.item i s _ _ lt hst fun v s1 hPv st1 m1 => ?_)
    obtain ⟨p, hp, rfl⟩ := hP i v hPv
    have e1 := old m1 e0
    have S1 : TxSet prog w s1.heap b L es ep t := S.move (fun o e => m1.heap b o hbw e) fun q hq => tx_ext (hk q (List.mem_of_mem_take (g.sub q hq))) e1
    have hx : TupTx prog w s1.heap p.2 p.1 := tx_ext (hk p (List.mem_of_getElem? hp)) e1
    show wpAny _ A.in1 (holding [Value.ref p.1] (setAdd b (.ref p.1)) >>= _) _ _ s1
    refine wpAny_bind (wpAny_holding ?_)
    unfold setAdd
    refine wpAny_holding (wpAny_bind (wpAny_pyHash_tuple hu hx ?_))
    refine add_tx (s := { s1 with toks := s1.toks + (p.2.length + 1) }) S1 hx hu (by have := g.len; omega) fun y h2 L2 es2 ep2 t2 sb S2 c1 c2 => ?_
    have e2 : ∀ c o, h0.get? c = some o → h2.get? c = some o := fun c o z => (sb.2 c fun q => by rw [q, nb] at z; cases z).trans (e1 c o z)
    refine wpAny_pure ⟨plainId_quiet PyProof.Rows.F.plain_set_update_loop _, ih (i + 1) _ (by omega) lt (W.frame _ s1 _ _ st1 (Nat.le_add_right _ _) fun c hc o e => ?_) e2 ⟨L2, es2, ep2, t2, S2, g.step hp c1 c2⟩ fun s3 L3 es3 ep3 t3 m3 S3 g3 => ?_⟩
    · rw [sb.2 c fun z => hb (z ▸ hc)]
      exact e
    · refine hR s3 L3 es3 ep3 t3 (Moved.trans W.gtrans ((m1.mono more).then_heap (Nat.le_add_right _ _) fun c o hc e => ?_) m3) S3 g3
      rw [sb.2 c fun z => hc (by rw [z]; exact List.mem_cons_self)]
      exact e
end
/-- a new set -/
theorem tx_fresh {prog : Program} {w : World} {h : Heap} {a : Addr} {b : Bool} (ho : h.get? a = some { cls := .type "set", dict := none, data := .set #[] 0 (.fresh 0 0 b) }) : TxSet prog w h a [] #[] 0 (.fresh 0 0 b) where
  ob := ⟨_, ho, ⟨rfl, rfl, rfl⟩, rfl⟩
  rows := rfl
  tab := ⟨List.Pairwise.nil, rfl, rfl, .inl rfl, fun x hx => (by cases hx), fun i h j hi => (by simp at hi)⟩
  nd := List.nodup_nil
  tup := fun p hp => (by cases hp)
  room := by
    show 0 * 5 < 7 * 3
    decide
  few := by
    show 0 < 64
    decide
end Nv
set_option maxHeartbeats 4000000
namespace Nv
open PySem PySem.Spec PyProof.Rows
section
variable {prog : Program} {w : World} {A : Around} {E : Value → Shared → Prop} {s : Shared}
/-- the set at b, of the tuples ks, laid behind all that stood -/
abbrev FilledT (prog : Program) (w : World) (ks : List (Addr × List Str)) (b : Addr) (h0 h1 : Heap) : Prop :=
  (∃ L es ep t, TxSet prog w h1 b L es ep t ∧ Has ks ks.length L) ∧ ∀ c o, c < b → h0.get? c = some o → h1.get? c = some o
/-- set(xs), xs a list of tuples of texts -/
theorem set_of_tx {l : Addr} {its : Array Value} {ks : List (Addr × List Str)} {Q : Value → Shared → Prop} (calm : A.handled = none) (hl : s.heap.IsList l its) (hz : its.toList = ks.map fun p => Value.ref p.1) (hk : ∀ p ∈ ks, TupTx prog w s.heap p.2 p.1) (few : ks.length < 64) (hu : A.units + 3 < cLine)
    (hq : ∀ (h1 : Heap) (tk : Nat), FilledT prog w ks s.heap.objs.size s.heap h1 → Q (.ref s.heap.objs.size) { s with heap := h1, toks := tk }) : wpAny (model prog w) A (call (.type "set") [.ref l]) Q E s := by
  obtain ⟨c, tl, m0⟩ := PySem.F.called_set.mro
  have m1 := PySem.F.called_set.made; have m2 := PySem.F.called_set.sub; have m3 := PySem.F.called_set.notType; have m4 := PySem.F.called_set.canCreate
  have m5 := PySem.F.typeCall_set_1 (.ref l)
  have size : its.size = ks.length := by rw [← Array.length_toList, hz, List.length_map]
  refine wpAny_call (codeAny_of_tree (show wpAny _ _ (callAny (.type "set") _) _ _ _ from wpAny_pure ⟨Code.quiet_builtin _ (by decide +kernel), codeAny_builtin PySem.F.entry_type_call ?_⟩))
  rw [Around.under_plain (weight_type_call_type "set" [.ref l] []) rfl]
  repeat (any_goals (first | assumption | wp_step))
  refine codeAny_mono (code_set_new_1 (.ref l) (E := E) (Q₁ := fun v s1 => ∃ led : Bool, v = .ref s.heap.objs.size ∧ s1 = { s with heap := s.heap.push (freshSet led) }) fun led => ⟨led, rfl, rfl⟩) fun r s1 hr => ?_
  rcases r with e | fl
  · exact hr
  cases fl with
  | ret v =>
    obtain ⟨led, rfl, rfl⟩ := hr
    have at0 : (s.heap.push (freshSet led)).get? s.heap.objs.size = some (freshSet led) := Heap.get?_push_size _ rfl
    have ty : Shared.TypeIs { s with heap := s.heap.push (freshSet led) } (.ref s.heap.objs.size) "set" := ⟨_, at0, rfl⟩
    have i1 := PySem.F.called_set.init.lookup; have i2 := PySem.F.called_set.init.bind (.ref s.heap.objs.size)
    repeat (any_goals (first | assumption | wp_step))
    refine codeAny_mono (codeAny_call_builtin (R := wants (fun v s2 => v = .none ∧ ∃ h1 tk, s2 = { s with heap := h1, toks := tk } ∧ FilledT prog w ks s.heap.objs.size s.heap h1) E) PySem.F.called_set.init.plain PySem.F.entry_set_init (check_set_init_1 ty ?_)) fun r2 s2 hr2 => ?_
    · obtain ⟨⟨oc, od, odt, osl⟩, ho, e1, nl, e2⟩ := hl
      simp only at e1 e2; subst e1; subst e2
      have ho1 : (s.heap.push (freshSet led)).get? l = some { cls := .type "list", dict := od, data := .seq its nl, slots := osl } := Heap.get?_push_of_some _ ho
      have f1 := PySem.F.sub_list_set; have f2 := PySem.F.sub_list_frozenset; have f3 : (Value.type "list" == Value.type "dict") = false := by decide
      have lst : (s.heap.push (freshSet led)).IsList l its := ⟨_, ho1, rfl, nl, rfl⟩
      have lt : l < s.heap.objs.size := Heap.lt_size ho
      unfold Builtin.«set.__init__» noKeywords Builtin.Frozenset.updateFrom; generalize hI : pyIter = PI
      wp_walk; subst hI
      refine wpAny_pyIter_list lst (wpAny_bind (wpAny_runValue ?_))
      have n1 : l ≠ (s.heap.push (freshSet led)).objs.size := by rw [Heap.size_push]; exact Nat.ne_of_lt (Nat.lt_succ_of_lt lt)
      have n2 : s.heap.objs.size ∉ [(s.heap.push (freshSet led)).objs.size, l] := by
        rw [Heap.size_push]; simp only [List.mem_cons, List.not_mem_nil, or_false, not_or]; exact ⟨Nat.ne_of_lt (Nat.lt_succ_self _), Nat.ne_of_gt lt⟩
      have at1 : ((s.heap.push (freshSet led)).push { cls := .type "list_iterator", data := .fields #[.ref l, .int 0 0] }).get? s.heap.objs.size = some (freshSet led) := Heap.get?_push_of_some _ at0
      have fresh : ∀ b, s.heap.objs.size ≤ b → s.heap.get? b = none := fun b hb => by
        cases z : s.heap.get? b with
        | none => rfl
        | some o => exact absurd (Nat.lt_of_lt_of_le (Heap.lt_size z) hb) (Nat.lt_irrefl _)
      refine fillTx ((Walks.list (by simp [calm]) _ l n1 its).toS) s.heap.objs.size n2 ks size few (fun i v hv => ?_) s.heap hk (fresh _ (Nat.le_refl _)) (fun c hc => fresh c ?_) hu (its.size - 0) 0 _ (by omega) (Nat.zero_le _) ⟨⟨_, Heap.get?_push_size _ rfl, rfl, rfl⟩, lst.push _⟩ (fun c o e => Heap.get?_push_of_some _ (Heap.get?_push_of_some _ e)) ⟨[], #[], 0, _, tx_fresh at1, ⟨fun p h => (by cases h), fun p h => (by simp at h), Nat.le_refl _⟩⟩ ?_
      · have q : its.toList[i]? = some v := by rw [Array.getElem?_toList]; exact hv
        rw [hz, List.getElem?_map] at q
        obtain ⟨p, hp, rfl⟩ := Option.map_eq_some_iff.mp q
        exact ⟨p, hp, rfl⟩
      · rw [List.mem_singleton.mp hc, Heap.size_push]
        exact Nat.le_succ _
      · intro s3 L es ep t m S g
        obtain ⟨h3, g3, d3, t3, o3⟩ := s3
        have eg : g3 = s.gens := m.gens; have ed : d3 = s.drawn := m.drawn; have eo : o3 = s.os := m.os
        subst eg; subst ed; subst eo
        rw [size] at g
        refine show wpAny _ _ _ _ _ _ from wpAny_pure (show wpAny _ _ (ret Value.none) _ _ _ from wpAny_pure ⟨rfl, h3, t3, rfl, ⟨L, es, ep, t, S, g⟩, fun c o hc e => ?_⟩)
        refine m.heap c o ?_ (Heap.get?_push_of_some _ (Heap.get?_push_of_some _ e))
        rw [Heap.size_push]; simp only [List.mem_cons, List.not_mem_nil, or_false, not_or]; exact ⟨Nat.ne_of_lt hc, Nat.ne_of_lt (Nat.lt_succ_of_lt hc)⟩
    · rcases r2 with e | fl2
      · exact hr2
      cases fl2 with
      | ret v2 =>
        obtain ⟨rfl, h1, tk, rfl, hF⟩ := hr2
        repeat (any_goals (first | assumption | wp_step))
        exact hq _ _ hF
      | _ => exact hr2.elim
  | _ => exact hr.elim
end
end Nv
set_option maxHeartbeats 4000000
namespace Nv
open PySem PySem.Spec PyProof.Rows L2
theorem vals_tx {P : Program} {w : World} : ∀ {k : List Str} {us : List Value}, Vals (k.map V.str) us → ItemsAre (PySem.strKind P w) k us
  | [], _, .nil => .nil
  | z :: k, _, .cons r t => by
    obtain ⟨tk, rfl⟩ := r
    exact .cons (PySem.strKind_is P w z tk) (vals_tx t)
theorem vals_refs : ∀ {ks : List (Addr × List Str)} {us : List Value}, Vals (ks.map fun p => V.ref p.1) us → us = ks.map fun p => Value.ref p.1
  | [], _, .nil => rfl
  | p :: ks, _, .cons r t => by
    cases r
    rw [vals_refs t] <;> rfl
/-- tuples of texts, with their addresses -/
theorem PaL.addrs {H : Hp} {vs : List V} {ps : List (List Str)} (h : PaL H vs ps) : ∃ ks : List (Addr × List Str), vs = ks.map (fun p => V.ref p.1) ∧ ps = ks.map (·.2) ∧ ∀ p ∈ ks, Tu H p.1 p.2 := by
  induction h with
  | nil => exact ⟨[], rfl, rfl, fun p hp => (by cases hp)⟩
  | mk e _ ih =>
    obtain ⟨ks, h1, h2, h3⟩ := ih
    refine ⟨(_, _) :: ks, by rw [h1] <;> rfl, by rw [h2] <;> rfl, fun p hp => ?_⟩
    rcases List.mem_cons.mp hp with rfl | hp
    · exact e
    · exact h3 p hp
/-- len(set(xs)), xs a list of tuples of texts -/
def tDistT (K : PySem.W.Frag) (ta : TE) : TE := fun σ H Q => ta σ H fun x H1 => ∃ (l : Addr) (vs : List V) (ps : List (List Str)), x = .ref l ∧ SqL K H1 l vs ∧ PaL H1 vs ps ∧ ps.length < 64 ∧
  ∀ n : Nat, n ≤ ps.length → (n = ps.length ↔ ps.Nodup) → Q (.int (n : Nat)) H1
theorem pe_distT {X : Cx} {a : Expr} {ta : TE} {p p2 q pos : Pos} (hu : X.A.units + 64 < cLine) (gl : Gl X "len") (ml : X.mg "len" = none) (gs : Gl X "set") (ms : X.mg "set" = none) (ha : PE X a ta) (calm : X.calm = true := by rfl)
    (na : starEach [a] X.env = (false, eval a X.env) :: starEach [] X.env := by rfl) : PE X (.Call (.Name "len" p) [.Call (.Name "set" p2) [a] [] q] [] pos) (tDistT X.K ta) := by
  refine ⟨fun pins s σ H Q I h => ?_⟩
  refine Call_ (ld_blt I gl ml boot_len (PyProof.Rows.callWith_builtin1 (PyProof.Rows.args_cons (Call_ (ld_blt I gs ms boot_set ?_)) rfl) rfl rfl))
  refine PyProof.Rows.callWith_type1 (PyProof.Rows.args_cons (thn (ha.run pins s σ H _ I h) fun v s1 ⟨x, H1, I1, r1, q1⟩ => PyProof.Rows.args_nil ?_) na) na rfl
  obtain ⟨l, vs, ps, rfl, hl, hp, few, q1⟩ := q1
  cases r1
  obtain ⟨its, r, pl, _⟩ := I1.list hl
  obtain ⟨ks, rfl, rfl, hk⟩ := hp.addrs
  rw [List.length_map] at few
  refine set_of_tx (ks := ks) (I1.ok.hd calm) pl.isList (by simpa using vals_refs r) (fun p hp => ?_) few (by omega) fun h1 tk hF => PyProof.Rows.args_nil ?_
  · obtain ⟨its2, r2, ⟨o, ho, hc, n, hd⟩, _⟩ := I1.tuple ((hk p hp).sq (K := X.K))
    exact ⟨o, its2.toArray, n, ho, hc, hd, by simpa using vals_tx r2⟩
  obtain ⟨⟨L, es, ep, t, S, g⟩, kept⟩ := hF
  obtain ⟨o, ho, hex, hd⟩ := S.ob
  have I2 : Inv X pins σ H1 { s1 with heap := h1, toks := tk } := I1.kept fun b o e => kept b o (Heap.lt_size e) e
  obtain ⟨c1, c2⟩ := g.count S.nd
  have sz := rows_size S.rows
  have sf := S.few
  refine call_len_set ho hex hd (TxSet.fits (s := { s1 with heap := h1, toks := tk }) S) (by rw [sz]; omega) ⟨.int ((L.length : Nat) : Int), H1, I2.tok _, ⟨_, by rw [sz]⟩, q1 L.length (by rw [List.length_map]; exact c1) (by rw [List.length_map]; exact c2)⟩
end Nv
set_option maxHeartbeats 4000000
set_option maxHeartbeats 4000000
namespace Nv
open PySem PySem.Spec PyProof.Rows L2
/-- a list or None, of tuples of texts -/
def Opt (H : Hp) (v : V) (ps : List (List Str)) : Prop := (v = .non ∧ ps = []) ∨ ∃ (a : Addr) (us : List V), v = .ref a ∧ H a = some (.lst us) ∧ PaL H us ps ∧ ps.length ≤ 300
def PairOk (q : List Str) : Prop := ∃ x y, q = [x, y] ∧ x ≠ y ∧ IsTm x ∧ IsTm y ∧ (IsVr x ∨ IsVr y)
theorem tm_len {z : Str} (h : IsTm z) : z.length ≤ 10 := by
  rcases h with h | h
  · exact h.2.1
  · have := h.2.1
    omega
theorem PatOk.small {p : List Str} (h : PatOk p) : p.length ≤ 1000 ∧ ∀ x ∈ p, x.length ≤ 1000 := by
  obtain ⟨w, ts, rfl, hw, h3, ht⟩ := h
  refine ⟨by rw [List.length_cons]; omega, fun x hx => ?_⟩
  rcases List.mem_cons.mp hx with rfl | hx
  · have := hw.2.1
    omega
  · have := tm_len (Or.symm (ht x hx))
    omega
theorem PairOk.small {p : List Str} (h : PairOk p) : p.length ≤ 1000 ∧ ∀ x ∈ p, x.length ≤ 1000 := by
  obtain ⟨x, y, rfl, _, h1, h2, _⟩ := h
  refine ⟨by show 2 ≤ 1000; decide, fun z hz => ?_⟩
  simp only [List.mem_cons, List.not_mem_nil, or_false] at hz
  have h3 := tm_len h1
  have h4 := tm_len h2
  rcases hz with rfl | rfl <;> omega
theorem PatOk.yes {p : List Str} (h : PatOk p) : patB (some (p.map some)) = true := by
  obtain ⟨w, ts, rfl, hw, h3, ht⟩ := h
  show (decide ((ts.map some).length ≤ 3) && (nmO (some w) && (ts.map some).all tmO)) = true
  rw [List.length_map, decide_eq_true h3, Bool.true_and, show nmO (some w) = true from decide_eq_true hw, Bool.true_and, List.all_map, List.all_eq_true]
  intro x hx
  exact decide_eq_true (Or.symm (ht x hx))
theorem PairOk.yes {p : List Str} (h : PairOk p) : prB (some (p.map some)) = true := by
  obtain ⟨x, y, rfl, hn, h1, h2, h3⟩ := h
  show (tmO (some x) && (tmO (some y) && (decide (some x ≠ some y) && (vrO (some x) || vrO (some y))))) = true
  rw [show tmO (some x) = true from decide_eq_true h1, show tmO (some y) = true from decide_eq_true h2, show decide (some x ≠ some y) = true from decide_eq_true (fun e => hn (by injection e)), Bool.true_and, Bool.true_and, Bool.true_and]
  rcases h3 with h | h
  · rw [show vrO (some x) = true from decide_eq_true h] <;> rfl
  · rw [show vrO (some y) = true from decide_eq_true h, Bool.or_true]
theorem all_yes {p : Option (List (Option Str)) → Bool} {ps : List (List Str)} (h : ∀ x ∈ ps, p (some (x.map some)) = true) : listB p (some (ps.map fun q => some (q.map some))) = true := by
  show ((ps.map fun q => some (q.map some)).all p) = true
  rw [List.all_map, List.all_eq_true]
  exact h
/-- the rule's object r (its dict dx), of these parts: th its head's tuple; l1, l2, l3 its own lists -/
abbrev ruleF (l : Str) (th l1 l2 l3 : Addr) : List (Str × V) := [("_label", .str l), ("_head", .ref th), ("_told", .ref l1), ("_pairs", .ref l2), ("_denied", .ref l3)]
/-- the promises of what the classes' defs call -/
structure Ct (P : Program) (w : World) (K : PySem.W.Frag) (mg : Str → Option Value) (base : Heap) : Prop where
  nm : ∃ f fd, FnOk P w K mg base CX0 1 f fd ["value"] (spTxt K fun z => decide (IsNm z)) ∧ PySem.W.keepIn K (.ref f) = true ∧ mg "is_name" = some (.ref f) ∧ Binds K fd ["value"] []
  vr : ∃ f fd, FnOk P w K mg base CX0 1 f fd ["value"] (spTxt K fun z => decide (IsVr z)) ∧ PySem.W.keepIn K (.ref f) = true ∧ mg "is_variable" = some (.ref f) ∧ Binds K fd ["value"] []
  pt : ∃ f fd, FnOk P w K mg base CX0 3 f fd ["value"] (spTup K patB) ∧ PySem.W.keepIn K (.ref f) = true ∧ mg "is_pattern" = some (.ref f) ∧ Binds K fd ["value"] []
  ps : ∃ f fd, FnOk P w K mg base CX0 4 f fd ["value"] (spLst K patB) ∧ PySem.W.keepIn K (.ref f) = true ∧ mg "is_patterns" = some (.ref f) ∧ Binds K fd ["value"] []
  pr : ∃ f fd, FnOk P w K mg base CX0 4 f fd ["value"] (spLst K prB) ∧ PySem.W.keepIn K (.ref f) = true ∧ mg "is_pairs" = some (.ref f) ∧ Binds K fd ["value"] []
  to : ∃ f fd, FnOk P w K mg base CX0 1 f fd ["patterns"] (spTermsOf K) ∧ PySem.W.keepIn K (.ref f) = true ∧ mg "terms_of" = some (.ref f) ∧ Binds K fd ["patterns"] []
  sd : ∃ f fd, FnOk P w K mg base CX0 1 f fd ["pairs"] (spSides K) ∧ PySem.W.keepIn K (.ref f) = true ∧ mg "sides_of" = some (.ref f) ∧ Binds K fd ["pairs"] []
  hm : ∃ f fd, FnOk P w K mg base CX0 4 f fd ["terms", "told"] (spHasMore K) ∧ PySem.W.keepIn K (.ref f) = true ∧ mg "has_more" = some (.ref f) ∧ Binds K fd ["terms", "told"] []
theorem PaL.sbo {H H1 : Hp} {r C dx : Addr} {fs : List (Str × V)} {vs : List V} {ps : List (List Str)} (h : PaL H vs ps) (e : H r = some (.ins C dx fs)) (s : Sb r H H1) : PaL H1 vs ps := by
  induction h with
  | nil => exact .nil
  | mk e1 _ ih => exact .mk (e1.elim (fun z => .inl (s _ _ (e1.ins e) z)) fun ⟨o, z⟩ => .inr ⟨o, s _ _ (e1.ins e) z⟩) ih
theorem TX.sbo {H H1 : Hp} {r t C dx : Addr} {fs : List (Str × V)} {p : List Str} (h : TX H t p) (e : H r = some (.ins C dx fs)) (s : Sb r H H1) : TX H1 t p := let ⟨o, d, z⟩ := h; ⟨o, d, s _ _ (h.ta.ins e) z⟩
theorem PaX.sbo {H H1 : Hp} {r C dx : Addr} {fs : List (Str × V)} {vs : List V} {ps : List (List Str)} (h : PaX H vs ps) (e : H r = some (.ins C dx fs)) (s : Sb r H H1) : PaX H1 vs ps := by
  induction h with
  | nil => exact .nil
  | cons e1 _ ih => exact .cons (e1.sbo e s) ih
section
variable {P : Program} {w : World} {K : PySem.W.Frag} {mg : Str → Option Value} {base : Heap}
theorem Opt.tru {H : Hp} {v : V} {ps : List (List Str)} (h : Opt H v ps) : TruV K v H (!ps.isEmpty) := by
  rcases h with ⟨rfl, rfl⟩ | ⟨a, us, rfl, e, hp, _⟩
  · rfl
  · refine .inl ⟨us, SqL.of e, ?_⟩
    cases hp <;> rfl
theorem Opt.same {H H1 : Hp} {v : V} {ps : List (List Str)} (h : Opt H v ps) (s : Same H H1) : Opt H1 v ps := by
  rcases h with ⟨rfl, rfl⟩ | ⟨a, us, rfl, e, hp, l⟩
  · exact .inl ⟨rfl, rfl⟩
  · exact .inr ⟨a, us, rfl, s _ _ e, hp.same s, l⟩
theorem Opt.sbo {H H1 : Hp} {r C dx : Addr} {fs : List (Str × V)} {v : V} {ps : List (List Str)} (h : Opt H v ps) (e : H r = some (.ins C dx fs)) (s : Sb r H H1) : Opt H1 v ps := by
  rcases h with ⟨rfl, rfl⟩ | ⟨a, us, rfl, e1, hp, l⟩
  · exact .inl ⟨rfl, rfl⟩
  · exact .inr ⟨a, us, rfl, s _ _ (fun z => by rw [z, e] at e1; cases e1) e1, hp.sbo e s, l⟩
theorem or_list {i : Nat} {v : V} {ps : List (List Str)} {H3 : Hp} {σ : L2.St} {Z : VK} (o : Opt H3 v ps) (hi : σ[i]? = some (some v)) (k : ∀ (a : Addr) (us : List V) (G : Hp), Same H3 G → G a = some (.lst us) → PaL G us ps → Z (.ref a) G) :
    tOrT K (tVar i) (tLst tNil) σ H3 Z := by
  refine ⟨v, hi, _, o.tru, ?_⟩
  rcases o with ⟨rfl, rfl⟩ | ⟨a, us, rfl, e, hp, _⟩
  · exact iteF ⟨Nat.zero_le _, fun p np => k p [] _ (same_new np) upd_same .nil⟩
  · cases ps with
    | nil =>
      exact iteF ⟨Nat.zero_le _, fun p np => k p [] _ (same_new np) upd_same .nil⟩
    | cons p ps => exact iteT (k a us _ (Same.refl _) e hp)
theorem if_opt {i : Nat} {p : Option (List (Option Str)) → Bool} {v : V} {qs : List (List Str)} {D : Ends} {σ : L2.St} {H : Hp} (o : Opt H v qs) (hi : σ[i]? = some (some v)) (sm : ∀ x ∈ qs, x.length ≤ 1000 ∧ ∀ y ∈ x, y.length ≤ 1000) (ok : ∀ x ∈ qs, p (some (x.map some)) = true)
    (k : ∀ G, Same H G → D.nx σ G) : tIfS (tAnd (tTest (tOp (fun x y H Q => y = V.non ∧ Q (V.bl (!decide (x = V.non))) H) (tVar i) (tC V.non))) (tNot (tB (tCall (spLst K p) [] E0 (tCons (tVar i) tNil))))) tNever tNext D σ H := by
  refine ⟨v, hi, rfl, !decide (v = .non), rfl, ?_⟩
  rcases o with ⟨rfl, _⟩ | ⟨a, us, rfl, e, hp, l⟩
  · rw [decide_eq_true rfl]
    exact iteF (iteF (k H (Same.refl H)))
  · rw [decide_eq_false (fun z : V.ref a = V.non => by cases z)]
    have tq : Tps K H (.ref a) (some (qs.map fun q => some (q.map some))) := ⟨a, us, rfl, e, hp.tps sm, by rw [List.length_map]; omega⟩
    refine iteT ⟨_, hi, _, _, rfl, tq, fun G sG => ⟨_, rfl, ?_⟩⟩
    rw [all_yes ok]
    exact iteF (k G sG)
theorem if_sides {i j : Nat} {v : V} {tt : Addr} {us : List V} {ps qs : List (List Str)} {D : Ends} {σ : L2.St} {H : Hp} (o : Opt H v qs) (hi : σ[i]? = some (some v)) (hj : σ[j]? = some (some (.ref tt))) (ok : ∀ x ∈ qs, PairOk x)
    (et : H tt = some (.lst us)) (hp : PaL H us ps) (hok : ∀ x ∈ ps, PatOk x) (hpl : ps.length ≤ 300) (m : hasMore qs.flatten ps = false) (k : ∀ G, Same H G → D.nx σ G) :
    tIfS (tB (tCall (spHasMore K) [] E0 (tCons (tCall (spSides K) [] E0 (tCons (tOrT K (tVar i) (tLst tNil)) tNil)) (tCons (tVar j) tNil)))) tNever tNext D σ H := by
  have ql : qs.length ≤ 1000 := by
    rcases o with ⟨_, rfl⟩ | ⟨_, _, _, _, _, l⟩
    · exact Nat.zero_le _
    · omega
  show tOrT K (tVar i) (tLst tNil) σ H _
  refine or_list o hi fun a us2 G sG ea pa => ?_
  refine ⟨a, us2, qs, rfl, SqL.of ea, pa, fun x hx => ?_, ql, fun b G2 nb s2 eb => ?_⟩
  · obtain ⟨x1, x2, rfl, _⟩ := ok x hx
    rfl
  · have s3 := sG.trans s2
    refine ⟨_, hj, b, tt, qs.flatten, us, ps, rfl, ⟨.inl (SqL.of eb), fun x hx => ?_, ?_⟩, ⟨SqL.of (s3 _ _ et), hp.same s3, hok, by omega⟩, fun G4 s4 => ⟨_, rfl, ?_⟩⟩
    · obtain ⟨y, hy, hx⟩ := List.mem_flatten.mp hx
      exact (ok y hy).small.2 x hx
    · rw [flat_len fun x hx => by obtain ⟨x1, x2, rfl, _⟩ := ok x hx; rfl]
      omega
    · rw [m]
      exact iteF (k G4 (s3.trans s4))
theorem putF_new {f : Str} {v : V} : ∀ {fs : List (Str × V)} {ns : List Str}, fs.map (·.1) = ns → f ∉ ns → putF f v fs = fs ++ [(f, v)]
  | [], _, _, _ => rfl
  | (g, x) :: fs, _, rfl, h => by
    unfold putF
    rw [if_neg (fun e => h (by rw [e]; exact List.mem_cons_self)), putF_new (fs := fs) rfl (fun e => h (List.mem_cons_of_mem _ e))] <;> rfl
abbrev Flds := List (Str × V)
theorem fld_list {i : Nat} {v : V} {qs : List (List Str)} {D : Ends} {σ : L2.St} {H : Hp} {r C dx : Addr} {fs : List (Str × V)} {f : Str} (o : Opt H v qs) (hi : σ[i]? = some (some v)) (h0 : σ[0]? = some (some (.ref r))) (er : H r = some (.ins C dx fs)) (cl : Cls K C) (na : NoAttr K C f) (hf : fs.length < 1000)
    (k : ∀ (l2 : Addr) (us2 : List V) (G : Hp), H l2 = none → Sb r H G → G r = some (.ins C dx (putF f (.ref l2) fs)) → G l2 = some (.lst us2) → PaL G us2 qs → D.nx σ G) :
    sFld K (tVar 0) (tCB (fun xs H Q => ∃ p ys, xs = [V.ref p] ∧ (SqL K H p ys ∨ SqT K H p ys) ∧ ∀ l, H l = none → Q (.ref l) (upd H l (.lst ys))) (tCons (tOrT K (tVar i) (tLst tNil)) tNil)) f D σ H := by
  show tOrT K (tVar i) (tLst tNil) σ H _
  refine or_list o hi fun a us G sG ea pa => ?_
  refine ⟨a, us, rfl, .inl (SqL.of ea), fun l2 n2 => ⟨_, h0, r, C, dx, fs, rfl, ?_, cl, na, hf, ?_⟩⟩
  · exact same_new n2 _ _ (sG _ _ er)
  · have nr : l2 ≠ r := fun z => by
      rw [z, sG _ _ er] at n2
      cases n2
    have e2 : upd G l2 (.lst us) r = some (.ins C dx fs) := same_new n2 _ _ (sG _ _ er)
    have s2 : Sb r H (upd (upd G l2 (.lst us)) r (.ins C dx (putF f (.ref l2) fs))) := (Sb.of (same_put sG (sG.free n2))).trans Sb.upd
    refine k l2 us _ (sG.free n2) s2 upd_same ?_ ?_
    · rw [upd_ne nr, upd_same]
    · exact (pa.same (same_new n2)).sbo e2 Sb.upd
end
end Nv
set_option maxHeartbeats 4000000
namespace Nv
open PySem PySem.Spec PyProof.Rows L2
/-- what a rule is made of -/
structure Rl where
  l : Str
  h : List Str
  ps : List (List Str)
  qs : List (List Str)
  ds : List (List Str)
  deriving DecidableEq
structure Rl.Ok (x : Rl) : Prop where
  l : IsNm x.l
  h : PatOk x.h
  ps : ∀ y ∈ x.ps, PatOk y
  pl : x.ps.length ≤ 300
  qs : ∀ y ∈ x.qs, PairOk y
  ql : x.qs.length ≤ 300
  ds : ∀ y ∈ x.ds, PatOk y
  dl : x.ds.length ≤ 300
/-- the rule x stands at r -/
def RA (C : Addr) (H : Hp) (r : Addr) (x : Rl) : Prop := ∃ (dx th l1 l2 l3 : Addr) (us us2 us3 : List V), H r = some (.ins C dx (ruleF x.l th l1 l2 l3)) ∧ Tu H th x.h ∧ (H l1 = some (.lst us) ∧ PaX H us x.ps) ∧ (H l2 = some (.lst us2) ∧ PaL H us2 x.qs) ∧ H l3 = some (.lst us3) ∧ PaL H us3 x.ds
theorem RA.same {C : Addr} {H H1 : Hp} {r : Addr} {x : Rl} (h : RA C H r x) (s : Same H H1) : RA C H1 r x := by
  obtain ⟨dx, th, l1, l2, l3, us, us2, us3, e, e1, ⟨e2, p2⟩, ⟨e3, p3⟩, e4, p4⟩ := h
  exact ⟨dx, th, l1, l2, l3, us, us2, us3, s _ _ e, e1.same s, ⟨s _ _ e2, p2.same s⟩, ⟨s _ _ e3, p3.same s⟩, s _ _ e4, p4.same s⟩
theorem PairOk.asc {p : List Str} (h : PairOk p) : ∀ x ∈ p, Asc x := by
  obtain ⟨x, y, rfl, _, h1, h2, _⟩ := h
  intro z hz
  simp only [List.mem_cons, List.not_mem_nil, or_false] at hz
  have : ∀ z, IsTm z → Asc z := fun z h => by
    rcases h with h | h
    · exact h.asc
    · exact h.asc
  rcases hz with rfl | rfl
  · exact this _ h1
  · exact this _ h2
/-- what isinstance asks of an own class -/
structure IC (K : PySem.W.Frag) (C : Addr) : Prop where
  ha : PySem.W.findIn K (.ref C) "__class__" = some (some (.builtin "object.__class__"))
  hn : PySem.W.specialIn K (.builtin "object.__class__") "__get__" = some (some (.builtin "getset_descriptor.__get__"))
  ht : PySem.W.takesIn K (.builtin "object.__class__") = some true
  hm : PySem.W.mroIn K C (.type "object") = some true
  me : PySem.W.kitOne K (.ref C) (.ref C) = some true
section
variable {P : Program} {w : World} {K : PySem.W.Frag} {mg : Str → Option Value} {base : Heap}
/-- a list that an object keeps, told anew -/
def spGetL (C : Addr) (f : Str) : Sp := fun vs H Q _ => ∃ (r dx l : Addr) (fs : List (Str × V)) (us : List V), vs = [.ref r] ∧ H r = some (.ins C dx fs) ∧ fs.lookup f = some (.ref l) ∧ H l = some (.lst us) ∧ ∀ p, H p = none → Q (.ref p) (upd H p (.lst us))
theorem ok_getL {name qual f : Str} {st : Stmt} {fa C : Addr} {fd : FuncData} {p1 p2 p3 p4 p5 : Pos} (F : Fun K name qual st fa fd) (S : FnScope ["self"] ["self"] (defScope st)) (hb : defBody st = [.Return (some (.Call (.Name "list" p1) [.Attribute (.Name "self" p2) f p3] [] p4)) p5])
    (hl : ∀ X : Cx, X.env.scope = defScope st → Gl X "list") (cl : Cls K C) (na : NoAttr K C f) (B : Bp mg) : FnOk P w K mg base CX0 1 fa fd ["self"] (spGetL C f) := by
  refine F.ok S (fun vs H Q E h => ?_) (fun cdv A outer s H vs Q E hr h => ?_)
  · obtain ⟨r, dx, l, fs, us, rfl, _⟩ := h
    rfl
  · obtain ⟨r, dx, l, fs, us, rfl, er, ef, el, q⟩ := h
    rw [hb]
    refine ⟨_, pss_one (ps_ret (pe_callTy call_list_of (hl _ rfl) B.lst PyProof.Rows.boot_list (pa_cons (pe_fld (pe_var (i := 0) rfl ((S.par "self" (List.Mem.head _)).elim (fun z => .inl z) (fun z => .inr (.inl z)))) rfl) pa_nil))), ?_⟩
    exact ⟨_, rfl, r, C, dx, fs, _, rfl, er, cl, na, ef, l, us, rfl, .inl (SqL.of el), fun p np => q p np⟩
theorem lk_no {k g : Str} {v : V} {r : List (Str × V)} (h : (k == g) = false) : List.lookup k ((g, v) :: r) = List.lookup k r := by
  rw [List.lookup_cons, h]
theorem lk_yes {k : Str} {v : V} {r : List (Str × V)} : List.lookup k ((k, v) :: r) = some v := by
  rw [List.lookup_cons, beq_self_eq_true]
theorem lk2 {l : Str} {th l1 l2 l3 : Addr} : (ruleF l th l1 l2 l3).lookup ("_head" : Str) = some (V.ref th) := (lk_no (by decide +kernel)).trans lk_yes
theorem lk3 {l : Str} {th l1 l2 l3 : Addr} : (ruleF l th l1 l2 l3).lookup ("_told" : Str) = some (V.ref l1) := (lk_no (by decide +kernel)).trans ((lk_no (by decide +kernel)).trans lk_yes)
theorem lk4 {l : Str} {th l1 l2 l3 : Addr} : (ruleF l th l1 l2 l3).lookup ("_pairs" : Str) = some (V.ref l2) := (lk_no (by decide +kernel)).trans ((lk_no (by decide +kernel)).trans ((lk_no (by decide +kernel)).trans lk_yes))
theorem lk5 {l : Str} {th l1 l2 l3 : Addr} : (ruleF l th l1 l2 l3).lookup ("_denied" : Str) = some (V.ref l3) := (lk_no (by decide +kernel)).trans ((lk_no (by decide +kernel)).trans ((lk_no (by decide +kernel)).trans ((lk_no (by decide +kernel)).trans lk_yes)))
end
end Nv
set_option maxHeartbeats 4000000
namespace Nv
open PySem PySem.Spec PyProof.Rows L2
/-! # facts and stores -/
def factB : Option (List (Option Str)) → Bool
  | some os => decide (1 ≤ os.length ∧ os.length ≤ 4) && os.all nmO
  | none => false
/-- a fact -/
def FactOk (p : List Str) : Prop := (1 ≤ p.length ∧ p.length ≤ 4) ∧ ∀ z ∈ p, IsNm z
instance {p : List Str} : Decidable (FactOk p) := inferInstanceAs (Decidable ((1 ≤ p.length ∧ p.length ≤ 4) ∧ ∀ z ∈ p, IsNm z))
theorem factB_strs {p : List Str} : factB (some (p.map some)) = decide (FactOk p) := by
  show (decide (1 ≤ (p.map some).length ∧ (p.map some).length ≤ 4) && (p.map some).all nmO) = _
  rw [List.length_map, List.all_map]
  by_cases h : FactOk p
  · rw [decide_eq_true h, decide_eq_true h.1, Bool.true_and, List.all_eq_true]
    exact fun z hz => decide_eq_true (h.2 z hz)
  · rw [decide_eq_false h]
    by_cases h1 : 1 ≤ p.length ∧ p.length ≤ 4
    · rw [decide_eq_true h1, Bool.true_and, List.all_eq_false]
      obtain ⟨z, hz⟩ := Classical.not_forall.mp fun q => h ⟨h1, q⟩
      obtain ⟨m, n⟩ := Classical.not_imp.mp hz
      exact ⟨z, m, by
        show ¬ decide (IsNm z) = true
        rw [decide_eq_false n]
        exact Bool.false_ne_true⟩
    · rw [decide_eq_false h1, Bool.false_and]
/-- what stands in a store -/
theorem facts_of {K : PySem.W.Frag} {H : Hp} {xs : List V} {ls : List (Option (List (Option Str)))} (h : All2 (Tp K H) xs ls) (hb : ls.all factB = true) : ∃ ps : List (List Str), PaL H xs ps ∧ ls = ps.map (fun p => some (p.map some)) ∧ ∀ p ∈ ps, FactOk p := by
  have item : ∀ {us : List V} {os : List (Option Str)}, All2 (Tv K H) us os → os.all nmO = true → ∃ zs : List Str, us = zs.map V.str ∧ os = zs.map some := by
    intro us os h
    induction h with
    | nil => exact fun _ => ⟨[], rfl, rfl⟩
    | @cons u o us os h t ih =>
      intro hb
      rw [List.all_cons, Bool.and_eq_true] at hb
      obtain ⟨zs, e1, e2⟩ := ih hb.2
      cases o with
      | none => cases hb.1
      | some z => exact ⟨z :: zs, by rw [h.1, e1] <;> rfl, by rw [e2] <;> rfl⟩
  induction h with
  | nil => exact ⟨[], .nil, rfl, fun p hp => (by cases hp)⟩
  | @cons x l xs ls h t ih =>
    rw [List.all_cons, Bool.and_eq_true] at hb
    obtain ⟨ps, e1, e2, e3⟩ := ih hb.2
    cases l with
    | none => cases hb.1
    | some os =>
      obtain ⟨a, us, rfl, ea, hu, hl⟩ := h
      have hb1 := hb.1
      unfold factB at hb1
      rw [Bool.and_eq_true] at hb1
      obtain ⟨zs, rfl, rfl⟩ := item hu hb1.2
      refine ⟨zs :: ps, .mk ea e1, by rw [e2] <;> rfl, fun p hp => ?_⟩
      rcases List.mem_cons.mp hp with rfl | hp
      · have := hb.1
        rw [factB_strs] at this
        exact of_decide_eq_true this
      · exact e3 p hp
section
variable {P : Program} {w : World} {K : PySem.W.Frag} {mg : Str → Option Value} {base : Heap}
theorem scIsFact : FnScope ["value", "part"] ["value"] (defScope sIsFact) := ⟨rfl, rfl, rfl, by decide +kernel, rfl, by decide +kernel, by decide +kernel⟩
theorem ok_isFact {f fN : Addr} {fd fdN : FuncData} (F : Fun K "is_fact" "is_fact" sIsFact f fd) (B : Bp mg)
    (GN : FnOk P w K mg base CX0 1 fN fdN ["value"] (spTxt K fun z => decide (IsNm z))) (kN : PySem.W.keepIn K (.ref fN) = true) (gN : mg "is_name" = some (.ref fN)) (bN : Binds K fdN ["value"] []) :
    FnOk P w K mg base CX0 3 f fd ["value"] (spTup K factB) := by
  refine F.ok scIsFact (fun vs H Q E h => ?_) (fun cdv A outer s H vs Q E hr h => ?_)
  · obtain ⟨v, o, rfl, _⟩ := h
    rfl
  · obtain ⟨v, o, rfl, h, q⟩ := h
    have hr1 : Room 1 _ := hr.mono (by decide)
    refine ⟨_, pss_one (ps_ret (pe_and (pe_callB call_isi (by rfl) B.isi bootIsi (pa_cons (pv 0) (pa_cons (pe_bltn (v := V.ty "tuple") (by rfl) B.tup PyProof.Rows.boot_tuple rfl) pa_nil)))
      (pe_and (pe_chain op_le op_le pe_int (pe_callB call_len_seq (by rfl) B.len PySem.boot_len (pa_cons (pv 0) pa_nil)) pe_int)
      (pe_one (pe_callB (cr_all rfl) (by rfl) B.all bootAll (pa_cons (by exact (pe_lc (own := [("part", 1)]) (g := gName 1) (tt := tYes) rfl scIsFact.nd (pi_tup (pv 0))
        (blkOk_by (own := [("part", 1)]) (N := ["value", "part"]) (sc := defScope sIsFact) (by decide +kernel))
        (fun _ _ _ _ _ => pg_name (i := 1) scIsFact.nd rfl (Or.inl rfl)) (fun _ _ _ _ _ => pts_nil)
        (fun _ _ _ _ _ => by exact (pe_call GN hr1 (by rfl) gN kN bN .nil pass0 (pa_cons (pv 1) pa_nil))))) pa_nil)))))), ?_⟩
    cases o with
    | none =>
      obtain ⟨t, ht, hk⟩ := h
      refine ⟨_, rfl, _, _, _, _, false, rfl, .ty _, ht, hk, false, rfl, iteF ?_⟩
      exact q H (Same.refl H)
    | some os =>
      obtain ⟨t, xs, rfl, e, ha, hl⟩ := h
      have hxl := ha.len
      refine ⟨_, rfl, _, _, _, _, true, rfl, .ty _, tyx_tup e, kit_ty (by decide +kernel), true, rfl, iteT ?_⟩
      refine ⟨_, rfl, t, xs, rfl, .inr (.inl e), _, _, rfl, rfl, _, rfl, ?_⟩
      have q : ∀ H', Same H H' → Q (.bl (decide (1 ≤ os.length ∧ os.length ≤ 4) && os.all nmO)) H' := q
      by_cases h1 : (1 : Int) ≤ (xs.length : Int)
      · rw [decide_eq_true h1]
        refine iteT ⟨_, _, rfl, rfl, ?_⟩
        refine ⟨decide ((xs.length : Int) ≤ 4), rfl, ?_⟩
        by_cases h2 : (xs.length : Int) ≤ 4
        · rw [decide_eq_true h2]
          rw [decide_eq_true (show 1 ≤ os.length ∧ os.length ≤ 4 by omega)] at q
          refine iteT ?_
          refine ⟨_, rfl, t, rfl, ⟨_, .inl e⟩, fun D nD => ?_⟩
          refine lc_tup (K := K) (a := t) (xs := xs) (fun i H' => Same H H' ∧ H' D = some (.lst ((os.take i).map fun o => V.bl (nmO o)))) ⟨same_new nD, upd_same⟩ (fun i H' _ y => .inl (rd_same e y.1)) ?_ ?_
          · rintro i y H3 hi ⟨s3, e3⟩
            obtain ⟨o2, ho2, hy⟩ := ha.at_ hi
            refine ⟨rfl, _, rfl, ?_⟩
            dsimp only [tNil]
            refine spTxt.of (hy.same s3) fun H4 s4 => ?_
            refine ⟨_, s4 _ _ e3, ?_, same_put (s3.trans s4) nD, ?_⟩
            · rw [List.length_map, List.length_take]
              exact Nat.lt_of_le_of_lt (by omega : _ ≤ 1000) (by decide)
            · rw [upd_same, take_one ho2, List.map_append] <;> rfl
          · rintro H3 ⟨s3, e3⟩
            rw [hxl, List.take_length] at e3
            refine ⟨D, os.map nmO, rfl, SqL.of (by rw [e3, List.map_map] <;> rfl), ?_⟩
            rw [List.all_map]
            exact q H3 s3
        · rw [decide_eq_false h2]
          rw [decide_eq_false (show ¬ (1 ≤ os.length ∧ os.length ≤ 4) by omega)] at q
          exact iteF (q H (Same.refl H))
      · rw [decide_eq_false h1]
        rw [decide_eq_false (show ¬ (1 ≤ os.length ∧ os.length ≤ 4) by omega)] at q
        exact iteF ⟨false, rfl, iteF (q H (Same.refl H))⟩
end
end Nv
set_option maxHeartbeats 4000000
namespace Nv
open PySem PySem.Spec PyProof.Rows L2
def storeB : Option (List (Option (List (Option Str)))) → Bool
  | some ls => ls.all factB && decide ls.Nodup
  | none => false
theorem map_inj_nd {α β : Type} {f : α → β} (hf : ∀ x y, f x = f y → x = y) : ∀ {l : List α}, (l.map f).Nodup ↔ l.Nodup
  | [] => by simp
  | x :: l => by
    rw [List.map_cons, List.nodup_cons, List.nodup_cons, map_inj_nd hf]
    constructor
    · exact fun ⟨a, b⟩ => ⟨fun m => a (List.mem_map.mpr ⟨x, m, rfl⟩), b⟩
    · refine fun ⟨a, b⟩ => ⟨fun m => ?_, b⟩
      obtain ⟨y, hy, e⟩ := List.mem_map.mp m
      rw [hf _ _ e] at hy
      exact a hy
theorem some_map_inj {p q : List Str} (h : some (p.map some) = some (q.map some)) : p = q := by
  have h2 := congrArg (List.map fun o : Option Str => o.getD "") (Option.some.inj h)
  simpa [List.map_map, Function.comp_def] using h2
section
variable {P : Program} {w : World} {K : PySem.W.Frag} {mg : Str → Option Value} {base : Heap}
def spIsStore (K : PySem.W.Frag) : Sp := fun vs H Q _ => ∃ (v : V) (o : Option (List (Option (List (Option Str))))), vs = [v] ∧ Tps K H v o ∧ (∀ ls, o = some ls → ls.length < 64) ∧ ∀ H', Same H H' → Q (.bl (storeB o)) H'
theorem scIsStore : FnScope ["value", "part"] ["value"] (defScope sIsStore) := ⟨rfl, rfl, rfl, by decide +kernel, rfl, by decide +kernel, by decide +kernel⟩
theorem ok_isStore {f fN : Addr} {fd fdN : FuncData} (F : Fun K "is_store" "is_store" sIsStore f fd) (B : Bp mg)
    (GN : FnOk P w K mg base CX0 3 fN fdN ["value"] (spTup K factB)) (kN : PySem.W.keepIn K (.ref fN) = true) (gN : mg "is_fact" = some (.ref fN)) (bN : Binds K fdN ["value"] []) :
    FnOk P w K mg base CX0 4 f fd ["value"] (spIsStore K) := by
  refine F.ok scIsStore (fun vs H Q E h => ?_) (fun cdv A outer s H vs Q E hr h => ?_)
  · obtain ⟨v, o, rfl, _⟩ := h
    rfl
  · obtain ⟨v, o, rfl, h, few, q⟩ := h
    refine ⟨_, pss_one (ps_ret (pe_and (pe_callB call_isi (by rfl) B.isi bootIsi (pa_cons (pv 0) (pa_cons (pe_bltn (v := V.ty "list") (by rfl) B.lst PyProof.Rows.boot_list rfl) pa_nil)))
      (pe_and (pe_callB (cr_all rfl) (by rfl) B.all bootAll (pa_cons (by exact (pe_lc (own := [("part", 1)]) (g := gName 1) (tt := tYes) rfl scIsStore.nd (pi_list (pv 0))
          (blkOk_by (own := [("part", 1)]) (N := ["value", "part"]) (sc := defScope sIsStore) (by decide +kernel))
          (fun _ _ _ _ _ => pg_name (i := 1) scIsStore.nd rfl (Or.inl rfl)) (fun _ _ _ _ _ => pts_nil)
          (fun _ _ _ _ _ => by exact (pe_call GN hr (by rfl) gN kN bN .nil pass0 (pa_cons (pv 1) pa_nil))))) pa_nil))
      (pe_one (pe_cmpR op_eq (pe_distT hr.units (by rfl) B.len (by rfl) B.set (pv 0)) (pe_callB call_len (by rfl) B.len PySem.boot_len (pa_cons (pv 0) pa_nil)) (nomark _))))) ), ?_⟩
    cases o with
    | none =>
      obtain ⟨t, ht, hk⟩ := h
      refine ⟨_, rfl, _, _, _, _, false, rfl, .ty _, ht, hk, false, rfl, iteF ?_⟩
      exact q H (Same.refl H)
    | some ls =>
      obtain ⟨a, xs, rfl, e, ha, hl⟩ := h
      have hxl := ha.len
      have few := few ls rfl
      refine ⟨_, rfl, _, _, _, _, true, rfl, .ty _, tyx_lst e, kit_ty (by decide +kernel), true, rfl, iteT ?_⟩
      refine ⟨_, rfl, a, rfl, ⟨_, SqL.of e⟩, fun D nD => ?_⟩
      refine lc_list (K := K) (a := a) (xs := xs) (fun i H' => Same H H' ∧ H' D = some (.lst ((ls.take i).map fun o => V.bl (factB o)))) ⟨same_new nD, upd_same⟩ (fun i H' _ y => SqL.of (y.1 _ _ e)) ?_ ?_
      · rintro i y H3 hi ⟨s3, e3⟩
        obtain ⟨o2, ho2, hy⟩ := ha.at_ hi
        refine ⟨rfl, _, rfl, y, o2, rfl, hy.same s3, fun H4 s4 => ?_⟩
        refine ⟨_, s4 _ _ e3, ?_, same_put (s3.trans s4) nD, ?_⟩
        · rw [List.length_map, List.length_take]
          exact Nat.lt_of_le_of_lt (by omega : _ ≤ 1000) (by decide)
        · rw [upd_same, take_one ho2, List.map_append] <;> rfl
      · rintro H3 ⟨s3, e3⟩
        rw [hxl, List.take_length] at e3
        refine ⟨D, ls.map factB, rfl, SqL.of (by rw [e3, List.map_map] <;> rfl), ?_⟩
        rw [List.all_map]
        have q := q H3 s3
        have e0 : storeB (some ls) = (ls.all factB && decide ls.Nodup) := rfl
        rw [e0] at q
        refine ⟨_, rfl, ?_⟩
        have hall : (ls.all (id ∘ factB)) = ls.all factB := rfl
        rw [hall]
        cases hb : ls.all factB with
        | false =>
          rw [hb] at q
          exact iteF q
        | true =>
          rw [hb] at q
          refine iteT ?_
          obtain ⟨ps, hp, hps, _⟩ := facts_of ha hb
          have nd : ls.Nodup ↔ ps.Nodup := by
            rw [hps]
            exact map_inj_nd fun x y => some_map_inj
          have lp : ps.length = ls.length := by rw [hps, List.length_map]
          refine ⟨_, rfl, a, xs, ps, rfl, SqL.of (s3 _ _ e), hp.same s3, by omega, fun n h1 h2 => ?_⟩
          refine ⟨_, rfl, _, _, rfl, .inl ⟨xs, SqL.of (s3 _ _ e), rfl⟩, ?_⟩
          have ev : decide (V.int (n : Int) = V.int (xs.length : Int)) = decide ls.Nodup := by
            refine decide_eq_decide.mpr ?_
            rw [nd, ← h2]
            constructor
            · intro z
              injection z with z
              omega
            · intro z
              rw [z, lp, hxl]
          refine ⟨rfl, ?_⟩
          show Q (V.bl (decide (V.int (n : Int) = V.int (xs.length : Int)))) H3
          rw [ev]
          exact q
end
end Nv
set_option maxHeartbeats 4000000
namespace Nv
open PySem PySem.Spec PyProof.Rows L2
/-! # need_fact, need_store, where they let pass -/
section
variable {P : Program} {w : World} {K : PySem.W.Frag} {mg : Str → Option Value} {base : Heap}
def spNeedStore (K : PySem.W.Frag) : Sp := fun vs H Q _ => ∃ (v : V) (o : Option (List (Option (List (Option Str))))), vs = [v] ∧ Tps K H v o ∧ (∀ ls, o = some ls → ls.length < 64) ∧ storeB o = true ∧ ∀ H', Same H H' → Q .non H'
theorem scNeedStore : FnScope ["value"] ["value"] (defScope sNeedStore) := ⟨rfl, rfl, rfl, by decide +kernel, rfl, by decide +kernel, by decide +kernel⟩
theorem ok_needStore {f fI : Addr} {fd dI : FuncData} (F : Fun K "need_store" "need_store" sNeedStore f fd)
    (GI : FnOk P w K mg base CX0 4 fI dI ["value"] (spIsStore K)) (kI : PySem.W.keepIn K (.ref fI) = true) (gI : mg "is_store" = some (.ref fI)) (bI : Binds K dI ["value"] []) :
    FnOk P w K mg base CX0 5 f fd ["value"] (spNeedStore K) := by
  refine F.ok scNeedStore (fun vs H Q E h => ?_) (fun cdv A outer s H vs Q E hr h => ?_)
  · obtain ⟨v, o, rfl, _⟩ := h
    rfl
  · obtain ⟨v, o, rfl, h, few, good, q⟩ := h
    refine ⟨_, pss_one (ps_if (pt_not (pt_val (by exact (pe_call GI hr (by rfl) gI kI bI .nil pass0 (pa_cons (pv 0) pa_nil))))) (pss_one ps_never) pss_nil), ?_⟩
    refine ⟨_, rfl, ?_⟩
    dsimp only [tNil]
    refine ⟨v, o, rfl, h, few, fun H' s' => ?_⟩
    rw [good]
    exact ⟨true, rfl, iteF (q H' s')⟩
end
end Nv
set_option maxHeartbeats 4000000
namespace Nv
open PySem PySem.Spec PyProof.Rows L2
/-! # setdefault with keys that are tuples -/
def rSetdT : V → List V → Hp → VK → Prop := fun x xs H Q => ∃ (a b : Addr) (kvs : List (List L2.Key × V)) (k : List L2.Key) (d : V), x = .ref a ∧ xs = [.ref b, d] ∧ H a = some (.dT kvs) ∧ H b = some (.tup (k.map kV)) ∧ kvs.length < sizeLine ∧
  (∀ v, valV kvs k = some v → Q v H) ∧ (valV kvs k = none → Q d (upd H a (.dT (putK kvs k d))))
section
variable {X : Cx}
theorem mt_setdT (hu : X.A.units + 1 < cLine) : MtR X "dict.setdefault" rSetdT := by
  intro pins s σ H x xs v us Q I rx rxs h
  obtain ⟨a, b, kvs, k, d, rfl, rfl, ha, hb, hl, q1, q2⟩ := h
  cases rx
  obtain ⟨u1, u2, rfl, r1, r2⟩ := vals2 rxs
  cases r1
  obtain ⟨z, hd, xs', rel, dd⟩ := dt_of I.hok ha
  have hz : xs'.length ≤ sizeLine := by rw [← Paired.length rel]; exact z
  refine PySem.call_setdefault_heap (knd := tupleKind (mixKind X.prog X.w)) (k := k) (tupleKind_room_in1 hu) (key_of I.hok hb) hd dd (fun p hp => ?_) (fun hn h' dd' hs => ?_) hz
  · have r := rel.val k
    rw [hp] at r
    cases ev : valV kvs k with
    | none =>
      rw [ev] at r
      exact (show False from r).elim
    | some v0 =>
      rw [ev] at r
      exact ⟨v0, H, I.tok _, r, q1 v0 ev⟩
  · have r := rel.val k
    rw [hn] at r
    have e : valV kvs k = none := by
      cases ev : valV kvs k with
      | none => rfl
      | some v0 =>
        rw [ev] at r
        exact (show False from r).elim
    obtain ⟨o, es, ep, hq, h2, h3, h4, _, h5⟩ := dd'
    have hl2 : (putK kvs k d).length ≤ sizeLine := by have := length_putK kvs k d; omega
    have I2 : Inv X pins σ (upd H a (.dT (putK kvs k d))) { s with heap := h' } := d_write I (by rw [ha]; exact True.intro) hs ⟨o, hq⟩ ⟨hl2, hd, _, (rel.put k hb r2).keeps fun c ys ec => (by
      rw [upd_ne (ne_of ec ha (fun z => nomatch z))]
      exact ec), o, es, ep, hq, h2, h3, h4, h5⟩
    exact ⟨d, _, I2.tok _, r2, q2 e⟩
end
/-- the kind of a fact, as a key -/
def kindK (p : List Str) : List L2.Key := match p with
  | [] => []
  | w :: ts => [.inr w, .inl (ts.length : Nat)]
def spKindOf (K : PySem.W.Frag) : Sp := fun vs H Q _ => ∃ (a : Addr) (p : List Str), vs = [.ref a] ∧ Tu H a p ∧ 1 ≤ p.length ∧ p.length ≤ 1000 ∧ ∀ t, H t = none → Q (.ref t) (upd H t (.tup ((kindK p).map kV)))
section
variable {P : Program} {w : World} {K : PySem.W.Frag} {mg : Str → Option Value} {base : Heap}
theorem scKindOf : FnScope ["pattern"] ["pattern"] (defScope sKindOf) := ⟨rfl, rfl, rfl, by decide +kernel, rfl, by decide +kernel, by decide +kernel⟩
theorem ok_kindOf {f : Addr} {fd : FuncData} (F : Fun K "kind_of" "kind_of" sKindOf f fd) (B : Bp mg) : FnOk P w K mg base CX0 1 f fd ["pattern"] (spKindOf K) := by
  refine F.ok scKindOf (fun vs H Q E h => ?_) (fun cdv A outer s H vs Q E hr h => ?_)
  · obtain ⟨a, p, rfl, _⟩ := h
    rfl
  · obtain ⟨a, p, rfl, e, h1, h2, q⟩ := h
    refine ⟨_, pss_one (ps_ret (by exact (pe_tup (pa_cons (pe_ix ix_tup (pv 0) pe_int (fun _ _ => rfl)) (pa_cons (pe_op op_sub (pe_callB call_len_seq (by rfl) B.len PySem.boot_len (pa_cons (pv 0) pa_nil)) pe_int) pa_nil))))), ?_⟩
    obtain ⟨wd, ts, rfl⟩ : ∃ wd ts, p = wd :: ts := by
      cases p with
      | nil => exact absurd h1 (by decide)
      | cons wd ts => exact ⟨wd, ts, rfl⟩
    refine ⟨_, rfl, a, _, _, V.str wd, rfl, rfl, .inl e, atI_nat (j := 0) rfl, ?_⟩
    refine ⟨_, rfl, a, _, rfl, .inr (.inl e), _, _, rfl, rfl, ?_⟩
    dsimp only [tNil]
    refine ⟨by show 2 ≤ _; decide, fun t nt => ?_⟩
    have el : ((((wd :: ts).map V.str).length : Nat) : Int) - 1 = ((ts.length : Nat) : Int) := by
      rw [List.length_map, List.length_cons]
      omega
    have := q t nt
    rw [el]
    exact this
end
end Nv
set_option maxHeartbeats 4000000
namespace Nv
open PySem PySem.Spec PyProof.Rows L2
/-! # by_kind -/
/-- what has the key k -/
def pick (key : List Str → List L2.Key) (k : List L2.Key) (us : List V) (ps : List (List Str)) : List V := ((us.zip ps).filter fun z => decide (key z.2 = k)).map (·.1)
theorem zip_take {α β : Type} {us : List α} {ps : List β} {i : Nat} {u : α} {p : β} (h1 : us[i]? = some u) (h2 : ps[i]? = some p) : (us.take (i + 1)).zip (ps.take (i + 1)) = (us.take i).zip (ps.take i) ++ [(u, p)] := by
  have hu := (List.getElem?_eq_some_iff.mp h1).1
  have hp := (List.getElem?_eq_some_iff.mp h2).1
  rw [take_one h1, take_one h2, List.zip_append (by rw [List.length_take, List.length_take]; omega)] <;> rfl
theorem pick_step {key : List Str → List L2.Key} {k : List L2.Key} {us : List V} {ps : List (List Str)} {i : Nat} {u : V} {p : List Str} (h1 : us[i]? = some u) (h2 : ps[i]? = some p) :
    pick key k (us.take (i + 1)) (ps.take (i + 1)) = if key p = k then pick key k (us.take i) (ps.take i) ++ [u] else pick key k (us.take i) (ps.take i) := by
  unfold pick
  rw [zip_take h1 h2, List.filter_append, List.map_append]
  by_cases e : key p = k
  · rw [if_pos e, List.filter_cons_of_pos (by exact decide_eq_true e)] <;> rfl
  · rw [if_neg e, List.filter_cons_of_neg (by simpa using e)]
    exact List.append_nil _
theorem pick_len {key : List Str → List L2.Key} {k : List L2.Key} {us : List V} {ps : List (List Str)} : (pick key k us ps).length ≤ us.length := by
  unfold pick
  rw [List.length_map]
  refine Nat.le_trans (List.length_filter_le _ _) ?_
  rw [List.length_zip]
  exact Nat.min_le_left _ _
/-- the shelf at d, of lists that are new beside H0 -/
structure Shelf (key : List Str → List L2.Key) (H0 H : Hp) (d : Addr) (us : List V) (ps : List (List Str)) : Prop where
  ex : ∃ kvs : List (List L2.Key × V), H d = some (.dT kvs) ∧ kvs.length ≤ ps.length ∧ (∀ k v, valV kvs k = some v → ∃ l, v = .ref l ∧ H0 l = none ∧ H l = some (.lst (pick key k us ps))) ∧
    (∀ k, valV kvs k = none → pick key k us ps = []) ∧ ∀ k k' l, valV kvs k = some (.ref l) → valV kvs k' = some (.ref l) → k = k'
theorem valV_put {κ : Type} [DecidableEq κ] {kvs : List (κ × V)} {k k' : κ} {v : V} (h : valV kvs k = none) : valV (putK kvs k v) k' = if k' = k then some v else valV kvs k' := by
  have none_of : ∀ x ∈ kvs, x.1 ≠ k := fun x hx e => by
    unfold valV at h
    rw [Option.map_eq_none_iff, List.find?_eq_none] at h
    exact h x hx (decide_eq_true e)
  have hany : (kvs.any fun kv => decide (kv.1 = k)) = false := by
    rw [List.any_eq_false]
    exact fun x hx => by simpa using none_of x hx
  have e : putK kvs k v = kvs ++ [(k, v)] := by
    unfold putK
    rw [if_neg (by rw [hany]; exact Bool.false_ne_true)]
  rw [e]
  unfold valV
  rw [List.find?_append]
  by_cases z : k' = k
  · subst z
    have hn : (kvs.find? fun kv => decide (kv.1 = k')) = none := List.find?_eq_none.mpr fun x hx => by simpa using none_of x hx
    rw [hn, if_pos rfl]
    simp
  · rw [if_neg z]
    cases hf : kvs.find? fun kv => decide (kv.1 = k') with
    | some x => rfl
    | none =>
      have : ([(k, v)] : List (κ × V)).find? (fun kv => decide (kv.1 = k')) = none := List.find?_eq_none.mpr fun x hx => by
        rw [List.mem_singleton.mp hx]
        simpa using fun y => z y.symm
      rw [this] <;> rfl
theorem put_len {κ : Type} [DecidableEq κ] {kvs : List (κ × V)} {k : κ} {v : V} : (putK kvs k v).length ≤ kvs.length + 1 := length_putK kvs k v
def spByKind (K : PySem.W.Frag) : Sp := fun vs H Q _ => ∃ (a : Addr) (us : List V) (ps : List (List Str)), vs = [.ref a] ∧ SqL K H a us ∧ PaL H us ps ∧ (∀ p ∈ ps, FactOk p) ∧ ps.length ≤ 1000 ∧
  ∀ (d : Addr) (H' : Hp), H d = none → Same H H' → Shelf kindK H H' d us ps → Q (.ref d) H'
section
variable {P : Program} {w : World} {K : PySem.W.Frag} {mg : Str → Option Value} {base : Heap}
theorem scByKind : FnScope ["facts", "shelf", "fact"] ["facts"] (defScope sByKind) := ⟨rfl, rfl, rfl, by decide +kernel, rfl, by decide +kernel, by decide +kernel⟩
theorem ok_byKind {f fK : Addr} {fd dK : FuncData} (F : Fun K "by_kind" "by_kind" sByKind f fd) (GK : FnOk P w K mg base CX0 1 fK dK ["pattern"] (spKindOf K)) (kK : PySem.W.keepIn K (.ref fK) = true) (gK : mg "kind_of" = some (.ref fK)) (bK : Binds K dK ["pattern"] []) :
    FnOk P w K mg base CX0 2 f fd ["facts"] (spByKind K) := by
  refine F.ok scByKind (fun vs H Q E h => ?_) (fun cdv A outer s H vs Q E hr h => ?_)
  · obtain ⟨a, us, ps, rfl, _⟩ := h
    rfl
  · obtain ⟨a, us, ps, rfl, ha, hp, hok, hl, q⟩ := h
    have hr1 : Room 1 _ := hr.mono (by decide)
    refine ⟨_, pss_cons (ps_set (i := 1) scByKind.nd rfl (Or.inl rfl) pe_dnewT)
      (pss_cons (ps_for PassesOwn.never rfl (pi_list (pv 0)) (pg_name (i := 2) scByKind.nd rfl (Or.inl rfl))
        (pss_one (ps_expr (pe_bm PySem.F.plainAttrs_list PySem.F.slot_list_append PySem.F.type_list_append mt_append
          (pe_bm PySem.F.plainAttrs_dict PySem.F.slot_dict_setdefault PySem.F.type_dict_setdefault (mt_setdT (Nat.lt_of_le_of_lt (Nat.add_le_add_left (by decide : 1 ≤ 64) _) hr.units)) (pv 1) (pa_cons (by exact (pe_call GK hr1 (by rfl) gK kK bK .nil pass0 (pa_cons (pv 2) pa_nil))) (pa_cons (pe_lst pa_nil) pa_nil))) (pa_cons (pv 2) pa_nil)))))
      (pss_one (ps_ret (pv 1)))), ?_⟩
    refine fun d nd => ?_
    have hul := hp.len
    refine ⟨_, rfl, a, rfl, ⟨_, (same_new nd).seq ha⟩, for_list (K := K) (a := a) (xs := us) (fun i σ H' => ∃ (o2 : Option V), σ = [some (.ref a), some (.ref d), o2] ∧ Same H H' ∧ Shelf kindK H H' d (us.take i) (ps.take i)) ⟨none, rfl, same_new nd, ?_⟩ (fun i σ H' _ z => ?_) ?_ ?_⟩
    · exact ⟨[], upd_same, Nat.zero_le _, fun k v h => (by cases h), fun k _ => rfl, fun k k' l h => (by cases h)⟩
    · obtain ⟨_, _, sm, _⟩ := z
      exact sm.seq ha
    · rintro i v σ H1 hi ⟨o2, rfl, sm, S⟩
      obtain ⟨t, p, rfl, hpi, et⟩ := hp.at_ hi
      have hf := hok p (List.mem_of_getElem? hpi)
      have il : i < ps.length := (List.getElem?_eq_some_iff.mp hpi).1
      obtain ⟨kvs, e1, e2, e3, e4, e5⟩ := S
      refine ⟨_, rfl, .inr (.inr (.inl ⟨rfl, .inr ⟨kvs, e1⟩⟩)), _, rfl, ?_⟩
      dsimp only [tNil]
      refine ⟨t, p, rfl, (et.same sm), hf.1.1, by have := hf.1.2; omega, fun b nb => ?_⟩
      have s1 : Same H1 (upd H1 b (.tup ((kindK p).map kV))) := same_new nb
      refine ⟨by show 0 ≤ _; exact Nat.zero_le _, fun n0 nn => ?_⟩
      have n1 : H1 n0 = none := by
        by_cases z : n0 = b
        · rw [z]; exact nb
        · rw [upd_ne z] at nn; exact nn
      have nb0 : n0 ≠ b := fun z => by
        rw [z, upd_same] at nn
        cases nn
      have nd0 : n0 ≠ d := fun z => by rw [z, e1] at n1; cases n1
      have nbd : b ≠ d := fun z => by rw [z, e1] at nb; cases nb
      generalize hG : upd (upd H1 b (.tup ((kindK p).map kV))) n0 (.lst []) = G
      have sG : Same H1 G := by rw [← hG]; exact s1.trans (same_new nn)
      have gb : G b = some (.tup ((kindK p).map kV)) := by rw [← hG, upd_ne (Ne.symm nb0), upd_same]
      have gn : G n0 = some (.lst []) := by rw [← hG, upd_same]
      clear hG
      have kl : kvs.length < sizeLine := by
        rw [List.length_take] at e2
        exact Nat.lt_of_le_of_lt (by omega : _ ≤ 1000) (by decide)
      have hlen : ∀ k, (pick kindK k (us.take i) (ps.take i)).length < sizeLine := fun k => by
        have := pick_len (key := kindK) (k := k) (us := us.take i) (ps := ps.take i)
        rw [List.length_take] at this
        exact Nat.lt_of_le_of_lt (by omega : _ ≤ 1000) (by decide)
      refine ⟨d, b, kvs, kindK p, .ref n0, rfl, rfl, sG _ _ e1, gb, kl, fun v hv => ?_, fun hn => ?_⟩
      · obtain ⟨l, rfl, nl, el⟩ := e3 _ _ hv
        have ld : l ≠ d := fun z => by rw [z, e1] at el; cases el
        refine ⟨.inl ⟨rfl, _, SqL.of (sG _ _ el)⟩, _, rfl, ?_⟩
        refine ⟨l, _, _, rfl, rfl, sG _ _ el, hlen _, ?_⟩
        refine ⟨some (.ref t), rfl, same_put (sm.trans sG) nl, ?_⟩
        refine ⟨kvs, by rw [upd_ne (Ne.symm ld)]; exact sG _ _ e1, by rw [List.length_take] at e2 ⊢; omega, fun k v hk => ?_, fun k hk => ?_, e5⟩
        · obtain ⟨l2, rfl, n2, el2⟩ := e3 _ _ hk
          refine ⟨l2, rfl, n2, ?_⟩
          rw [pick_step hi hpi]
          by_cases z : kindK p = k
          · subst z
            rw [hv] at hk
            cases hk
            rw [upd_same, if_pos rfl]
          · rw [if_neg z, upd_ne (fun y => z (e5 _ _ l hv (by rw [← y]; exact hk)))]
            exact sG _ _ el2
        · rw [pick_step hi hpi, if_neg (fun z => by rw [← z, hv] at hk; cases hk)]
          exact e4 k hk
      · refine ⟨.inl ⟨rfl, _, SqL.of (by rw [upd_ne nd0]; exact gn)⟩, _, rfl, ?_⟩
        refine ⟨n0, _, _, rfl, rfl, by rw [upd_ne nd0]; exact gn, by decide, ?_⟩
        have nH : H n0 = none := sm.free n1
        refine ⟨some (.ref t), rfl, same_put (same_put (sm.trans sG) nd) nH, ?_⟩
        refine ⟨putK kvs (kindK p) (.ref n0), by rw [upd_ne (Ne.symm nd0), upd_same], ?_, fun k v hk => ?_, fun k hk => ?_, fun k k' l h1 h2 => ?_⟩
        · have := put_len (kvs := kvs) (k := kindK p) (v := .ref n0)
          rw [List.length_take] at e2 ⊢
          omega
        · rw [valV_put hn] at hk
          rw [pick_step hi hpi]
          by_cases z : k = kindK p
          · rw [if_pos z] at hk
            cases hk
            refine ⟨n0, rfl, nH, ?_⟩
            rw [upd_same, if_pos z.symm, z, e4 _ hn]
          · rw [if_neg z] at hk
            obtain ⟨l2, rfl, n2, el2⟩ := e3 _ _ hk
            refine ⟨l2, rfl, n2, ?_⟩
            rw [if_neg (fun y => z y.symm), upd_ne (fun y => by rw [y] at el2; rw [n1] at el2; cases el2), upd_ne (fun y => by rw [y, e1] at el2; cases el2)]
            exact sG _ _ el2
        · rw [valV_put hn] at hk
          by_cases z : k = kindK p
          · rw [if_pos z] at hk
            cases hk
          · rw [if_neg z] at hk
            rw [pick_step hi hpi, if_neg (fun y => z y.symm)]
            exact e4 k hk
        · rw [valV_put hn] at h1 h2
          have old : ∀ k, valV kvs k ≠ some (.ref n0) := fun k z => by
            obtain ⟨l2, y, _, el2⟩ := e3 _ _ z
            cases y
            rw [n1] at el2
            cases el2
          by_cases z : k = kindK p
          · by_cases z2 : k' = kindK p
            · rw [z, z2]
            · rw [if_pos z] at h1
              rw [if_neg z2] at h2
              cases h1
              exact absurd h2 (old _)
          · rw [if_neg z] at h1
            by_cases z2 : k' = kindK p
            · rw [if_pos z2] at h2
              cases h2
              exact absurd h1 (old _)
            · rw [if_neg z2] at h2
              exact e5 _ _ _ h1 h2
    · rintro σ H1 ⟨o2, rfl, sm, S⟩
      rw [List.take_length, hul, List.take_length] at S
      exact ⟨_, rfl, q d H1 nd sm S⟩
end
end Nv
set_option maxHeartbeats 4000000
namespace Nv
open PySem PySem.Spec PyProof.Rows L2
/-! # the small helpers of joins -/
section
variable {P : Program} {w : World} {K : PySem.W.Frag} {mg : Str → Option Value} {base : Heap}
def spKnows (K : PySem.W.Frag) : Sp := fun vs H Q _ => ∃ (t p : Addr) (ts : List Str) (a b : Str), vs = [.ref t, .ref p] ∧ SqL K H t (ts.map V.str) ∧ Tu H p [a, b] ∧ Q (.bl (decide (a ∈ ts) && decide (b ∈ ts))) H
theorem scKnows : FnScope ["terms", "pair"] ["terms", "pair"] (defScope sKnows) := ⟨rfl, rfl, rfl, by decide +kernel, rfl, by decide +kernel, by decide +kernel⟩
theorem ok_knows {f : Addr} {fd : FuncData} (F : Fun K "_knows" "_knows" sKnows f fd) : FnOk P w K mg base CX0 1 f fd ["terms", "pair"] (spKnows K) := by
  refine F.ok scKnows (fun vs H Q E h => ?_) (fun cdv A outer s H vs Q E hr h => ?_)
  · obtain ⟨t, p, ts, a, b, rfl, _⟩ := h
    rfl
  · obtain ⟨t, p, ts, a, b, rfl, ht, hp, q⟩ := h
    refine ⟨_, pss_one (ps_ret (pe_and (pe_cmpR op_in_seq (pe_ix ix_tup (pv 1) pe_int (fun _ _ => rfl)) (pv 0) (by rfl)) (pe_one (pe_cmpR op_in_seq (pe_ix ix_tup (pv 1) pe_int (fun _ _ => rfl)) (pv 0) (by rfl))))), ?_⟩
    refine ⟨_, rfl, p, _, _, V.str a, rfl, rfl, .inl hp, atI_nat (j := 0) rfl, _, rfl, t, _, rfl, .inl ht, rfl, flat_strs _, ?_⟩
    show ∃ _, _
    rw [inV_strs]
    refine ⟨_, rfl, ?_⟩
    cases ha : decide (a ∈ ts) with
    | false =>
      rw [ha] at q
      exact iteF q
    | true =>
      rw [ha] at q
      refine iteT ?_
      refine ⟨_, rfl, p, _, _, V.str b, rfl, rfl, .inl hp, atI_nat (j := 1) rfl, _, rfl, t, _, rfl, .inl ht, rfl, flat_strs _, ?_⟩
      show Q (.bl (inV (.str b) (ts.map V.str))) H
      rw [inV_strs]
      exact q
/-- pairs of whole numbers -/
inductive IJs (H : Hp) : List V → List (Nat × Nat) → Prop
  | nil : IJs H [] []
  | cons {t : Addr} {z : Nat × Nat} {vs : List V} {zs : List (Nat × Nat)} (e : H t = some (.tup [.int (z.1 : Nat), .int (z.2 : Nat)])) (h : IJs H vs zs) : IJs H (.ref t :: vs) (z :: zs)
theorem IJs.same {H H' : Hp} {vs : List V} {zs : List (Nat × Nat)} (h : IJs H vs zs) (s : Same H H') : IJs H' vs zs := by
  induction h with
  | nil => exact .nil
  | cons e _ ih => exact .cons (s _ _ e) ih
theorem IJs.len {H : Hp} {vs : List V} {zs : List (Nat × Nat)} (h : IJs H vs zs) : vs.length = zs.length := by
  induction h with
  | nil => rfl
  | cons _ _ ih => simp [ih]
theorem IJs.snoc {H : Hp} {vs : List V} {zs : List (Nat × Nat)} {t : Addr} {z : Nat × Nat} (h : IJs H vs zs) (e : H t = some (.tup [.int (z.1 : Nat), .int (z.2 : Nat)])) : IJs H (vs ++ [.ref t]) (zs ++ [z]) := by
  induction h with
  | nil => exact .cons e .nil
  | cons e1 _ ih => exact .cons e1 ih
theorem IJs.at_ {H : Hp} {vs : List V} {zs : List (Nat × Nat)} (h : IJs H vs zs) {i : Nat} {v : V} (hi : vs[i]? = some v) : ∃ t z, v = .ref t ∧ zs[i]? = some z ∧ H t = some (.tup [.int (z.1 : Nat), .int (z.2 : Nat)]) := by
  induction h generalizing i with
  | nil => cases i <;> cases hi
  | cons e _ ih =>
    cases i with
    | zero =>
      cases hi
      exact ⟨_, _, rfl, rfl, e⟩
    | succ i => exact ih hi
/-- where a term stands first -/
def pos1 (ts : List Str) (z : Str) : Nat := ts.findIdx fun y => y == z
theorem pos1_at {ts : List Str} {z : Str} (h : z ∈ ts) : ts[pos1 ts z]? = some z ∧ ∀ m, m < pos1 ts z → ts[m]? ≠ some z := by
  have hl : pos1 ts z < ts.length := List.findIdx_lt_length_of_exists ⟨z, h, beq_self_eq_true z⟩
  refine ⟨?_, fun m hm e => ?_⟩
  · rw [List.getElem?_eq_getElem hl]
    have := List.findIdx_getElem (xs := ts) (p := fun y => y == z) (w := hl)
    exact congrArg some (eq_of_beq this)
  · have := List.not_of_lt_findIdx (xs := ts) (p := fun y => y == z) hm
    obtain ⟨h1, h2⟩ := List.getElem?_eq_some_iff.mp e
    rw [h2] at this
    exact absurd (beq_self_eq_true z) (by simpa using this)
/-- the reading of ts.index(z) -/
theorem idx_at {ts : List Str} {z : Str} (h : z ∈ ts) : (ts.map V.str)[pos1 ts z]? = some (.str z) ∧ ∀ m v, m < pos1 ts z → (ts.map V.str)[m]? = some v → eqV v (.str z) = false := by
  obtain ⟨h1, h2⟩ := pos1_at h
  refine ⟨by rw [List.getElem?_map, h1] <;> rfl, fun m v hm hv => ?_⟩
  obtain ⟨y, hy, rfl⟩ := at_map hv
  show (y == z) = false
  refine beq_eq_false_iff_ne.mpr fun e => ?_
  subst e
  exact h2 m hm hy
def PairIn (ts : List Str) (p : List Str) : Prop := ∃ a b, p = [a, b] ∧ a ∈ ts ∧ b ∈ ts
def ijOf (ts : List Str) (p : List Str) : Nat × Nat := (pos1 ts (p.getD 0 ""), pos1 ts (p.getD 1 ""))
def spPlacesOf (K : PySem.W.Frag) : Sp := fun vs H Q _ => ∃ (t a : Addr) (ts : List Str) (us : List V) (ps : List (List Str)), vs = [.ref t, .ref a] ∧ SqL K H t (ts.map V.str) ∧ SqL K H a us ∧ PaL H us ps ∧ (∀ p ∈ ps, PairIn ts p) ∧ ps.length ≤ 1000 ∧
  ∀ (p : Addr) (H' : Hp) (zs : List V), H p = none → Same H H' → H' p = some (.lst zs) → IJs H' zs (ps.map (ijOf ts)) → Q (.ref p) H'
theorem scPlacesOf : FnScope ["terms", "pairs", "one", "other"] ["terms", "pairs"] (defScope sPlacesOfPairs) := ⟨rfl, rfl, rfl, by decide +kernel, rfl, by decide +kernel, by decide +kernel⟩
theorem ok_placesOf {f : Addr} {fd : FuncData} (F : Fun K "_places_of_pairs" "_places_of_pairs" sPlacesOfPairs f fd) : FnOk P w K mg base CX0 1 f fd ["terms", "pairs"] (spPlacesOf K) := by
  refine F.ok scPlacesOf (fun vs H Q E h => ?_) (fun cdv A outer s H vs Q E hr h => ?_)
  · obtain ⟨t, a, ts, us, ps, rfl, _⟩ := h
    rfl
  · obtain ⟨t, a, ts, us, ps, rfl, ht, ha, hp, hin, hl, q⟩ := h
    refine ⟨_, pss_one (ps_ret (by exact (pe_lc (own := [("one", 2), ("other", 3)]) (g := gTup K 2 (gCons (gName 2) (gCons (gName 3) gNil))) (tt := tYes)
        (te := tTup (tCons (tBM K "list" (rIndex K) (tVar 0) (tCons (tVar 2) tNil)) (tCons (tBM K "list" (rIndex K) (tVar 0) (tCons (tVar 3) tNil)) tNil))) rfl scPlacesOf.nd (pi_list (pv 1))
      (blkOk_by (own := [("one", 2), ("other", 3)]) (N := ["terms", "pairs", "one", "other"]) (sc := defScope sPlacesOfPairs) (by decide +kernel))
      (fun _ _ _ _ _ => pg_tup rfl (pgs_cons (pg_name (i := 2) scPlacesOf.nd rfl (Or.inl rfl)) (pgs_cons (pg_name (i := 3) scPlacesOf.nd rfl (Or.inl rfl)) pgs_nil))) (fun _ _ _ _ _ => pts_nil)
      (fun _ _ _ _ _ => by exact (pe_tup (pa_cons (pe_bm PySem.F.plainAttrs_list PySem.F.slot_list_index PySem.F.type_list_index mt_index (pv 0) (pa_cons (pv 2) pa_nil)) (pa_cons (pe_bm PySem.F.plainAttrs_list PySem.F.slot_list_index PySem.F.type_list_index mt_index (pv 0) (pa_cons (pv 3) pa_nil)) pa_nil))))))), ?_⟩
    have hul := hp.len
    refine ⟨_, rfl, a, rfl, ⟨_, ha⟩, fun D nD => ?_⟩
    refine lc_list (K := K) (a := a) (xs := us) (fun i H' => Same H H' ∧ ∃ zs : List V, H' D = some (.lst zs) ∧ IJs H' zs ((ps.take i).map (ijOf ts))) ⟨same_new nD, [], upd_same, .nil⟩ (fun i H' _ y => y.1.seq ha) ?_ ?_
    · rintro i v H1 hi ⟨sm, zs, e1, hz⟩
      obtain ⟨b, p, rfl, hpi, eb⟩ := hp.at_ hi
      obtain ⟨x, y, rfl, hx, hy⟩ := hin p (List.mem_of_getElem? hpi)
      have il := (List.getElem?_eq_some_iff.mp hpi).1
      have ht1 := sm.seq ht
      refine ⟨b, _, rfl, (eb.same sm).sq, rfl, _, _, rfl, _, _, rfl, rfl, rfl, ?_⟩
      obtain ⟨x1, x2⟩ := idx_at hx
      obtain ⟨y1, y2⟩ := idx_at hy
      refine ⟨_, rfl, .inl ⟨rfl, _, ht1⟩, _, rfl, t, ts.map V.str, .str x, pos1 ts x, .str x, rfl, rfl, ht1, rfl, flat_strs _, x1, by show (x == x) = true; exact beq_self_eq_true x, x2, ?_⟩
      refine ⟨_, rfl, .inl ⟨rfl, _, ht1⟩, _, rfl, t, ts.map V.str, .str y, pos1 ts y, .str y, rfl, rfl, ht1, rfl, flat_strs _, y1, by show (y == y) = true; exact beq_self_eq_true y, y2, ?_⟩
      dsimp only [tNil]
      refine ⟨by show 2 ≤ _; decide, fun q2 nq => ?_⟩
      have sq : Same H1 (upd H1 q2 (.tup [.int (pos1 ts x : Nat), .int (pos1 ts y : Nat)])) := same_new nq
      refine ⟨zs, sq _ _ e1, ?_, same_put (sm.trans sq) nD, _, upd_same, ?_⟩
      · have := hz.len
        rw [List.length_map, List.length_take] at this
        exact Nat.lt_of_le_of_lt (by omega : _ ≤ 1000) (by decide)
      · rw [take_one hpi, List.map_append]
        have e2 : H1 q2 = none := nq
        have d2 : q2 ≠ D := fun z => by rw [z, e1] at e2; cases e2
        refine IJs.snoc ?_ (by rw [upd_ne d2, upd_same] <;> rfl)
        have s3 := hz.same sq
        have key : ∀ {ws : List V} {ijs : List (Nat × Nat)}, IJs (upd H1 q2 (.tup [.int (pos1 ts x : Nat), .int (pos1 ts y : Nat)])) ws ijs → IJs (upd (upd H1 q2 (.tup [.int (pos1 ts x : Nat), .int (pos1 ts y : Nat)])) D (.lst (zs ++ [V.ref q2]))) ws ijs := by
          intro ws ijs h
          induction h with
          | nil => exact .nil
          | @cons t z _ _ e _ ih =>
            refine .cons ?_ ih
            rw [upd_ne (fun w => by rw [w, sq _ _ e1] at e; cases e)]
            exact e
        exact key s3
    · rintro H1 ⟨sm, zs, e1, hz⟩
      rw [hul, List.take_length] at hz
      exact q D H1 zs nD sm e1 hz
end
end Nv
set_option maxHeartbeats 4000000
namespace Nv
open PySem PySem.Spec PyProof.Rows L2
/-! # _kept_apart -/
def apartB (z : Nat × Nat) (p : List Str) : Bool := !decide (p.getD z.1 "" = p.getD z.2 "")
def keepA (ijs : List (Nat × Nat)) (ps : List (List Str)) : List (List Str) := ijs.foldl (fun qs z => qs.filter (apartB z)) ps
theorem keepA_sub : ∀ (ijs : List (Nat × Nat)) {ps : List (List Str)} {p : List Str}, p ∈ keepA ijs ps → p ∈ ps
  | [], _, _, h => h
  | z :: ijs, ps, p, h => (List.mem_filter.mp (keepA_sub ijs (ps := ps.filter (apartB z)) h)).1
theorem keepA_len (ijs : List (Nat × Nat)) (ps : List (List Str)) : (keepA ijs ps).length ≤ ps.length := by
  induction ijs generalizing ps with
  | nil => exact Nat.le_refl _
  | cons z ijs ih => exact Nat.le_trans (ih _) (List.length_filter_le _ _)
theorem getD_str {p : List Str} {i : Nat} (h : i < p.length) : (p.map V.str)[i]? = some (.str (p.getD i "")) := by
  rw [List.getElem?_map, List.getD_eq_getElem?_getD, List.getElem?_eq_getElem h] <;> rfl
theorem filter_take {α : Type} {f : α → Bool} {l : List α} {i : Nat} {x : α} (h : l[i]? = some x) : (l.take (i + 1)).filter f = (l.take i).filter f ++ if f x = true then [x] else [] := by
  rw [take_one h, List.filter_append]
  cases hf : f x
  · rw [List.filter_cons_of_neg (by rw [hf]; exact Bool.false_ne_true), if_neg Bool.false_ne_true] <;> rfl
  · rw [List.filter_cons_of_pos hf, if_pos rfl] <;> rfl
section
variable {P : Program} {w : World} {K : PySem.W.Frag} {mg : Str → Option Value} {base : Heap}
def spKeptApart (K : PySem.W.Frag) : Sp := fun vs H Q _ => ∃ (r a : Addr) (us zs : List V) (ps : List (List Str)) (ijs : List (Nat × Nat)), vs = [.ref r, .ref a] ∧ H r = some (.lst us) ∧ PaL H us ps ∧ SqL K H a zs ∧ IJs H zs ijs ∧
  (∀ p ∈ ps, ∀ z ∈ ijs, z.1 < p.length ∧ z.2 < p.length) ∧ ps.length ≤ 100000 ∧
  ∀ (r' : Addr) (H' : Hp) (us' : List V), (r' = r ∨ H r' = none) → Same H H' → H' r' = some (.lst us') → PaL H' us' (keepA ijs ps) → Q (.ref r') H'
theorem scKeptApart : FnScope ["rows", "apart", "one", "other", "row"] ["rows", "apart"] (defScope sKeptApart) := ⟨rfl, rfl, rfl, by decide +kernel, rfl, by decide +kernel, by decide +kernel⟩
theorem ok_keptApart {f : Addr} {fd : FuncData} (F : Fun K "_kept_apart" "_kept_apart" sKeptApart f fd) : FnOk P w K mg base CX0 1 f fd ["rows", "apart"] (spKeptApart K) := by
  refine F.ok scKeptApart (fun vs H Q E h => ?_) (fun cdv A outer s H vs Q E hr h => ?_)
  · obtain ⟨r, a, us, zs, ps, ijs, rfl, _⟩ := h
    rfl
  · obtain ⟨r, a, us, zs, ps, ijs, rfl, er, hp, ha, hz, hin, hl, q⟩ := h
    refine ⟨_, pss_cons (ps_for PassesOwn.never rfl (pi_list (pv 1)) (pg_tup rfl (pgs_cons (pg_name (i := 2) scKeptApart.nd rfl (Or.inr rfl)) (pgs_cons (pg_name (i := 3) scKeptApart.nd rfl (Or.inr rfl)) pgs_nil)))
        (pss_one (by exact (ps_setLc (i := 0) (own := [("row", 4)]) (g := gName 4) (tt := tTest (tOp rNe (tOp (rIxT K) (tVar 4) (tVar 2)) (tOp (rIxT K) (tVar 4) (tVar 3)))) (te := tVar 4) rfl scKeptApart.nd rfl rfl (sw_true rfl rfl rfl (by decide +kernel))
          (pi_list (pv 0))
          (blkOk_by (own := [("row", 4)]) (N := ["rows", "apart", "one", "other", "row"]) (sc := defScope sKeptApart) (by decide +kernel))
          (fun _ _ _ _ _ => pg_name (i := 4) scKeptApart.nd rfl (Or.inl rfl)) (fun _ _ _ _ _ => pts_one (by exact (pt_cmpR op_ne (pe_ix ix_tup (pv 4) (pv 2) (fun _ _ => rfl)) (pe_ix ix_tup (pv 4) (pv 3) (fun _ _ => rfl)) (nomark _))))
          (fun _ _ _ _ _ => by exact (pv 4))))))
      (pss_one (ps_ret (pv 0))), ?_⟩
    refine ⟨_, rfl, a, rfl, ⟨_, ha⟩, for_list (K := K) (a := a) (xs := zs) (fun i σ H' => ∃ (r' : Addr) (us' : List V) (o2 o3 : Option V), σ = [some (.ref r'), some (.ref a), o2, o3, none] ∧ (r' = r ∨ H r' = none) ∧ Same H H' ∧ H' r' = some (.lst us') ∧ PaL H' us' (keepA (ijs.take i) ps)) ⟨r, us, none, none, rfl, .inl rfl, Same.refl H, er, hp⟩ (fun i σ H' _ z => ?_) ?_ ?_⟩
    · obtain ⟨_, _, _, _, _, _, sm, _⟩ := z
      exact sm.seq ha
    · rintro i v σ H1 hi ⟨r', us', o2, o3, rfl, nw, sm, e1, hp1⟩
      obtain ⟨b, z, rfl, hzi, eb⟩ := hz.at_ hi
      have hfold : keepA (ijs.take (i + 1)) ps = (keepA (ijs.take i) ps).filter (apartB z) := by
        unfold keepA
        rw [take_one hzi, List.foldl_append] <;> rfl
      have hlq := keepA_len (ijs.take i) ps
      have hinq : ∀ p ∈ keepA (ijs.take i) ps, z.1 < p.length ∧ z.2 < p.length := fun p hp => hin p (keepA_sub _ hp) z (List.mem_of_getElem? hzi)
      generalize keepA (ijs.take i) ps = qs at hp1 hfold hlq hinq
      refine ⟨b, _, rfl, SqT.of (sm _ _ eb), rfl, _, _, rfl, _, _, rfl, rfl, ?_⟩
      refine ⟨_, rfl, r', rfl, ⟨_, SqL.of e1⟩, fun D nD => ?_⟩
      have hul := hp1.len
      refine lc_list (K := K) (a := r') (xs := us') (fun j H' => Same H1 H' ∧ ∃ ws : List V, H' D = some (.lst ws) ∧ PaL H' ws ((qs.take j).filter (apartB z))) ⟨same_new nD, [], upd_same, .nil⟩ (fun i H' _ y => SqL.of (y.1 _ _ e1)) ?_ ?_
      · rintro j v H2 hj ⟨s2, ws, e2, hw⟩
        obtain ⟨t, p, rfl, hpj, et⟩ := hp1.at_ hj
        have jl := (List.getElem?_eq_some_iff.mp hpj).1
        obtain ⟨l1, l2⟩ := hinq p (List.mem_of_getElem? hpj)
        have et2 := (et.same s2)
        refine ⟨rfl, _, rfl, _, rfl, t, _, _, _, rfl, rfl, .inl et2, atI_nat (getD_str l1), ?_⟩
        refine ⟨_, rfl, _, rfl, t, _, _, _, rfl, rfl, .inl et2, atI_nat (getD_str l2), ?_⟩
        refine ⟨rfl, _, rfl, ?_⟩
        have eb2 : (!decide (V.str (p.getD z.1 "") = V.str (p.getD z.2 ""))) = apartB z p := by
          unfold apartB
          congr 1
          exact decide_eq_decide.mpr ⟨fun h => by injection h, fun h => by rw [h]⟩
        show if (!decide (V.str (p.getD z.1 "") = V.str (p.getD z.2 ""))) = true then _ else _
        rw [eb2]
        have ft := filter_take (f := apartB z) hpj
        cases hb : apartB z p with
        | true =>
          rw [hb, if_pos rfl] at ft
          refine iteT ⟨_, rfl, ws, e2, ?_, same_put s2 nD, _, upd_same, ?_⟩
          · have h1 := hw.len
            have h2 := List.length_filter_le (apartB z) (qs.take j)
            rw [List.length_take] at h2
            exact Nat.lt_of_le_of_lt (by omega : _ ≤ 100000) (by decide)
          · rw [ft]
            exact (hw.over e2).app (.mk (et2.upd (et2.lst e2)) .nil)
        | false =>
          rw [hb, if_neg Bool.false_ne_true, List.append_nil] at ft
          refine iteF ⟨s2, ws, e2, ?_⟩
          rw [ft]
          exact hw
      · rintro H2 ⟨s2, ws, e2, hw⟩
        rw [hul, List.take_length] at hw
        exact ⟨D, ws, _, _, rfl, .inr (sm.free nD), sm.trans s2, e2, by rw [hfold]; exact hw⟩
    · rintro σ H1 ⟨r', us', o2, o3, rfl, nw, sm, e1, hp1⟩
      rw [hz.len, List.take_length] at hp1
      exact ⟨_, rfl, q r' H1 us' nw sm e1 hp1⟩
end
end Nv
set_option maxHeartbeats 4000000
namespace Nv
open PySem PySem.Spec PyProof.Rows L2
open PySem.SeqAt
open AutoSeq1 (wpAny_loadPart')
open MeetsSeq MeetsSeq2 MeetsSeq3 SeqRoads2
/-! # t.index(x, 1) -/
theorem forIn_from {β : Type} {M : Model} {A : Around} {E : Value → Shared → Prop} {s : Shared} {lo n : Nat} {hp : 0 < 1} (f : Nat → β → Sem (ForInStep β)) (I : List Nat → β → Shared → Prop) (Q : β → Shared → Prop)
    (turn : ∀ x rest b s, I (x :: rest) b s → wpAny M A (f x b) (fun r s' => match r with | .yield b' => I rest b' s' | .done b' => Q b' s') E s)
    (fin : ∀ b s, I [] b s → Q b s) (b : β) (h : I (List.range' lo (n - lo)) b s) : wpAny M A (forIn ({ start := lo, stop := n, step := 1, step_pos := hp } : Std.Legacy.Range) b f) Q E s := by
  rw [Std.Legacy.Range.forIn_eq_forIn_range']
  simp only [Std.Legacy.Range.size, Nat.add_sub_cancel, Nat.div_one]
  exact wpAny_forIn_list f I Q turn fin _ b h
theorem tuple_index1 (l : Addr) (items : Array Value) (n : Nat) (dd : Option Addr) (sl : Array (Option Value)) (x : Value) (t1 : Tok) (e : Value → Bool) (j : Nat) (hj : j < items.size) (h1 : 1 ≤ j)
    (hit : e items[j] = true) (hno : ∀ m (hm : m < items.size), 1 ≤ m → m < j → e items[m] = false) :
    Meets (Builtin.«tuple.index» ⟨[.ref l, x, .int 1 t1], []⟩)
      (fun A R s => s.heap.get? l = some { cls := .type "tuple", dict := dd, data := .seq items n, slots := sl } ∧ (∀ y, y ∈ items → EqAt A.in1 s y x (e y)) ∧ R (.ok (.ret (.int j s.toks))) { s with toks := s.toks + 1 }) :=
  .of_wp fun prog w A R s h => by
    obtain ⟨hp, g, d, tk, os⟩ := s; obtain ⟨hl, he, h⟩ := h
    wp_walk using wpAny_loadPart' hl
    rw [PySem.F.slot_int_index.lookup]
    refine wpAny_pure ?_
    dsimp only
    rw [if_neg (by simp)]
    unfold asIndex
    wp_walk using forIn_from _ (fun rest b s' => b.1 = none ∧ s' = ⟨hp, g, d, tk, os⟩ ∧ ∃ i, rest = List.range' i (items.size - i) ∧ 1 ≤ i ∧ i ≤ j) _
    case turn =>
      rintro y rest b s' ⟨hb', rfl, i, hr, hi1, hi⟩
      have hlt : i < items.size := by omega
      obtain ⟨rfl, hrest⟩ : y = i ∧ rest = List.range' (i + 1) (items.size - (i + 1)) := by
        have e : items.size - i = (items.size - (i + 1)) + 1 := by omega
        rw [e, List.range'_succ] at hr
        injection hr with q1 q2
        exact ⟨q1, q2⟩
      rw [Array.getElem?_eq_getElem hlt]
      refine wpAny_bind (he _ (Array.getElem_mem hlt) prog w _ _ ?_)
      by_cases hji : y = j
      · subst hji
        rw [hit]
        wp_walk
        exact ⟨_, rfl, h⟩
      · rw [hno y hlt hi1 (by omega)]
        wp_walk
        exact ⟨rfl, rfl, y + 1, hrest, by omega, by omega⟩
    case fin =>
      rintro b s' ⟨hb', rfl, i, hr, hi1, hi⟩
      exfalso
      have e : items.size - i = (items.size - (i + 1)) + 1 := by omega
      rw [e, List.range'_succ] at hr
      cases hr
    case h =>
      refine ⟨rfl, rfl, 1, ?_, Nat.le_refl _, h1⟩
      rw [if_neg (by decide), Nat.min_self] <;> rfl
/-- t.index(x, 1), texts: the first place from 1 on -/
def rTIdx1 (K : PySem.W.Frag) : V → List V → Hp → VK → Prop := fun x xs H Q => ∃ (p : Addr) (ys : List Str) (z : Str) (j : Nat), x = .ref p ∧ xs = [.str z, .int 1] ∧ SqT K H p (ys.map V.str) ∧ 1 ≤ j ∧ ys[j]? = some z ∧
  (∀ m, 1 ≤ m → m < j → ys[m]? ≠ some z) ∧ Q (.int (j : Nat)) H
theorem mt_tup_index1 {X : Cx} : MtR X "tuple.index" (rTIdx1 X.K) := by
  intro pins s σ H x xs v us Q I rx rs h
  obtain ⟨p, ys, z, j, rfl, rfl, hq, h1, hy, hno, q⟩ := h
  cases rx
  obtain ⟨u, u2, rfl, ⟨t, rfl⟩, ⟨t2, rfl⟩⟩ := vals2 rs
  obtain ⟨its, r, pl, hz⟩ := I.tuple hq
  obtain ⟨⟨cls, dd, dt, sl⟩, ho, hc, n, hd⟩ := pl
  simp only at hc hd
  subst hc
  subst hd
  have hl : its.toArray.size = ys.length := by rw [List.size_toArray, ← r.length, List.length_map]
  have hj : j < its.toArray.size := by rw [hl]; exact (List.getElem?_eq_some_iff.mp hy).1
  have at' : ∀ (m : Nat) (hm : m < its.toArray.size), ∃ y t', ys[m]? = some y ∧ its.toArray[m] = Value.str y t' := fun m hm => by
    have hm' : m < ys.length := by rw [← hl]; exact hm
    obtain ⟨w, hw, t', hw'⟩ := r.get (i := m) (x := .str ys[m]) (by simp [hm'])
    refine ⟨ys[m], t', List.getElem?_eq_getElem hm', ?_⟩
    have e := (List.getElem?_eq_some_iff.mp hw).2
    rw [← hw', ← e]
    simp
  refine call_meets PySem.F.slot_tuple_index ⟨_, ho, rfl⟩ PySem.F.entry_tuple_index (PySem.F.args_tuple_index_3 _ _ _) (tuple_index1 p its.toArray n dd sl (.str z t) t2 (eqU (.str z)) j hj h1 ?_ ?_)
    ⟨ho, fun w hw => mem_eqAt (x := .str z) ⟨t, rfl⟩ rfl r (flat_strs ys) w (by simpa using hw), ⟨.int (j : Nat), H, I.tok _, ⟨_, rfl⟩, q⟩⟩
  · obtain ⟨y, t', e1, e2⟩ := at' j hj
    rw [hy] at e1
    cases e1
    rw [e2]
    show (z == z) = true
    exact beq_self_eq_true z
  · intro m hm hm1 hmj
    obtain ⟨y, t', e1, e2⟩ := at' m hm
    rw [e2]
    show (y == z) = false
    exact beq_eq_false_iff_ne.mpr fun e => hno m hm1 hmj (e ▸ e1)
end Nv
set_option maxHeartbeats 4000000
namespace Nv
open PySem PySem.Spec PyProof.Rows L2
/-! # Step, made -/
abbrev sStepInit : Stmt := inClass cStep 0
abbrev sOnward : Stmt := inClass cStep 1
abbrev natV (i : Nat) : V := .int (i : Nat)
def colsOf (pat : List Str) : List Nat := List.range' 1 (pat.length - 1)
def oldsIn (ts pat : List Str) (cs : List Nat) : List Nat := cs.filter fun c => decide (pat.getD c "" ∈ ts)
/-- the first column behind the word at which a term stands -/
def first1 (pat : List Str) (z : Str) : Nat := 1 + pos1 pat.tail z
/-- a column whose term is new, and stands in no column ahead -/
def isNew (ts pat : List Str) (c : Nat) : Bool := !decide (pat.getD c "" ∈ ts) && decide (first1 pat (pat.getD c "") = c)
/-- .. whose term is new, but stands in a column ahead -/
def isTwin (ts pat : List Str) (c : Nat) : Bool := !decide (pat.getD c "" ∈ ts) && !decide (first1 pat (pat.getD c "") = c)
def newsIn (ts pat : List Str) (cs : List Nat) : List Nat := cs.filter (isNew ts pat)
def twinsIn (ts pat : List Str) (cs : List Nat) : List (Nat × Nat) := (cs.filter (isTwin ts pat)).map fun c => (c, first1 pat (pat.getD c ""))
def placesIn (ts pat : List Str) (cs : List Nat) : List Nat := (oldsIn ts pat cs).map fun c => pos1 ts (pat.getD c "")
def termsIn (ts pat : List Str) (cs : List Nat) : List Str := ts ++ (newsIn ts pat cs).map fun c => pat.getD c ""
def stepTerms (ts pat : List Str) : List Str := termsIn ts pat (colsOf pat)
/-- the pairs that a step can look at -/
def readyOf (ts ts' : List Str) (prs : List (List Str)) : List (List Str) := prs.filter fun p => (decide (p.getD 0 "" ∈ ts') && decide (p.getD 1 "" ∈ ts')) && !(decide (p.getD 0 "" ∈ ts) && decide (p.getD 1 "" ∈ ts))
abbrev stF (k o p n t l a : Addr) : Flds := [("kind", .ref k), ("olds", .ref o), ("places", .ref p), ("news", .ref n), ("twins", .ref t), ("terms", .ref l), ("apart", .ref a)]
abbrev stF6 (k o p n t l : Addr) : Flds := [("kind", .ref k), ("olds", .ref o), ("places", .ref p), ("news", .ref n), ("twins", .ref t), ("terms", .ref l)]
theorem sF2 {k o : Addr} : putF "olds" (V.ref o) ([("kind", V.ref k)] : Flds) = ([("kind", V.ref k), ("olds", V.ref o)] : Flds) := putF_new (ns := ["kind"]) rfl (by decide +kernel)
theorem sF3 {k o p : Addr} : putF "places" (V.ref p) ([("kind", V.ref k), ("olds", V.ref o)] : Flds) = ([("kind", V.ref k), ("olds", V.ref o), ("places", V.ref p)] : Flds) := putF_new (ns := ["kind", "olds"]) rfl (by decide +kernel)
theorem sF4 {k o p n : Addr} : putF "news" (V.ref n) ([("kind", V.ref k), ("olds", V.ref o), ("places", V.ref p)] : Flds) = ([("kind", V.ref k), ("olds", V.ref o), ("places", V.ref p), ("news", V.ref n)] : Flds) := putF_new (ns := ["kind", "olds", "places"]) rfl (by decide +kernel)
theorem sF5 {k o p n t : Addr} : putF "twins" (V.ref t) ([("kind", V.ref k), ("olds", V.ref o), ("places", V.ref p), ("news", V.ref n)] : Flds) = ([("kind", V.ref k), ("olds", V.ref o), ("places", V.ref p), ("news", V.ref n), ("twins", V.ref t)] : Flds) := putF_new (ns := ["kind", "olds", "places", "news"]) rfl (by decide +kernel)
theorem sF6 {k o p n t l : Addr} : putF "terms" (V.ref l) ([("kind", V.ref k), ("olds", V.ref o), ("places", V.ref p), ("news", V.ref n), ("twins", V.ref t)] : Flds) = stF6 k o p n t l := putF_new (ns := ["kind", "olds", "places", "news", "twins"]) rfl (by decide +kernel)
theorem sF7 {k o p n t l a : Addr} : putF "apart" (V.ref a) (stF6 k o p n t l) = stF k o p n t l a := putF_new (ns := ["kind", "olds", "places", "news", "twins", "terms"]) rfl (by decide +kernel)
theorem sl2 {k o p n t l : Addr} : (stF6 k o p n t l).lookup ("olds" : Str) = some (V.ref o) := (lk_no (by decide +kernel)).trans lk_yes
theorem sl3 {k o p n t l : Addr} : (stF6 k o p n t l).lookup ("places" : Str) = some (V.ref p) := (lk_no (by decide +kernel)).trans ((lk_no (by decide +kernel)).trans lk_yes)
theorem sl4 {k o p n t l : Addr} : (stF6 k o p n t l).lookup ("news" : Str) = some (V.ref n) := (lk_no (by decide +kernel)).trans ((lk_no (by decide +kernel)).trans ((lk_no (by decide +kernel)).trans lk_yes))
theorem sl6 {k o p n t l : Addr} : (stF6 k o p n t l).lookup ("terms" : Str) = some (V.ref l) := (lk_no (by decide +kernel)).trans ((lk_no (by decide +kernel)).trans ((lk_no (by decide +kernel)).trans ((lk_no (by decide +kernel)).trans ((lk_no (by decide +kernel)).trans lk_yes))))
structure SC (K : PySem.W.Frag) (C : Addr) : Prop where
  cl : Cls K C
  n1 : NoAttr K C "kind"
  n2 : NoAttr K C "olds"
  n3 : NoAttr K C "places"
  n4 : NoAttr K C "news"
  n5 : NoAttr K C "twins"
  n6 : NoAttr K C "terms"
  n7 : NoAttr K C "apart"
theorem IJs.over {H : Hp} {D : Addr} {u o : HO} {vs : List V} {ps : List (Nat × Nat)} (h : IJs H vs ps) (e : H D = some u) (hu : ∀ xs, u ≠ .tup xs) : IJs (upd H D o) vs ps := by
  induction h with
  | nil => exact .nil
  | cons e1 _ ih => exact .cons (by rw [upd_ne (fun z => by rw [z, e] at e1; cases e1; exact hu _ rfl)]; exact e1) ih
/-- a step without apart -/
structure St6 (C : Addr) (H G : Hp) (r dx k o p n t l : Addr) (kd : List L2.Key) (ol pl nw : List Nat) (ts : List Str) (tws : List (Nat × Nat)) : Prop where
  sb : Sb r H G
  er : G r = some (.ins C dx (stF6 k o p n t l))
  ek : G k = some (.tup (kd.map kV))
  eo : G o = some (.lst (ol.map natV))
  ep : G p = some (.lst (pl.map natV))
  en : G n = some (.lst (nw.map natV))
  et : ∃ tv : List V, G t = some (.lst tv) ∧ IJs G tv tws
  el : G l = some (.lst (ts.map V.str))
  fr : H k = none ∧ H o = none ∧ H p = none ∧ H n = none ∧ H t = none ∧ H l = none
  nd : [r, k, o, p, n, t, l].Nodup
section
variable {C : Addr} {H G : Hp} {r dx k o p n t l : Addr} {kd : List L2.Key} {ol pl nw : List Nat} {ts : List Str} {tws : List (Nat × Nat)}
theorem St6.olds (S : St6 C H G r dx k o p n t l kd ol pl nw ts tws) (i : Nat) : St6 C H (upd G o (.lst (ol.map natV ++ [natV i]))) r dx k o p n t l kd (ol ++ [i]) pl nw ts tws := by
  obtain ⟨a1, a2, a3, a4, a5, a6, ⟨tv, a7, ij⟩, a8, a9, nd⟩ := S
  have nd' := nd
  simp only [List.nodup_cons, List.mem_cons, List.not_mem_nil, or_false, not_or] at nd'
  obtain ⟨⟨x1, x2, x3, x4, x5, x6⟩, ⟨y1, y2, y3, y4, y5⟩, ⟨z1, z2, z3, z4⟩, _⟩ := nd'
  exact ⟨a1.put a9.2.1, by rw [upd_ne x2]; exact a2, by rw [upd_ne y1]; exact a3, by rw [upd_same, List.map_append] <;> rfl, by rw [upd_ne (Ne.symm z1)]; exact a5, by rw [upd_ne (Ne.symm z2)]; exact a6, ⟨tv, by rw [upd_ne (Ne.symm z3)]; exact a7, ij.over a4 (fun xs z => nomatch z)⟩, by rw [upd_ne (Ne.symm z4)]; exact a8, a9, nd⟩
theorem St6.places (S : St6 C H G r dx k o p n t l kd ol pl nw ts tws) (i : Nat) : St6 C H (upd G p (.lst (pl.map natV ++ [natV i]))) r dx k o p n t l kd ol (pl ++ [i]) nw ts tws := by
  obtain ⟨a1, a2, a3, a4, a5, a6, ⟨tv, a7, ij⟩, a8, a9, nd⟩ := S
  have nd' := nd
  simp only [List.nodup_cons, List.mem_cons, List.not_mem_nil, or_false, not_or] at nd'
  obtain ⟨⟨x1, x2, x3, x4, x5, x6⟩, ⟨y1, y2, y3, y4, y5⟩, ⟨z1, z2, z3, z4⟩, ⟨u1, u2, u3⟩, _⟩ := nd'
  exact ⟨a1.put a9.2.2.1, by rw [upd_ne x3]; exact a2, by rw [upd_ne y2]; exact a3, by rw [upd_ne z1]; exact a4, by rw [upd_same, List.map_append] <;> rfl, by rw [upd_ne (Ne.symm u1)]; exact a6, ⟨tv, by rw [upd_ne (Ne.symm u2)]; exact a7, ij.over a5 (fun xs z => nomatch z)⟩, by rw [upd_ne (Ne.symm u3)]; exact a8, a9, nd⟩
theorem St6.news (S : St6 C H G r dx k o p n t l kd ol pl nw ts tws) (i : Nat) : St6 C H (upd G n (.lst (nw.map natV ++ [natV i]))) r dx k o p n t l kd ol pl (nw ++ [i]) ts tws := by
  obtain ⟨a1, a2, a3, a4, a5, a6, ⟨tv, a7, ij⟩, a8, a9, nd⟩ := S
  have nd' := nd
  simp only [List.nodup_cons, List.mem_cons, List.not_mem_nil, or_false, not_or] at nd'
  obtain ⟨⟨x1, x2, x3, x4, x5, x6⟩, ⟨y1, y2, y3, y4, y5⟩, ⟨z1, z2, z3, z4⟩, ⟨u1, u2, u3⟩, ⟨v1, v2⟩, _⟩ := nd'
  exact ⟨a1.put a9.2.2.2.1, by rw [upd_ne x4]; exact a2, by rw [upd_ne y3]; exact a3, by rw [upd_ne z2]; exact a4, by rw [upd_ne u1]; exact a5, by rw [upd_same, List.map_append] <;> rfl, ⟨tv, by rw [upd_ne (Ne.symm v1)]; exact a7, ij.over a6 (fun xs z => nomatch z)⟩, by rw [upd_ne (Ne.symm v2)]; exact a8, a9, nd⟩
theorem St6.terms (S : St6 C H G r dx k o p n t l kd ol pl nw ts tws) (z : Str) : St6 C H (upd G l (.lst (ts.map V.str ++ [.str z]))) r dx k o p n t l kd ol pl nw (ts ++ [z]) tws := by
  obtain ⟨a1, a2, a3, a4, a5, a6, ⟨tv, a7, ij⟩, a8, a9, nd⟩ := S
  have nd' := nd
  simp only [List.nodup_cons, List.mem_cons, List.not_mem_nil, or_false, not_or] at nd'
  obtain ⟨⟨x1, x2, x3, x4, x5, x6⟩, ⟨y1, y2, y3, y4, y5⟩, ⟨z1, z2, z3, z4⟩, ⟨u1, u2, u3⟩, ⟨v1, v2⟩, w1, _⟩ := nd'
  exact ⟨a1.put a9.2.2.2.2.2, by rw [upd_ne x6]; exact a2, by rw [upd_ne y5]; exact a3, by rw [upd_ne z4]; exact a4, by rw [upd_ne u3]; exact a5, by rw [upd_ne v2]; exact a6, ⟨tv, by rw [upd_ne w1]; exact a7, ij.over a8 (fun xs z => nomatch z)⟩, by rw [upd_same, List.map_append] <;> rfl, a9, nd⟩
theorem St6.twins (S : St6 C H G r dx k o p n t l kd ol pl nw ts tws) (z : Nat × Nat) {b : Addr} {tv : List V} (e : G t = some (.lst tv)) (hj : IJs G tv tws) (eb : G b = some (.tup [.int (z.1 : Nat), .int (z.2 : Nat)])) : St6 C H (upd G t (.lst (tv ++ [.ref b]))) r dx k o p n t l kd ol pl nw ts (tws ++ [z]) := by
  obtain ⟨a1, a2, a3, a4, a5, a6, _, a8, a9, nd⟩ := S
  have nd' := nd
  simp only [List.nodup_cons, List.mem_cons, List.not_mem_nil, or_false, not_or] at nd'
  obtain ⟨⟨x1, x2, x3, x4, x5, x6⟩, ⟨y1, y2, y3, y4, y5⟩, ⟨z1, z2, z3, z4⟩, ⟨u1, u2, u3⟩, ⟨v1, v2⟩, w1, _⟩ := nd'
  have bt : b ≠ t := fun q => by rw [q, e] at eb; cases eb
  exact ⟨a1.put a9.2.2.2.2.1, by rw [upd_ne x5]; exact a2, by rw [upd_ne y4]; exact a3, by rw [upd_ne z3]; exact a4, by rw [upd_ne u2]; exact a5, by rw [upd_ne v1]; exact a6, ⟨_, upd_same, (hj.over e (fun xs z => nomatch z)).snoc (by rw [upd_ne bt]; exact eb)⟩, by rw [upd_ne (Ne.symm w1)]; exact a8, a9, nd⟩
theorem St6.same {G1 : Hp} (S : St6 C H G r dx k o p n t l kd ol pl nw ts tws) (s : Same G G1) : St6 C H G1 r dx k o p n t l kd ol pl nw ts tws := by
  obtain ⟨a1, a2, a3, a4, a5, a6, ⟨tv, a7, ij⟩, a8, a9, nd⟩ := S
  exact ⟨a1.trans (Sb.of s), s _ _ a2, s _ _ a3, s _ _ a4, s _ _ a5, s _ _ a6, ⟨tv, s _ _ a7, ij.same s⟩, s _ _ a8, a9, nd⟩
end
end Nv
set_option maxHeartbeats 4000000
namespace Nv
open PySem PySem.Spec PyProof.Rows L2
/-- the step of a pattern behind the terms ts stands at r -/
def StepAt (C : Addr) (G : Hp) (r : Addr) (pat ts : List Str) (prs : List (List Str)) : Prop := ∃ (dx k o p n t l a : Addr) (zs : List V), G r = some (.ins C dx (stF k o p n t l a)) ∧ G k = some (.tup ((kindK pat).map kV)) ∧
  G o = some (.lst ((oldsIn ts pat (colsOf pat)).map natV)) ∧ G p = some (.lst ((placesIn ts pat (colsOf pat)).map natV)) ∧ G n = some (.lst ((newsIn ts pat (colsOf pat)).map natV)) ∧ (∃ tv : List V, G t = some (.lst tv) ∧ IJs G tv (twinsIn ts pat (colsOf pat))) ∧
  G l = some (.lst ((stepTerms ts pat).map V.str)) ∧ G a = some (.lst zs) ∧ IJs G zs ((readyOf ts (stepTerms ts pat) prs).map (ijOf (stepTerms ts pat)))
theorem StepAt.same {C : Addr} {G G1 : Hp} {r : Addr} {pat ts : List Str} {prs : List (List Str)} (h : StepAt C G r pat ts prs) (s : Same G G1) : StepAt C G1 r pat ts prs := by
  obtain ⟨dx, k, o, p, n, t, l, a, zs, h1, h2, h3, h4, h5, ⟨tv, h6, i6⟩, h7, h8, h9⟩ := h
  exact ⟨dx, k, o, p, n, t, l, a, zs, s _ _ h1, s _ _ h2, s _ _ h3, s _ _ h4, s _ _ h5, ⟨tv, s _ _ h6, i6.same s⟩, s _ _ h7, s _ _ h8, h9.same s⟩
/-- .. and its lists are new beside H0 -/
def StepNew (C : Addr) (H0 G : Hp) (r : Addr) (pat ts : List Str) (prs : List (List Str)) : Prop := ∃ (dx k o p n t l a : Addr) (zs : List V), G r = some (.ins C dx (stF k o p n t l a)) ∧ G k = some (.tup ((kindK pat).map kV)) ∧
  G o = some (.lst ((oldsIn ts pat (colsOf pat)).map natV)) ∧ G p = some (.lst ((placesIn ts pat (colsOf pat)).map natV)) ∧ G n = some (.lst ((newsIn ts pat (colsOf pat)).map natV)) ∧ (∃ tv : List V, G t = some (.lst tv) ∧ IJs G tv (twinsIn ts pat (colsOf pat))) ∧
  G l = some (.lst ((stepTerms ts pat).map V.str)) ∧ G a = some (.lst zs) ∧ IJs G zs ((readyOf ts (stepTerms ts pat) prs).map (ijOf (stepTerms ts pat))) ∧ (H0 o = none ∧ H0 p = none ∧ H0 n = none ∧ H0 t = none ∧ H0 l = none ∧ H0 a = none)
theorem StepNew.at_ {C : Addr} {H0 G : Hp} {r : Addr} {pat ts : List Str} {prs : List (List Str)} (h : StepNew C H0 G r pat ts prs) : StepAt C G r pat ts prs := by
  obtain ⟨dx, k, o, p, n, t, l, a, zs, h1, h2, h3, h4, h5, h6, h7, h8, h9, _⟩ := h
  exact ⟨dx, k, o, p, n, t, l, a, zs, h1, h2, h3, h4, h5, h6, h7, h8, h9⟩
theorem StepNew.same {C : Addr} {H0 G G1 : Hp} {r : Addr} {pat ts : List Str} {prs : List (List Str)} (h : StepNew C H0 G r pat ts prs) (s : Same G G1) : StepNew C H0 G1 r pat ts prs := by
  obtain ⟨dx, k, o, p, n, t, l, a, zs, h1, h2, h3, h4, h5, ⟨tv, h6, i6⟩, h7, h8, h9, h10⟩ := h
  exact ⟨dx, k, o, p, n, t, l, a, zs, s _ _ h1, s _ _ h2, s _ _ h3, s _ _ h4, s _ _ h5, ⟨tv, s _ _ h6, i6.same s⟩, s _ _ h7, s _ _ h8, h9.same s, h10⟩
theorem StepNew.less {C : Addr} {H0 H1 G : Hp} {r : Addr} {pat ts : List Str} {prs : List (List Str)} (h : StepNew C H0 G r pat ts prs) (s : ∀ x, H0 x = none → H1 x = none) : StepNew C H1 G r pat ts prs := by
  obtain ⟨dx, k, o, p, n, t, l, a, zs, h1, h2, h3, h4, h5, h6, h7, h8, h9, a1, a2, a3, a4, a5, a6⟩ := h
  exact ⟨dx, k, o, p, n, t, l, a, zs, h1, h2, h3, h4, h5, h6, h7, h8, h9, s _ a1, s _ a2, s _ a3, s _ a4, s _ a5, s _ a6⟩
/-- a list that stood ahead is changed -/
theorem StepNew.list {C : Addr} {H0 G : Hp} {r D : Addr} {pat ts : List Str} {prs : List (List Str)} {xs : List V} {u : HO} (h : StepNew C H0 G r pat ts prs) (n : H0 D ≠ none) (e : G D = some (.lst xs)) : StepNew C H0 (upd G D u) r pat ts prs := by
  obtain ⟨dx, k, o, p, n1, t, l, a, zs, h1, h2, h3, h4, h5, ⟨tv, h6, i6⟩, h7, h8, h9, a1, a2, a3, a4, a5, a6⟩ := h
  have ne : ∀ x, H0 x = none → x ≠ D := fun x hx z => n (by rw [← z]; exact hx)
  exact ⟨dx, k, o, p, n1, t, l, a, zs, by rw [upd_ne (fun z => by rw [z, e] at h1; cases h1)]; exact h1, by rw [upd_ne (fun z => by rw [z, e] at h2; cases h2)]; exact h2, by rw [upd_ne (ne _ a1)]; exact h3, by rw [upd_ne (ne _ a2)]; exact h4, by rw [upd_ne (ne _ a3)]; exact h5, ⟨tv, by rw [upd_ne (ne _ a4)]; exact h6, i6.over e fun xs z => (by cases z)⟩,
    by rw [upd_ne (ne _ a5)]; exact h7, by rw [upd_ne (ne _ a6)]; exact h8, h9.over e fun xs z => (by cases z), a1, a2, a3, a4, a5, a6⟩
/-- another instance is changed -/
theorem StepNew.inst {C C' : Addr} {H0 G : Hp} {r D dx' : Addr} {pat ts : List Str} {prs : List (List Str)} {fs : Flds} {u : HO} (h : StepNew C H0 G r pat ts prs) (e : G D = some (.ins C' dx' fs)) (hl : fs.length ≠ 7) : StepNew C H0 (upd G D u) r pat ts prs := by
  obtain ⟨dx, k, o, p, n1, t, l, a, zs, h1, h2, h3, h4, h5, ⟨tv, h6, i6⟩, h7, h8, h9, h10⟩ := h
  have ne : ∀ x xs, G x = some (.lst xs) → x ≠ D := fun x xs hx z => by rw [z, e] at hx; cases hx
  have nr : r ≠ D := fun z => by
    rw [z, e] at h1
    injection h1 with h1
    injection h1 with _ _ h1
    rw [h1] at hl
    exact hl rfl
  exact ⟨dx, k, o, p, n1, t, l, a, zs, by rw [upd_ne nr]; exact h1, by rw [upd_ne (fun z => by rw [z, e] at h2; cases h2)]; exact h2, by rw [upd_ne (ne _ _ h3)]; exact h3, by rw [upd_ne (ne _ _ h4)]; exact h4, by rw [upd_ne (ne _ _ h5)]; exact h5, ⟨tv, by rw [upd_ne (ne _ _ h6)]; exact h6, i6.over e fun xs z => (by cases z)⟩,
    by rw [upd_ne (ne _ _ h7)]; exact h7, by rw [upd_ne (ne _ _ h8)]; exact h8, h9.over e fun xs z => (by cases z), h10⟩
/-- a new thing as a field -/
theorem newF {H G : Hp} {r l C dx : Addr} {fs fs' : Flds} {o : HO} (sb : Sb r H G) (er : G r = some (.ins C dx fs)) (nl : G l = none) :
    (l ≠ r ∧ H l = none) ∧ Sb r H (upd (upd G l o) r (.ins C dx fs')) ∧ upd (upd G l o) r (.ins C dx fs') r = some (.ins C dx fs') ∧ upd (upd G l o) r (.ins C dx fs') l = some o ∧ ∀ b u, b ≠ r → G b = some u → b ≠ l ∧ upd (upd G l o) r (.ins C dx fs') b = some u := by
  have h1 : l ≠ r := fun z => by rw [z, er] at nl; cases nl
  have h2 : H l = none := by
    cases g : H l with
    | none => rfl
    | some u =>
      rw [sb _ _ h1 g] at nl
      cases nl
  refine ⟨⟨h1, h2⟩, (sb.put h2).trans Sb.upd, upd_same, by rw [upd_ne h1, upd_same], fun b u hb e => ?_⟩
  have hl : b ≠ l := fun z => by rw [z, nl] at e; cases e
  exact ⟨hl, by rw [upd_ne hb, upd_ne hl]; exact e⟩
theorem tail_get {pat : List Str} {j : Nat} {z : Str} (h : pat.tail[j]? = some z) : pat.getD (1 + j) "" = z := by
  rw [List.getElem?_tail] at h
  rw [List.getD_eq_getElem?_getD, show 1 + j = j + 1 by omega, h]
  rfl
theorem col_tail {pat : List Str} {i c : Nat} (h : (colsOf pat)[i]? = some c) : c = 1 + i ∧ pat.tail[i]? = some (pat.getD c "") := by
  have hl : i < pat.length - 1 := by
    have := (List.getElem?_eq_some_iff.mp h).1
    unfold colsOf at this
    rw [List.length_range'] at this
    exact this
  have hc : c = 1 + i := by
    unfold colsOf at h
    rw [List.getElem?_range' hl] at h
    simpa using (Option.some.inj h).symm
  refine ⟨hc, ?_⟩
  rw [List.getElem?_tail, List.getD_eq_getElem?_getD, hc, show 1 + i = i + 1 by omega, List.getElem?_eq_getElem (by omega)]
  rfl
/-- where a term of a column first stands -/
theorem first_col {pat : List Str} {i c : Nat} (h : (colsOf pat)[i]? = some c) : 1 ≤ first1 pat (pat.getD c "") ∧ first1 pat (pat.getD c "") ≤ c ∧ pat[first1 pat (pat.getD c "")]? = some (pat.getD c "") ∧ (∀ m, 1 ≤ m → m < first1 pat (pat.getD c "") → pat[m]? ≠ some (pat.getD c "")) ∧ pat.getD (first1 pat (pat.getD c "")) "" = pat.getD c "" := by
  obtain ⟨hc, ht⟩ := col_tail h
  obtain ⟨p1, p2⟩ := pos1_at (List.mem_of_getElem? ht)
  have le : pos1 pat.tail (pat.getD c "") ≤ i := by
    by_cases z : i < pos1 pat.tail (pat.getD c "")
    · exact absurd ht (p2 i z)
    · omega
  refine ⟨Nat.le_add_right _ _, by unfold first1; omega, ?_, fun m h1 h2 e => ?_, tail_get p1⟩
  · rw [List.getElem?_tail] at p1
    unfold first1
    rw [show 1 + pos1 pat.tail (pat.getD c "") = pos1 pat.tail (pat.getD c "") + 1 by omega]
    exact p1
  · refine p2 (m - 1) (by unfold first1 at h2; omega) ?_
    rw [List.getElem?_tail, show m - 1 + 1 = m by omega]
    exact e
theorem mem_terms {ts pat : List Str} {i c : Nat} (h : (colsOf pat)[i]? = some c) (hz : pat.getD c "" ∉ ts) : pat.getD c "" ∈ termsIn ts pat ((colsOf pat).take i) ↔ first1 pat (pat.getD c "") ≠ c := by
  obtain ⟨hc, _⟩ := col_tail h
  obtain ⟨f1, f2, _, _, f5⟩ := first_col h
  have hl : i < pat.length - 1 := by
    have := (List.getElem?_eq_some_iff.mp h).1
    unfold colsOf at this
    rw [List.length_range'] at this
    exact this
  have tk : (colsOf pat).take i = List.range' 1 i := by
    unfold colsOf
    refine List.ext_getElem? fun j => ?_
    rw [List.getElem?_take]
    by_cases hj : j < i
    · rw [if_pos hj, List.getElem?_range' (by omega), List.getElem?_range' hj]
    · rw [if_neg hj, List.getElem?_eq_none_iff.mpr (by rw [List.length_range']; omega)]
  unfold termsIn newsIn
  rw [tk]
  constructor
  · intro m e
    rcases List.mem_append.mp m with m | m
    · exact hz m
    · obtain ⟨x, hx, hxe⟩ := List.mem_map.mp m
      obtain ⟨hx1, hx2⟩ := List.mem_filter.mp hx
      have r := List.mem_range'_1.mp hx1
      unfold isNew at hx2
      rw [Bool.and_eq_true] at hx2
      have := of_decide_eq_true hx2.2
      rw [hxe, e] at this
      omega
  · intro ne
    refine List.mem_append_right _ (List.mem_map.mpr ⟨first1 pat (pat.getD c ""), List.mem_filter.mpr ⟨List.mem_range'_1.mpr (by omega), ?_⟩, f5⟩)
    unfold isNew
    rw [f5, decide_eq_false hz, decide_eq_true rfl]
    rfl
theorem in_step {ts pat : List Str} {cs : List Nat} {i c : Nat} (h : cs[i]? = some c) (hz : pat.getD c "" ∈ ts) :
    oldsIn ts pat (cs.take (i + 1)) = oldsIn ts pat (cs.take i) ++ [c] ∧ newsIn ts pat (cs.take (i + 1)) = newsIn ts pat (cs.take i) ∧ placesIn ts pat (cs.take (i + 1)) = placesIn ts pat (cs.take i) ++ [pos1 ts (pat.getD c "")] ∧ termsIn ts pat (cs.take (i + 1)) = termsIn ts pat (cs.take i) ∧ twinsIn ts pat (cs.take (i + 1)) = twinsIn ts pat (cs.take i) := by
  have e1 : oldsIn ts pat (cs.take (i + 1)) = oldsIn ts pat (cs.take i) ++ [c] := by
    unfold oldsIn
    rw [filter_take h, if_pos (decide_eq_true hz)]
  have e2 : newsIn ts pat (cs.take (i + 1)) = newsIn ts pat (cs.take i) := by
    unfold newsIn
    rw [filter_take h, show isNew ts pat c = false by unfold isNew; rw [decide_eq_true hz]; rfl]
    exact List.append_nil _
  refine ⟨e1, e2, ?_, ?_, ?_⟩
  · unfold placesIn
    rw [e1, List.map_append] <;> rfl
  · unfold termsIn
    rw [e2]
  · unfold twinsIn
    rw [filter_take h, show isTwin ts pat c = false by unfold isTwin; rw [decide_eq_true hz]; rfl]
    exact congrArg _ (List.append_nil _)
theorem out_step {ts pat : List Str} {cs : List Nat} {i c : Nat} (h : cs[i]? = some c) (hz : pat.getD c "" ∉ ts) (hf : first1 pat (pat.getD c "") = c) :
    oldsIn ts pat (cs.take (i + 1)) = oldsIn ts pat (cs.take i) ∧ newsIn ts pat (cs.take (i + 1)) = newsIn ts pat (cs.take i) ++ [c] ∧ placesIn ts pat (cs.take (i + 1)) = placesIn ts pat (cs.take i) ∧ termsIn ts pat (cs.take (i + 1)) = termsIn ts pat (cs.take i) ++ [pat.getD c ""] ∧ twinsIn ts pat (cs.take (i + 1)) = twinsIn ts pat (cs.take i) := by
  have e1 : oldsIn ts pat (cs.take (i + 1)) = oldsIn ts pat (cs.take i) := by
    unfold oldsIn
    rw [filter_take h, decide_eq_false hz]
    exact List.append_nil _
  have e2 : newsIn ts pat (cs.take (i + 1)) = newsIn ts pat (cs.take i) ++ [c] := by
    unfold newsIn
    rw [filter_take h, show isNew ts pat c = true by unfold isNew; rw [decide_eq_false hz, decide_eq_true hf]; rfl] <;> rfl
  refine ⟨e1, e2, ?_, ?_, ?_⟩
  · unfold placesIn
    rw [e1]
  · unfold termsIn
    rw [e2, List.map_append, List.append_assoc] <;> rfl
  · unfold twinsIn
    rw [filter_take h, show isTwin ts pat c = false by unfold isTwin; rw [decide_eq_false hz, decide_eq_true hf]; rfl]
    exact congrArg _ (List.append_nil _)
theorem twin_step {ts pat : List Str} {cs : List Nat} {i c : Nat} (h : cs[i]? = some c) (hz : pat.getD c "" ∉ ts) (hf : first1 pat (pat.getD c "") ≠ c) :
    oldsIn ts pat (cs.take (i + 1)) = oldsIn ts pat (cs.take i) ∧ newsIn ts pat (cs.take (i + 1)) = newsIn ts pat (cs.take i) ∧ placesIn ts pat (cs.take (i + 1)) = placesIn ts pat (cs.take i) ∧ termsIn ts pat (cs.take (i + 1)) = termsIn ts pat (cs.take i) ∧ twinsIn ts pat (cs.take (i + 1)) = twinsIn ts pat (cs.take i) ++ [(c, first1 pat (pat.getD c ""))] := by
  have e1 : oldsIn ts pat (cs.take (i + 1)) = oldsIn ts pat (cs.take i) := by
    unfold oldsIn
    rw [filter_take h, decide_eq_false hz]
    exact List.append_nil _
  have e2 : newsIn ts pat (cs.take (i + 1)) = newsIn ts pat (cs.take i) := by
    unfold newsIn
    rw [filter_take h, show isNew ts pat c = false by unfold isNew; rw [decide_eq_false hf, Bool.and_false]]
    exact List.append_nil _
  refine ⟨e1, e2, ?_, ?_, ?_⟩
  · unfold placesIn
    rw [e1]
  · unfold termsIn
    rw [e2]
  · unfold twinsIn
    rw [filter_take h, show isTwin ts pat c = true by unfold isTwin; rw [decide_eq_false hz, decide_eq_false hf]; rfl, if_pos rfl, List.map_append]
    rfl
theorem sl5 {k o p n t l : Addr} : (stF6 k o p n t l).lookup ("twins" : Str) = some (V.ref t) := (lk_no (by decide +kernel)).trans ((lk_no (by decide +kernel)).trans ((lk_no (by decide +kernel)).trans ((lk_no (by decide +kernel)).trans lk_yes)))
theorem cnt_le {ts pat : List Str} {cs : List Nat} {i : Nat} (h : pat.length ≤ 4) (hc : cs.length ≤ 3) : (oldsIn ts pat (cs.take i)).length ≤ 3 ∧ (newsIn ts pat (cs.take i)).length ≤ 3 ∧ (twinsIn ts pat (cs.take i)).length ≤ 3 := by
  have h1 : (cs.take i).length ≤ 3 := by
    rw [List.length_take]
    omega
  exact ⟨Nat.le_trans (List.length_filter_le _ _) h1, Nat.le_trans (List.length_filter_le _ _) h1, by unfold twinsIn; rw [List.length_map]; exact Nat.le_trans (List.length_filter_le _ _) h1⟩
section
variable {P : Program} {w : World} {K : PySem.W.Frag} {mg : Str → Option Value} {base : Heap}
def spStepInit (C : Addr) : Sp := fun vs H Q _ => ∃ (r dx p t q : Addr) (pat ts : List Str) (us : List V) (prs : List (List Str)), vs = [.ref r, .ref p, .ref t, .ref q] ∧ H r = some (.ins C dx []) ∧ (TX H p pat ∧ 1 ≤ pat.length ∧ pat.length ≤ 4) ∧
  (H t = some (.lst (ts.map V.str)) ∧ ts.length ≤ 1000) ∧ (H q = some (.lst us) ∧ PaL H us prs ∧ (∀ x ∈ prs, ∃ a b, x = [a, b]) ∧ prs.length ≤ 1000) ∧ ∀ G, Sb r H G → StepNew C H G r pat ts prs → Q .non G
theorem scStepInit : FnScope ["self", "pattern", "terms", "pairs", "column", "term", "ready", "pair"] ["self", "pattern", "terms", "pairs"] (defScope sStepInit) := ⟨rfl, rfl, rfl, by decide +kernel, rfl, by decide +kernel, by decide +kernel⟩
theorem ok_stepInit {f C fK fN fP : Addr} {fd dK dN dP : FuncData} (F : Fun K "__init__" "Step.__init__" sStepInit f fd) (B : Bp mg) (rg : mg "range" = none) (R : SC K C) (GK : FnOk P w K mg base CX0 1 fK dK ["pattern"] (spKindOf K)) (kK : PySem.W.keepIn K (.ref fK) = true) (gK : mg "kind_of" = some (.ref fK)) (bK : Binds K dK ["pattern"] [])
    (GN : FnOk P w K mg base CX0 1 fN dN ["terms", "pair"] (spKnows K)) (kN : PySem.W.keepIn K (.ref fN) = true) (gN : mg "_knows" = some (.ref fN)) (bN : Binds K dN ["terms", "pair"] [])
    (GP : FnOk P w K mg base CX0 1 fP dP ["terms", "pairs"] (spPlacesOf K)) (kP : PySem.W.keepIn K (.ref fP) = true) (gP : mg "_places_of_pairs" = some (.ref fP)) (bP : Binds K dP ["terms", "pairs"] []) :
    FnOk P w K mg base CX0 2 f fd ["self", "pattern", "terms", "pairs"] (spStepInit C) := by
  refine F.ok scStepInit (fun vs H Q E h => ?_) (fun cdv A outer s H vs Q E hr h => ?_)
  · obtain ⟨r, dx, p, t, q, pat, ts, us, prs, rfl, _⟩ := h
    rfl
  · obtain ⟨r, dx, p, t, q, pat, ts, us, prs, rfl, er, ⟨ep, hp1, hp4⟩, ⟨et, htl⟩, ⟨eq, hq, hq2, hql⟩, q0⟩ := h
    have hr1 : Room 1 _ := hr.mono (by decide)
    refine ⟨_, pss_cons (ps_fld (pv 0) (by exact (pe_call GK hr1 (by rfl) gK kK bK .nil pass0 (pa_cons (pv 1) pa_nil))) rfl)
      (pss_cons (ps_fld (pv 0) (pe_lst pa_nil) rfl)
      (pss_cons (ps_fld (pv 0) (pe_lst pa_nil) rfl)
      (pss_cons (ps_fld (pv 0) (pe_lst pa_nil) rfl)
      (pss_cons (ps_fld (pv 0) (pe_lst pa_nil) rfl)
      (pss_cons (ps_fld (pv 0) (pe_callTy call_list_of (by rfl) B.lst PyProof.Rows.boot_list (pa_cons (pv 2) pa_nil)) rfl)
      (pss_cons (ps_for PassesOwn.never rfl (pi_range2 (by rfl) rg (pa_cons pe_int (pa_cons (pe_callB call_len_seq (by rfl) B.len PySem.boot_len (pa_cons (pv 1) pa_nil)) pa_nil))) (pg_name (i := 4) scStepInit.nd rfl (Or.inl rfl))
        (pss_cons (ps_set (i := 5) scStepInit.nd rfl (Or.inl rfl) (pe_ix ix_tup (pv 1) (pv 4) (fun _ _ => rfl)))
        (pss_one (ps_if (pt_cmpR op_in_seq (pv 5) (pv 2) (by rfl))
          (pss_cons (ps_expr (pe_bm PySem.F.plainAttrs_list PySem.F.slot_list_append PySem.F.type_list_append mt_append (pe_fld (pv 0) rfl) (pa_cons (pv 4) pa_nil)))
          (pss_one (ps_expr (pe_bm PySem.F.plainAttrs_list PySem.F.slot_list_append PySem.F.type_list_append mt_append (pe_fld (pv 0) rfl) (pa_cons (pe_bm PySem.F.plainAttrs_list PySem.F.slot_list_index PySem.F.type_list_index mt_index (pv 2) (pa_cons (pv 5) pa_nil)) pa_nil)))))
          (pss_one (ps_if (pt_cmpR op_in_seq (pv 5) (pe_fld (pv 0) rfl) (by rfl))
            (pss_one (ps_expr (pe_bm PySem.F.plainAttrs_list PySem.F.slot_list_append PySem.F.type_list_append mt_append (pe_fld (pv 0) rfl) (pa_cons (by exact (pe_tup (pa_cons (pv 4) (pa_cons (by exact (pe_bmF PySem.F.plainAttrs_tuple PySem.F.slot_tuple_index PySem.F.type_tuple_index mt_tup_index1 (pv 1) (pa_cons (pv 5) (pa_cons pe_int pa_nil)))) pa_nil)))) pa_nil))))
            (pss_cons (ps_expr (pe_bm PySem.F.plainAttrs_list PySem.F.slot_list_append PySem.F.type_list_append mt_append (pe_fld (pv 0) rfl) (pa_cons (pv 4) pa_nil)))
            (pss_one (ps_expr (pe_bm PySem.F.plainAttrs_list PySem.F.slot_list_append PySem.F.type_list_append mt_append (pe_fld (pv 0) rfl) (pa_cons (pv 5) pa_nil)))))))))))
      (pss_cons (by exact (ps_setLc (i := 6) (own := [("pair", 7)]) (g := gName 7) (tt := tAnd (tB (tCall (spKnows K) [] E0 (tCons (tFld K (tVar 0) "terms") (tCons (tVar 7) tNil)))) (tNot (tB (tCall (spKnows K) [] E0 (tCons (tVar 2) (tCons (tVar 7) tNil)))))) (te := tVar 7) rfl scStepInit.nd rfl rfl (sw_true rfl rfl rfl (by decide +kernel))
          (pi_list (pv 3))
          (blkOk_by (own := [("pair", 7)]) (N := ["self", "pattern", "terms", "pairs", "column", "term", "ready", "pair"]) (sc := defScope sStepInit) (by decide +kernel))
          (fun _ _ _ _ _ => pg_name (i := 7) scStepInit.nd rfl (Or.inl rfl))
          (fun _ _ _ _ _ => pts_one (by exact (PW.pt (pw_and (pt_val (by exact (pe_call GN hr1 (by rfl) gN kN bN .nil pass0 (pa_cons (pe_fld (pv 0) rfl) (pa_cons (pv 7) pa_nil))))) (pw_and1 (pt_not (pt_val (by exact (pe_call GN hr1 (by rfl) gN kN bN .nil pass0 (pa_cons (pv 2) (pa_cons (pv 7) pa_nil)))))))))))
          (fun _ _ _ _ _ => by exact (pv 7))))
      (pss_one (ps_fld (pv 0) (by exact (pe_call GP hr1 (by rfl) gP kP bP .nil pass0 (pa_cons (pe_fld (pv 0) rfl) (pa_cons (pv 6) pa_nil)))) rfl))))))))), ?_⟩
    refine ⟨_, rfl, p, pat, rfl, ep.ta, hp1, by omega, fun k nk => ⟨_, rfl, r, C, dx, [], rfl, same_new nk _ _ er, R.cl, R.n1, (by show 0 < 1000; decide), ?_⟩⟩
    obtain ⟨⟨kr, kH⟩, s1, e1, ek, _⟩ := newF (fs' := putF "kind" (V.ref k) []) (o := .tup ((kindK pat).map kV)) (Sb.refl r H) er nk
    replace e1 : upd (upd H k (.tup ((kindK pat).map kV))) r (.ins C dx (putF "kind" (V.ref k) [])) r = some (.ins C dx [("kind", .ref k)]) := e1
    generalize upd (upd H k (.tup ((kindK pat).map kV))) r (.ins C dx (putF "kind" (V.ref k) [])) = G1 at s1 e1 ek ⊢
    refine ⟨by show 0 ≤ _; exact Nat.zero_le _, fun o no => ⟨_, rfl, r, C, dx, _, rfl, same_new no _ _ e1, R.cl, R.n2, (by show 1 < 1000; decide), ?_⟩⟩
    rw [sF2]
    obtain ⟨⟨or_, oH⟩, s2, e2, eo, k2⟩ := newF (fs' := [("kind", V.ref k), ("olds", V.ref o)]) (o := .lst []) s1 e1 no
    obtain ⟨ko, ek⟩ := k2 _ _ kr ek
    generalize upd (upd G1 o (.lst [])) r (.ins C dx [("kind", V.ref k), ("olds", V.ref o)]) = G2 at s2 e2 eo ek ⊢
    clear k2
    refine ⟨by show 0 ≤ _; exact Nat.zero_le _, fun pl np => ⟨_, rfl, r, C, dx, _, rfl, same_new np _ _ e2, R.cl, R.n3, (by show 2 < 1000; decide), ?_⟩⟩
    rw [sF3]
    obtain ⟨⟨pr_, pH⟩, s3, e3, epl, k3⟩ := newF (fs' := [("kind", V.ref k), ("olds", V.ref o), ("places", V.ref pl)]) (o := .lst []) s2 e2 np
    obtain ⟨kp, ek⟩ := k3 _ _ kr ek
    obtain ⟨op, eo⟩ := k3 _ _ or_ eo
    generalize upd (upd G2 pl (.lst [])) r (.ins C dx [("kind", V.ref k), ("olds", V.ref o), ("places", V.ref pl)]) = G3 at s3 e3 eo ek epl ⊢
    clear k3
    refine ⟨by show 0 ≤ _; exact Nat.zero_le _, fun n nn => ⟨_, rfl, r, C, dx, _, rfl, same_new nn _ _ e3, R.cl, R.n4, (by show 3 < 1000; decide), ?_⟩⟩
    rw [sF4]
    obtain ⟨⟨nr_, nH⟩, s4, e4, en, k4⟩ := newF (fs' := [("kind", V.ref k), ("olds", V.ref o), ("places", V.ref pl), ("news", V.ref n)]) (o := .lst []) s3 e3 nn
    obtain ⟨kn, ek⟩ := k4 _ _ kr ek
    obtain ⟨on, eo⟩ := k4 _ _ or_ eo
    obtain ⟨pn, epl⟩ := k4 _ _ pr_ epl
    generalize upd (upd G3 n (.lst [])) r (.ins C dx [("kind", V.ref k), ("olds", V.ref o), ("places", V.ref pl), ("news", V.ref n)]) = G4 at s4 e4 eo ek epl en ⊢
    clear k4
    refine ⟨by show 0 ≤ _; exact Nat.zero_le _, fun tw ntw => ⟨_, rfl, r, C, dx, _, rfl, same_new ntw _ _ e4, R.cl, R.n5, (by show 4 < 1000; decide), ?_⟩⟩
    rw [sF5]
    obtain ⟨⟨tr_, tH⟩, s5, e5, etw, k5⟩ := newF (fs' := [("kind", V.ref k), ("olds", V.ref o), ("places", V.ref pl), ("news", V.ref n), ("twins", V.ref tw)]) (o := .lst []) s4 e4 ntw
    obtain ⟨kt, ek⟩ := k5 _ _ kr ek
    obtain ⟨ot, eo⟩ := k5 _ _ or_ eo
    obtain ⟨pt, epl⟩ := k5 _ _ pr_ epl
    obtain ⟨nt_, en⟩ := k5 _ _ nr_ en
    generalize upd (upd G4 tw (.lst [])) r (.ins C dx [("kind", V.ref k), ("olds", V.ref o), ("places", V.ref pl), ("news", V.ref n), ("twins", V.ref tw)]) = G5 at s5 e5 eo ek epl en etw ⊢
    clear k5
    have tr : t ≠ r := fun z => by rw [z, er] at et; cases et
    have pr : p ≠ r := ep.ta.ins er
    have qr : q ≠ r := fun z => by rw [z, er] at eq; cases eq
    refine ⟨_, rfl, t, _, rfl, .inl (SqL.of (s5 _ _ tr et)), fun l nl => ⟨_, rfl, r, C, dx, _, rfl, same_new nl _ _ e5, R.cl, R.n6, (by show 5 < 1000; decide), ?_⟩⟩
    rw [sF6]
    obtain ⟨⟨lr_, lH⟩, s6, e6, el, k6⟩ := newF (fs' := stF6 k o pl n tw l) (o := .lst (ts.map V.str)) s5 e5 nl
    obtain ⟨kl, ek⟩ := k6 _ _ kr ek
    obtain ⟨ol, eo⟩ := k6 _ _ or_ eo
    obtain ⟨pl_, epl⟩ := k6 _ _ pr_ epl
    obtain ⟨nl_, en⟩ := k6 _ _ nr_ en
    obtain ⟨tl_, etw⟩ := k6 _ _ tr_ etw
    generalize upd (upd G5 l (.lst (ts.map V.str))) r (.ins C dx (stF6 k o pl n tw l)) = G6 at s6 e6 eo ek epl en etw el ⊢
    clear k6 e1 e2 e3 e4 e5 s1 s2 s3 s4 s5
    have S0 : St6 C H G6 r dx k o pl n tw l (kindK pat) [] [] [] ts [] := ⟨s6, e6, ek, eo, epl, en, ⟨[], etw, .nil⟩, el, ⟨kH, oH, pH, nH, tH, lH⟩, by simp [Ne.symm kr, Ne.symm or_, Ne.symm pr_, Ne.symm nr_, Ne.symm tr_, Ne.symm lr_, ko, kp, kn, kt, kl, op, on, ot, ol, pn, pt, pl_, nt_, nl_, tl_]⟩
    clear s6 e6 eo ek epl en etw el
    have hcols : ∀ i, i < pat.length - 1 → (colsOf pat)[i]? = some (1 + i) := fun i hi => by
      unfold colsOf
      rw [List.getElem?_range' hi]
      simp
    have hlen : (colsOf pat).length = pat.length - 1 := List.length_range'
    refine ⟨_, rfl, p, _, rfl, .inr (ep.sbo er S0.sb).ta.sq, 1, _, rfl, ⟨by decide, by decide, by rw [List.length_map]; omega, by rw [List.length_map]; exact Int.lt_of_le_of_lt (by omega : _ ≤ (4 : Int)) (by decide)⟩, ?_⟩
    have hcount : (((pat.map V.str).length : Int) - 1).toNat = pat.length - 1 := by
      rw [List.length_map]
      omega
    rw [hcount]
    refine for_range (lo := 1) (n := pat.length - 1) (fun i σ G => ∃ (o4 o5 : Option V), σ = [some (.ref r), some (.ref p), some (.ref t), some (.ref q), o4, o5, none, none] ∧
      St6 C H G r dx k o pl n tw l (kindK pat) (oldsIn ts pat ((colsOf pat).take i)) (placesIn ts pat ((colsOf pat).take i)) (newsIn ts pat ((colsOf pat).take i)) (termsIn ts pat ((colsOf pat).take i)) (twinsIn ts pat ((colsOf pat).take i))) ⟨none, none, rfl, ?_⟩ ?_ ?_
    · have e0 : termsIn ts pat ((colsOf pat).take 0) = ts := List.append_nil ts
      rw [e0]
      exact S0
    · rintro i σ G hi ⟨o4, o5, rfl, S⟩
      have hci := hcols i hi
      have ec : (1 : Int) + ((i : Nat) : Int) = ((1 + i : Nat) : Int) := by omega
      rw [ec]
      generalize 1 + i = c at hci ec
      have hc4 : c < pat.length := by
        have := List.mem_of_getElem? hci
        unfold colsOf at this
        have := List.mem_range'_1.mp this
        omega
      have ep1 := ep.sbo er S.sb
      have et1 := S.sb _ _ tr et
      refine ⟨_, rfl, _, rfl, p, _, _, _, rfl, rfl, ep1.ta.sq, atI_nat (getD_str hc4), ?_⟩
      obtain ⟨c1, c2, c3⟩ := cnt_le (ts := ts) (cs := colsOf pat) (i := i) hp4 (by rw [hlen]; omega)
      have big3 : ∀ m, m ≤ 3 → m < sizeLine := fun m hm => Nat.lt_of_le_of_lt hm (by decide)
      refine ⟨_, rfl, _, rfl, t, _, rfl, .inl (SqL.of et1), rfl, flat_strs _, _, rfl, ?_⟩
      rw [inV_strs]
      by_cases hz : pat.getD c "" ∈ ts
      · rw [decide_eq_true hz]
        obtain ⟨i1, i2, i3, i4, i5⟩ := in_step hci hz
        refine iteT ?_
        refine ⟨_, rfl, r, C, dx, _, .ref o, rfl, S.er, R.cl, R.n2, sl2, .inl ⟨rfl, _, SqL.of S.eo⟩, _, rfl, o, _, _, rfl, rfl, S.eo, by rw [List.length_map]; exact big3 _ c1, ?_⟩
        have S1 := S.olds c
        have et2 := S1.sb _ _ tr et
        obtain ⟨x1, x2⟩ := idx_at hz
        refine ⟨_, rfl, r, C, dx, _, .ref pl, rfl, S1.er, R.cl, R.n3, sl3, .inl ⟨rfl, _, SqL.of S1.ep⟩, _, rfl, .inl ⟨rfl, _, SqL.of et2⟩, _, rfl, t, ts.map V.str, .str (pat.getD c ""), pos1 ts (pat.getD c ""), .str (pat.getD c ""), rfl, rfl, SqL.of et2, rfl, flat_strs _, x1, by
          show (pat.getD c "" == pat.getD c "") = true
          exact beq_self_eq_true _, x2, pl, _, _, rfl, rfl, S1.ep, by
          rw [List.length_map]
          unfold placesIn
          rw [List.length_map]
          exact big3 _ c1, ?_⟩
        have S2 := S1.places (pos1 ts (pat.getD c ""))
        refine ⟨_, _, rfl, ?_⟩
        rw [i1, i2, i3, i4, i5]
        exact S2
      · rw [decide_eq_false hz]
        refine iteF ?_
        refine ⟨_, rfl, _, rfl, r, C, dx, _, .ref l, rfl, S.er, R.cl, R.n6, sl6, l, _, rfl, .inl (SqL.of S.el), rfl, flat_strs _, _, rfl, ?_⟩
        rw [inV_strs]
        by_cases hf : first1 pat (pat.getD c "") ≠ c
        · rw [decide_eq_true ((mem_terms hci hz).mpr hf)]
          obtain ⟨i1, i2, i3, i4, i5⟩ := twin_step hci hz hf
          obtain ⟨tv, etw, ijt⟩ := S.et
          have tvl := ijt.len
          obtain ⟨f1, f2, f3, f4, _⟩ := first_col hci
          obtain ⟨ob, hob, epo⟩ := ep1
          refine iteT ?_
          refine ⟨_, rfl, r, C, dx, _, .ref tw, rfl, S.er, R.cl, R.n5, sl5, .inl ⟨rfl, _, SqL.of etw⟩, ?_⟩
          refine ⟨_, rfl, _, rfl, ⟨p, ob, _, rfl, hob, epo⟩, _, rfl, p, pat, pat.getD c "", first1 pat (pat.getD c ""), rfl, rfl, .inl (.inr ⟨ob, epo⟩), f1, f3, f4, ?_⟩
          refine ⟨by show 2 ≤ sizeLine; decide, fun b nb => ?_⟩
          have sN : Same G (upd G b (.tup [.int (c : Int), .int ((first1 pat (pat.getD c "") : Nat) : Int)])) := same_new nb
          have eb : upd G b (.tup [.int (c : Int), .int ((first1 pat (pat.getD c "") : Nat) : Int)]) b = some _ := upd_same
          generalize upd G b (.tup [.int (c : Int), .int ((first1 pat (pat.getD c "") : Nat) : Int)]) = G2 at sN eb ⊢
          have S1 := S.same sN
          refine ⟨tw, tv, _, rfl, rfl, sN _ _ etw, by rw [tvl]; exact big3 _ c3, ?_⟩
          have S2 := S1.twins (c, first1 pat (pat.getD c "")) (sN _ _ etw) (ijt.same sN) eb
          refine ⟨_, _, rfl, ?_⟩
          rw [i1, i2, i3, i4, i5]
          exact S2
        have hf : first1 pat (pat.getD c "") = c := Classical.not_not.mp hf
        obtain ⟨i1, i2, i3, i4, i5⟩ := out_step hci hz hf
        rw [decide_eq_false (fun m => (mem_terms hci hz).mp m hf)]
        refine iteF ?_
        refine ⟨_, rfl, r, C, dx, _, .ref n, rfl, S.er, R.cl, R.n4, sl4, .inl ⟨rfl, _, SqL.of S.en⟩, _, rfl, n, _, _, rfl, rfl, S.en, by rw [List.length_map]; exact big3 _ c2, ?_⟩
        have S1 := S.news c
        refine ⟨_, rfl, r, C, dx, _, .ref l, rfl, S1.er, R.cl, R.n6, sl6, .inl ⟨rfl, _, SqL.of S1.el⟩, _, rfl, l, _, _, rfl, rfl, S1.el, by
          rw [List.length_map]
          unfold termsIn
          rw [List.length_append, List.length_map]
          exact Nat.lt_of_le_of_lt (by omega : _ ≤ 1003) (by decide), ?_⟩
        have S2 := S1.terms (pat.getD c "")
        refine ⟨_, _, rfl, ?_⟩
        rw [i1, i2, i3, i4, i5]
        exact S2
    · rintro σ G ⟨o4, o5, rfl, S⟩
      rw [← hlen, List.take_length] at S
      have hp1' := hq.sbo er S.sb
      have eq1 := S.sb _ _ qr eq
      have et1 := S.sb _ _ tr et
      have hul := hq.len
      show tSeq _ _ _ _ _
      refine ⟨_, rfl, q, rfl, ⟨_, SqL.of eq1⟩, fun D nD => ?_⟩
      refine lc_list (K := K) (a := q) (xs := us) (fun j H' => Same G H' ∧ ∃ ws : List V, H' D = some (.lst ws) ∧ PaL H' ws (readyOf ts (stepTerms ts pat) (prs.take j))) ⟨same_new nD, [], upd_same, .nil⟩ (fun i H' _ y => SqL.of (y.1 _ _ eq1)) ?_ ?_
      · rintro j v H2 hj ⟨s2, ws, e2, hw⟩
        obtain ⟨b, pr1, rfl, hpj, eb⟩ := hp1'.at_ hj
        obtain ⟨x, y, rfl⟩ := hq2 pr1 (List.mem_of_getElem? hpj)
        have jl := (List.getElem?_eq_some_iff.mp hpj).1
        have eb2 := eb.same s2
        have S2 := S.same s2
        have lenw : ws.length < sizeLine := by
          have h1 := hw.len
          have h2 : (readyOf ts (stepTerms ts pat) (prs.take j)).length ≤ (prs.take j).length := List.length_filter_le _ _
          rw [List.length_take] at h2
          exact Nat.lt_of_le_of_lt (by omega : _ ≤ 1000) (by decide)
        have ft := filter_take (f := fun p : List Str => (decide (p.getD 0 "" ∈ stepTerms ts pat) && decide (p.getD 1 "" ∈ stepTerms ts pat)) && !(decide (p.getD 0 "" ∈ ts) && decide (p.getD 1 "" ∈ ts))) hpj
        have fx : ([x, y] : List Str).getD 0 "" = x := rfl
        have fy : ([x, y] : List Str).getD 1 "" = y := rfl
        rw [fx, fy] at ft
        replace ft : readyOf ts (stepTerms ts pat) (prs.take (j + 1)) = readyOf ts (stepTerms ts pat) (prs.take j) ++ if ((decide (x ∈ stepTerms ts pat) && decide (y ∈ stepTerms ts pat)) && !(decide (x ∈ ts) && decide (y ∈ ts))) = true then [[x, y]] else [] := ft
        have keep : ((decide (x ∈ stepTerms ts pat) && decide (y ∈ stepTerms ts pat)) && !(decide (x ∈ ts) && decide (y ∈ ts))) = false → Same G H2 ∧ ∃ ws : List V, H2 D = some (.lst ws) ∧ PaL H2 ws (readyOf ts (stepTerms ts pat) (prs.take (j + 1))) := fun h => by
          rw [ft, h, if_neg Bool.false_ne_true, List.append_nil]
          exact ⟨s2, ws, e2, hw⟩
        refine ⟨rfl, ?_⟩
        refine ⟨_, rfl, r, C, dx, _, .ref l, rfl, S2.er, R.cl, R.n6, sl6, _, rfl, ?_⟩
        dsimp only [tNil]
        refine ⟨l, b, stepTerms ts pat, x, y, rfl, SqL.of S2.el, eb2, _, rfl, ?_⟩
        cases h1 : (decide (x ∈ stepTerms ts pat) && decide (y ∈ stepTerms ts pat)) with
        | false =>
          refine iteF (iteF ?_)
          exact keep (by rw [h1, Bool.false_and])
        | true =>
          refine iteT ?_
          refine ⟨_, rfl, _, rfl, ?_⟩
          dsimp only [tNil]
          refine ⟨t, b, ts, x, y, rfl, SqL.of (s2 _ _ et1), eb2, _, rfl, ?_⟩
          cases h2 : (decide (x ∈ ts) && decide (y ∈ ts)) with
          | true =>
            refine iteF ?_
            exact keep (by rw [h1, h2] <;> rfl)
          | false =>
            refine iteT ⟨_, rfl, ws, e2, lenw, same_put s2 nD, _, upd_same, ?_⟩
            rw [ft, h1, h2]
            exact (hw.over e2).app (.mk (eb2.upd (eb2.lst e2)) .nil)
      · rintro H2 ⟨s2, ws, e2, hw⟩
        rw [hul, List.take_length] at hw
        have S2 := S.same s2
        have lenr : (readyOf ts (stepTerms ts pat) prs).length ≤ 1000 := Nat.le_trans (List.length_filter_le _ _) hql
        have inr_ : ∀ z ∈ readyOf ts (stepTerms ts pat) prs, PairIn (stepTerms ts pat) z := fun z hz => by
          obtain ⟨m, hb⟩ := List.mem_filter.mp hz
          obtain ⟨x, y, rfl⟩ := hq2 z m
          rw [Bool.and_eq_true, Bool.and_eq_true] at hb
          exact ⟨x, y, rfl, of_decide_eq_true hb.1.1, of_decide_eq_true hb.1.2⟩
        refine ⟨_, rfl, r, C, dx, _, .ref l, rfl, S2.er, R.cl, R.n6, sl6, _, rfl, ?_⟩
        dsimp only [tNil]
        refine ⟨l, D, stepTerms ts pat, ws, _, rfl, SqL.of S2.el, SqL.of e2, hw, inr_, lenr, fun pa G3 zs npa s3 epa hz => ⟨_, rfl, r, C, dx, _, rfl, s3 _ _ S2.er, R.cl, R.n7, (by show 6 < 1000; decide), ?_⟩⟩
        rw [sF7]
        have S3 := S2.same s3
        have par : pa ≠ r := fun z => by rw [z, s3 _ _ S2.er] at epa; cases epa
        have paH : H pa = none := by
          cases g : H pa with
          | none => rfl
          | some u =>
            rw [S2.sb _ _ par g] at npa
            cases npa
        have nd' := S3.nd
        simp only [List.nodup_cons, List.mem_cons, List.not_mem_nil, or_false, not_or] at nd'
        obtain ⟨⟨x1, x2, x3, x4, x5, x6⟩, _⟩ := nd'
        have over : ∀ {vs : List V} {zs : List (Nat × Nat)}, IJs G3 vs zs → IJs (upd G3 r (.ins C dx (stF k o pl n tw l pa))) vs zs := by
          intro vs zs h
          induction h with
          | nil => exact .nil
          | cons e _ ih => exact .cons (by rw [upd_ne (fun z => by rw [z, S3.er] at e; cases e)]; exact e) ih
        refine q0 _ (S3.sb.trans Sb.upd) ⟨dx, k, o, pl, n, tw, l, pa, zs, upd_same, ?_, ?_, ?_, ?_, ?_, ?_, ?_, over hz, S3.fr.2.1, S3.fr.2.2.1, S3.fr.2.2.2.1, S3.fr.2.2.2.2.1, S3.fr.2.2.2.2.2, paH⟩
        · rw [upd_ne (Ne.symm x1)]; exact S3.ek
        · rw [upd_ne (Ne.symm x2)]; exact S3.eo
        · rw [upd_ne (Ne.symm x3)]; exact S3.ep
        · rw [upd_ne (Ne.symm x4)]; exact S3.en
        · obtain ⟨tv, h1, h2⟩ := S3.et
          exact ⟨tv, by rw [upd_ne (Ne.symm x5)]; exact h1, over h2⟩
        · rw [upd_ne (Ne.symm x6)]; exact S3.el
        · rw [upd_ne par]; exact epa
end
end Nv
set_option maxHeartbeats 4000000
namespace Nv
open PySem PySem.Spec PyProof.Rows L2
/-! # a shelf grows -/
theorem pick_snoc {key : List Str → List L2.Key} {k : List L2.Key} {us : List V} {ps : List (List Str)} {u : V} {p : List Str} (h : us.length = ps.length) :
    pick key k (us ++ [u]) (ps ++ [p]) = if key p = k then pick key k us ps ++ [u] else pick key k us ps := by
  unfold pick
  rw [List.zip_append h, List.filter_append, List.map_append]
  by_cases e : key p = k
  · rw [if_pos e]
    have : ([u].zip [p]).filter (fun z => decide (key z.2 = k)) = [(u, p)] := List.filter_cons_of_pos (by exact decide_eq_true e)
    rw [this] <;> rfl
  · rw [if_neg e]
    have : ([u].zip [p]).filter (fun z => decide (key z.2 = k)) = [] := List.filter_cons_of_neg (by simpa using e)
    rw [this]
    exact List.append_nil _
section
variable {key : List Str → List L2.Key} {H0 H G : Hp} {d : Addr} {us : List V} {ps : List (List Str)} {u : V} {p : List Str}
theorem Shelf.same (S : Shelf key H0 H d us ps) (s : Same H G) : Shelf key H0 G d us ps := by
  obtain ⟨kvs, e1, e2, e3, e4, e5⟩ := S
  exact ⟨kvs, s _ _ e1, e2, fun k v h => (by
    obtain ⟨l, h1, h2, h3⟩ := e3 k v h
    exact ⟨l, h1, h2, s _ _ h3⟩), e4, e5⟩
/-- the key is there -/
theorem Shelf.more {kvs : List (List L2.Key × V)} {l : Addr} (hlen : us.length = ps.length) (e1 : G d = some (.dT kvs)) (e2 : kvs.length ≤ ps.length) (e3 : ∀ k v, valV kvs k = some v → ∃ l, v = .ref l ∧ H0 l = none ∧ G l = some (.lst (pick key k us ps)))
    (e4 : ∀ k, valV kvs k = none → pick key k us ps = []) (e5 : ∀ k k' l, valV kvs k = some (.ref l) → valV kvs k' = some (.ref l) → k = k') (hv : valV kvs (key p) = some (.ref l)) :
    Shelf key H0 (upd G l (.lst (pick key (key p) us ps ++ [u]))) d (us ++ [u]) (ps ++ [p]) := by
  obtain ⟨l', z, nl, el⟩ := e3 _ _ hv
  cases z
  have ld : l ≠ d := fun z => by rw [z, e1] at el; cases el
  refine ⟨kvs, by rw [upd_ne (Ne.symm ld)]; exact e1, by rw [List.length_append]; omega, fun k v hk => ?_, fun k hk => ?_, e5⟩
  · obtain ⟨l2, rfl, n2, el2⟩ := e3 _ _ hk
    refine ⟨l2, rfl, n2, ?_⟩
    rw [pick_snoc hlen]
    by_cases z : key p = k
    · subst z
      rw [hv] at hk
      cases hk
      rw [upd_same, if_pos rfl]
    · rw [if_neg z, upd_ne (fun y => z (e5 _ _ l hv (by rw [← y]; exact hk)))]
      exact el2
  · rw [pick_snoc hlen, if_neg (fun z => by rw [← z, hv] at hk; cases hk)]
    exact e4 k hk
/-- it is new -/
theorem Shelf.fresh {kvs : List (List L2.Key × V)} {n : Addr} (hlen : us.length = ps.length) (e1 : G d = some (.dT (putK kvs (key p) (.ref n)))) (e2 : kvs.length ≤ ps.length) (e3 : ∀ k v, valV kvs k = some v → ∃ l, v = .ref l ∧ l ≠ n ∧ H0 l = none ∧ G l = some (.lst (pick key k us ps)))
    (e4 : ∀ k, valV kvs k = none → pick key k us ps = []) (e5 : ∀ k k' l, valV kvs k = some (.ref l) → valV kvs k' = some (.ref l) → k = k') (hn : valV kvs (key p) = none) (nd : n ≠ d) (nH : H0 n = none) :
    Shelf key H0 (upd G n (.lst [u])) d (us ++ [u]) (ps ++ [p]) := by
  refine ⟨putK kvs (key p) (.ref n), by rw [upd_ne (Ne.symm nd)]; exact e1, ?_, fun k v hk => ?_, fun k hk => ?_, fun k k' l h1 h2 => ?_⟩
  · have := put_len (kvs := kvs) (k := key p) (v := .ref n)
    rw [List.length_append, List.length_singleton]
    omega
  · rw [valV_put hn] at hk
    rw [pick_snoc hlen]
    by_cases z : k = key p
    · rw [if_pos z] at hk
      cases hk
      refine ⟨n, rfl, nH, ?_⟩
      rw [upd_same, if_pos z.symm, z, e4 _ hn] <;> rfl
    · rw [if_neg z] at hk
      obtain ⟨l2, rfl, ln, n2, el2⟩ := e3 _ _ hk
      refine ⟨l2, rfl, n2, ?_⟩
      rw [if_neg (fun y => z y.symm), upd_ne ln]
      exact el2
  · rw [valV_put hn] at hk
    by_cases z : k = key p
    · rw [if_pos z] at hk
      cases hk
    · rw [if_neg z] at hk
      rw [pick_snoc hlen, if_neg (fun y => z y.symm)]
      exact e4 k hk
  · rw [valV_put hn] at h1 h2
    have old : ∀ k, valV kvs k ≠ some (.ref n) := fun k z => by
      obtain ⟨l2, y, ln, _⟩ := e3 _ _ z
      cases y
      exact ln rfl
    by_cases z : k = key p
    · by_cases z2 : k' = key p
      · rw [z, z2]
      · rw [if_pos z] at h1
        rw [if_neg z2] at h2
        cases h1
        exact absurd h2 (old _)
    · rw [if_neg z] at h1
      by_cases z2 : k' = key p
      · rw [if_pos z2] at h2
        cases h2
        exact absurd h1 (old _)
      · rw [if_neg z2] at h2
        exact e5 _ _ _ h1 h2
end
def keyO (cs : List Nat) (p : List Str) : List L2.Key := cs.map fun c => .inr (p.getD c "")
def selT (cs : List Nat) (p : List Str) : List Str := cs.map fun c => p.getD c ""
theorem keyO_v {cs : List Nat} {p : List Str} : (keyO cs p).map kV = (selT cs p).map V.str := by
  unfold keyO selT
  rw [List.map_map, List.map_map] <;> rfl
/-- [x[c] for c in cs] -/
theorem lc_sel {K : PySem.W.Frag} {L : Addr} {cs : List Nat} {p : List Str} {g : TG} {te : TE} {vs : List Nat} {σ : L2.St} {H1 : Hp} {D : Addr} {Qd : Hp → Prop} (nD : H1 D = none) (eL : SqL K H1 L (cs.map natV)) (hl : cs.length ≤ 1000)
    (hs : ∀ (c : Nat) (H2 : Hp) (R : VK), c ∈ cs → Same H1 H2 → R (.str (p.getD c "")) H2 → g (natV c) (wipe σ vs) H2 fun σ2 H3 => wipe σ2 vs = wipe σ vs ∧ te σ2 H3 R)
    (hd : ∀ G, Same H1 G → G D = some (.lst ((selT cs p).map V.str)) → Qd G) :
    ∃ W : Nat → Nat → Hp → Prop, (∃ m, W 0 m (upd H1 D (.lst []))) ∧ ∀ i m H, W i m H →
    ((Itl K L).stop i H ∧ Qd H) ∨ ((Itl K L).go i H ∧ ∃ Nx : Hp → Prop, (∀ H', Nx H' → ∃ m', m' < m ∧ W (i + 1) m' H') ∧ ∀ x H', (Itl K L).yld i H x H' → g x (wipe σ vs) H' fun σ2 H2 => wipe σ2 vs = wipe σ vs ∧ tYes σ2 H2 fun b H3 =>
      if b = true then te σ2 H3 fun y H4 => ∃ acc, H4 D = some (.lst acc) ∧ acc.length < sizeLine ∧ Nx (upd H4 D (.lst (acc ++ [y]))) else Nx H3) := by
  refine lc_list (K := K) (a := L) (xs := cs.map natV) (fun i H' => Same H1 H' ∧ H' D = some (.lst ((selT (cs.take i) p).map V.str))) ⟨same_new nD, upd_same⟩ (fun i H' _ y => y.1.seq eL) ?_ ?_
  · rintro i v H2 hi ⟨s2, e2⟩
    rw [List.getElem?_map] at hi
    obtain ⟨c, hc, rfl⟩ := Option.map_eq_some_iff.mp hi
    refine hs c H2 (fun y H4 => ∃ acc, H4 D = some (.lst acc) ∧ acc.length < sizeLine ∧ (Same H1 (upd H4 D (.lst (acc ++ [y]))) ∧ upd H4 D (.lst (acc ++ [y])) D = some (.lst ((selT (cs.take (i + 1)) p).map V.str)))) (List.mem_of_getElem? hc) s2 ⟨_, e2, ?_, same_put s2 nD, ?_⟩
    · unfold selT
      rw [List.length_map, List.length_map, List.length_take]
      exact Nat.lt_of_le_of_lt (by omega : _ ≤ 1000) (by decide)
    · rw [upd_same]
      unfold selT
      rw [take_one hc, List.map_append, List.map_append] <;> rfl
  · rintro H2 ⟨s2, e2⟩
    rw [List.length_map, List.take_length] at e2
    exact hd H2 s2 e2
end Nv
set_option maxHeartbeats 4000000
namespace Nv
open PySem PySem.Spec PyProof.Rows L2
/-! # Step.onward -/
theorem PaL.overX {H : Hp} {D : Addr} {u o : HO} {vs : List V} {ps : List (List Str)} (h : PaL H vs ps) (e : H D = some u) (hu : ∀ xs, u ≠ .tup xs) (hf : ∀ ob xs, u ≠ .frz ob (.tup xs)) : PaL (upd H D o) vs ps := by
  induction h with
  | nil => exact .nil
  | mk e1 _ ih => exact .mk (e1.upd (e1.ne e hu hf)) ih
theorem pick_pal {key : List Str → List L2.Key} {k : List L2.Key} {f : List Str → List Str} {H : Hp} : ∀ {ps : List (List Str)} {ms : List V}, PaL H ms (ps.map f) → PaL H (pick key k ms ps) ((ps.filter fun p => decide (key p = k)).map f)
  | [], _, h => by
    cases h
    exact .nil
  | p :: ps, _, h => by
    cases h with
    | @mk t _ us _ e h =>
      have ih := pick_pal (key := key) (k := k) h
      unfold pick at ih ⊢
      rw [List.zip_cons_cons]
      by_cases z : key p = k
      · rw [List.filter_cons_of_pos (by exact decide_eq_true z), List.filter_cons_of_pos (by exact decide_eq_true z)]
        exact .mk e ih
      · rw [List.filter_cons_of_neg (by simpa using z), List.filter_cons_of_neg (by simpa using z)]
        exact ih
theorem flatM_len {α β : Type} {f : α → List β} {m : Nat} (h : ∀ x, (f x).length ≤ m) : ∀ l : List α, (l.flatMap f).length ≤ l.length * m
  | [] => Nat.zero_le _
  | x :: l => by
    have := flatM_len h l
    have h1 := h x
    rw [List.flatMap_cons, List.length_append, List.length_cons, Nat.succ_mul]
    omega
theorem keyR_v {cs : List Nat} {p : List Str} : (cs.map fun c => (Sum.inr (p.getD c "") : L2.Key)).map kV = (selT cs p).map V.str := by
  unfold selT
  rw [List.map_map, List.map_map] <;> rfl
/-- the key of a row: the texts at its places -/
def keyR (pl : List Nat) (row : List Str) : List L2.Key := pl.map fun c => .inr (row.getD c "")
/-- what a row is led on to -/
def onRow (ol pl nw : List Nat) (facts : List (List Str)) (row : List Str) : List (List Str) := (facts.filter fun p => decide (keyO ol p = keyR pl row)).map fun p => row ++ selT nw p
/-- a fact that has alike names wherever a term stands again -/
def twB (tws : List (Nat × Nat)) (p : List Str) : Bool := tws.all fun z => !apartB z p
def onw (pat ts : List Str) (prs rws facts : List (List Str)) : List (List Str) :=
  keepA ((readyOf ts (stepTerms ts pat) prs).map (ijOf (stepTerms ts pat))) (rws.flatMap (onRow (oldsIn ts pat (colsOf pat)) (placesIn ts pat (colsOf pat)) (newsIn ts pat (colsOf pat)) (facts.filter (twB (twinsIn ts pat (colsOf pat))))))
section
variable {P : Program} {w : World} {K : PySem.W.Frag} {mg : Str → Option Value} {base : Heap}
def spOnward (K : PySem.W.Frag) (C : Addr) : Sp := fun vs H Q _ => ∃ (r a b : Addr) (pat ts : List Str) (prs : List (List Str)) (us fs : List V) (rws facts : List (List Str)), vs = [.ref r, .ref a, .ref b] ∧ StepAt C H r pat ts prs ∧ (pat.length ≤ 4 ∧ ts.length ≤ 900) ∧ (∀ x ∈ prs, ∃ y z, x = [y, z]) ∧
  (H a = some (.lst us) ∧ PaL H us rws ∧ (∀ x ∈ rws, x.length = ts.length) ∧ rws.length ≤ 100000) ∧ (SqL K H b fs ∧ PaL H fs facts ∧ (∀ x ∈ facts, x.length = pat.length) ∧ facts.length ≤ 1000) ∧ rws.length * facts.length ≤ 100000 ∧
  ∀ (r' : Addr) (H' : Hp) (us' : List V), (r' = a ∨ H r' = none) → Same H H' → H' r' = some (.lst us') → PaL H' us' (onw pat ts prs rws facts) → Q (.ref r') H'
abbrev scLonger : Scope := { kind := .function, names := [(".0", .local), ("row", .cell), ("more", .local), ("tuple", .globalImplicit), ("places", .cell), ("shelf", .cell)], isGenerator := false, isCoroutine := false }
abbrev nOnward : List Str := ["self", "rows", "facts", "shelf", "fact", "one", "other", "column", "key", "places", "longer", "row", "more", "place"]
theorem scOnward : FnScope nOnward ["self", "rows", "facts"] (defScope sOnward) := ⟨rfl, rfl, rfl, by decide +kernel, rfl, by decide +kernel, by decide +kernel⟩
theorem ok_onward {f C fA : Addr} {fd dA : FuncData} (F : Fun K "onward" "Step.onward" sOnward f fd) (B : Bp mg) (R : SC K C)
    (GA : FnOk P w K mg base CX0 1 fA dA ["rows", "apart"] (spKeptApart K)) (kA : PySem.W.keepIn K (.ref fA) = true) (gA : mg "_kept_apart" = some (.ref fA)) (bA : Binds K dA ["rows", "apart"] []) :
    FnOk P w K mg base CX0 2 f fd ["self", "rows", "facts"] (spOnward K C) := by
  refine F.ok scOnward (fun vs H Q E h => ?_) (fun cdv A outer s H vs Q E hr h => ?_)
  · obtain ⟨r, a, b, pat, ts, prs, us, fs, rws, facts, rfl, _⟩ := h
    rfl
  · obtain ⟨r, a, b, pat, ts, prs, us, fs, rws, facts, rfl, hst, ⟨hp4, htl⟩, hprs, ⟨ea, hrw, hrl, hrn⟩, ⟨eb, hfs, hfl, hfn⟩, hprod, q⟩ := h
    have hu : (A.deeper (envOfC "Step.onward" (defScope sOnward) s.heap.objs.size f cdv)).units + 1 < cLine := Nat.lt_of_le_of_lt (Nat.add_le_add_left (by decide : 1 ≤ 64) _) hr.units
    refine ⟨_, pss_cons (ps_if (pt_not (pt_truth (pv 1) (by intro _; rfl))) (pss_one (ps_ret (pv 1))) pss_nil)
      (pss_cons (ps_set (i := 3) scOnward.nd rfl (Or.inr rfl) pe_dnewT)
      (pss_cons (ps_for PassesOwn.never rfl (pi_list (pv 2)) (pg_name (i := 4) scOnward.nd rfl (Or.inr rfl))
        (pss_one (ps_if (pt_val (pe_callB (cr_all rfl) (by rfl) B.all bootAll (pa_cons (by exact (pe_lc (own := [("one", 5), ("other", 6)]) (g := gTup K 2 (gCons (gName 5) (gCons (gName 6) gNil))) (tt := tYes) (te := tOp rEq (tOp (rIxT K) (tVar 4) (tVar 5)) (tOp (rIxT K) (tVar 4) (tVar 6))) rfl scOnward.nd (pi_list (pe_fld (pv 0) rfl))
            (blkOk_by (own := [("one", 5), ("other", 6)]) (N := nOnward) (sc := defScope sOnward) (by decide +kernel))
            (fun _ _ _ _ _ => pg_tup rfl (pgs_cons (pg_name (i := 5) scOnward.nd rfl (Or.inl rfl)) (pgs_cons (pg_name (i := 6) scOnward.nd rfl (Or.inl rfl)) pgs_nil))) (fun _ _ _ _ _ => pts_nil)
            (fun _ _ _ _ _ => by exact (pe_cmpR op_eq (pe_ix ix_tup (pv 4) (pv 5) (fun _ _ => rfl)) (pe_ix ix_tup (pv 4) (pv 6) (fun _ _ => rfl)) (nomark _))))) pa_nil)))
          (pss_cons (ps_set (i := 8) scOnward.nd rfl (Or.inl rfl) (pe_callTy call_tuple_of (by rfl) B.tup PyProof.Rows.boot_tuple (pa_cons (by exact (pe_lc (own := [("column", 7)]) (g := gName 7) (tt := tYes) (te := tOp (rIxT K) (tVar 4) (tVar 7)) rfl scOnward.nd (pi_list (pe_fld (pv 0) rfl))
            (blkOk_by (own := [("column", 7)]) (N := nOnward) (sc := defScope sOnward) (by decide +kernel))
            (fun _ _ _ _ _ => pg_name (i := 7) scOnward.nd rfl (Or.inl rfl)) (fun _ _ _ _ _ => pts_nil)
            (fun _ _ _ _ _ => by exact (pe_ix ix_tup (pv 4) (pv 7) (fun _ _ => rfl))))) pa_nil)))
          (pss_one (ps_expr (pe_bm PySem.F.plainAttrs_list PySem.F.slot_list_append PySem.F.type_list_append mt_append
            (pe_bm PySem.F.plainAttrs_dict PySem.F.slot_dict_setdefault PySem.F.type_dict_setdefault (mt_setdT hu) (pv 3) (pa_cons (pv 8) (pa_cons (pe_lst pa_nil) pa_nil)))
            (pa_cons (pe_callTy call_tuple_of (by rfl) B.tup PyProof.Rows.boot_tuple (pa_cons (by exact (pe_lc (own := [("column", 7)]) (g := gName 7) (tt := tYes) (te := tOp (rIxT K) (tVar 4) (tVar 7)) rfl scOnward.nd (pi_list (pe_fld (pv 0) rfl))
            (blkOk_by (own := [("column", 7)]) (N := nOnward) (sc := defScope sOnward) (by decide +kernel))
            (fun _ _ _ _ _ => pg_name (i := 7) scOnward.nd rfl (Or.inl rfl)) (fun _ _ _ _ _ => pts_nil)
            (fun _ _ _ _ _ => by exact (pe_ix ix_tup (pv 4) (pv 7) (fun _ _ => rfl))))) pa_nil)) pa_nil)))))
          pss_nil)))
      (pss_cons (ps_set (i := 9) scOnward.nd rfl (Or.inr rfl) (pe_fld (pv 0) rfl))
      (pss_cons (by exact (ps_setLc2 (i := 10) (own := [("row", 11), ("more", 12)]) (vs1 := [12]) (g := gName 11) (g1 := gName 12) (tt := tYes) (tt1 := tYes)
          (wi1 := iList K (tDGet2 (tVar 3) (tCB (fun xs H Q => ∃ p ys, xs = [.ref p] ∧ ((SqL K H p ys ∧ ∀ l, H l = none → Q (.ref l) (upd H l (.tup ys))) ∨ (SqT K H p ys ∧ Q (.ref p) H))) (tCons (tLc (iList K (tVar 9)) (gName 13) tYes (tOp (rIxT K) (tVar 11) (tVar 13)) [13]) tNil)) (tLst tNil)))
          (te := tOp (rCatA K) (tVar 11) (tVar 12)) rfl scOnward.nd rfl rfl (sw_true rfl rfl rfl (by decide +kernel)) (pi_list (pv 1))
          (blkOk_by (own := [("row", 11), ("more", 12)]) (N := nOnward) (sc := defScope sOnward) (by decide +kernel)) (by decide)
          (fun _ _ _ _ _ => pg_name (i := 11) scOnward.nd rfl (Or.inr rfl)) (fun _ _ _ _ _ => pts_nil)
          (fun _ _ _ _ _ => by exact (pi_list (pe_dget2 hu (pv 3) (pe_callTy call_tuple_of (by rfl) B.tup PyProof.Rows.boot_tuple (pa_cons (by exact (pe_lc (own := [("place", 13)]) (g := gName 13) (tt := tYes) (te := tOp (rIxT K) (tVar 11) (tVar 13)) rfl scOnward.nd (pi_list (pv 9))
            (show BlkOk nOnward scLonger _ [("place", 13)] from blkOk_by (by decide +kernel))
            (fun _ _ _ _ _ => pg_name (i := 13) scOnward.nd rfl (Or.inl rfl)) (fun _ _ _ _ _ => pts_nil)
            (fun _ _ _ _ _ => by exact (pe_ix ix_tup (pv 11) (pv 13) (fun _ _ => rfl))))) pa_nil)) (pe_lst pa_nil) ⟨rfl, rfl, rfl, rfl⟩)))
          (fun _ _ _ _ _ => pg_name (i := 12) scOnward.nd rfl (Or.inl rfl)) (fun _ _ _ _ _ => pts_nil) (fun _ _ _ _ _ => by exact (pe_op op_catA (pv 11) (pv 12)))))
      (pss_one (ps_ret (by exact (pe_call GA hr (by rfl) gA kA bA .nil pass0 (pa_cons (pv 10) (pa_cons (pe_fld (pv 0) rfl) pa_nil)))))))))), ?_⟩
    have hul := hrw.len
    have hfsl := hfs.len
    refine ⟨_, rfl, !us.isEmpty, .inl ⟨us, SqL.of ea, rfl⟩, ?_⟩
    by_cases hu0 : us = []
    · subst hu0
      cases hrw
      exact iteT ⟨_, rfl, q a H [] (.inl rfl) (Same.refl H) ea (by
        have e : onw pat ts prs [] facts = [] := by
          unfold onw
          have : ∀ ijs, keepA ijs [] = [] := fun ijs => by
            induction ijs with
            | nil => rfl
            | cons z ijs ih => exact ih
          exact this _
        rw [e]
        exact .nil)⟩
    have hemp : us.isEmpty = false := by
      cases us with
      | nil => exact absurd rfl hu0
      | cons _ _ => rfl
    rw [hemp]
    refine iteF ?_
    obtain ⟨dx, k, o, pl, n, tw, l, ap, zs, e0, ek, eo, epl, en, ⟨tv, etw, ijt⟩, el, eap, hij⟩ := hst
    have lk2 : (stF k o pl n tw l ap).lookup ("olds" : Str) = some (V.ref o) := (lk_no (by decide +kernel)).trans lk_yes
    have lk3 : (stF k o pl n tw l ap).lookup ("places" : Str) = some (V.ref pl) := (lk_no (by decide +kernel)).trans ((lk_no (by decide +kernel)).trans lk_yes)
    have lk4 : (stF k o pl n tw l ap).lookup ("news" : Str) = some (V.ref n) := (lk_no (by decide +kernel)).trans ((lk_no (by decide +kernel)).trans ((lk_no (by decide +kernel)).trans lk_yes))
    have lk5 : (stF k o pl n tw l ap).lookup ("twins" : Str) = some (V.ref tw) := (lk_no (by decide +kernel)).trans ((lk_no (by decide +kernel)).trans ((lk_no (by decide +kernel)).trans ((lk_no (by decide +kernel)).trans lk_yes)))
    have lk7 : (stF k o pl n tw l ap).lookup ("apart" : Str) = some (V.ref ap) := (lk_no (by decide +kernel)).trans ((lk_no (by decide +kernel)).trans ((lk_no (by decide +kernel)).trans ((lk_no (by decide +kernel)).trans ((lk_no (by decide +kernel)).trans ((lk_no (by decide +kernel)).trans lk_yes)))))
    have colO : ∀ c ∈ oldsIn ts pat (colsOf pat), c < pat.length ∧ pat.getD c "" ∈ ts := fun c hc => by
      obtain ⟨m, hd⟩ := List.mem_filter.mp hc
      have := List.mem_range'_1.mp m
      exact ⟨by omega, of_decide_eq_true hd⟩
    have colN : ∀ c ∈ newsIn ts pat (colsOf pat), c < pat.length := fun c hc => by
      obtain ⟨m, _⟩ := List.mem_filter.mp hc
      have := List.mem_range'_1.mp m
      omega
    have lenC : (colsOf pat).length ≤ 3 := by
      unfold colsOf
      rw [List.length_range']
      omega
    have colT : ∀ z ∈ twinsIn ts pat (colsOf pat), z.1 < pat.length ∧ z.2 < pat.length := fun z hz => by
      obtain ⟨c, hc, rfl⟩ := List.mem_map.mp hz
      have m := (List.mem_filter.mp hc).1
      have r := List.mem_range'_1.mp m
      obtain ⟨i, hi⟩ := List.getElem?_of_mem m
      have := (first_col hi).2.1
      exact ⟨by omega, by show first1 pat _ < _; omega⟩
    have lenT : (twinsIn ts pat (colsOf pat)).length ≤ 3 := by
      unfold twinsIn
      rw [List.length_map]
      exact Nat.le_trans (List.length_filter_le _ _) lenC
    have ijtl := ijt.len
    have lenO : (oldsIn ts pat (colsOf pat)).length ≤ 3 := Nat.le_trans (List.length_filter_le _ _) lenC
    have lenN : (newsIn ts pat (colsOf pat)).length ≤ 3 := Nat.le_trans (List.length_filter_le _ _) lenC
    have plR : ∀ c ∈ placesIn ts pat (colsOf pat), c < ts.length := fun c hc => by
      obtain ⟨x, hx, rfl⟩ := List.mem_map.mp hc
      exact (List.getElem?_eq_some_iff.mp (pos1_at (colO x hx).2).1).1
    have lenP : (placesIn ts pat (colsOf pat)).length ≤ 3 := by
      unfold placesIn
      rw [List.length_map]
      exact lenO
    unfold onw at q
    have hterms : (stepTerms ts pat).length = ts.length + (newsIn ts pat (colsOf pat)).length := by
      unfold stepTerms termsIn
      rw [List.length_append, List.length_map]
    have hijs : ∀ z ∈ (readyOf ts (stepTerms ts pat) prs).map (ijOf (stepTerms ts pat)), z.1 < (stepTerms ts pat).length ∧ z.2 < (stepTerms ts pat).length := fun z hz => by
      obtain ⟨x, hx, rfl⟩ := List.mem_map.mp hz
      obtain ⟨m, hb⟩ := List.mem_filter.mp hx
      obtain ⟨y, z, rfl⟩ := hprs x m
      rw [Bool.and_eq_true, Bool.and_eq_true] at hb
      exact ⟨(List.getElem?_eq_some_iff.mp (pos1_at (of_decide_eq_true hb.1.1)).1).1, (List.getElem?_eq_some_iff.mp (pos1_at (of_decide_eq_true hb.1.2)).1).1⟩
    generalize (readyOf ts (stepTerms ts pat) prs).map (ijOf (stepTerms ts pat)) = ijs at hij q hijs
    rw [hterms] at hijs
    generalize stepTerms ts pat = sts at el hterms
    generalize oldsIn ts pat (colsOf pat) = ol at eo q colO lenO
    generalize placesIn ts pat (colsOf pat) = pls at epl q plR lenP
    generalize newsIn ts pat (colsOf pat) = nw at en q colN lenN hijs hterms
    generalize twinsIn ts pat (colsOf pat) = tws at ijt q colT lenT ijtl
    have hfz : (facts.filter (twB tws)).length ≤ facts.length := List.length_filter_le _ _
    show tSeq _ _ _ _ _
    refine fun d nd => ?_
    refine ⟨_, rfl, b, rfl, ⟨_, (same_new nd).seq eb⟩, for_list (K := K) (a := b) (xs := fs) (fun i σ G => ∃ (o4 o8 : Option V) (ms : List V), σ = [some (.ref r), some (.ref a), some (.ref b), some (.ref d), o4, none, none, none, o8, none, none, none, none, none] ∧ Same H G ∧
      Shelf (keyO ol) H G d ms ((facts.take i).filter (twB tws)) ∧ PaL G ms (((facts.take i).filter (twB tws)).map (selT nw))) ⟨none, none, [], rfl, same_new nd, ?_, .nil⟩ (fun i σ G _ z => ?_) ?_ ?_⟩
    · exact ⟨[], upd_same, Nat.zero_le _, fun k v h => (by cases h), fun k _ => rfl, fun k k' l h => (by cases h)⟩
    · obtain ⟨_, _, _, _, sm, _⟩ := z
      exact sm.seq eb
    · rintro i v σ G hi ⟨o4, o8, ms, rfl, sm, S, hm⟩
      obtain ⟨t, p, rfl, hpi, et⟩ := hfs.at_ hi
      have pl_ := hfl p (List.mem_of_getElem? hpi)
      have il := (List.getElem?_eq_some_iff.mp hpi).1
      have mlen : ms.length = ((facts.take i).filter (twB tws)).length := by rw [hm.len, List.length_map]
      have flen : ((facts.take i).filter (twB tws)).length ≤ i := by
        have := List.length_filter_le (twB tws) (facts.take i)
        rw [List.length_take] at this
        omega
      have ft := filter_take (f := twB tws) hpi
      refine ⟨_, rfl, r, C, dx, _, .ref tw, rfl, sm _ _ e0, R.cl, R.n5, lk5, tw, rfl, ⟨_, SqL.of (sm _ _ etw)⟩, fun D nD => ?_⟩
      refine lc_list (K := K) (a := tw) (xs := tv) (fun j H' => Same G H' ∧ H' D = some (.lst ((tws.take j).map fun z => V.bl (!apartB z p)))) ⟨same_new nD, upd_same⟩ (fun i H' _ y => SqL.of (y.1 _ _ (sm _ _ etw))) ?_ ?_
      · rintro j y H3 hj ⟨s3, e3⟩
        obtain ⟨bt, z, rfl, hzj, ebt⟩ := ijt.at_ hj
        obtain ⟨l1, l2⟩ := colT z (List.mem_of_getElem? hzj)
        have et3 := et.same (sm.trans s3)
        have ebz : decide (V.str (p.getD z.1 "") = V.str (p.getD z.2 "")) = !apartB z p := by
          unfold apartB
          rw [Bool.not_not]
          exact decide_eq_decide.mpr ⟨fun h => by injection h, fun h => by rw [h]⟩
        refine ⟨bt, _, rfl, SqT.of (s3 _ _ (sm _ _ ebt)), rfl, _, _, rfl, _, _, rfl, rfl, rfl, ?_⟩
        refine ⟨_, rfl, _, rfl, t, _, _, _, rfl, rfl, .inl et3, atI_nat (getD_str (by rw [pl_]; exact l1)), ?_⟩
        refine ⟨_, rfl, _, rfl, t, _, _, _, rfl, rfl, .inl et3, atI_nat (getD_str (by rw [pl_]; exact l2)), ?_⟩
        refine ⟨rfl, _, e3, by rw [List.length_map, List.length_take]; exact Nat.lt_of_le_of_lt (by omega : _ ≤ 3) (by decide), same_put s3 nD, ?_⟩
        rw [ebz, upd_same, take_one hzj, List.map_append]
        rfl
      rintro G1 ⟨s1, e1⟩
      rw [ijtl, List.take_length] at e1
      have eall : (tws.map fun z => !apartB z p).all id = twB tws p := by
        unfold twB
        rw [List.all_map]
        rfl
      refine ⟨D, tws.map (fun z => !apartB z p), rfl, SqL.of (by rw [e1, List.map_map] <;> rfl), _, rfl, ?_⟩
      rw [eall]
      cases htw : twB tws p with
      | false =>
        rw [htw, if_neg Bool.false_ne_true, List.append_nil] at ft
        refine iteF ⟨some (.ref t), o8, ms, rfl, sm.trans s1, ?_, ?_⟩
        · rw [ft]
          exact S.same s1
        · rw [ft]
          exact hm.same s1
      | true =>
      rw [htw, if_pos rfl] at ft
      refine iteT ?_
      have sm1 := sm.trans s1
      replace S := S.same s1
      replace hm := hm.same s1
      clear s1 e1 sm
      show tSeq _ _ _ _ _
      refine ⟨_, rfl, r, C, dx, _, .ref o, rfl, sm1 _ _ e0, R.cl, R.n2, lk2, o, rfl, ⟨_, SqL.of (sm1 _ _ eo)⟩, fun D2 nD2 => ?_⟩
      refine lc_sel (p := p) nD2 (SqL.of (sm1 _ _ eo)) (by omega) (fun c H2 Rr hc s2 hR => ⟨rfl, _, rfl, _, rfl, t, _, _, _, rfl, rfl, (et.same (sm1.trans s2)).sq, atI_nat (getD_str (by rw [pl_]; exact (colO c hc).1)), hR⟩) fun G2 s2 e2 => ?_
      refine ⟨D2, _, rfl, .inl ⟨SqL.of e2, fun kt nkt => ?_⟩⟩
      have s3 : Same G1 (upd G2 kt (.tup ((selT ol p).map V.str))) := s2.trans (same_new nkt)
      have ekt : upd G2 kt (.tup ((selT ol p).map V.str)) kt = some (.tup ((selT ol p).map V.str)) := upd_same
      generalize upd G2 kt (.tup ((selT ol p).map V.str)) = G3 at s3 ekt ⊢
      have sm3 := sm1.trans s3
      replace S := S.same s3
      replace hm := hm.same s3
      clear s2 e2 s3 sm1
      obtain ⟨kvs, f1, f2, f3, f4, f5⟩ := S
      refine ⟨_, rfl, .inr (.inr (.inl ⟨rfl, .inr ⟨kvs, f1⟩⟩)), _, rfl, ?_⟩
      refine ⟨by show 0 ≤ _; exact Nat.zero_le _, fun n0 nn => ?_⟩
      have s4 : Same G3 (upd G3 n0 (.lst [])) := same_new nn
      have en0 : upd G3 n0 (.lst []) n0 = some (.lst []) := upd_same
      have nd0 : n0 ≠ d := fun z => by rw [z, f1] at nn; cases nn
      generalize upd G3 n0 (.lst []) = G4 at s4 en0 ⊢
      have kl : kvs.length < sizeLine := by
        exact Nat.lt_of_le_of_lt (by omega : _ ≤ 1000) (by decide)
      have plen : ∀ k, (pick (keyO ol) k ms ((facts.take i).filter (twB tws))).length < sizeLine := fun k => by
        have := pick_len (key := keyO ol) (k := k) (us := ms) (ps := (facts.take i).filter (twB tws))
        rw [mlen] at this
        exact Nat.lt_of_le_of_lt (by omega : _ ≤ 1000) (by decide)
      have sm4 := sm3.trans s4
      have hm4 := hm.same s4
      refine ⟨d, kt, kvs, keyO ol p, .ref n0, rfl, rfl, s4 _ _ f1, by rw [keyO_v]; exact s4 _ _ ekt, kl, fun v hv => ?_, fun hn => ?_⟩
      · obtain ⟨l0, rfl, nl0, el0⟩ := f3 _ _ hv
        refine ⟨.inl ⟨rfl, _, SqL.of (s4 _ _ el0)⟩, ?_⟩
        refine ⟨_, rfl, r, C, dx, _, .ref n, rfl, sm4 _ _ e0, R.cl, R.n4, lk4, n, rfl, ⟨_, SqL.of (sm4 _ _ en)⟩, fun D3 nD3 => ?_⟩
        refine lc_sel (p := p) nD3 (SqL.of (sm4 _ _ en)) (by omega) (fun c H2 Rr hc s2 hR => ⟨rfl, _, rfl, _, rfl, t, _, _, _, rfl, rfl, (et.same (sm4.trans s2)).sq, atI_nat (getD_str (by rw [pl_]; exact colN c hc)), hR⟩) fun G5 s5 e5 => ?_
        refine ⟨D3, _, rfl, .inl ⟨SqL.of e5, fun mt nmt => ?_⟩⟩
        have s6 : Same G4 (upd G5 mt (.tup ((selT nw p).map V.str))) := s5.trans (same_new nmt)
        have emt : upd G5 mt (.tup ((selT nw p).map V.str)) mt = some (.tup ((selT nw p).map V.str)) := upd_same
        generalize upd G5 mt (.tup ((selT nw p).map V.str)) = G6 at s6 emt ⊢
        have sG : Same G3 G6 := s4.trans s6
        have el6 := sG _ _ el0
        refine ⟨l0, _, _, rfl, rfl, el6, plen _, ?_⟩
        refine ⟨some (.ref t), some (.ref kt), ms ++ [.ref mt], rfl, same_put (sm3.trans sG) nl0, ?_, ?_⟩
        · rw [ft]
          exact Shelf.more mlen (sG _ _ f1) f2 (fun k v h => by
            obtain ⟨l1, h1, h2, h3⟩ := f3 k v h
            exact ⟨l1, h1, h2, sG _ _ h3⟩) f4 f5 hv
        · rw [ft, List.map_append]
          exact ((hm.same sG).over el6).app (.cons (by rw [upd_ne (fun z => by rw [z, el6] at emt; cases emt)]; exact emt) .nil)
      · have ed : upd G4 d (.dT (putK kvs (keyO ol p) (.ref n0))) d = some (.dT (putK kvs (keyO ol p) (.ref n0))) := upd_same
        have oth : ∀ b u, b ≠ d → G4 b = some u → upd G4 d (.dT (putK kvs (keyO ol p) (.ref n0))) b = some u := fun b u hb e => by rw [upd_ne hb]; exact e
        have sH : Same H (upd G4 d (.dT (putK kvs (keyO ol p) (.ref n0)))) := same_put sm4 nd
        have hm5 : PaL (upd G4 d (.dT (putK kvs (keyO ol p) (.ref n0)))) ms (((facts.take i).filter (twB tws)).map (selT nw)) := hm4.overX (s4 _ _ f1) (fun xs z => by cases z) fun ob xs z => by cases z
        generalize upd G4 d (.dT (putK kvs (keyO ol p) (.ref n0))) = G5 at ed oth sH hm5 ⊢
        have en5 := oth _ _ nd0 en0
        refine ⟨.inl ⟨rfl, _, SqL.of en5⟩, ?_⟩
        refine ⟨_, rfl, r, C, dx, _, .ref n, rfl, sH _ _ e0, R.cl, R.n4, lk4, n, rfl, ⟨_, SqL.of (sH _ _ en)⟩, fun D3 nD3 => ?_⟩
        refine lc_sel (p := p) nD3 (SqL.of (sH _ _ en)) (by omega) (fun c H2 Rr hc s2 hR => ⟨rfl, _, rfl, _, rfl, t, _, _, _, rfl, rfl, (et.same (sH.trans s2)).sq, atI_nat (getD_str (by rw [pl_]; exact colN c hc)), hR⟩) fun G6 s5 e5 => ?_
        refine ⟨D3, _, rfl, .inl ⟨SqL.of e5, fun mt nmt => ?_⟩⟩
        have s6 : Same G5 (upd G6 mt (.tup ((selT nw p).map V.str))) := s5.trans (same_new nmt)
        have emt : upd G6 mt (.tup ((selT nw p).map V.str)) mt = some (.tup ((selT nw p).map V.str)) := upd_same
        generalize upd G6 mt (.tup ((selT nw p).map V.str)) = G7 at s6 emt ⊢
        have en7 := s6 _ _ en5
        have nH : H n0 = none := sm3.free nn
        refine ⟨n0, _, _, rfl, rfl, en7, by decide, ?_⟩
        refine ⟨some (.ref t), some (.ref kt), ms ++ [.ref mt], rfl, same_put (sH.trans s6) nH, ?_, ?_⟩
        · rw [ft]
          exact Shelf.fresh mlen (s6 _ _ ed) f2 (fun k v h => by
            obtain ⟨l1, h1, h2, h3⟩ := f3 k v h
            refine ⟨l1, h1, fun z => ?_, h2, s6 _ _ (oth _ _ (fun z => ?_) (s4 _ _ h3))⟩
            · rw [z, nn] at h3
              cases h3
            · rw [z, f1] at h3
              cases h3) f4 f5 hn nd0 nH
        · rw [ft, List.map_append]
          exact ((hm5.same s6).over en7).app (.cons (by rw [upd_ne (fun z => by rw [z, en7] at emt; cases emt)]; exact emt) .nil)
    · rintro σ G ⟨o4, o8, ms, rfl, sm, S, hm⟩
      rw [hfsl, List.take_length] at S hm
      replace hprod : rws.length * (facts.filter (twB tws)).length ≤ 100000 := Nat.le_trans (Nat.mul_le_mul_left _ hfz) hprod
      clear hfs hfl hfn hfsl hfz
      generalize facts.filter (twB tws) = facts at S hm q hprod
      obtain ⟨kvs, f1, f2, f3, f4, f5⟩ := S
      refine ⟨_, rfl, r, C, dx, _, .ref pl, rfl, sm _ _ e0, R.cl, R.n3, lk3, ?_⟩
      show tSeq _ _ _ _ _
      refine ⟨_, rfl, a, rfl, ⟨_, SqL.of (sm _ _ ea)⟩, fun D nD => ?_⟩
      have orl : ∀ row, (onRow ol pls nw facts row).length ≤ facts.length := fun row => by
        unfold onRow
        rw [List.length_map]
        exact List.length_filter_le _ _
      refine walk_any (walk_list (K := K) (a := a) (xs := us)) (fun i H' => Same G H' ∧ ∃ ws : List V, H' D = some (.lst ws) ∧ PaL H' ws ((rws.take i).flatMap (onRow ol pls nw facts))) ⟨same_new nD, [], upd_same, .nil⟩ (fun i H' _ y => SqL.of (y.1 _ _ (sm _ _ ea))) ?_ ?_
      · rintro i v H1 H1' hi ⟨s1, ws, e1, hw⟩ ⟨rfl, hv⟩
        obtain ⟨t, row, rfl, hri, et⟩ := hrw.at_ hv
        have rl := hrl row (List.mem_of_getElem? hri)
        have il := (List.getElem?_eq_some_iff.mp hri).1
        have et1 := et.same (sm.trans s1)
        have hacc : ((rws.take i).flatMap (onRow ol pls nw facts)).length + (onRow ol pls nw facts row).length ≤ 100000 := by
          have h1 := flatM_len orl (rws.take (i + 1))
          rw [take_one hri, List.flatMap_append, List.length_append, List.length_append, List.length_singleton, List.length_take] at h1
          have h2 : [row].flatMap (onRow ol pls nw facts) = onRow ol pls nw facts row := List.append_nil _
          rw [h2] at h1
          refine Nat.le_trans h1 (Nat.le_trans (Nat.mul_le_mul_right _ ?_) hprod)
          omega
        have hnext : (rws.take (i + 1)).flatMap (onRow ol pls nw facts) = (rws.take i).flatMap (onRow ol pls nw facts) ++ onRow ol pls nw facts row := by
          rw [take_one hri, List.flatMap_append]
          exact congrArg _ (List.append_nil _)
        rw [hnext]
        generalize (rws.take i).flatMap (onRow ol pls nw facts) = acc at hw hacc ⊢
        show gName 11 _ _ _ _
        refine ⟨rfl, ?_⟩
        refine ⟨_, rfl, d, rfl, .inr ⟨kvs, .inl (s1 _ _ f1)⟩, _, rfl, pl, rfl, ⟨_, SqL.of (s1 _ _ (sm _ _ epl))⟩, fun D2 nD2 => ?_⟩
        refine lc_sel (p := row) nD2 (SqL.of (s1 _ _ (sm _ _ epl))) (by omega) (fun c H2 Rr hc s2 hR => ⟨rfl, _, rfl, _, rfl, t, _, _, _, rfl, rfl, (et1.same s2).sq, atI_nat (getD_str (by rw [rl]; exact plR c hc)), hR⟩) fun G2 s2 e2 => ?_
        refine ⟨D2, _, rfl, .inl ⟨SqL.of e2, fun kt nkt => ?_⟩⟩
        have s3 : Same H1' (upd G2 kt (.tup ((selT pls row).map V.str))) := s2.trans (same_new nkt)
        have ekt : upd G2 kt (.tup ((selT pls row).map V.str)) kt = some (.tup ((selT pls row).map V.str)) := upd_same
        generalize upd G2 kt (.tup ((selT pls row).map V.str)) = G3 at s3 ekt ⊢
        refine ⟨by show 0 ≤ _; exact Nat.zero_le _, fun n0 nn => ?_⟩
        have s4 : Same G3 (upd G3 n0 (.lst [])) := same_new nn
        have en0 : upd G3 n0 (.lst []) n0 = some (.lst []) := upd_same
        generalize upd G3 n0 (.lst []) = G4 at s4 en0 ⊢
        have s14 := s3.trans s4
        have sG4 := s1.trans s14
        refine ⟨valV kvs (keyR pls row), DGet.t (sG4 _ _ f1) (by unfold keyR; rw [keyR_v]; exact s4 _ _ ekt), ?_⟩
        have eD3 : G3 D = some (.lst ws) := s3 _ _ e1
        obtain ⟨L0, ys, hL, eL, nL, hy⟩ : ∃ (L0 : Addr) (ys : List V), (valV kvs (keyR pls row)).getD (.ref n0) = .ref L0 ∧ G4 L0 = some (.lst ys) ∧ L0 ≠ D ∧ PaL G4 ys ((facts.filter fun p => decide (keyO ol p = keyR pls row)).map (selT nw)) := by
          have hpick := pick_pal (key := keyO ol) (k := keyR pls row) (f := selT nw) (hm.same sG4)
          cases hval : valV kvs (keyR pls row) with
          | none =>
            rw [f4 _ hval] at hpick
            exact ⟨n0, [], rfl, en0, (fun z => by rw [z, eD3] at nn; cases nn), hpick⟩
          | some v =>
            obtain ⟨l0, rfl, _, el0⟩ := f3 _ _ hval
            exact ⟨l0, _, rfl, sG4 _ _ el0, (fun z => by rw [z, nD] at el0; cases el0), hpick⟩
        rw [hL]
        have hor : onRow ol pls nw facts row = ((facts.filter fun p => decide (keyO ol p = keyR pls row)).map (selT nw)).map fun x => row ++ x := by
          unfold onRow
          rw [List.map_map] <;> rfl
        rw [hor] at hacc ⊢
        have hq3 : ∀ x ∈ (facts.filter fun p => decide (keyO ol p = keyR pls row)).map (selT nw), x.length ≤ 3 := fun x hx => by
          obtain ⟨y, _, rfl⟩ := List.mem_map.mp hx
          unfold selT
          rw [List.length_map]
          exact lenN
        generalize (facts.filter fun p => decide (keyO ol p = keyR pls row)).map (selT nw) = qs at hy hacc hq3 ⊢
        refine ⟨L0, rfl, ⟨_, SqL.of eL⟩, ?_⟩
        have hyl := hy.len
        refine walk_any (walk_list (K := K) (a := L0) (xs := ys)) (fun j H' => Same G H' ∧ H' L0 = some (.lst ys) ∧ PaL H' ys qs ∧ ∃ ws : List V, H' D = some (.lst ws) ∧ PaL H' ws (acc ++ (qs.take j).map fun x => row ++ x)) ⟨sG4, eL, hy, ws, s14 _ _ e1, by rw [List.take_zero, List.map_nil, List.append_nil]; exact hw.same s14⟩ (fun j H' _ z => SqL.of z.2.1) ?_ ?_
        · rintro j x H2 H2' hj ⟨sj, eLj, hyj, wsj, ej, hwj⟩ ⟨rfl, hx⟩
          obtain ⟨m, qx, rfl, hqj, em⟩ := hyj.at_ hx
          have jl := (List.getElem?_eq_some_iff.mp hqj).1
          have etj := et.same (sm.trans sj)
          have fin : ∀ (y : Addr) (H4 : Hp), Same H2' H4 → Tu H4 y (row ++ qx) → ∃ acc', H4 D = some (.lst acc') ∧ acc'.length < sizeLine ∧ (Same G (upd H4 D (.lst (acc' ++ [.ref y]))) ∧ upd H4 D (.lst (acc' ++ [.ref y])) L0 = some (.lst ys) ∧ PaL (upd H4 D (.lst (acc' ++ [.ref y]))) ys qs ∧
              ∃ ws : List V, upd H4 D (.lst (acc' ++ [.ref y])) D = some (.lst ws) ∧ PaL (upd H4 D (.lst (acc' ++ [.ref y]))) ws (acc ++ (qs.take (j + 1)).map fun x => row ++ x)) := fun y H4 s4 ey => by
            have e4 := s4 _ _ ej
            refine ⟨wsj, e4, ?_, same_put (sj.trans s4) nD, by rw [upd_ne nL]; exact s4 _ _ eLj, (hyj.same s4).over e4, _, upd_same, ?_⟩
            · rw [hwj.len, List.length_append, List.length_map, List.length_take]
              rw [List.length_map] at hacc
              exact Nat.lt_of_le_of_lt (by omega : _ ≤ 100000) (by decide)
            · rw [take_one hqj, List.map_append, ← List.append_assoc]
              exact ((hwj.same s4).over e4).app (.mk (ey.upd (ey.lst e4)) .nil)
          show gName 12 _ _ _ _
          refine ⟨rfl, _, rfl, _, rfl, t, m, _, _, rfl, rfl, etj.sq, em.sq, ?_, fun z => ?_, fun z1 z2 => ?_, fun z1 z2 p2 np2 => ?_⟩
          · have h3 := hq3 qx (List.mem_of_getElem? hqj)
            rw [List.length_map, List.length_map, rl]
            exact Nat.le_trans (by omega : _ ≤ 903) (by decide)
          · have rz : row = [] := List.map_eq_nil_iff.mp z
            refine fin m H2' (Same.refl _) ?_
            rw [rz]
            exact em
          · have qz : qx = [] := List.map_eq_nil_iff.mp z2
            refine fin t H2' (Same.refl _) ?_
            rw [qz, List.append_nil]
            exact etj
          · refine fin p2 _ (same_new np2) (.inl ?_)
            rw [upd_same, List.map_append]
        · rintro H2 ⟨sj, eLj, hyj, wsj, ej, hwj⟩
          rw [hyl, List.take_length] at hwj
          exact ⟨sj, wsj, ej, hwj⟩
      · rintro H1 ⟨s1, ws, e1, hw⟩
        rw [hul, List.take_length] at hw
        have sH1 := sm.trans s1
        show tSeq _ _ _ _ _
        refine ⟨_, rfl, _, rfl, r, C, dx, _, .ref ap, rfl, sH1 _ _ e0, R.cl, R.n7, lk7, ?_⟩
        dsimp only [tNil]
        have hrow : ∀ p ∈ rws.flatMap (onRow ol pls nw facts), p.length = ts.length + nw.length := fun p hp => by
          obtain ⟨row, hr1, hp2⟩ := List.mem_flatMap.mp hp
          obtain ⟨x, _, rfl⟩ := List.mem_map.mp hp2
          unfold selT
          rw [List.length_append, List.length_map, hrl row hr1]
        refine ⟨D, ap, ws, zs, _, ijs, rfl, e1, hw, SqL.of (sH1 _ _ eap), hij.same sH1, fun p hp z hz => by rw [hrow p hp]; exact hijs z hz, ?_, fun r' H' us' nw s2 e2 h2 => ?_⟩
        · exact Nat.le_trans (flatM_len orl rws) hprod
        · exact q r' H' us' (.inr (nw.elim (fun z => z ▸ sm.free nD) fun z => sH1.free z)) (sH1.trans s2) e2 h2
end
end Nv
set_option maxHeartbeats 4000000
namespace Nv
open PySem PySem.Spec PyProof.Rows L2
/-! # Plan, made -/
abbrev sPlanInit : Stmt := inClass cPlan 0
abbrev sRows : Stmt := inClass cPlan 1
def planT (known : List Str) (ps : List (List Str)) : List Str := ps.foldl (fun ts p => stepTerms ts p) known
def planOf : List Str → List (List Str) → List (List Str × List Str)
  | _, [] => []
  | ts, p :: ps => (p, ts) :: planOf (stepTerms ts p) ps
theorem planOf_snoc : ∀ (ts : List Str) (ps : List (List Str)) (p : List Str), planOf ts (ps ++ [p]) = planOf ts ps ++ [(p, planT ts ps)]
  | _, [], _ => rfl
  | ts, q :: ps, p => by
    show (q, ts) :: planOf (stepTerms ts q) (ps ++ [p]) = _
    rw [planOf_snoc] <;> rfl
theorem planT_snoc (ts : List Str) (ps : List (List Str)) (p : List Str) : planT ts (ps ++ [p]) = stepTerms (planT ts ps) p := by
  unfold planT
  rw [List.foldl_append] <;> rfl
theorem planOf_len : ∀ (ps : List (List Str)) (ts : List Str), (planOf ts ps).length = ps.length
  | [], _ => rfl
  | p :: ps, ts => by
    show (planOf (stepTerms ts p) ps).length + 1 = ps.length + 1
    rw [planOf_len]
theorem stepTerms_len {ts p : List Str} (h : p.length ≤ 4) : (stepTerms ts p).length ≤ ts.length + 3 := by
  unfold stepTerms termsIn newsIn
  rw [List.length_append, List.length_map]
  have h1 : ((colsOf p).filter (isNew ts p)).length ≤ (colsOf p).length := List.length_filter_le _ _
  have h2 : (colsOf p).length = p.length - 1 := List.length_range'
  omega
theorem planT_len : ∀ {ps : List (List Str)} {ts : List Str}, (∀ p ∈ ps, p.length ≤ 4) → (planT ts ps).length ≤ ts.length + 3 * ps.length
  | [], _, _ => Nat.le_refl _
  | p :: ps, ts, h => by
    have h1 := planT_len (ps := ps) (ts := stepTerms ts p) fun q hq => h q (List.mem_cons_of_mem _ hq)
    have h2 := stepTerms_len (ts := ts) (h p List.mem_cons_self)
    show (planT (stepTerms ts p) ps).length ≤ _
    rw [List.length_cons]
    omega
def knB (known p : List Str) : Bool := decide (p.getD 0 "" ∈ known) && decide (p.getD 1 "" ∈ known)
abbrev pnF (a s t : Addr) : Flds := [("apart", .ref a), ("steps", .ref s), ("terms", .ref t)]
theorem pF2 {a s : Addr} : putF "steps" (V.ref s) ([("apart", V.ref a)] : Flds) = ([("apart", V.ref a), ("steps", V.ref s)] : Flds) := putF_new (ns := ["apart"]) rfl (by decide +kernel)
theorem pF3 {a s t : Addr} : putF "terms" (V.ref t) ([("apart", V.ref a), ("steps", V.ref s)] : Flds) = pnF a s t := putF_new (ns := ["apart", "steps"]) rfl (by decide +kernel)
theorem pF4 {a s t t' : Addr} : putF "terms" (V.ref t') (pnF a s t) = pnF a s t' := by
  have n1 : ¬ (("apart" : Str) = "terms") := by decide +kernel
  have n2 : ¬ (("steps" : Str) = "terms") := by decide +kernel
  unfold pnF putF
  rw [if_neg n1]
  unfold putF
  rw [if_neg n2]
  unfold putF
  rw [if_pos rfl]
theorem pl1 {a s t : Addr} : (pnF a s t).lookup ("apart" : Str) = some (V.ref a) := lk_yes
theorem pl2 {a s t : Addr} : (pnF a s t).lookup ("steps" : Str) = some (V.ref s) := (lk_no (by decide +kernel)).trans lk_yes
theorem pl3 {a s t : Addr} : (pnF a s t).lookup ("terms" : Str) = some (V.ref t) := (lk_no (by decide +kernel)).trans ((lk_no (by decide +kernel)).trans lk_yes)
theorem sl6' {k o p n t l a : Addr} : (stF k o p n t l a).lookup ("terms" : Str) = some (V.ref l) := (lk_no (by decide +kernel)).trans ((lk_no (by decide +kernel)).trans ((lk_no (by decide +kernel)).trans ((lk_no (by decide +kernel)).trans ((lk_no (by decide +kernel)).trans lk_yes))))
structure PNC (K : PySem.W.Frag) (C : Addr) : Prop where
  cl : Cls K C
  n1 : NoAttr K C "apart"
  n2 : NoAttr K C "steps"
  n3 : NoAttr K C "terms"
/-- the plan stands at r -/
def PlanAt (CS C : Addr) (G : Hp) (r : Addr) (pats prs : List (List Str)) (known : List Str) : Prop := ∃ (dx ap st tl : Addr) (zs : List V) (ss : List Addr), G r = some (.ins C dx (pnF ap st tl)) ∧ G ap = some (.lst zs) ∧ IJs G zs ((prs.filter (knB known)).map (ijOf known)) ∧
  G st = some (.lst (ss.map V.ref)) ∧ All2 (fun a (z : List Str × List Str) => StepAt CS G a z.1 z.2 prs) ss (planOf known pats)
/-- made since H0 -/
def PlanNew (CS C : Addr) (H0 G : Hp) (r : Addr) (pats prs : List (List Str)) (known : List Str) : Prop := ∃ (dx ap st tl : Addr) (zs : List V) (ss : List Addr), G r = some (.ins C dx (pnF ap st tl)) ∧ G ap = some (.lst zs) ∧ IJs G zs ((prs.filter (knB known)).map (ijOf known)) ∧
  G st = some (.lst (ss.map V.ref)) ∧ All2 (fun a (z : List Str × List Str) => StepNew CS H0 G a z.1 z.2 prs) ss (planOf known pats) ∧ H0 st = none
theorem PlanNew.at_ {CS C : Addr} {H0 G : Hp} {r : Addr} {pats prs : List (List Str)} {known : List Str} (h : PlanNew CS C H0 G r pats prs known) : PlanAt CS C G r pats prs known := by
  obtain ⟨dx, ap, st, tl, zs, ss, h1, h2, h3, h4, h5, _⟩ := h
  exact ⟨dx, ap, st, tl, zs, ss, h1, h2, h3, h4, h5.imp fun _ _ z => z.at_⟩
theorem PlanAt.same {CS C : Addr} {G G1 : Hp} {r : Addr} {pats prs : List (List Str)} {known : List Str} (h : PlanAt CS C G r pats prs known) (s : Same G G1) : PlanAt CS C G1 r pats prs known := by
  obtain ⟨dx, ap, st, tl, zs, ss, h1, h2, h3, h4, h5⟩ := h
  exact ⟨dx, ap, st, tl, zs, ss, s _ _ h1, s _ _ h2, h3.same s, s _ _ h4, h5.imp fun _ _ z => z.same s⟩
theorem madeN {H : Hp} {x dx C : Addr} (nx : H x = none) (nd : H dx = none) (ne : dx ≠ x) : Same H (upd (upd H dx (.own x)) x (.ins C dx [])) := (same_new nd).trans (same_new (by rw [upd_ne (Ne.symm ne)]; exact nx))
theorem madeS {H H2 : Hp} {x dx C : Addr} (nx : H x = none) (nd : H dx = none) (ne : dx ≠ x) (sb : Sb x (upd (upd H dx (.own x)) x (.ins C dx [])) H2) : Same H H2 := fun b o e => sb b o (ne_of_none e nx) (madeN nx nd ne b o e)
theorem same_none {H G : Hp} (s : Same H G) {x : Addr} (n : G x = none) : H x = none := by
  cases g : H x with
  | none => rfl
  | some u =>
    rw [s _ _ g] at n
    cases n
theorem upd_none {H : Hp} {a x : Addr} {o : HO} (n : upd H a o x = none) : H x = none := by
  unfold upd at n
  by_cases e : x = a
  · rw [if_pos e] at n
    cases n
  · rwa [if_neg e] at n
theorem All2.snoc {α β : Type} {R : α → β → Prop} {xs : List α} {ys : List β} {x : α} {y : β} (h : All2 R xs ys) (e : R x y) : All2 R (xs ++ [x]) (ys ++ [y]) := by
  induction h with
  | nil => exact .cons e .nil
  | cons h1 _ ih => exact .cons h1 ih
section
variable {P : Program} {w : World} {K : PySem.W.Frag} {mg : Str → Option Value} {base : Heap}
def spPlanInit (CS C : Addr) : Sp := fun vs H Q _ => ∃ (r dx p q t : Addr) (us uq : List V) (pats prs : List (List Str)) (known : List Str), vs = [.ref r, .ref p, .ref q, .ref t] ∧ H r = some (.ins C dx []) ∧ (H p = some (.lst us) ∧ PaX H us pats ∧ (∀ x ∈ pats, 1 ≤ x.length ∧ x.length ≤ 4) ∧ pats.length ≤ 100) ∧
  (H q = some (.lst uq) ∧ PaL H uq prs ∧ (∀ x ∈ prs, ∃ a b, x = [a, b]) ∧ prs.length ≤ 1000) ∧ (H t = some (.lst (known.map V.str)) ∧ known.length ≤ 500) ∧ ∀ G, Sb r H G → PlanNew CS C H G r pats prs known → Q .non G
theorem scPlanInit : FnScope ["self", "patterns", "pairs", "known", "pair", "pattern", "step"] ["self", "patterns", "pairs", "known"] (defScope sPlanInit) := ⟨rfl, rfl, rfl, by decide +kernel, rfl, by decide +kernel, by decide +kernel⟩
theorem ok_planInit {f C CS fS fN fP : Addr} {fd dS dN dP : FuncData} (F : Fun K "__init__" "Plan.__init__" sPlanInit f fd) (B : Bp mg) (R : PNC K C) (RS : SC K CS)
    (GS : FnOk P w K mg base CX0 2 fS dS ["self", "pattern", "terms", "pairs"] (spStepInit CS)) (MS : Mk K CS fS) (gS : mg "Step" = some (.ref CS)) (bS : Binds K dS ["self", "pattern", "terms", "pairs"] [])
    (GN : FnOk P w K mg base CX0 1 fN dN ["terms", "pair"] (spKnows K)) (kN : PySem.W.keepIn K (.ref fN) = true) (gN : mg "_knows" = some (.ref fN)) (bN : Binds K dN ["terms", "pair"] [])
    (GP : FnOk P w K mg base CX0 1 fP dP ["terms", "pairs"] (spPlacesOf K)) (kP : PySem.W.keepIn K (.ref fP) = true) (gP : mg "_places_of_pairs" = some (.ref fP)) (bP : Binds K dP ["terms", "pairs"] []) :
    FnOk P w K mg base CX0 4 f fd ["self", "patterns", "pairs", "known"] (spPlanInit CS C) := by
  refine F.ok scPlanInit (fun vs H Q E h => ?_) (fun cdv A outer s H vs Q E hr h => ?_)
  · obtain ⟨r, dx, p, q, t, us, uq, pats, prs, known, rfl, _⟩ := h
    rfl
  · obtain ⟨r, dx, p, q, t, us, uq, pats, prs, known, rfl, er', ⟨ep, hp, hpl, hpn⟩, ⟨eq, hq, hq2, hqn⟩, ⟨et, htn⟩, q0⟩ := h
    have hr1 : Room 1 _ := hr.mono (by decide)
    refine ⟨_, pss_cons (ps_fld (pv 0) (by exact (pe_call GP hr1 (by rfl) gP kP bP .nil pass0 (pa_cons (pv 3) (pa_cons (by exact (pe_lc (own := [("pair", 4)]) (g := gName 4) (tt := tB (tCall (spKnows K) [] E0 (tCons (tVar 3) (tCons (tVar 4) tNil)))) (te := tVar 4) rfl scPlanInit.nd (pi_list (pv 2))
          (blkOk_by (own := [("pair", 4)]) (N := ["self", "patterns", "pairs", "known", "pair", "pattern", "step"]) (sc := defScope sPlanInit) (by decide +kernel))
          (fun _ _ _ _ _ => pg_name (i := 4) scPlanInit.nd rfl (Or.inl rfl)) (fun _ _ _ _ _ => pts_one (by exact (pt_val (by exact (pe_call GN hr1 (by rfl) gN kN bN .nil pass0 (pa_cons (pv 3) (pa_cons (pv 4) pa_nil)))))))
          (fun _ _ _ _ _ => by exact (pv 4)))) pa_nil)))) rfl)
      (pss_cons (ps_fld (pv 0) (pe_lst pa_nil) rfl)
      (pss_cons (ps_fld (pv 0) (pe_callTy call_list_of (by rfl) B.lst PyProof.Rows.boot_list (pa_cons (pv 3) pa_nil)) rfl)
      (pss_one (ps_for PassesOwn.never rfl (pi_list (pv 1)) (pg_name (i := 5) scPlanInit.nd rfl (Or.inl rfl))
        (pss_cons (ps_set (i := 6) scPlanInit.nd rfl (Or.inl rfl) (by exact (pe_make MS GS hr (by rfl) gS bS .nil pass0 (pa_cons (pv 5) (pa_cons (pe_fld (pv 0) rfl) (pa_cons (pv 2) pa_nil))))))
        (pss_cons (ps_expr (pe_bm PySem.F.plainAttrs_list PySem.F.slot_list_append PySem.F.type_list_append mt_append (pe_fld (pv 0) rfl) (pa_cons (pv 6) pa_nil)))
        (pss_one (ps_fld (pv 0) (pe_fld (pv 6) rfl) rfl)))))))), ?_⟩
    have tr : t ≠ r := fun z => by rw [z, er'] at et; cases et
    have pr : p ≠ r := fun z => by rw [z, er'] at ep; cases ep
    have qr : q ≠ r := fun z => by rw [z, er'] at eq; cases eq
    have hul := hq.len
    have hpl' := hp.len
    refine ⟨_, rfl, _, rfl, q, rfl, ⟨_, SqL.of eq⟩, fun D nD => ?_⟩
    refine lc_list (K := K) (a := q) (xs := uq) (fun j H' => Same H H' ∧ ∃ ws : List V, H' D = some (.lst ws) ∧ PaL H' ws ((prs.take j).filter (knB known))) ⟨same_new nD, [], upd_same, .nil⟩ (fun i H' _ y => SqL.of (y.1 _ _ eq)) ?_ ?_
    · rintro j v H2 hj ⟨s2, ws, e2, hw⟩
      obtain ⟨b, p1, rfl, hpj, eb⟩ := hq.at_ hj
      obtain ⟨x, y, rfl⟩ := hq2 p1 (List.mem_of_getElem? hpj)
      have jl := (List.getElem?_eq_some_iff.mp hpj).1
      have eb2 := eb.same s2
      have lenw : ws.length < sizeLine := by
        have h1 := hw.len
        have h2 : ((prs.take j).filter (knB known)).length ≤ (prs.take j).length := List.length_filter_le _ _
        rw [List.length_take] at h2
        exact Nat.lt_of_le_of_lt (by omega : _ ≤ 1000) (by decide)
      have ft := filter_take (f := knB known) hpj
      have fk : knB known [x, y] = (decide (x ∈ known) && decide (y ∈ known)) := rfl
      rw [fk] at ft
      refine ⟨rfl, _, rfl, _, rfl, ?_⟩
      dsimp only [tNil]
      refine ⟨t, b, known, x, y, rfl, SqL.of (s2 _ _ et), eb2, _, rfl, ?_⟩
      cases hb : (decide (x ∈ known) && decide (y ∈ known)) with
      | true =>
        rw [hb, if_pos rfl] at ft
        refine iteT ⟨_, rfl, ws, e2, lenw, same_put s2 nD, _, upd_same, ?_⟩
        rw [ft]
        exact (hw.over e2).app (.mk (eb2.upd (eb2.lst e2)) .nil)
      | false =>
        rw [hb, if_neg Bool.false_ne_true, List.append_nil] at ft
        refine iteF ⟨s2, ws, e2, ?_⟩
        rw [ft]
        exact hw
    · rintro H2 ⟨s2, ws, e2, hw⟩
      rw [hul, List.take_length] at hw
      have inr_ : ∀ z ∈ prs.filter (knB known), PairIn known z := fun z hz => by
        obtain ⟨m, hb⟩ := List.mem_filter.mp hz
        obtain ⟨x, y, rfl⟩ := hq2 z m
        unfold knB at hb
        rw [Bool.and_eq_true] at hb
        exact ⟨x, y, rfl, of_decide_eq_true hb.1, of_decide_eq_true hb.2⟩
      dsimp only [tNil]
      refine ⟨t, D, known, ws, _, rfl, SqL.of (s2 _ _ et), SqL.of e2, hw, inr_, Nat.le_trans (List.length_filter_le _ _) hqn, fun pa G1 zs npa s1 epa hz => ⟨_, rfl, r, C, dx, [], rfl, s1 _ _ (s2 _ _ er'), R.cl, R.n1, (by show 0 < 1000; decide), ?_⟩⟩
      have sG1 := s2.trans s1
      have er1 := sG1 _ _ er'
      have par : pa ≠ r := fun z => by rw [z, er1] at epa; cases epa
      have pH : H pa = none := s2.free npa
      have f1 : Sb r H (upd G1 r (.ins C dx (putF "apart" (V.ref pa) []))) := (Sb.of sG1).trans Sb.upd
      have e1 : upd G1 r (.ins C dx (putF "apart" (V.ref pa) [])) r = some (.ins C dx [("apart", .ref pa)]) := upd_same
      have epa1 : upd G1 r (.ins C dx (putF "apart" (V.ref pa) [])) pa = some (.lst zs) := by rw [upd_ne par]; exact epa
      have hz1 : IJs (upd G1 r (.ins C dx (putF "apart" (V.ref pa) []))) zs ((prs.filter (knB known)).map (ijOf known)) := hz.over er1 fun xs z => by cases z
      generalize upd G1 r (.ins C dx (putF "apart" (V.ref pa) [])) = G2 at f1 e1 epa1 hz1 ⊢
      refine ⟨by show 0 ≤ _; exact Nat.zero_le _, fun st nst => ⟨_, rfl, r, C, dx, _, rfl, same_new nst _ _ e1, R.cl, R.n2, (by show 1 < 1000; decide), ?_⟩⟩
      rw [pF2]
      obtain ⟨⟨sr, sH⟩, s2', e2', est, k2⟩ := newF (fs' := [("apart", V.ref pa), ("steps", V.ref st)]) (o := .lst []) f1 e1 nst
      obtain ⟨pst, epa2⟩ := k2 _ _ par epa1
      have hz2 : IJs (upd (upd G2 st (.lst [])) r (.ins C dx [("apart", V.ref pa), ("steps", V.ref st)])) zs ((prs.filter (knB known)).map (ijOf known)) := (hz1.same (same_new nst)).over (same_new nst _ _ e1) fun xs z => by cases z
      generalize upd (upd G2 st (.lst [])) r (.ins C dx [("apart", V.ref pa), ("steps", V.ref st)]) = G3 at s2' e2' est epa2 hz2 ⊢
      refine ⟨_, rfl, t, _, rfl, .inl (SqL.of (s2' _ _ tr et)), fun tl ntl => ⟨_, rfl, r, C, dx, _, rfl, same_new ntl _ _ e2', R.cl, R.n3, (by show 2 < 1000; decide), ?_⟩⟩
      rw [pF3]
      obtain ⟨⟨tlr, tlH⟩, s3', e3', etl, k3⟩ := newF (fs' := pnF pa st tl) (o := .lst (known.map V.str)) s2' e2' ntl
      obtain ⟨ptl, epa3⟩ := k3 _ _ par epa2
      obtain ⟨stl, est3⟩ := k3 _ _ sr est
      have hz3 : IJs (upd (upd G3 tl (.lst (known.map V.str))) r (.ins C dx (pnF pa st tl))) zs ((prs.filter (knB known)).map (ijOf known)) := (hz2.same (same_new ntl)).over (same_new ntl _ _ e2') fun xs z => by cases z
      generalize upd (upd G3 tl (.lst (known.map V.str))) r (.ins C dx (pnF pa st tl)) = G4 at s3' e3' etl epa3 est3 hz3 ⊢
      clear k2 k3 e1 e2' f1 s2' hz hz1 hz2 epa epa1 epa2 est
      refine ⟨_, rfl, p, rfl, ⟨_, SqL.of (s3' _ _ pr ep)⟩, for_list (K := K) (a := p) (xs := us) (fun i σ G => ∃ (o5 o6 : Option V) (tl : Addr) (ss : List Addr), σ = [some (.ref r), some (.ref p), some (.ref q), some (.ref t), none, o5, o6] ∧ Sb r H G ∧ G r = some (.ins C dx (pnF pa st tl)) ∧ G pa = some (.lst zs) ∧
        IJs G zs ((prs.filter (knB known)).map (ijOf known)) ∧ G st = some (.lst (ss.map V.ref)) ∧ All2 (fun a (z : List Str × List Str) => StepNew CS G4 G a z.1 z.2 prs) ss (planOf known (pats.take i)) ∧ G tl = some (.lst ((planT known (pats.take i)).map V.str)) ∧ ∀ x, G x = none → G4 x = none)
        ⟨none, none, tl, [], rfl, s3', e3', epa3, hz3, est3, .nil, etl, fun x h => h⟩ (fun i σ G _ z => ?_) ?_ ?_⟩
      · obtain ⟨_, _, _, _, _, sb, _⟩ := z
        exact SqL.of (sb _ _ pr ep)
      · rintro i v σ G hi ⟨o5, o6, tl, ss, rfl, sb, er, epa, hz, est, hss, etl, dom⟩
        obtain ⟨b, pat, rfl, hpi, eb⟩ := hp.at_ hi
        have il := (List.getElem?_eq_some_iff.mp hpi).1
        obtain ⟨h1, h4⟩ := hpl pat (List.mem_of_getElem? hpi)
        have tsl : (planT known (pats.take i)).length ≤ 1000 := by
          have := planT_len (ps := pats.take i) (ts := known) fun x hx => (hpl x (List.mem_of_mem_take hx)).2
          rw [List.length_take] at this
          omega
        have ssl : ss.length ≤ 100 := by
          rw [hss.len, planOf_len, List.length_take]
          omega
        refine ⟨_, rfl, _, rfl, r, C, dx, _, .ref tl, rfl, er, R.cl, R.n3, pl3, _, rfl, ?_⟩
        dsimp only [tNil]
        intro x dx' nx ndx ne
        have U := madeN (C := CS) nx ndx ne
        refine ⟨x, dx', b, tl, q, pat, _, uq, prs, rfl, upd_same, ⟨(eb.sbo er' sb).same U, h1, h4⟩, ⟨U _ _ etl, tsl⟩, ⟨U _ _ (sb _ _ qr eq), (hq.sbo er' sb).same U, hq2, hqn⟩, fun G' sx SN => ⟨rfl, ?_⟩⟩
        have sG := madeS nx ndx ne sx
        have SN4 : StepNew CS G4 G' x pat (planT known (pats.take i)) prs := SN.less fun y hy => dom y (same_none U hy)
        have hss' : All2 (fun a (z : List Str × List Str) => StepNew CS G4 G' a z.1 z.2 prs) ss (planOf known (pats.take i)) := hss.imp fun _ _ z => z.same sG
        have hall := hss'.snoc (x := x) (y := (pat, planT known (pats.take i))) SN4
        rw [← planOf_snoc, ← take_one hpi] at hall
        have er1 := sG _ _ er
        have est1 := sG _ _ est
        refine ⟨_, rfl, r, C, dx, _, .ref st, rfl, er1, R.cl, R.n2, pl2, .inl ⟨rfl, _, SqL.of est1⟩, _, rfl, st, _, _, rfl, rfl, est1, by rw [List.length_map]; exact Nat.lt_of_le_of_lt ssl (by decide), ?_⟩
        have sbG := sb.trans (Sb.of sG)
        have str : st ≠ r := sr
        have hall2 : All2 (fun a (z : List Str × List Str) => StepNew CS G4 (upd G' st (.lst (ss.map V.ref ++ [.ref x]))) a z.1 z.2 prs) (ss ++ [x]) (planOf known (pats.take (i + 1))) := hall.imp fun _ _ z => z.list (by rw [est3]; exact fun y => nomatch y) est1
        have SN2 : StepNew CS G4 (upd G' st (.lst (ss.map V.ref ++ [.ref x]))) x pat (planT known (pats.take i)) prs := SN4.list (by rw [est3]; exact fun y => nomatch y) est1
        have sb2 : Sb r H (upd G' st (.lst (ss.map V.ref ++ [.ref x]))) := sbG.put sH
        have er2 : upd G' st (.lst (ss.map V.ref ++ [.ref x])) r = some (.ins C dx (pnF pa st tl)) := by rw [upd_ne (Ne.symm str)]; exact er1
        have epa2 : upd G' st (.lst (ss.map V.ref ++ [.ref x])) pa = some (.lst zs) := by rw [upd_ne pst]; exact sG _ _ epa
        have hz2 : IJs (upd G' st (.lst (ss.map V.ref ++ [.ref x]))) zs ((prs.filter (knB known)).map (ijOf known)) := (hz.same sG).over est1 fun xs z => by cases z
        have est2 : upd G' st (.lst (ss.map V.ref ++ [.ref x])) st = some (.lst ((ss ++ [x]).map V.ref)) := by rw [upd_same, List.map_append] <;> rfl
        have dom2 : ∀ y, upd G' st (.lst (ss.map V.ref ++ [.ref x])) y = none → G4 y = none := fun y hy => dom y (same_none sG (upd_none hy))
        generalize upd G' st (.lst (ss.map V.ref ++ [.ref x])) = G5 at hall2 SN2 sb2 er2 epa2 hz2 est2 dom2 ⊢
        obtain ⟨dx3, k3, o3, p3, n3, t3, l3, a3, z3, g1, g2, g3, g4, g5, g6, g7, g8, g9, g10⟩ := id SN2
        refine ⟨_, rfl, x, CS, dx3, _, .ref l3, rfl, g1, RS.cl, RS.n6, sl6', _, rfl, r, C, dx, _, rfl, er2, R.cl, R.n3, (by show 3 < 1000; decide), ?_⟩
        rw [pF4]
        have lr : l3 ≠ r := fun z => by rw [z, er2] at g7; cases g7
        refine ⟨some (.ref b), some (.ref x), l3, ss ++ [x], rfl, sb2.trans Sb.upd, upd_same, by rw [upd_ne par]; exact epa2, hz2.over er2 fun xs z => (by cases z), by rw [upd_ne str]; exact est2, hall2.imp fun _ _ z => z.inst er2 (by show 3 ≠ 7; decide), ?_, fun y hy => dom2 y (upd_none hy)⟩
        rw [upd_ne lr, take_one hpi, planT_snoc]
        exact g7
      · rintro σ G ⟨o5, o6, tl, ss, rfl, sb, er, epa, hz, est, hss, etl, dom⟩
        rw [hpl', List.take_length] at hss
        refine q0 G sb ⟨dx, pa, st, tl, zs, ss, er, epa, hz, est, hss.imp fun _ _ z => z.less fun x nx => ?_, sH⟩
        have xr : x ≠ r := fun y => by rw [y, e3'] at nx; cases nx
        cases g : H x with
        | none => rfl
        | some u =>
          rw [s3' _ _ xr g] at nx
          cases nx
end
end Nv
set_option maxHeartbeats 4000000
namespace Nv
open PySem PySem.Spec PyProof.Rows L2
/-! # Plan.rows -/
def ofKind (pat : List Str) (ps : List (List Str)) : List (List Str) := ps.filter fun p => decide (kindK p = kindK pat)
def stepR (prs : List (List Str)) (rws : List (List Str)) (z : (List Str × List Str) × List (List Str)) : List (List Str) := onw z.1.1 z.1.2 prs rws (ofKind z.1.1 z.2)
def rowsF (known : List Str) (pats prs : List (List Str)) (pss : List (List (List Str))) (first : List Str) : List (List Str) :=
  ((planOf known pats).zip pss).foldl (stepR prs) (keepA ((prs.filter (knB known)).map (ijOf known)) [first])
theorem planOf_at : ∀ {ps : List (List Str)} {ts : List Str} {i : Nat} {z : List Str × List Str}, (planOf ts ps)[i]? = some z → ∃ p, ps[i]? = some p ∧ z = (p, planT ts (ps.take i))
  | [], _, i, _, h => by cases i <;> cases h
  | p :: ps, ts, 0, z, h => by
    cases h
    exact ⟨p, rfl, rfl⟩
  | p :: ps, ts, i + 1, z, h => planOf_at (ps := ps) (ts := stepTerms ts p) (i := i) h
/-- a shelf by kinds stands at v -/
def ShelfV (H : Hp) (v : V) (ps : List (List Str)) : Prop := ∃ (d : Addr) (us : List V) (H0 : Hp), v = .ref d ∧ Shelf kindK H0 H d us ps ∧ PaL H us ps ∧ (∀ p ∈ ps, FactOk p)
theorem ShelfV.same {H H' : Hp} {v : V} {ps : List (List Str)} (h : ShelfV H v ps) (s : Same H H') : ShelfV H' v ps := by
  obtain ⟨d, us, H0, e, S, hp, ok⟩ := h
  exact ⟨d, us, H0, e, S.same s, hp.same s, ok⟩
theorem kind_len {p q : List Str} (hp : 1 ≤ p.length) (hq : 1 ≤ q.length) (h : kindK p = kindK q) : p.length = q.length := by
  cases p with
  | nil => exact absurd hp (by decide)
  | cons a p =>
    cases q with
    | nil => exact absurd hq (by decide)
    | cons b q =>
      unfold kindK at h
      injection h with _ h
      injection h with h _
      injection h with h
      rw [List.length_cons, List.length_cons]
      omega
theorem onw_len {pat ts : List Str} {prs rws facts : List (List Str)} : (onw pat ts prs rws facts).length ≤ rws.length * facts.length := by
  unfold onw
  refine Nat.le_trans (keepA_len _ _) (flatM_len (fun row => ?_) rws)
  unfold onRow
  rw [List.length_map]
  exact Nat.le_trans (List.length_filter_le _ _) (List.length_filter_le _ _)
theorem onw_wide {pat ts : List Str} {prs rws facts : List (List Str)} (h : ∀ x ∈ rws, x.length = ts.length) : ∀ x ∈ onw pat ts prs rws facts, x.length = (stepTerms ts pat).length := fun x hx => by
  unfold onw at hx
  obtain ⟨row, hr1, hp2⟩ := List.mem_flatMap.mp (keepA_sub _ hx)
  obtain ⟨y, _, rfl⟩ := List.mem_map.mp hp2
  unfold selT stepTerms termsIn
  rw [List.length_append, List.length_append, List.length_map, List.length_map, h row hr1]
section
variable {P : Program} {w : World} {K : PySem.W.Frag} {mg : Str → Option Value} {base : Heap}
def spRows (K : PySem.W.Frag) (CS C : Addr) : Sp := fun vs H Q _ => ∃ (r f b : Addr) (pats prs : List (List Str)) (known first : List Str) (ys : List V) (pss : List (List (List Str))) (m : Nat), vs = [.ref r, .ref f, .ref b] ∧ PlanAt CS C H r pats prs known ∧
  ((∀ x ∈ pats, 1 ≤ x.length ∧ x.length ≤ 4) ∧ pats.length ≤ 100 ∧ known.length ≤ 500) ∧ (∀ x ∈ prs, ∃ y z, x = [y, z]) ∧ (H f = some (.tup (first.map V.str)) ∧ first.length = known.length) ∧
  (H b = some (.lst ys) ∧ All2 (ShelfV H) ys pss ∧ pss.length = pats.length) ∧ ((∀ ps ∈ pss, ps.length ≤ m) ∧ 1 ≤ m ∧ m ≤ 1000 ∧ m ^ pats.length ≤ 100000) ∧
  ∀ (r' : Addr) (H' : Hp) (us' : List V), Same H H' → H' r' = some (.lst us') → PaL H' us' (rowsF known pats prs pss first) → Q (.ref r') H'
theorem scRows : FnScope ["self", "first", "shelves", "rows", "step", "shelf"] ["self", "first", "shelves"] (defScope sRows) := ⟨rfl, rfl, rfl, by decide +kernel, rfl, by decide +kernel, by decide +kernel⟩
theorem ok_rows {f C CS fO fA : Addr} {fd dO dA : FuncData} (F : Fun K "rows" "Plan.rows" sRows f fd) (zp : mg "zip" = none) (R : PNC K C) (RS : SC K CS)
    (GO : FnOk P w K mg base CX0 2 fO dO ["self", "rows", "facts"] (spOnward K CS)) (mO : Meth K CS "onward" fO) (bO : Binds K dO ["self", "rows", "facts"] [])
    (GA : FnOk P w K mg base CX0 1 fA dA ["rows", "apart"] (spKeptApart K)) (kA : PySem.W.keepIn K (.ref fA) = true) (gA : mg "_kept_apart" = some (.ref fA)) (bA : Binds K dA ["rows", "apart"] []) :
    FnOk P w K mg base CX0 3 f fd ["self", "first", "shelves"] (spRows K CS C) := by
  refine F.ok scRows (fun vs H Q E h => ?_) (fun cdv A outer s H vs Q E hr h => ?_)
  · obtain ⟨r, f, b, pats, prs, known, first, ys, pss, m, rfl, _⟩ := h
    rfl
  · obtain ⟨r, f, b, pats, prs, known, first, ys, pss, m, rfl, hpa, ⟨hpl, hpn, hkn⟩, hprs, ⟨ef, hfl⟩, ⟨eb, hys, hyl⟩, ⟨hm1, hm2, hm3, hm4⟩, q⟩ := h
    have hr1 : Room 1 _ := hr.mono (by decide)
    have hu : (A.deeper (envOfC "Plan.rows" (defScope sRows) s.heap.objs.size f cdv)).units + 1 < cLine := Nat.lt_of_le_of_lt (Nat.add_le_add_left (by decide : 1 ≤ 64) _) hr.units
    refine ⟨_, pss_cons (ps_set (i := 3) scRows.nd rfl (Or.inl rfl) (by exact (pe_call GA hr1 (by rfl) gA kA bA .nil pass0 (pa_cons (pe_lst (pa_cons (pv 1) pa_nil)) (pa_cons (pe_fld (pv 0) rfl) pa_nil)))))
      (pss_cons (ps_for PassesOwn.never rfl (pi_zip (by rfl) zp (pa_cons (pe_fld (pv 0) rfl) (pa_cons (pv 2) pa_nil))) (pg_tup rfl (pgs_cons (pg_name (i := 4) scRows.nd rfl (Or.inl rfl)) (pgs_cons (pg_name (i := 5) scRows.nd rfl (Or.inl rfl)) pgs_nil)))
        (pss_one (ps_set (i := 3) scRows.nd rfl (Or.inl rfl) (by exact (pe_meth (pv 4) RS.cl mO GO hr bO .nil pass0 (pa_cons (pv 3) (pa_cons (pe_dget2 hu (pv 5) (pe_fld (pv 4) rfl) (pe_lst pa_nil) ⟨rfl, rfl, rfl, rfl⟩) pa_nil)))))))
      (pss_one (ps_ret (pv 3)))), ?_⟩
    obtain ⟨dx, ap, st, tl, zs, ss, er, eap, hij, est, hss⟩ := hpa
    have hssl := hss.len
    rw [planOf_len] at hssl
    have hysl := hys.len
    have hijs : ∀ z ∈ (prs.filter (knB known)).map (ijOf known), z.1 < known.length ∧ z.2 < known.length := fun z hz => by
      obtain ⟨x, hx, rfl⟩ := List.mem_map.mp hz
      obtain ⟨mx, hb⟩ := List.mem_filter.mp hx
      obtain ⟨y, z, rfl⟩ := hprs x mx
      unfold knB at hb
      rw [Bool.and_eq_true] at hb
      exact ⟨(List.getElem?_eq_some_iff.mp (pos1_at (of_decide_eq_true hb.1)).1).1, (List.getElem?_eq_some_iff.mp (pos1_at (of_decide_eq_true hb.2)).1).1⟩
    unfold rowsF at q
    refine ⟨_, rfl, by show 1 ≤ _; decide, fun l nl => ⟨_, rfl, r, C, dx, _, .ref ap, rfl, same_new nl _ _ er, R.cl, R.n1, pl1, ?_⟩⟩
    dsimp only [tNil]
    have sl : Same H (upd H l (.lst [V.ref f])) := same_new nl
    refine ⟨l, ap, [.ref f], zs, [first], _, rfl, upd_same, .cons (sl _ _ ef) .nil, SqL.of (sl _ _ eap), hij.same sl, fun p hp z hz => ?_, by show 1 ≤ _; decide, fun r1 G1 us1 _ s1 e1 h1 => ?_⟩
    · rw [List.mem_singleton.mp hp, hfl]
      exact hijs z hz
    have sG := sl.trans s1
    clear s1 sl
    have w0 : ∀ x ∈ keepA ((prs.filter (knB known)).map (ijOf known)) [first], x.length = known.length := fun x hx => by
      rw [List.mem_singleton.mp (keepA_sub _ hx)]
      exact hfl
    have l0 : (keepA ((prs.filter (knB known)).map (ijOf known)) [first]).length ≤ 1 := keepA_len _ _
    generalize keepA ((prs.filter (knB known)).map (ijOf known)) [first] = init at h1 q w0 l0
    show tSeq _ _ _ _ _
    refine ⟨_, rfl, r, C, dx, _, .ref st, rfl, sG _ _ er, R.cl, R.n2, pl2, _, rfl, st, b, _, _, rfl, SqL.of (sG _ _ est), SqL.of (sG _ _ eb), RZ.for_zipL (K := K) (a := st) (b := b) (xs := ss.map V.ref) (ys := ys) (by rw [List.length_map]; omega)
      (fun i σ G => ∃ (ri : Addr) (ui : List V) (o4 o5 : Option V), σ = [some (.ref r), some (.ref f), some (.ref b), some (.ref ri), o4, o5] ∧ Same H G ∧ G ri = some (.lst ui) ∧ PaL G ui ((((planOf known pats).zip pss).take i).foldl (stepR prs) init) ∧
        (∀ x ∈ (((planOf known pats).zip pss).take i).foldl (stepR prs) init, x.length = (planT known (pats.take i)).length) ∧ ((((planOf known pats).zip pss).take i).foldl (stepR prs) init).length ≤ m ^ i)
      ⟨r1, us1, none, none, rfl, sG, e1, h1, w0, l0⟩ (fun i σ G z => ?_) ?_ ?_⟩
    · obtain ⟨_, _, _, _, _, s, _⟩ := z
      exact ⟨SqL.of (s _ _ est), SqL.of (s _ _ eb)⟩
    · rintro i x y T σ G hx hy ⟨ri, ui, o4, o5, rfl, sm, eri, hui, hw, hc⟩ nT
      rw [List.getElem?_map] at hx
      obtain ⟨sa, hsa, rfl⟩ := Option.map_eq_some_iff.mp hx
      obtain ⟨z, hz, hst⟩ := hss.at_ hsa
      obtain ⟨pat, hpi, rfl⟩ := planOf_at hz
      obtain ⟨ps, hps, hsh⟩ := hys.at_ hy
      obtain ⟨hp1, hp4⟩ := hpl pat (List.mem_of_getElem? hpi)
      have il := (List.getElem?_eq_some_iff.mp hpi).1
      have sT : Same G (upd G T (.tup [.ref sa, y])) := same_new nT
      have eT : upd G T (.tup [.ref sa, y]) T = some (.tup [.ref sa, y]) := upd_same
      generalize upd G T (.tup [.ref sa, y]) = G2 at sT eT ⊢
      have sm2 := sm.trans sT
      have hst2 := hst.same sm2
      obtain ⟨d, us, H0, rfl, S, hus, hok⟩ := hsh.same sm2
      obtain ⟨kvs, f1, f2, f3, f4, f5⟩ := S
      refine ⟨T, _, rfl, SqT.of eT, rfl, _, _, rfl, _, _, rfl, rfl, ?_⟩
      obtain ⟨dxs, k, o, pl, n, tw, l3, a3, z3, g1, g2, _⟩ := id hst2
      have lkO : (stF k o pl n tw l3 a3).lookup ("onward" : Str) = none := (lk_no (by decide +kernel)).trans ((lk_no (by decide +kernel)).trans ((lk_no (by decide +kernel)).trans ((lk_no (by decide +kernel)).trans ((lk_no (by decide +kernel)).trans ((lk_no (by decide +kernel)).trans ((lk_no (by decide +kernel)).trans rfl))))))
      refine ⟨_, rfl, sa, dxs, _, rfl, g1, lkO, _, rfl, _, rfl, d, rfl, .inr ⟨kvs, .inl f1⟩, _, rfl, sa, CS, dxs, _, .ref k, rfl, g1, RS.cl, RS.n1, lk_yes, by show 0 ≤ _; exact Nat.zero_le _, fun n0 nn => ⟨valV kvs (kindK pat), DGet.t (same_new nn _ _ f1) (same_new nn _ _ g2), ?_⟩⟩
      have s4 : Same G2 (upd G2 n0 (.lst [])) := same_new nn
      have en0 : upd G2 n0 (.lst []) n0 = some (.lst []) := upd_same
      generalize upd G2 n0 (.lst []) = G4 at s4 en0 ⊢
      obtain ⟨L0, fs, hL, eL, hy⟩ : ∃ (L0 : Addr) (fs : List V), (valV kvs (kindK pat)).getD (.ref n0) = .ref L0 ∧ G4 L0 = some (.lst fs) ∧ PaL G4 fs (ofKind pat ps) := by
        have hpick := pick_pal (key := kindK) (k := kindK pat) (f := fun x => x) (ps := ps) (by rw [List.map_id']; exact hus.same s4)
        rw [List.map_id'] at hpick
        cases hval : valV kvs (kindK pat) with
        | none =>
          rw [f4 _ hval] at hpick
          exact ⟨n0, [], rfl, en0, hpick⟩
        | some v =>
          obtain ⟨l0, rfl, _, el0⟩ := f3 _ _ hval
          exact ⟨l0, _, rfl, s4 _ _ el0, hpick⟩
      rw [hL]
      have sm4 := sm2.trans s4
      have zi : ((planOf known pats).zip pss)[i]? = some ((pat, planT known (pats.take i)), ps) := List.getElem?_zip_eq_some.mpr ⟨hz, hps⟩
      have tsl : (planT known (pats.take i)).length ≤ 900 := by
        have := planT_len (ps := pats.take i) (ts := known) fun x hx => (hpl x (List.mem_of_mem_take hx)).2
        rw [List.length_take] at this
        omega
      have okl : (ofKind pat ps).length ≤ m := Nat.le_trans (List.length_filter_le _ _) (hm1 ps (List.mem_of_getElem? hps))
      have hprod : ((((planOf known pats).zip pss).take i).foldl (stepR prs) init).length * (ofKind pat ps).length ≤ m ^ (i + 1) := by
        rw [Nat.pow_succ]
        exact Nat.mul_le_mul hc okl
      have hpow : ∀ j, j ≤ pats.length → m ^ j ≤ 100000 := fun j hj => Nat.le_trans (Nat.pow_le_pow_right hm2 hj) hm4
      have hnext : (((planOf known pats).zip pss).take (i + 1)).foldl (stepR prs) init = onw pat (planT known (pats.take i)) prs ((((planOf known pats).zip pss).take i).foldl (stepR prs) init) (ofKind pat ps) := by
        rw [take_one zi, List.foldl_append] <;> rfl
      refine ⟨sa, ri, L0, pat, planT known (pats.take i), prs, ui, fs, _, ofKind pat ps, rfl, hst2.same s4, ⟨hp4, tsl⟩, hprs, ⟨s4 _ _ (sT _ _ eri), (hui.same sT).same s4, hw, Nat.le_trans hc (hpow i (by omega))⟩, ⟨SqL.of eL, hy, fun x hx => ?_, by omega⟩, Nat.le_trans hprod (hpow (i + 1) (by omega)), fun r2 G5 us2 _ s5 e5 h5 => ?_⟩
      · obtain ⟨mx, hk⟩ := List.mem_filter.mp hx
        exact kind_len (hok x mx).1.1 hp1 (of_decide_eq_true hk)
      · refine ⟨r2, us2, some (.ref sa), some (.ref d), rfl, sm4.trans s5, e5, ?_, ?_, ?_⟩
        · rw [hnext]
          exact h5
        · rw [hnext, take_one hpi, planT_snoc]
          exact onw_wide hw
        · rw [hnext]
          exact Nat.le_trans onw_len hprod
    · rintro σ G ⟨ri, ui, o4, o5, rfl, sm, eri, hui, hw, hc⟩
      rw [List.length_map, hssl] at hui
      have e : ((planOf known pats).zip pss).take pats.length = (planOf known pats).zip pss := List.take_of_length_le (by rw [List.length_zip, planOf_len]; omega)
      rw [e] at hui
      exact ⟨_, rfl, q ri G ui sm eri hui⟩
end
end Nv
set_option maxHeartbeats 4000000
namespace Nv
open PySem PySem.Spec PyProof.Rows L2
/-! # names_in, met -/
/-- the names among the terms ts, in ascending order -/
structure NamesOf (ts zs : List Str) : Prop where
  nd : zs.Nodup
  up : sortedS zs = true
  mem : ∀ z, z ∈ zs ↔ z ∈ ts ∧ IsNm z
def spNamesAmong (K : PySem.W.Frag) : Sp := fun vs H Q _ => ∃ (a : Addr) (ts : List Str), vs = [.ref a] ∧ SqL K H a (ts.map V.str) ∧ (∀ z ∈ ts, z.length ≤ 1000) ∧ ts.length ≤ 60 ∧
  ∀ (p : Addr) (H' : Hp) (zs : List Str), H p = none → Same H H' → H' p = some (.lst (zs.map V.str)) → NamesOf ts zs → Q (.ref p) H'
theorem NamesOf.len {ts zs : List Str} (h : NamesOf ts zs) : zs.length ≤ ts.length := pig zs ts h.nd fun z hz => ((h.mem z).mp hz).1
section
variable {P : Program} {w : World} {K : PySem.W.Frag} {mg : Str → Option Value} {base : Heap}
def spNamesIn (K : PySem.W.Frag) : Sp := fun vs H Q _ => ∃ (a b : Addr) (us uq : List V) (pats prs : List (List Str)), vs = [.ref a, .ref b] ∧ (SqL K H a us ∧ PaL H us pats ∧ (∀ x ∈ pats, PatOk x) ∧ pats.length ≤ 10) ∧ (SqL K H b uq ∧ PaL H uq prs ∧ (∀ x ∈ prs, PairOk x) ∧ prs.length ≤ 10) ∧
  ∀ (p : Addr) (H' : Hp) (zs : List Str), H p = none → Same H H' → H' p = some (.lst (zs.map V.str)) → NamesOf (tails pats ++ prs.flatten) zs → Q (.ref p) H'
theorem scNamesIn : FnScope ["patterns", "pairs"] ["patterns", "pairs"] (defScope sNamesIn) := ⟨rfl, rfl, rfl, by decide +kernel, rfl, by decide +kernel, by decide +kernel⟩
theorem ok_namesIn {f fA fT fS : Addr} {fd dA dT dS : FuncData} {k : Nat} (F : Fun K "names_in" "names_in" sNamesIn f fd) (h1 : 1 ≤ k)
    (GA : FnOk P w K mg base CX0 k fA dA ["terms"] (spNamesAmong K)) (kA : PySem.W.keepIn K (.ref fA) = true) (gA : mg "names_among" = some (.ref fA)) (bA : Binds K dA ["terms"] [])
    (GT : FnOk P w K mg base CX0 1 fT dT ["patterns"] (spTermsOf K)) (kT : PySem.W.keepIn K (.ref fT) = true) (gT : mg "terms_of" = some (.ref fT)) (bT : Binds K dT ["patterns"] [])
    (GS : FnOk P w K mg base CX0 1 fS dS ["pairs"] (spSides K)) (kS : PySem.W.keepIn K (.ref fS) = true) (gS : mg "sides_of" = some (.ref fS)) (bS : Binds K dS ["pairs"] []) :
    FnOk P w K mg base CX0 (k + 1) f fd ["patterns", "pairs"] (spNamesIn K) := by
  refine F.ok scNamesIn (fun vs H Q E h => ?_) (fun cdv A outer s H vs Q E hr h => ?_)
  · obtain ⟨a, b, us, uq, pats, prs, rfl, _⟩ := h
    rfl
  · obtain ⟨a, b, us, uq, pats, prs, rfl, ⟨ha, hp, hpo, hpl⟩, ⟨hb, hq, hqo, hql⟩, q⟩ := h
    have hr1 : Room 1 _ := hr.mono h1
    refine ⟨_, pss_one (ps_ret (by exact (pe_call GA hr (by rfl) gA kA bA .nil pass0 (pa_cons (pe_op op_cat (by exact (pe_call GT hr1 (by rfl) gT kT bT .nil pass0 (pa_cons (pv 0) pa_nil))) (by exact (pe_call GS hr1 (by rfl) gS kS bS .nil pass0 (pa_cons (pv 1) pa_nil)))) pa_nil)))), ?_⟩
    have two : ∀ x ∈ prs, x.length = 2 := fun x hx => by
      obtain ⟨y, z, rfl, _⟩ := hqo x hx
      rfl
    refine ⟨_, rfl, ?_⟩
    dsimp only [tNil]
    refine ⟨a, us, pats, rfl, ha, hp, hpo, by omega, fun p1 H1 n1 s1 e1 => ⟨_, rfl, ?_⟩⟩
    dsimp only [tNil]
    refine ⟨b, uq, prs, rfl, s1.seq hb, hq.same s1, two, by omega, fun p2 H2 n2 s2 e2 => ?_⟩
    have l1 := tails_len hpo
    have l2 := flat_len two
    refine ⟨p1, p2, _, _, rfl, rfl, s2 _ _ e1, e2, ?_, fun p3 n3 => ?_⟩
    · rw [List.length_map, List.length_map]
      exact Nat.le_trans (by omega : _ ≤ 50) (by decide)
    · have s3 : Same H (upd H2 p3 (.lst ((tails pats).map V.str ++ prs.flatten.map V.str))) := (s1.trans s2).trans (same_new n3)
      refine ⟨p3, tails pats ++ prs.flatten, rfl, SqL.of (by rw [upd_same, List.map_append]), fun z hz => ?_, by rw [List.length_append]; omega, fun p H' zs np sm e hn => q p H' zs (s3.free np) (s3.trans sm) e hn⟩
      rcases List.mem_append.mp hz with h | h
      · have := (tails_short hpo z h).2
        omega
      · obtain ⟨x, hx, hz⟩ := List.mem_flatten.mp h
        obtain ⟨y, y2, rfl, _, t1, t2, _⟩ := hqo x hx
        rcases List.mem_cons.mp hz with rfl | hz
        · have := tm_len t1; omega
        · rw [List.mem_singleton.mp hz]
          have := tm_len t2
          omega
end
end Nv
set_option maxHeartbeats 4000000
namespace Nv
open PySem PySem.Spec PyProof.Rows L2
/-! # met -/
theorem cut_n (n : Nat) (xv : List V) : cutV xv (some (n : Int)) none = xv.drop n := by
  unfold cutV
  have e : HT.sIx xv.length 0 (some (n : Int)) = min n xv.length := HT.sIx_nat xv.length 0 n
  rw [e, HT.sIx_none]
  by_cases h : n ≤ xv.length
  · rw [Nat.min_eq_left h, List.take_of_length_le (by rw [List.length_drop]; omega)]
  · rw [Nat.min_eq_right (by omega), Nat.sub_self, List.take_zero, List.drop_eq_nil_of_le (by omega)]
theorem foldR_len {prs : List (List Str)} {m : Nat} : ∀ (Z : List ((List Str × List Str) × List (List Str))) (r : List (List Str)), (∀ z ∈ Z, z.2.length ≤ m) → (Z.foldl (stepR prs) r).length ≤ r.length * m ^ Z.length
  | [], r, _ => by
    rw [List.length_nil, Nat.pow_zero, Nat.mul_one]
    exact Nat.le_refl _
  | z :: Z, r, h => by
    have h1 := foldR_len (prs := prs) Z (stepR prs r z) fun y hy => h y (List.mem_cons_of_mem _ hy)
    have h2 : (stepR prs r z).length ≤ r.length * m := Nat.le_trans onw_len (Nat.mul_le_mul_left _ (Nat.le_trans (List.length_filter_le _ _) (h z List.mem_cons_self)))
    refine Nat.le_trans h1 (Nat.le_trans (Nat.mul_le_mul_right _ h2) ?_)
    rw [List.length_cons, Nat.pow_succ, Nat.mul_assoc, Nat.mul_comm m]
    exact Nat.le_refl _
theorem rowsF_len {known first : List Str} {pats prs ps : List (List Str)} {m : Nat} (h : ps.length ≤ m) : (rowsF known pats prs (List.replicate pats.length ps) first).length ≤ m ^ pats.length := by
  unfold rowsF
  have h0 : (keepA ((prs.filter (knB known)).map (ijOf known)) [first]).length ≤ 1 := keepA_len _ _
  have h1 := foldR_len (prs := prs) (m := m) ((planOf known pats).zip (List.replicate pats.length ps)) (keepA ((prs.filter (knB known)).map (ijOf known)) [first]) fun z hz => by
    rw [(List.mem_replicate.mp (List.of_mem_zip hz).2).2]
    exact h
  have e : ((planOf known pats).zip (List.replicate pats.length ps)).length = pats.length := by rw [List.length_zip, planOf_len, List.length_replicate, Nat.min_self]
  rw [e] at h1
  refine Nat.le_trans h1 ?_
  have := Nat.mul_le_mul_right (m ^ pats.length) h0
  rwa [Nat.one_mul] at this
def metF (zs : List Str) (pats prs ps : List (List Str)) : List (List Str) := (rowsF zs pats prs (List.replicate pats.length ps) zs).map fun row => row.drop zs.length
section
variable {P : Program} {w : World} {K : PySem.W.Frag} {mg : Str → Option Value} {base : Heap}
def spMet (K : PySem.W.Frag) : Sp := fun vs H Q _ => ∃ (a b : Addr) (sv : V) (us uq : List V) (pats prs ps : List (List Str)) (m : Nat), vs = [.ref a, .ref b, sv] ∧ (H a = some (.lst us) ∧ PaX H us pats ∧ (∀ x ∈ pats, PatOk x) ∧ pats.length ≤ 10) ∧ (H b = some (.lst uq) ∧ PaL H uq prs ∧ (∀ x ∈ prs, PairOk x) ∧ prs.length ≤ 10) ∧
  (ShelfV H sv ps ∧ ps.length ≤ m ∧ 1 ≤ m ∧ m ≤ 1000 ∧ m ^ pats.length ≤ 100000) ∧
  ∀ (p : Addr) (H' : Hp) (us' : List V) (zs : List Str), H p = none → Same H H' → H' p = some (.lst us') → NamesOf (tails pats ++ prs.flatten) zs → PaL H' us' (metF zs pats prs ps) → Q (.ref p) H'
abbrev nMet : List Str := ["told", "pairs", "shelf", "names", "plan", "row", "_"]
theorem scMet : FnScope nMet ["told", "pairs", "shelf"] (defScope sMet) := ⟨rfl, rfl, rfl, by decide +kernel, rfl, by decide +kernel, by decide +kernel⟩
theorem ok_met {f fN fP fR C CS : Addr} {fd dN dP dR : FuncData} (F : Fun K "met" "met" sMet f fd) (B : Bp mg) (R : PNC K C)
    (GN : FnOk P w K mg base CX0 3 fN dN ["patterns", "pairs"] (spNamesIn K)) (kN : PySem.W.keepIn K (.ref fN) = true) (gN : mg "names_in" = some (.ref fN)) (bN : Binds K dN ["patterns", "pairs"] [])
    (GP : FnOk P w K mg base CX0 4 fP dP ["self", "patterns", "pairs", "known"] (spPlanInit CS C)) (MP : Mk K C fP) (gP : mg "Plan" = some (.ref C)) (bP : Binds K dP ["self", "patterns", "pairs", "known"] [])
    (GR : FnOk P w K mg base CX0 3 fR dR ["self", "first", "shelves"] (spRows K CS C)) (mR : Meth K C "rows" fR) (bR : Binds K dR ["self", "first", "shelves"] []) :
    FnOk P w K mg base CX0 6 f fd ["told", "pairs", "shelf"] (spMet K) := by
  refine F.ok scMet (fun vs H Q E h => ?_) (fun cdv A outer s H vs Q E hr h => ?_)
  · obtain ⟨a, b, sv, us, uq, pats, prs, ps, m, rfl, _⟩ := h
    rfl
  · obtain ⟨a, b, sv, us, uq, pats, prs, ps, m, rfl, ⟨ea, hp, hpo, hpl⟩, ⟨eb, hq, hqo, hql⟩, ⟨hs, hm1, hm2, hm3, hm4⟩, q⟩ := h
    have hr3 : Room 3 _ := hr.mono (by decide)
    refine ⟨_, pss_cons (ps_set (i := 3) scMet.nd rfl (Or.inr rfl) (by exact (pe_call GN hr3 (by rfl) gN kN bN .nil pass0 (pa_cons (pv 0) (pa_cons (pv 1) pa_nil)))))
      (pss_cons (ps_set (i := 4) scMet.nd rfl (Or.inl rfl) (by exact (pe_make MP GP hr (by rfl) gP bP .nil pass0 (pa_cons (pv 0) (pa_cons (pv 1) (pa_cons (pv 3) pa_nil))))))
      (pss_one (ps_ret (by exact (pe_lc (own := [("row", 5)]) (g := gName 5) (tt := tYes) (te := tSl (rSlA K) (tVar 5) (tPart (tCB (fun xs H Q => ∃ x n, xs = [x] ∧ LenV K x H n ∧ Q (.int n) H) (tCons (tVar 3) tNil))) tNoPart) rfl scMet.nd
          (pi_list (by exact (pe_meth (pv 4) R.cl mR GR hr3 bR .nil pass0 (pa_cons (pe_callTy call_tuple_of (by rfl) B.tup PyProof.Rows.boot_tuple (pa_cons (pv 3) pa_nil)) (pa_cons (by exact (pe_lc (own := [("_", 6)]) (g := gName 6) (tt := tYes) (te := tVar 2) rfl scMet.nd (pi_list (pv 0))
            (blkOk_by (own := [("_", 6)]) (N := nMet) (sc := defScope sMet) (by decide +kernel))
            (fun _ _ _ _ _ => pg_name (i := 6) scMet.nd rfl (Or.inl rfl)) (fun _ _ _ _ _ => pts_nil) (fun _ _ _ _ _ => by exact (pv 2)))) pa_nil)))))
          (blkOk_by (own := [("row", 5)]) (N := nMet) (sc := defScope sMet) (by decide +kernel))
          (fun _ _ _ _ _ => pg_name (i := 5) scMet.nd rfl (Or.inl rfl)) (fun _ _ _ _ _ => pts_nil)
          (fun _ _ _ _ _ => by exact (pe_slice sl_tupA (pv 5) (po_some (pe_callB call_len (by rfl) B.len PySem.boot_len (pa_cons (pv 3) pa_nil))) po_none))))))), ?_⟩
    have patl : ∀ x ∈ pats, 1 ≤ x.length ∧ x.length ≤ 4 := fun x hx => by
      obtain ⟨w, ts, rfl, _, h3, _⟩ := hpo x hx
      rw [List.length_cons]
      omega
    have prl : ∀ x ∈ prs, ∃ y z, x = [y, z] := fun x hx => by
      obtain ⟨y, z, e, _⟩ := hqo x hx
      exact ⟨y, z, e⟩
    have hul := hp.len
    refine ⟨_, rfl, _, rfl, ?_⟩
    dsimp only [tNil]
    refine ⟨a, b, us, uq, pats, prs, rfl, ⟨SqL.of ea, hp.pal, hpo, hpl⟩, ⟨SqL.of eb, hq, hqo, hql⟩, fun p1 H1 zs n1 s1 e1 hz => ?_⟩
    have zl : zs.length ≤ 50 := by
      have h1 := hz.len
      have l1 := tails_len hpo
      have l2 := flat_len (qs := prs) fun x hx => by
        obtain ⟨y, z, rfl⟩ := prl x hx
        rfl
      rw [List.length_append] at h1
      omega
    show tSeq _ _ _ _ _
    refine ⟨_, rfl, _, rfl, _, rfl, ?_⟩
    dsimp only [tNil]
    intro x dx nx ndx ne
    have U := madeN (C := C) nx ndx ne
    refine ⟨x, dx, a, b, p1, us, uq, pats, prs, zs, rfl, upd_same, ⟨U _ _ (s1 _ _ ea), (hp.same s1).same U, patl, by omega⟩, ⟨U _ _ (s1 _ _ eb), (hq.same s1).same U, prl, by omega⟩, ⟨U _ _ e1, by omega⟩, fun G sb PN => ⟨rfl, ?_⟩⟩
    have PA := PN.at_
    have sG1 := madeS nx ndx ne sb
    have sG := s1.trans sG1
    obtain ⟨dxp, ap, st, tl, az, ss, er, _⟩ := id PA
    have lkR : (pnF ap st tl).lookup ("rows" : Str) = none := (lk_no (by decide +kernel)).trans ((lk_no (by decide +kernel)).trans ((lk_no (by decide +kernel)).trans rfl))
    refine ⟨_, rfl, x, dxp, _, rfl, er, lkR, _, rfl, p1, _, rfl, .inl ⟨SqL.of (sG1 _ _ e1), fun ft nft => ?_⟩⟩
    have s2 : Same G (upd G ft (.tup (zs.map V.str))) := same_new nft
    have eft : upd G ft (.tup (zs.map V.str)) ft = some (.tup (zs.map V.str)) := upd_same
    generalize upd G ft (.tup (zs.map V.str)) = G2 at s2 eft ⊢
    have sG2 := sG.trans s2
    refine ⟨_, rfl, a, rfl, ⟨_, SqL.of (sG2 _ _ ea)⟩, fun D nD => ?_⟩
    refine lc_list (K := K) (a := a) (xs := us) (fun i H' => Same G2 H' ∧ H' D = some (.lst (List.replicate i sv))) ⟨same_new nD, upd_same⟩ (fun i H' _ y => SqL.of (y.1 _ _ (sG2 _ _ ea))) ?_ ?_
    · rintro i v H2 hi ⟨s3, e3⟩
      have il := (List.getElem?_eq_some_iff.mp hi).1
      refine ⟨rfl, _, rfl, _, e3, ?_, same_put s3 nD, ?_⟩
      · rw [List.length_replicate]
        exact Nat.lt_of_le_of_lt (by omega : _ ≤ 1000) (by decide)
      · rw [upd_same, List.replicate_succ']
    · rintro H2 ⟨s3, e3⟩
      have sH2 := sG2.trans s3
      dsimp only [tNil]
      have allS : ∀ n : Nat, All2 (ShelfV H2) (List.replicate n sv) (List.replicate n ps) := fun n => by
        induction n with
        | zero => exact .nil
        | succ n ih =>
          rw [List.replicate_succ, List.replicate_succ]
          exact .cons (hs.same sH2) ih
      rw [hul] at e3
      refine ⟨x, ft, D, pats, prs, zs, zs, _, List.replicate pats.length ps, m, rfl, (PA.same s2).same s3, ⟨patl, by omega, by omega⟩, prl, ⟨s3 _ _ eft, rfl⟩, ⟨e3, allS _, List.length_replicate⟩, ⟨fun y hy => by rw [(List.mem_replicate.mp hy).2]; exact hm1, hm2, hm3, hm4⟩, fun r' G5 us' s5 e5 h5 => ?_⟩
      have sG5 := sH2.trans s5
      have e1' : G5 p1 = some (.lst (zs.map V.str)) := s5 _ _ (s3 _ _ (s2 _ _ (sG1 _ _ e1)))
      refine ⟨r', rfl, ⟨_, SqL.of e5⟩, fun D2 nD2 => ?_⟩
      have hul5 := h5.len
      have rl : (rowsF zs pats prs (List.replicate pats.length ps) zs).length ≤ 100000 := Nat.le_trans (rowsF_len hm1) hm4
      refine lc_list (K := K) (a := r') (xs := us') (fun i H' => Same G5 H' ∧ ∃ ws : List V, H' D2 = some (.lst ws) ∧ PaL H' ws (((rowsF zs pats prs (List.replicate pats.length ps) zs).take i).map fun row => row.drop zs.length)) ⟨same_new nD2, [], upd_same, .nil⟩ (fun i H' _ y => SqL.of (y.1 _ _ e5)) ?_ ?_
      · rintro i v H3 hi ⟨s6, ws, e6, hw⟩
        obtain ⟨t, row, rfl, hri, et⟩ := h5.at_ hi
        have il := (List.getElem?_eq_some_iff.mp hri).1
        have et6 := et.same s6
        have fin : ∀ (y : Addr) (H4 : Hp), Same H3 H4 → Tu H4 y (row.drop zs.length) → ∃ acc', H4 D2 = some (.lst acc') ∧ acc'.length < sizeLine ∧ (Same G5 (upd H4 D2 (.lst (acc' ++ [.ref y]))) ∧ ∃ ws : List V, upd H4 D2 (.lst (acc' ++ [.ref y])) D2 = some (.lst ws) ∧
            PaL (upd H4 D2 (.lst (acc' ++ [.ref y]))) ws (((rowsF zs pats prs (List.replicate pats.length ps) zs).take (i + 1)).map fun row => row.drop zs.length)) := fun y H4 s4 ey => by
          have e4 := s4 _ _ e6
          refine ⟨ws, e4, ?_, same_put (s6.trans s4) nD2, _, upd_same, ?_⟩
          · rw [hw.len, List.length_map, List.length_take]
            exact Nat.lt_of_le_of_lt (by omega : _ ≤ 100000) (by decide)
          · rw [take_one hri, List.map_append]
            exact ((hw.same s4).over e4).app (.mk (ey.upd (ey.lst e4)) .nil)
        refine ⟨rfl, _, rfl, _, rfl, _, _, rfl, .inl ⟨_, SqL.of (s6 _ _ e1'), rfl⟩, _, rfl, t, _, rfl, et6.sq, fun hw => ?_, fun hw p2 np2 => ?_⟩
        · rw [List.length_map, List.length_map] at hw
          have e0 := HT.sIx_nat row.length 0 zs.length
          rw [e0] at hw
          have hd : row.drop zs.length = row := by
            rcases Nat.eq_zero_or_pos row.length with h | h
            · rw [List.length_eq_zero_iff.mp h] <;> exact List.drop_nil
            · have : zs.length = 0 := by
                have := hw.1
                omega
              rw [this] <;> rfl
          refine fin t H3 (Same.refl _) ?_
          rw [hd]
          exact et6
        · refine fin p2 _ (same_new np2) (.inl ?_)
          rw [upd_same, List.length_map, cut_n, List.map_drop]
      · rintro H3 ⟨s6, ws, e6, hw⟩
        rw [hul5, List.take_length] at hw
        exact q D2 H3 ws zs (sG5.free nD2) (sG5.trans s6) e6 hz hw
end
end Nv
set_option maxHeartbeats 4000000
namespace Nv
open PySem PySem.Spec PyProof.Rows L2
/-! # filled -/
/-- the dict b gives each text z its sub z -/
def SubAt (H : Hp) (b : Addr) (sub : Str → Str) : Prop := ∃ kvs : List (L2.Key × V), H b = some (.dK kvs) ∧ ∀ z : Str, (valV kvs (.inr z)).getD (.str z) = .str (sub z)
def fillT (sub : Str → Str) (p : List Str) : List Str := p.take 1 ++ (p.drop 1).map sub
section
variable {K : PySem.W.Frag} {H : Hp} {t a b : Addr} {p xs ys : List Str} {Q : VK}
/-- t[:1], t[1:], a + b, of tuples of texts -/
theorem Tu.head (h : Tu H t p) (hp : 1 ≤ p.length) (k : ∀ t' H', Same H H' → Tu H' t' (p.take 1) → Q (.ref t') H') : rSlA K (.ref t) none (Option.some (1 : Int)) H Q := by
  have cut0 : HT.sIx (p.map V.str).length (p.map V.str).length (Option.some (1 : Int)) = 1 := by
    have e := HT.sIx_nat (p.map V.str).length (p.map V.str).length 1
    rw [show ((1 : Nat) : Int) = 1 by rfl] at e
    rw [e, List.length_map]
    omega
  refine ⟨t, p.map V.str, rfl, h.sq, fun w => k t H (Same.refl H) ?_, fun _ t1 n1 => k t1 _ (same_new n1) (.inl ?_)⟩
  · have h1 := w.2
    rw [cut0, List.length_map] at h1
    rw [List.take_of_length_le (by omega)]
    exact h
  · rw [upd_same]
    unfold cutV
    rw [cut0, HT.sIx_none, List.drop_zero, Nat.sub_zero, List.map_take]
theorem Tu.rest (h : Tu H t p) (hp : 1 ≤ p.length) (k : ∀ t' H', Same H H' → Tu H' t' (p.drop 1) → Q (.ref t') H') : rSlA K (.ref t) (Option.some (1 : Int)) none H Q := by
  have cut2 : HT.sIx (p.map V.str).length 0 (Option.some (1 : Int)) = 1 := by
    have e := HT.sIx_nat (p.map V.str).length 0 1
    rw [show ((1 : Nat) : Int) = 1 by rfl] at e
    rw [e, List.length_map]
    omega
  refine ⟨t, p.map V.str, rfl, h.sq, fun w => absurd w.1 (by rw [cut2]; decide), fun _ t1 n1 => k t1 _ (same_new n1) (.inl ?_)⟩
  rw [upd_same]
  unfold cutV
  rw [cut2, HT.sIx_none, List.take_of_length_le (by rw [List.length_drop]; exact Nat.le_refl _), List.map_drop]
theorem Tu.cat (h1 : Tu H a xs) (h2 : Tu H b ys) (l : xs.length + ys.length ≤ 100000) (k : ∀ r H', Same H H' → Tu H' r (xs ++ ys) → Q (.ref r) H') : rCatA K (.ref a) (.ref b) H Q := by
  refine ⟨a, b, _, _, rfl, rfl, h1.sq, h2.sq, ?_, fun z => k b H (Same.refl H) ?_, fun _ z => k a H (Same.refl H) ?_, fun _ _ r nr => k r _ (same_new nr) (.inl ?_)⟩
  · rw [List.length_map, List.length_map]
    exact Nat.le_trans l (by decide)
  · rw [List.map_eq_nil_iff.mp z]
    exact h2
  · rw [List.map_eq_nil_iff.mp z, List.append_nil]
    exact h1
  · rw [upd_same, List.map_append]
end
end Nv
set_option maxHeartbeats 4000000
namespace Nv
open PySem PySem.Spec PyProof.Rows L2
/-! # sorted of a list of tuples of texts -/
def encT (p : List Str) : PyData := .tuple (p.map PyData.str)
/-- the list in ascending order -/
def sortT (ps : List (List Str)) : List (List Str) := ps.mergeSort (PySem.W.dataLe false encT)
theorem alike_strs : ∀ p q : List Str, PySem.W.alikeAll (p.map PyData.str) (q.map PyData.str) = true
  | [], _ => by unfold PySem.W.alikeAll; rfl
  | _ :: _, [] => by unfold PySem.W.alikeAll; rfl
  | x :: p, y :: q => by
    show (PySem.W.alike (.str x) (.str y) && PySem.W.alikeAll (p.map PyData.str) (q.map PyData.str)) = true
    rw [alike_strs p q] <;> rfl
theorem encT_depth (p : List Str) : (encT p).depth ≤ 1 := by
  have h : ∀ p : List Str, PyData.depthAll (p.map PyData.str) = 0 := fun p => by
    induction p with
    | nil => rfl
    | cons x p ih =>
      show max 0 (PyData.depthAll (p.map PyData.str)) = 0
      rw [ih] <;> rfl
  show PyData.depthAll (p.map PyData.str) + 1 ≤ 1
  rw [h]
  exact Nat.le_refl _
theorem reads_strs {h : Heap} : ∀ {p : List Str} {us : List Value}, Vals (p.map V.str) us → ∃ as, ReadsAll h us (p.map PyData.str) as
  | [], _, .nil => ⟨[], .nil⟩
  | x :: p, _, .cons r t => by
    obtain ⟨k, rfl⟩ := r
    obtain ⟨as, ih⟩ := reads_strs (h := h) t
    exact ⟨_, .cons (.str x k) ih⟩
/-- refs of tuples, item by item -/
def RefT (H : Hp) (v : Value) (p : List Str) : Prop := ∃ a, v = .ref a ∧ Tu H a p
theorem refT_of {H : Hp} : ∀ {us : List V} {ps : List (List Str)} {its : List Value}, PaL H us ps → Vals us its → PySem.W.EachIs (RefT H) its ps
  | _, _, _, .nil, .nil => .nil
  | _, _, _, .mk e h, .cons r t => by
    cases r
    exact .cons ⟨_, rfl, e⟩ (refT_of h t)
theorem refT_back {H : Hp} : ∀ {out : List Value} {ps : List (List Str)}, PySem.W.EachIs (RefT H) out ps → ∃ us, Vals us out ∧ PaL H us ps
  | _, _, .nil => ⟨[], .nil, .nil⟩
  | _, _, .cons ⟨a, e, h⟩ t => by
    obtain ⟨us, h1, h2⟩ := refT_back t
    subst e
    exact ⟨.ref a :: us, .cons rfl h1, .mk h h2⟩
def rSortTx (K : PySem.W.Frag) : List V → Hp → VK → Prop := fun vs H Q => ∃ (a : Addr) (us : List V) (ps : List (List Str)), vs = [V.ref a] ∧ SqL K H a us ∧ PaL H us ps ∧ ((∀ p ∈ ps, p ≠ []) ∨ ps.length ≤ 1) ∧
  ∀ (p : Addr) (us' : List V), H p = none → PaL H us' (sortT ps) → us'.length = ps.length → Q (.ref p) (upd H p (.lst us'))
theorem cr_sortTx {X : Cx} (hu : X.A.units + 64 < cLine) : CallR X (.builtin "sorted") (rSortTx X.K) := by
  intro pins s σ H vs us0 Q I r h
  obtain ⟨a, us, ps, rfl, hs, hp, hne, q⟩ := h
  rw [Vals.ref1 r]
  obtain ⟨its, rv, pl, hz⟩ := I.list hs
  have e := refT_of hp rv
  have hl := hp.len
  rcases hne with hne | h1
  rotate_left
  · have few : its.length ≤ 1 := by rw [← rv.length, hl]; exact h1
    refine Srt.sorted_any pl.isList (by rw [← rv.length]; exact hz) (fun h2 => absurd h2 (by omega)) fun out ho => ?_
    have eo : out = its := by
      have := ho.length_eq
      cases its with
      | nil => exact List.length_eq_zero_iff.mp this
      | cons v r =>
        cases r with
        | nil => exact List.perm_singleton.mp ho
        | cons w r => simp at few
    have es : sortT ps = ps := by
      cases ps with
      | nil => exact List.length_eq_zero_iff.mp (List.mergeSort_perm _ _).length_eq
      | cons p r =>
        cases r with
        | nil => exact List.mergeSort_singleton p
        | cons q r => simp at h1
    obtain ⟨ep, he'⟩ := PyProof.Rows.sortedAll_at s.heap its out.toArray
    subst eo
    exact ⟨.ref _, upd H (s.heap.objs.size + 1) (.lst us), I.laid (t' := s.toks) (fun _ _ => PyProof.Rows.sortedAll_old) (Nat.le_succ _) ⟨hz, out, ep, rv, he'⟩, rfl, q _ us (I.hok.fresh (Nat.le_succ _)) (by rw [es]; exact hp) hl⟩
  have er : PySem.W.EachIs (fun v b => ∃ as, Reads s.heap v (encT b) as) its ps := e.mono fun v b ⟨t, ev, et⟩ => by
    subst ev
    obtain ⟨its2, r2, ⟨o, ho, hc, n, hd⟩, _⟩ := I.tuple (et.sq (K := X.K))
    obtain ⟨as, h2⟩ := reads_strs (h := s.heap) r2
    exact ⟨as, .tuple ho hc hd (by simpa using h2)⟩
  refine PySem.W.sorted_data (enc := encT) (R := RefT H) (bs := ps) pl.isList e er (fun d hd d' hd' => ?_) (.inl fun d hd => ?_) (by rw [← hl]; exact hz) (fun b _ => ?_) fun out ho eo => ?_
  · obtain ⟨x, _, rfl⟩ := List.mem_map.mp hd
    obtain ⟨y, _, rfl⟩ := List.mem_map.mp hd'
    exact alike_strs x y
  · obtain ⟨x, hx, rfl⟩ := List.mem_map.mp hd
    cases x with
    | nil => exact absurd rfl (hne _ hx)
    | cons y x => exact ⟨_, _, rfl⟩
  · have := encT_depth b
    omega
  · obtain ⟨us', h1, h2⟩ := refT_back eo
    have hlen : us'.length = ps.length := by rw [h1.length, ho]
    obtain ⟨ep, he'⟩ := PyProof.Rows.sortedAll_at s.heap its out.toArray
    exact ⟨.ref _, upd H (s.heap.objs.size + 1) (.lst us'), I.laid (t' := s.toks) (fun _ _ => PyProof.Rows.sortedAll_old) (Nat.le_succ _) ⟨by rw [hlen, ← hl]; exact hz, out, ep, h1, he'⟩, rfl, q _ us' (I.hok.fresh (Nat.le_succ _)) h2 hlen⟩
end Nv
set_option maxHeartbeats 4000000
namespace Nv
open PySem PySem.Spec PyProof.Rows L2
/-! # _law_ways -/
def waysF (zs : List Str) : Nat → List (List Str)
  | 0 => [[]]
  | m + 1 => (waysF zs m).flatMap fun r => zs.map fun z => r ++ [z]
theorem ways_len (zs : List Str) : ∀ m, (waysF zs m).length = zs.length ^ m
  | 0 => rfl
  | m + 1 => by
    unfold waysF
    rw [List.length_flatMap]
    have : ((waysF zs m).map fun r => (zs.map fun z => r ++ [z]).length) = List.replicate (waysF zs m).length zs.length := by
      rw [List.eq_replicate_iff]
      refine ⟨by rw [List.length_map], fun b hb => ?_⟩
      obtain ⟨r, _, rfl⟩ := List.mem_map.mp hb
      rw [List.length_map]
    rw [this, List.sum_replicate_nat, ways_len zs m, Nat.pow_succ]
theorem ways_mem {zs : List Str} : ∀ {m : Nat} {r : List Str}, r ∈ waysF zs m ↔ r.length = m ∧ ∀ x ∈ r, x ∈ zs
  | 0, r => by
    unfold waysF
    rw [List.mem_singleton]
    exact ⟨fun h => by rw [h]; exact ⟨rfl, fun x hx => nomatch hx⟩, fun h => List.length_eq_zero_iff.mp h.1⟩
  | m + 1, r => by
    unfold waysF
    rw [List.mem_flatMap]
    constructor
    · rintro ⟨r0, h0, h1⟩
      obtain ⟨z, hz, rfl⟩ := List.mem_map.mp h1
      obtain ⟨l, k⟩ := ways_mem.mp h0
      refine ⟨by rw [List.length_append, l] <;> rfl, fun x hx => ?_⟩
      rcases List.mem_append.mp hx with hx | hx
      · exact k x hx
      · rw [List.mem_singleton.mp hx]
        exact hz
    · rintro ⟨l, k⟩
      have ne : r ≠ [] := fun z => by rw [z] at l; cases l
      refine ⟨r.dropLast, ways_mem.mpr ⟨by rw [List.length_dropLast, l] <;> rfl, fun x hx => k x (List.dropLast_subset r hx)⟩, List.mem_map.mpr ⟨r.getLast ne, k _ (List.getLast_mem ne), List.dropLast_concat_getLast ne⟩⟩
theorem ways_nd {zs : List Str} (nd : zs.Nodup) : ∀ m, (waysF zs m).Nodup
  | 0 => List.pairwise_singleton _ _
  | m + 1 => by
    unfold waysF
    refine List.pairwise_flatMap.mpr ⟨fun r hr => List.pairwise_map.mpr (nd.imp fun ne e => ne ?_), (ways_nd nd m).imp_of_mem fun {a b} ha hb ne x hx y hy e => ne ?_⟩
    · have := List.append_cancel_left e
      injection this
    · obtain ⟨u, _, rfl⟩ := List.mem_map.mp hx
      obtain ⟨v, _, rfl⟩ := List.mem_map.mp hy
      exact (List.append_inj e ((ways_mem.mp ha).1.trans (ways_mem.mp hb).1.symm)).1
section
variable {P : Program} {w : World} {K : PySem.W.Frag} {mg : Str → Option Value} {base : Heap}
def spWays (K : PySem.W.Frag) : Sp := fun vs H Q _ => ∃ (a : Addr) (zs : List Str) (m : Nat), vs = [.ref a, .int (m : Int)] ∧ SqL K H a (zs.map V.str) ∧ zs.length ≤ 60 ∧ m ≤ 4 ∧
  ∀ (p : Addr) (us : List V) (H' : Hp), H p = none → Same H H' → H' p = some (.lst us) → PaL H' us (waysF zs m) → Q (.ref p) H'
abbrev nWays : List Str := ["_law_names_here", "_law_many", "_law_found", "_law_turn", "_law_longer", "_law_row", "_law_name"]
theorem scWays : FnScope nWays ["_law_names_here", "_law_many"] (defScope sWays) := ⟨rfl, rfl, rfl, by decide +kernel, rfl, by decide +kernel, by decide +kernel⟩
theorem ok_ways {f : Addr} {fd : FuncData} (F : Fun K "_law_ways" "_law_ways" sWays f fd) (B : Bl mg) : FnOk P w K mg base CX0 1 f fd ["_law_names_here", "_law_many"] (spWays K) := by
  refine F.ok scWays (fun vs H Q E h => ?_) (fun cdv A outer s H vs Q E hr h => ?_)
  · obtain ⟨a, zs, m, rfl, _⟩ := h
    rfl
  · obtain ⟨a, zs, m, rfl, ha, zl, hm, q⟩ := h
    refine ⟨_, pss_cons (ps_set (i := 2) scWays.nd rfl (Or.inl rfl) (pe_lst (pa_cons (pe_tup pa_nil) pa_nil)))
      (pss_cons (ps_for PassesOwn.never rfl (pi_range1 (by rfl) B.rg (pa_cons (pv 1) pa_nil)) (pg_name (i := 3) scWays.nd rfl (Or.inl rfl))
        (pss_cons (ps_set (i := 4) scWays.nd rfl (Or.inl rfl) (pe_lst pa_nil))
        (pss_cons (ps_for PassesOwn.never rfl (pi_list (pv 2)) (pg_name (i := 5) scWays.nd rfl (Or.inr rfl))
          (pss_one (ps_set (i := 4) scWays.nd rfl (Or.inl rfl) (pe_op op_cat (pv 4) (by exact (pe_lc (own := [("_law_name", 6)]) (g := gName 6) (tt := tYes) (te := tOp (rCatA K) (tVar 5) (tTup (tCons (tVar 6) tNil))) rfl scWays.nd (pi_list (pv 0))
            (blkOk_by (own := [("_law_name", 6)]) (N := nWays) (sc := defScope sWays) (by decide +kernel))
            (fun _ _ _ _ _ => pg_name (i := 6) scWays.nd rfl (Or.inl rfl)) (fun _ _ _ _ _ => pts_nil)
            (fun _ _ _ _ _ => by exact (pe_op op_catA (pv 5) (pe_tup (pa_cons (pv 6) pa_nil))))))))))
        (pss_one (ps_set (i := 2) scWays.nd rfl (Or.inl rfl) (pv 4))))))
      (pss_one (ps_ret (pv 2)))), ?_⟩
    refine ⟨by show 0 ≤ _; exact Nat.zero_le _, fun t0 n0 => ?_⟩
    have s0 : Same H (upd H t0 (.tup [])) := same_new n0
    have et0 : upd H t0 (.tup []) t0 = some (.tup []) := upd_same
    generalize upd H t0 (.tup []) = H0 at s0 et0 ⊢
    refine ⟨by show 1 ≤ _; decide, fun l0 nl0 => ?_⟩
    have s1 : Same H0 (upd H0 l0 (.lst [V.ref t0])) := same_new nl0
    have el0 : upd H0 l0 (.lst [V.ref t0]) l0 = some (.lst [V.ref t0]) := upd_same
    generalize upd H0 l0 (.lst [V.ref t0]) = H1 at s1 el0 ⊢
    have hp0 : PaL H1 [V.ref t0] (waysF zs 0) := .mk (.inl (s1 _ _ et0)) .nil
    have s01 := s0.trans s1
    show tSeq _ _ _ _ _
    refine ⟨_, rfl, (m : Int), rfl, by omega, by omega, ?_⟩
    rw [Int.toNat_natCast]
    refine for_range (D := { nx := tRet (tVar 2) { nx := fun x H' => Q .non H', rt := Q }, rt := Q }) (lo := 0) (n := m) (fun i σ G => ∃ (fnd : Addr) (us : List V) (o3 o4 o5 : Option V), σ = [some (.ref a), some (.int (m : Int)), some (.ref fnd), o3, o4, o5, none] ∧ H fnd = none ∧ Same H G ∧ G fnd = some (.lst us) ∧ PaL G us (waysF zs i)) ⟨l0, _, none, none, none, rfl, s0.free nl0, s01, el0, hp0⟩ ?_ ?_
    · rintro t σ G ht ⟨fnd, us, o3, o4, o5, rfl, nf, sG, ef, hp⟩
      refine ⟨by show 0 ≤ _; exact Nat.zero_le _, fun lg nlg => ?_⟩
      have s2 : Same G (upd G lg (.lst [])) := same_new nlg
      have elg : upd G lg (.lst []) lg = some (.lst []) := upd_same
      generalize upd G lg (.lst []) = G1 at s2 elg ⊢
      have ef1 := s2 _ _ ef
      have hp1 := hp.same s2
      have sG1 := sG.trans s2
      have hul := hp.len
      have wl := ways_len zs t
      have wl4 : (waysF zs t).length * zs.length ≤ 12960000 := by
        rw [wl, ← Nat.pow_succ]
        exact Nat.le_trans (Nat.pow_le_pow_left zl _) (Nat.le_trans (Nat.pow_le_pow_right (by decide) (by omega : t + 1 ≤ 4)) (by decide))
      show tSeq _ _ _ _ _
      refine ⟨_, rfl, fnd, rfl, ⟨_, SqL.of ef1⟩, for_list (K := K) (a := fnd) (xs := us) (fun j σ G' => ∃ (lg : Addr) (ws : List V) (o5 : Option V), σ = [some (.ref a), some (.int (m : Int)), some (.ref fnd), some (.int (0 + (t : Int))), some (.ref lg), o5, none] ∧ H lg = none ∧ Same G1 G' ∧ G' lg = some (.lst ws) ∧ PaL G' ws (((waysF zs t).take j).flatMap fun r => zs.map fun z => r ++ [z])) ⟨lg, [], o5, rfl, sG.free nlg, Same.refl _, elg, .nil⟩ (fun j σ G' _ y => ?_) ?_ ?_⟩
      · obtain ⟨_, _, _, _, _, sm, _⟩ := y
        exact SqL.of (sm _ _ ef1)
      · rintro j v σ G2 hj ⟨lg2, ws, o52, rfl, nl2, s3, elg2, hw⟩
        obtain ⟨b, r, rfl, hrj, eb⟩ := hp1.at_ hj
        have jl := (List.getElem?_eq_some_iff.mp hrj).1
        have ha2 := (sG1.trans s3).seq ha
        have eb2 := eb.same s3
        have rl : r.length = t := (ways_mem.mp (List.mem_of_getElem? hrj)).1
        refine ⟨_, rfl, _, rfl, a, rfl, ⟨_, ha2⟩, fun D nD => ?_⟩
        refine lc_list (K := K) (a := a) (xs := zs.map V.str) (fun i H' => Same G2 H' ∧ ∃ ys : List V, H' D = some (.lst ys) ∧ PaL H' ys ((zs.take i).map fun z => r ++ [z])) ⟨same_new nD, [], upd_same, .nil⟩ (fun i H' _ y => y.1.seq ha2) ?_ ?_
        · rintro i v H3 hi ⟨s4, ys, e4, hy⟩
          obtain ⟨z, hz, rfl⟩ := at_map hi
          have il := (List.getElem?_eq_some_iff.mp hz).1
          refine ⟨rfl, _, rfl, _, rfl, ?_⟩
          dsimp only [tNil]
          refine ⟨by show 1 ≤ _; decide, fun q2 nq => ?_⟩
          have s5 : Same H3 (upd H3 q2 (.tup [.str z])) := same_new nq
          have eq2 : Tu (upd H3 q2 (.tup [.str z])) q2 [z] := .inl upd_same
          generalize upd H3 q2 (.tup [.str z]) = H4 at s5 eq2 ⊢
          refine Tu.cat ((eb2.same s4).same s5) eq2 (by rw [rl]; show t + 1 ≤ _; omega) fun q3 H5 s6 eq3 => ?_
          have s46 := s5.trans s6
          have hyl := hy.len
          rw [List.length_map, List.length_take] at hyl
          refine ⟨ys, s46 _ _ e4, Nat.lt_of_le_of_lt (by omega : _ ≤ 1000) (by decide), same_put (s4.trans s46) nD, _, upd_same, ?_⟩
          rw [take_one hz, List.map_append]
          exact ((hy.same s46).over (s46 _ _ e4)).app (.mk (eq3.upd (eq3.lst (s46 _ _ e4))) .nil)
        · rintro H3 ⟨s4, ys, e4, hy⟩
          rw [List.length_map, List.take_length] at hy
          have hwl := hw.len
          have hyl := hy.len
          have e5 := s4 _ _ elg2
          have few : ws.length + ys.length ≤ 12960000 := by
            rw [hwl, hyl, List.length_map, List.length_flatMap]
            have : (((waysF zs t).take j).map fun r => (zs.map fun z => r ++ [z]).length) = List.replicate j zs.length := by
              rw [List.eq_replicate_iff]
              refine ⟨by rw [List.length_map, List.length_take]; omega, fun b hb => ?_⟩
              obtain ⟨r, _, rfl⟩ := List.mem_map.mp hb
              rw [List.length_map]
            rw [this, List.sum_replicate_nat]
            have h2 := Nat.mul_le_mul_right zs.length (by omega : j + 1 ≤ (waysF zs t).length)
            rw [Nat.add_mul, Nat.one_mul] at h2
            exact Nat.le_trans h2 wl4
          refine ⟨lg2, D, ws, ys, rfl, rfl, e5, e4, Nat.le_trans few (by decide), fun q3 nq3 => ?_⟩
          have s5 : Same H3 (upd H3 q3 (.lst (ws ++ ys))) := same_new nq3
          refine ⟨q3, ws ++ ys, _, rfl, (sG1.trans (s3.trans s4)).free nq3, (s3.trans s4).trans s5, upd_same, ?_⟩
          rw [take_one hrj, List.flatMap_append, List.flatMap_singleton]
          exact ((hw.same s4).app hy).same s5
      · rintro σ G2 ⟨lg2, ws, o52, rfl, nl2, s3, elg2, hw⟩
        rw [hul, List.take_length] at hw
        exact ⟨_, rfl, lg2, ws, _, _, _, rfl, nl2, sG1.trans s3, elg2, hw⟩
    · rintro σ G ⟨fnd, us, o3, o4, o5, rfl, nf, sG, ef, hp⟩
      exact ⟨_, rfl, q fnd us G nf sG ef hp⟩
end
end Nv
set_option maxHeartbeats 4000000
namespace Nv
open PySem PySem.Spec PyProof.Rows L2
/-! # a set of texts that can be walked -/
def txt : Value → Str
  | .str x _ => x
  | _ => ""
def RowS (w : World) (e : Int × Value) : Prop := ∃ (x : Str) (k : Tok), e = (hashStr w x, .str x k)
/-- the set at a has just the texts L, each once -/
def SetS (w : World) (h : Heap) (a : Addr) (L : List Str) : Prop := ∃ o es ep t, h.get? a = some o ∧ o.ExactSet ∧ o.data = .set es ep t ∧
  ((∀ e ∈ es.toList, RowS w e) ∧ (es.toList.map fun e => txt e.2).Perm L ∧ L.Nodup) ∧ es.size < scanBound ∧ t.fits es.size = true ∧ Ris t.place.toList ∧ (w.params.followText "set-order" = true ∨ t.led = true)
section
variable {P : Program} {w : World} {A : Around} {E : Value → Shared → Prop} {s : Shared} {a : Addr} {L : List Str}
theorem SetS.move {h h' : Heap} (R : SetS w h a L) (k : ∀ o, h.get? a = some o → h'.get? a = some o) : SetS w h' a L := by
  obtain ⟨o, es, ep, t, ho, r⟩ := R
  exact ⟨o, es, ep, t, k o ho, r⟩
theorem rowsS_els {es : List (Int × Value)} (g : ∀ e ∈ es, RowS w e) : ElemsOf (PySem.strKind P w) es := fun e he => by
  obtain ⟨x, k, rfl⟩ := g e he
  exact ⟨⟨x, strKind_is _ _ _ _, rfl⟩, rfl⟩
theorem rowS_is {e : Int × Value} (g : RowS w e) (x : Str) : (PySem.strKind P w).is x e.2 = true ↔ txt e.2 = x := by
  obtain ⟨y, k, rfl⟩ := g
  refine ⟨fun h => ((PySem.strKind P w).inj _ _ _ (strKind_is _ _ _ _) h), fun h => ?_⟩
  cases h
  exact strKind_is _ _ _ _
theorem gaveS (b : Bool) {Q : Unit → Shared → Prop} (q : Q () s) : wpAny (model P w) A (match b with | true => rule "set.scan.the-table-gave-way" | false => pure ()) Q E s := by
  cases b
  · exact wpAny_pure q
  · exact wpAny_rule q
theorem putS {h : Heap} {o : Obj} {es es' : Array (Int × Value)} {ep : Nat} {t t' : SetTable} (ho : h.get? a = some o) (hd : o.data = .set es ep t) : (h.update a (Obj.putSet es' t')).get? a = some { o with data := .set es' (ep + 1) t' } := by
  have e := putSet_of es' t' hd
  rw [← e]
  exact Heap.get?_update_self _ ho (by rw [e] <;> rfl)
theorem fixS {es : Array (Int × Value)} (hp : (∀ e ∈ es.toList, RowS w e) ∧ (es.toList.map fun e => txt e.2).Perm L ∧ L.Nodup) {es' : Array (Int × Value)} (p : es'.toList.Perm es.toList) : (∀ e ∈ es'.toList, RowS w e) ∧ (es'.toList.map fun e => txt e.2).Perm L ∧ L.Nodup :=
  ⟨fun e he => hp.1 e (p.mem_iff.mp he), (p.map _).trans hp.2.1, hp.2.2⟩
theorem sizeS {es : Array (Int × Value)} (hp : (∀ e ∈ es.toList, RowS w e) ∧ (es.toList.map fun e => txt e.2).Perm L ∧ L.Nodup) : es.size = L.length := by
  rw [← hp.2.1.length_eq, List.length_map, Array.length_toList]
theorem findS {es : Array (Int × Value)} (hp : (∀ e ∈ es.toList, RowS w e) ∧ (es.toList.map fun e => txt e.2).Perm L ∧ L.Nodup) (x : Str) :
    (x ∈ L ∧ ∃ j, es.toList.findIdx? (fun e => (PySem.strKind P w).is x e.2) = some j) ∨ (x ∉ L ∧ es.toList.findIdx? (fun e => (PySem.strKind P w).is x e.2) = none) := by
  have mem : x ∈ L ↔ ∃ e ∈ es.toList, txt e.2 = x := by rw [← hp.2.1.mem_iff, List.mem_map]
  cases h : es.toList.findIdx? (fun e => (PySem.strKind P w).is x e.2) with
  | some j =>
    obtain ⟨lt, y, _⟩ := List.findIdx?_eq_some_iff_getElem.mp h
    exact .inl ⟨mem.mpr ⟨_, List.getElem_mem lt, (rowS_is (P := P) (hp.1 _ (List.getElem_mem lt)) x).mp y⟩, j, rfl⟩
  | none =>
    refine .inr ⟨fun m => ?_, rfl⟩
    obtain ⟨e, he, y⟩ := mem.mp m
    have := List.findIdx?_eq_none_iff.mp h e he
    rw [(rowS_is (P := P) (hp.1 e he) x).mpr y] at this
    cases this
theorem newS {es es' : Array (Int × Value)} {x : Str} {k : Tok} (hp : (∀ e ∈ es.toList, RowS w e) ∧ (es.toList.map fun e => txt e.2).Perm L ∧ L.Nodup) (out : x ∉ L) (p : es'.toList.Perm (es.push (hashStr w x, .str x k)).toList) :
    (∀ e ∈ es'.toList, RowS w e) ∧ (es'.toList.map fun e => txt e.2).Perm (x :: L) ∧ (x :: L).Nodup := by
  have p2 : es'.toList.Perm ((hashStr w x, Value.str x k) :: es.toList) := by
    rw [Array.toList_push] at p
    exact p.trans (List.perm_append_singleton _ _)
  refine ⟨fun e he => ?_, (p2.map fun e : Int × Value => txt e.2).trans (hp.2.1.cons x), List.nodup_cons.mpr ⟨out, hp.2.2⟩⟩
  rcases List.mem_cons.mp (p2.mem_iff.mp he) with h | h
  · exact ⟨x, k, h⟩
  · exact hp.1 e h
/-- the new table is stored, and laid again where it is too full -/
theorem tailS {g : Bool → Sem Unit} (hg : ∀ (b : Bool) (s1 : Shared) (Q' : Unit → Shared → Prop), Q' () s1 → wpAny (model P w) A (g b) Q' E s1) {M : List Str} {o : Obj} {es en : Array (Int × Value)} {ep : Nat} {t t2 : SetTable} {wd : Bool} {Q : Option Bool → Shared → Prop}
    (ho : s.heap.get? a = some o) (hex : o.ExactSet) (hd : o.data = .set es ep t) (pN : (∀ e ∈ en.toList, RowS w e) ∧ (en.toList.map fun e => txt e.2).Perm M ∧ M.Nodup) (few : M.length < scanBound)
    (f2 : t2.fits en.size = true) (r2 : Ris t2.place.toList) (l2 : w.params.followText "set-order" = true ∨ t2.led = true)
    (q : ∀ h', Heap.SameBut a s.heap h' → SetS w h' a M → Q (some true) { s with heap := h' }) :
    wpAny (model P w) A (storeSet a en t2 >>= fun _ => if (!wd && t2.tooFull) = true then (do
      g (relayAll t2 en (SetTable.grown en.size)).2.2
      storeSet a (relayAll t2 en (SetTable.grown en.size)).1 (relayAll t2 en (SetTable.grown en.size)).2.1
      pure (some true)) else pure (some true)) Q E s := by
  have small : en.size < scanBound := by rw [sizeS pN]; exact few
  refine wpAny_bind (wpAny_storeSet_of ho hd ?_ (fits_of_scanBound small))
  have o1 := putS (es' := en) (t' := t2) ho hd
  have b1 := Heap.SameBut.update s.heap a (Obj.putSet en t2)
  cases c : (!wd && t2.tooFull) with
  | false =>
    simp only [Bool.false_eq_true, if_false]
    exact wpAny_pure (q _ b1 ⟨_, en, _, t2, o1, hex, rfl, pN, small, f2, r2, l2⟩)
  | true =>
    simp only [if_true]
    have pR := fixS pN (relayAll_perm t2 en (SetTable.grown en.size))
    have fR := relayAll_fits t2 en (SetTable.grown en.size)
    have rR := relayAll_ris t2 en (SetTable.grown en.size)
    have lR := relayAll_led t2 en (SetTable.grown en.size)
    generalize relayAll t2 en (SetTable.grown en.size) = Z at pR fR rR lR ⊢
    obtain ⟨e3, t3, gv3⟩ := Z
    dsimp only at pR fR rR lR ⊢
    have small3 : e3.size < scanBound := by rw [sizeS pR]; exact few
    refine wpAny_bind (hg _ _ _ (wpAny_bind (wpAny_storeSet_of o1 rfl ?_ (fits_of_scanBound small3))))
    exact wpAny_pure (q _ (b1.trans (Heap.SameBut.update _ a _)) ⟨_, e3, _, t3, putS (es' := e3) (t' := t3) o1 rfl, hex, rfl, pR, small3, fR, rR, l2.imp id fun h => lR.trans h⟩)
theorem addHashS {x : Str} {k : Tok} {Q : Bool → Shared → Prop} (R : SetS w s.heap a L) (few : L.length + 1 < scanBound)
    (q : ∀ (b : Bool) (h' : Heap), Heap.SameBut a s.heap h' → SetS w h' a (if x ∈ L then L else x :: L) → Q b { s with heap := h' }) : wpAny (model P w) A (setAddHashed a (.str x k) (hashStr w x)) Q E s := by
  have keep := R
  obtain ⟨o, es, ep, t, ho, hex, hd, hp, hb, hf, hr, hl⟩ := R
  have els : ElemsOf (PySem.strKind P w) es.toList := rowsS_els hp.1
  unfold setAddHashed
  refine wpAny_holding ?_
  show wpAny _ _ (setAddHashedIn a (.str x k) (hashStr w x) (99999 + 1)) _ _ _
  unfold setAddHashedIn
  refine wpAny_bind (wpAny_setState_of ho hd hf ?_)
  dsimp only
  rw [byScan_of (knd := PySem.strKind P w) rfl hb els, if_pos rfl]
  unfold setAddByScan
  refine wpAny_bind (wpAny_bind (wpAny_rule (wpAny_bind (wpAny_setScan_of (knd := PySem.strKind P w) (k := x) (strKind_is _ _ _ _) ho hd hf els ?_))))
  rcases findS (P := P) hp x with ⟨mem, j, e⟩ | ⟨out, e⟩
  · rw [e]
    rw [if_pos mem] at q
    exact wpAny_pure (wpAny_pure (q false s.heap (Heap.SameBut.refl a s.heap) keep))
  rw [e]
  rw [if_neg out] at q
  dsimp only
  have pN := newS hp out (layNew_perm t es (hashStr w x) (.str x k))
  have fN := layNew_fits t es (hashStr w x) (.str x k)
  have rN := layNew_ris t es (hashStr w x) (.str x k) hr
  have lN := layNew_led t es (hashStr w x) (.str x k)
  generalize layNew t es (hashStr w x) (.str x k) = Z at pN fN rN lN ⊢
  obtain ⟨en, tn, wd, gv⟩ := Z
  dsimp only at pN fN rN lN ⊢
  have few2 : (x :: L).length < scanBound := few
  have lN2 : w.params.followText "set-order" = true ∨ tn.led = true := hl.imp id fun h => lN.trans h
  have sc : (Value.str x k).scannable = true := rfl
  refine wpAny_bind (gaveS gv ?_)
  split
  · refine wpAny_bind ?_
    rw [hashByValue_scannable 8 sc]
    refine wpAny_pure ?_
    refine tailS (fun b s1 Q' h => gaveS b h) ho hex hd pN few2 ?_ ?_ ?_ fun h' sb r => wpAny_pure (q true h' sb r)
    · split
      · exact fN
      · exact SetTable.fits_plain_off fN
    · split <;> exact rN
    · split <;> exact lN2
  · refine wpAny_bind (wpAny_pure ?_)
    simp only [↓reduceIte]
    exact tailS (fun b s1 Q' h => gaveS b h) ho hex hd pN few2 fN rN lN2 fun h' sb r => wpAny_pure (q true h' sb r)
end
end Nv
set_option maxHeartbeats 4000000
namespace Nv
open PySem PySem.Spec PyProof.Rows L2
/-! # sorted of a set of texts; its own thing in the purse of objects -/
theorem strs_txt {w : World} : ∀ {es : List (Int × Value)}, (∀ e ∈ es, RowS w e) → StrsAre (es.map (·.2)) (es.map fun e => txt e.2)
  | [], _ => .nil
  | e :: es, g => by
    obtain ⟨x, k, h⟩ := g e List.mem_cons_self
    subst h
    exact .cons x k (strs_txt fun e he => g e (List.mem_cons_of_mem _ he))
theorem strs_perm : ∀ {vs us : List Value}, vs.Perm us → ∀ {zs : List Str}, StrsAre us zs → ∃ ys, StrsAre vs ys ∧ ys.Perm zs := fun {vs us} h => by
  induction h with
  | nil =>
    intro zs r
    exact ⟨zs, r, .refl _⟩
  | cons v p ih =>
    intro zs r
    cases r with
    | cons x k r =>
      obtain ⟨ys, h1, h2⟩ := ih r
      exact ⟨x :: ys, .cons x k h1, h2.cons x⟩
  | swap v u l =>
    intro zs r
    cases r with
    | cons x k r =>
      cases r with
      | cons y j r => exact ⟨y :: x :: _, .cons y j (.cons x k r), .swap x y _⟩
  | trans p1 p2 i1 i2 =>
    intro zs r
    obtain ⟨ys, h1, h2⟩ := i2 r
    obtain ⟨xs, h3, h4⟩ := i1 h1
    exact ⟨xs, h3, h4.trans h2⟩
theorem vals_strs : ∀ {us : List Value} {zs : List Str}, StrsAre us zs → Vals (zs.map V.str) us
  | _, _, .nil => .nil
  | _, _, .cons x k r => .cons ⟨k, rfl⟩ (vals_strs r)
section
variable {P : Program} {w : World} {A : Around} {E : Value → Shared → Prop} {s : Shared} {a : Addr} {L : List Str}
theorem sortedSet {Q : Value → Shared → Prop} (R : SetS w s.heap a L) (hh : A.handled = none)
    (q : ∀ s' p (out : Array Value) (c : Nat) (zs : List Str), (∀ b o, s.heap.get? b = some o → s'.heap.get? b = some o) → s'.gens = s.gens → s'.os = s.os → s.heap.objs.size ≤ p → s'.heap.get? p = some (seqObj "list" out c) →
      StrsAre out.toList zs → sortedS zs = true → zs.Perm L → Q (.ref p) s') : wpAny (model P w) A (call (.builtin "sorted") [.ref a]) Q E s := by
  obtain ⟨o, es, ep, t, ho, hex, hd, hp, hb, hf, hr, hl⟩ := R
  refine Calls.call_function_entry kind_sorted plain_sorted entry_sorted (args_sorted1 _) ?_
  unfold Builtin.«sorted»
  refine wpAny_bind (m := checkCount "sorted" 1 1 _) (wpAny_pure (wpAny_bind (collect_set (A := A.in1) hh ⟨o, ho, hex.1, hd⟩ hf hb hr hl fun s1 vs k1 z1 g1 o1 pm => ?_)))
  obtain ⟨ys, sv, py⟩ := strs_perm pm (strs_txt hp.1)
  have few : vs.length ≤ sizeLine := by
    rw [pm.length_eq, List.length_map, Array.length_toList]
    exact fits_of_scanBound hb
  refine wpAny_bind (wpAny_newList ?_ few)
  have lay : (s1.heap.push (seqObj "list" vs.toArray 0)).get? s1.heap.objs.size = some (seqObj "list" vs.toArray 0) := Heap.get?_push_size _ rfl
  refine wpAny_bind (wpAny_holding (wpAny_call_entry slot_list_sort ⟨_, lay, rfl⟩ entry_list_sort (list_sort_treeKAny strKind_oneLt lay sv.keysOf (fun v1 v2 rest e => keyKind_strs (by rw [← e]; exact sv)) few fun st' p1 up => ⟨_, rfl, ?_⟩) (args_list_sort _)))
  obtain ⟨zs, h1, h2, h3⟩ := sorted_out_str sv p1 up
  obtain ⟨c, at'⟩ := sortedHeap_at (vs := vs) (out := (arrOf st').map (·.2)) lay
  refine wpAny_pure ⟨_, rfl, q _ s1.heap.objs.size _ c zs (fun b u e => ?_) g1 o1 z1 at' h1 h3 ((h2.trans py).trans hp.2.1)⟩
  have e1 := k1 b u e
  have lt := Heap.lt_size e1
  refine Eq.trans (sortedHeap_old (Nat.ne_of_lt lt) ?_) (Heap.get?_push_of_some _ e1)
  rw [size_push']
  exact Nat.lt_succ_of_lt lt
/-! ## the tracked thing -/
/-- the set of texts at a -/
def SetSO (w : World) (a : Addr) (L : List Str) : HO := .ext fun h => SetS w h a L
theorem setSO_is {H : Hp} {h : Heap} (R : SetS w h a L) : ObjOk P w H h a (SetSO w a L) := ⟨R, (by obtain ⟨o, _, _, _, ho, _⟩ := R; exact ⟨o, ho⟩), fun h1 h2 p k => SetS.move p k⟩
theorem setS_new {h : Heap} (b : Bool) (hb : w.params.followText "set-order" = true ∨ b = true) : SetS w (h.push { cls := .type "set", dict := none, data := .set #[] 0 (.fresh 0 0 b) }) h.objs.size [] :=
  ⟨_, #[], 0, .fresh 0 0 b, Heap.get?_push_size _ rfl, ⟨rfl, rfl, rfl⟩, rfl, ⟨fun e he => (by simp at he), List.Perm.refl _, List.nodup_nil⟩, by decide, rfl, List.Pairwise.nil, hb⟩
end
section
variable {X : Cx}
theorem setSO_at {pins : List (Addr × Obj)} {σ : L2.St} {H : Hp} {s : Shared} {a : Addr} {L : List Str} (I : Inv X pins σ H s) (ha : H a = some (SetSO X.w a L)) : SetS X.w s.heap a L := (I.hok a _ ha).1
/-- s.add(text) -/
theorem addSO {pins : List (Addr × Obj)} {σ : L2.St} {H : Hp} {s : Shared} {E : Value → Shared → Prop} {a : Addr} {L : List Str} {x : Str} {k : Tok} {Q : Value → Shared → Prop} (I : Inv X pins σ H s) (ha : H a = some (SetSO X.w a L)) (few : L.length + 1 < scanBound)
    (q : ∀ s', Inv X pins σ (upd H a (SetSO X.w a (if x ∈ L then L else x :: L))) s' → Q .none s') : wpAny (model X.prog X.w) X.A (call (.builtin "set.add") [.ref a, .str x k]) Q E s := by
  have R := setSO_at I ha
  have ty : s.TypeIs (.ref a) "set" := by
    obtain ⟨o, _, _, _, ho, hex, _⟩ := R
    exact ⟨o, ho, hex.1⟩
  refine wpAny_call_entry F.slot_set_add ty F.entry_set_add ?_ (F.args_set_add_2 _ _)
  unfold Builtin.«set.add» Builtin.Frozenset.oneOther
  simp only [List.isEmpty_nil, bind_assoc]
  unfold Builtin.Frozenset.addrOf setAdd
  refine wpAny_bind (wpAny_pure ?_)
  try dsimp only
  refine wpAny_bind (wpAny_pure ?_)
  try dsimp only
  refine wpAny_bind (wpAny_holding (wpAny_bind ((PySem.strKind X.prog X.w).pyHash (k := x) (strKind_is _ _ _ _) (addHashS (s := { s with toks := s.toks + 1 }) R few fun b h' sb R2 => ?_))))
  have there : ∃ u, h'.get? a = some u := by
    obtain ⟨o, _, _, _, ho, _⟩ := R2
    exact ⟨o, ho⟩
  exact wpAny_pure ⟨_, rfl, q _ (I.write (e := a) (t' := s.toks + 1) (by rw [ha]; trivial) (.inl rfl) (fun c u hc hu => (sb.2 c hc).trans hu) there (setSO_is R2))⟩
end
end Nv
set_option maxHeartbeats 4000000
namespace Nv
open PySem PySem.Spec PyProof.Rows L2
/-! # {text for target in iter if ..} -/
section
variable {X : Cx}
/-- D is the new set; W: what holds at each turn; m falls -/
def tSs (w : World) (wi : TI) (g : TG) (tt : TT) (te : TE) (vs : List Nat) : TE := fun σ H Q => wi σ H fun J H1 => ∀ D, H1 D = none →
  ∃ W : Nat → Nat → Hp → Prop, (∃ m, W 0 m (upd H1 D (SetSO w D []))) ∧
    ∀ i m H, W i m H → (J.stop i H ∧ Q (.ref D) H) ∨
      (J.go i H ∧ ∃ Nx : Hp → Prop, (∀ H', Nx H' → ∃ m', m' < m ∧ W (i + 1) m' H') ∧
        ∀ x H', J.yld i H x H' → g x (wipe σ vs) H' fun σ2 H2 => wipe σ2 vs = wipe σ vs ∧ tt σ2 H2 fun b H3 =>
          if b = true then te σ2 H3 fun y H4 => ∃ (c : Str) (L : List Str), y = .str c ∧ H4 D = some (SetSO w D L) ∧ L.length + 1 < scanBound ∧ Nx (upd H4 D (SetSO w D (if c ∈ L then L else c :: L)))
          else Nx H3)
theorem pe_ss {elt tg iter : Expr} {ifs : List Expr} {scope : Scope} {own : List (Str × Nat)} {pos : Pos} {wi : TI} {g : TG} {tt : TT} {te : TE} (calm : X.calm = true) (nd : X.N.Nodup) (pI : PI X tg iter wi) (ok : BlkOk X.N X.env.scope scope own)
    (pG : ∀ (s : Shared) (H : Hp) (C : Addr) (cl : List (Str × Addr)) (fp : List Addr), PG (X.blk s H scope (compEnvC scope cl C X.env) fp) tg g)
    (pT : ∀ (s : Shared) (H : Hp) (C : Addr) (cl : List (Str × Addr)) (fp : List Addr), PTs (X.blk s H scope (compEnvC scope cl C X.env) fp) ifs tt)
    (pE : ∀ (s : Shared) (H : Hp) (C : Addr) (cl : List (Str × Addr)) (fp : List Addr), PE (X.blk s H scope (compEnvC scope cl C X.env) fp) elt te)
    (fd : ∀ x, foldedSetIterable iter X.env x = pure x := by intro _; rfl) : PE X (.SetComp elt [⟨tg, iter, ifs, 0⟩] scope pos) (tSs X.w wi g tt te (own.map (·.2))) := by
  refine ⟨fun pins s σ H Q I want => ?_⟩
  have cells : ∀ y ∈ scope.names, y.2 = .free → ∃ c, X.env.cells.lookup y.1 = some c := fun y hy e => I.ok.has _ (ok.free y hy e)
  rw [PpSet.eval_SetComp]
  refine wpAny_comprehension_free (use := none) rfl fd (closure_ok cells) ok.kind (fun y hy e => by rw [ok.uniq y hy, e]) (thn (pI.run pins s σ H _ I want) fun xv s1 hx => thn hx fun itv s2 got => ?_)
  obtain ⟨it, fp, tn, J, H2, rfl, I2, T, st2, out2, more⟩ := got
  refine PpSet.newSet_ok (newEnv_comp ?_)
  have fresh : H2 s2.heap.objs.size = none := I2.hok.fresh (Nat.le_refl _)
  obtain ⟨W, ⟨m0, w0⟩, turn⟩ := more s2.heap.objs.size fresh
  generalize eD : s2.heap.objs.size = D at fresh w0 turn ⊢
  -- s3: the set is there, empty
  generalize e3 : ({ s2 with heap := s2.heap.push { cls := .type "set", dict := none, data := .set #[] 0 (.fresh 0 0 (!X.w.params.followText "set-order")) } } : Shared) = s3
  have ext3 : ∀ b o, s2.heap.get? b = some o → s3.heap.get? b = some o := fun b o e => by
    rw [← e3]
    exact Heap.get?_push_of_some _ e
  have long3 : s2.heap.objs.size < s3.heap.objs.size := by
    rw [← e3]
    show _ < (s2.heap.push _).objs.size
    rw [Heap.size_push]
    exact Nat.lt_succ_self _
  generalize eH : upd H2 D (SetSO X.w D []) = H3 at w0
  have I3 : Inv X pins σ H3 s3 := by
    rw [← e3, ← eH]
    refine I2.laid (t' := s2.toks) (fun b o e => Heap.get?_push_of_some _ e) (Nat.le_of_eq eD) (setSO_is ?_)
    rw [← eD]
    exact setS_new _ (by cases X.w.params.followText "set-order" <;> simp)
  have below : ∀ b ∈ fp, b < s2.heap.objs.size := fun b hb => (T.obj _ _ st2 b hb).elim fun o h => Heap.lt_size h.1
  have out3 : ∀ b ∈ fp, FpOk X pins H3 b ∧ b < s3.heap.objs.size := fun b hb => by
    refine ⟨⟨?_, (out2 b hb).2⟩, Nat.lt_trans (below b hb) long3⟩
    rw [← eH, upd_ne (Nat.ne_of_lt (eD ▸ below b hb))]
    exact (out2 b hb).1
  have dark : ∀ b ∈ fp, H3 b = none := fun b hb => (out3 b hb).1.1
  have st3 : tn 0 s3.heap := T.keep _ _ _ st2 fun b _ o e => ext3 b o e
  have I4 := block_start I3 ok nd out3
  have gG := pG s3 H3 s3.heap.objs.size (cellsFrom (s3.heap.objs.size + 1) scope.names (cloFrom X.env.cells scope.names [])) fp
  have gT := pT s3 H3 s3.heap.objs.size (cellsFrom (s3.heap.objs.size + 1) scope.names (cloFrom X.env.cells scope.names [])) fp
  have gE := pE s3 H3 s3.heap.objs.size (cellsFrom (s3.heap.objs.size + 1) scope.names (cloFrom X.env.cells scope.names [])) fp
  show codeAny _ _ (.compStart (.SetComp elt [⟨tg, iter, ifs, 0⟩] scope pos) 0 (.ref it) (.ref D) (compEnvC scope (cellsFrom (s3.heap.objs.size + 1) scope.names (cloFrom X.env.cells scope.names [])) s3.heap.objs.size X.env)) (compPost (model X.prog X.w) X.A X.xe none _ (.ref D) s3.heap.objs.size) { s3 with heap := pushCells (s3.heap.push { cls := .type "dict", data := .dict #[] }) scope.names }
  generalize eC : compEnvC scope (cellsFrom (s3.heap.objs.size + 1) scope.names (cloFrom X.env.cells scope.names [])) s3.heap.objs.size X.env = ce at I4 gG gT gE ⊢
  have place : ce.locals = s3.heap.objs.size := by rw [← eC] <;> rfl
  generalize e4 : ({ s3 with heap := pushCells (s3.heap.push { cls := .type "dict", data := .dict #[] }) scope.names } : Shared) = s4 at I4 ⊢
  have st4 : tn 0 s4.heap := T.keep _ _ _ st3 fun b _ o e => by
    rw [← e4]
    exact pushCells_keeps _ _ _ _ (Heap.get?_push_of_some _ e)
  have fpo : ∀ {σ' : L2.St} {H' : Hp} {s' : Shared}, Inv (X.blk s3 H3 scope ce fp) [] σ' H' s' → (∀ b ∈ fp, H' b = none) → ∀ b ∈ fp, FpOk (X.blk s3 H3 scope ce fp) [] H' b := fun {σ' H' s'} J' n' b hb =>
    ⟨n' b hb, (J'.ok.exf b hb).1, J'.ok.exfs b hb, .inl hb, fun x c e => (J'.ok.exf b hb).2 x c e, fun p hp => absurd (show p ∈ ([] : List (Addr × Obj)) ++ [] from hp) (by simp)⟩
  refine PpSet.codeAny_compStart_set ?loop (T.self X.A 0 _ _ _ st4 ?loop)
  case loop =>
    refine PpSet.compLoopS_any (fun m s' => ∃ i H', W i m H' ∧ (∀ b ∈ fp, H' b = none) ∧ tn i s'.heap ∧ Inv (X.blk s3 H3 scope ce fp) [] (wipe σ (own.map (·.2))) H' s') ?_ m0 ⟨0, H3, w0, dark, st4, I4⟩
    intro m s5 hyp
    obtain ⟨i, H5, w5, n5, st5, I5⟩ := hyp
    rcases turn i m H5 w5 with ⟨stop, fin⟩ | ⟨go, Nx, onward, step⟩
    · refine thnF (T.done (X.blk s3 H3 scope ce fp) rfl rfl rfl calm i [] s5 _ H5 (fun _ _ => False) I5 (fpo I5 n5) st5 stop) fun r s6 ⟨er, I6⟩ => ?_
      subst er
      have I7 : Inv X pins σ H5 s6 := I3.call' (ch := fp) I6.os I6.base I6.hok I6.bare fun b hb => ⟨(out3 b hb).1.2.2.2.1, (out3 b hb).1.2.1, (out3 b hb).1.2.2.2.2.1, (out3 b hb).1.2.2.2.2.2⟩
      have nC : H5 s3.heap.objs.size = none := place ▸ (show H5 ce.locals = none from I6.free)
      obtain ⟨k, hk, _⟩ := I6.loc
      have hk : s6.heap.Ns s3.heap.objs.size k := place ▸ (show s6.heap.Ns ce.locals k from hk)
      have far := I3.fpOk (Nat.le_refl _) nC
      refine ⟨k, hk, fun h2 sb => ?_⟩
      obtain ⟨f0, f1, f2, f3, f4, f5⟩ := far
      exact ⟨.ref D, H5, I7.turned (t' := s6.toks) (fun b o hb e => (sb.2 b hb).trans e) f0 f1 f3 f4 f5, rfl, fin⟩
    refine thnF (T.item (X.blk s3 H3 scope ce fp) rfl rfl rfl calm i [] s5 _ H5 (fun _ _ => False) I5 (fpo I5 n5) st5 go) fun r s6 ⟨u, er, h6⟩ => ?_
    subst er
    refine thnF h6 fun _ s7 ⟨x, H7, I7, r7, y7, st7, n7⟩ => ?_
    refine thnF (gG.run _ s7 _ H7 x u _ (I7.pinned (fpo I7 n7) (T.obj _ _ st7)) r7 (step x H7 y7)) fun _ s8 ⟨σ8, H8, I8, w8, q8⟩ => ?_
    refine thnF (gT.run _ s8 σ8 H8 _ I8 q8) fun b s9 ⟨H9, I9, q9⟩ => ?_
    have over : ∀ {s' : Shared} {H' : Hp}, Nx H' → Inv (X.blk s3 H3 scope ce fp) ([] ++ pinsAt fp s7.heap) σ8 H' s' →
        ∃ m', m' < m ∧ ∃ i H', W i m' H' ∧ (∀ b ∈ fp, H' b = none) ∧ tn i s'.heap ∧ Inv (X.blk s3 H3 scope ce fp) [] (wipe σ (own.map (·.2))) H' s' := fun {s' H'} nx J' => by
      obtain ⟨m', lt, w'⟩ := onward H' nx
      have kept : ∀ b ∈ fp, ∀ o, s7.heap.get? b = some o → s'.heap.get? b = some o ∧ H' b = none := fun b hb o e => by
        have z := J'.pin (b, o) (List.mem_append_right _ (List.mem_append_right _ (mem_pinsAt hb e)))
        exact ⟨z.1, z.2.1⟩
      refine ⟨m', lt, i + 1, H', w', fun b hb => (T.obj _ _ st7 b hb).elim fun o h => (kept b hb o h.1).2, T.keep _ _ _ st7 fun b hb o e => (kept b hb o e).1, (J'.unpinned (pins := [])).weak (by rw [← w8, wipe_length]) fun j v e => ?_⟩
      rw [← w8] at e
      exact (wipe_some e).1
    cases b
    · simp only [Bool.false_eq_true, if_false] at q9 ⊢
      exact over q9 I9
    · simp only [if_true] at q9 ⊢
      refine thnF (gE.run _ s9 σ8 H9 _ I9 q9) fun z s10 ⟨y, H10, I10, r10, c, L, ey, eL, few, nx⟩ => ?_
      subst ey
      obtain ⟨k, rfl⟩ := (show ∃ k, z = Value.str c k from r10)
      exact addSO (X := X.blk s3 H3 scope ce fp) I10 eL few fun s11 I11 => over nx I11
end
end Nv
set_option maxHeartbeats 4000000
namespace Nv
open PySem PySem.Spec PyProof.Rows L2
/-! # sorted of a set of texts as a call; the walk over a list; names_among -/
def rSortS (w : World) : List V → Hp → VK → Prop := fun vs H Q => ∃ (a : Addr) (L : List Str), vs = [V.ref a] ∧ H a = some (SetSO w a L) ∧ L.length ≤ 60 ∧
  ∀ (p : Addr) (zs : List Str), H p = none → zs.Perm L → L.Nodup → sortedS zs = true → Q (.ref p) (upd H p (.lst (zs.map V.str)))
theorem cr_sortS {X : Cx} (calm : X.calm = true) : CallR X (.builtin "sorted") (rSortS X.w) := by
  intro pins s σ H vs us0 Q I r h
  obtain ⟨a, L, rfl, ha, few, q⟩ := h
  rw [Vals.ref1 r]
  have R := setSO_at I ha
  have nd : L.Nodup := by
    obtain ⟨_, _, _, _, _, _, _, hp, _⟩ := R
    exact hp.2.2
  refine sortedSet R (I.ok.hd calm) fun s' p out c zs kk hg ho hp hl hz up pm => ?_
  have I1 : Inv X pins σ (upd H p (.lst (zs.map V.str))) { s with heap := s'.heap, toks := s.toks } := I.laid (t' := s.toks) kk hp ⟨by rw [List.length_map, pm.length_eq]; exact Nat.le_trans few (by decide), out.toList, c, vals_strs hz, by simpa using hl⟩
  have I2 : Inv X pins σ (upd H p (.lst (zs.map V.str))) s' := I1.call' (ch := []) ho (Un.kept fun _ _ e => e) (I1.hok.kept fun _ _ e => e) (by rw [hg]; exact I1.bare) (fun _ z => nomatch z)
  exact ⟨.ref p, _, I2, rfl, q p zs (I.hok.fresh hp) pm nd up⟩
/-- the walk over a list that the turns leave as it is -/
theorem ss_list {w : World} {K : PySem.W.Frag} {a : Addr} {xs : List V} {g : TG} {tt : TT} {te : TE} {vs : List Nat} {σ : L2.St} {H1 : Hp} {D : Addr} {Qd : Hp → Prop} (St : Nat → Hp → Prop) (start : St 0 (upd H1 D (SetSO w D []))) (same : ∀ i H, i ≤ xs.length → St i H → SqL K H a xs)
    (turn : ∀ i x H, xs[i]? = some x → St i H → g x (wipe σ vs) H fun σ2 H2 => wipe σ2 vs = wipe σ vs ∧ tt σ2 H2 fun b H3 =>
      if b = true then te σ2 H3 fun y H4 => ∃ (c : Str) (L : List Str), y = .str c ∧ H4 D = some (SetSO w D L) ∧ L.length + 1 < scanBound ∧ St (i + 1) (upd H4 D (SetSO w D (if c ∈ L then L else c :: L)))
      else St (i + 1) H3) (last : ∀ H, St xs.length H → Qd H) :
    ∃ W : Nat → Nat → Hp → Prop, (∃ m, W 0 m (upd H1 D (SetSO w D []))) ∧
      ∀ i m H, W i m H → ((Itl K a).stop i H ∧ Qd H) ∨
        ((Itl K a).go i H ∧ ∃ Nx : Hp → Prop, (∀ H', Nx H' → ∃ m', m' < m ∧ W (i + 1) m' H') ∧
          ∀ x H', (Itl K a).yld i H x H' → g x (wipe σ vs) H' fun σ2 H2 => wipe σ2 vs = wipe σ vs ∧ tt σ2 H2 fun b H3 =>
            if b = true then te σ2 H3 fun y H4 => ∃ (c : Str) (L : List Str), y = .str c ∧ H4 D = some (SetSO w D L) ∧ L.length + 1 < scanBound ∧ Nx (upd H4 D (SetSO w D (if c ∈ L then L else c :: L)))
            else Nx H3) := by
  refine ⟨fun i m H => i + m = xs.length ∧ St i H, ⟨xs.length, Nat.zero_add _, start⟩, fun i m H ⟨em, st⟩ => ?_⟩
  have le : i ≤ xs.length := by omega
  have lst := same i H le st
  cases m with
  | zero =>
    have e : i = xs.length := em
    exact .inl ⟨⟨xs, lst, Nat.le_of_eq e.symm⟩, last H (e ▸ st)⟩
  | succ m =>
    have lt : i < xs.length := by omega
    have hx : xs[i]? = some xs[i] := List.getElem?_eq_getElem lt
    refine .inr ⟨⟨xs, xs[i], lst, hx⟩, St (i + 1), fun H' h => ⟨m, Nat.lt_succ_self m, by omega, h⟩, fun x H' y => ?_⟩
    obtain ⟨rfl, y⟩ := y
    exact turn i x _ (y xs lst) st
end Nv
set_option maxHeartbeats 4000000
namespace Nv
open PySem PySem.Spec PyProof.Rows L2
/-! # names_among -/
theorem bootSorted : bootBuiltins "sorted" = some (.builtin "sorted") := by decide +kernel
section
variable {P : Program} {w : World} {K : PySem.W.Frag} {mg : Str → Option Value} {base : Heap}
theorem scNamesAmong : FnScope ["terms", "term"] ["terms"] (defScope sNamesAmong) := ⟨rfl, rfl, rfl, by decide +kernel, rfl, by decide +kernel, by decide +kernel⟩
theorem ok_namesAmong {f fN : Addr} {fd dN : FuncData} (F : Fun K "names_among" "names_among" sNamesAmong f fd) (ms : mg "sorted" = none)
    (GN : FnOk P w K mg base CX0 1 fN dN ["value"] (spTxt K fun z => decide (IsNm z))) (kN : PySem.W.keepIn K (.ref fN) = true) (gN : mg "is_name" = some (.ref fN)) (bN : Binds K dN ["value"] []) :
    FnOk P w K mg base CX0 2 f fd ["terms"] (spNamesAmong K) := by
  refine F.ok scNamesAmong (fun vs H Q E h => ?_) (fun cdv A outer s H vs Q E hr h => ?_)
  · obtain ⟨a, ts, rfl, _⟩ := h
    rfl
  · obtain ⟨a, ts, rfl, ha, short, few, q⟩ := h
    have hr1 : Room 1 _ := hr.mono (by decide)
    refine ⟨_, pss_one (ps_ret (pe_callB (cr_sortS rfl) (by rfl) ms bootSorted (pa_cons (by exact (pe_ss (own := [("term", 1)]) (g := gName 1) (te := tVar 1) rfl scNamesAmong.nd (pi_list (pv 0))
      (blkOk_by (own := [("term", 1)]) (N := ["terms", "term"]) (sc := defScope sNamesAmong) (by decide +kernel))
      (fun _ _ _ _ _ => pg_name (i := 1) scNamesAmong.nd rfl (Or.inl rfl))
      (fun _ _ _ _ _ => pts_one (by exact (pt_val (by exact (pe_call GN hr1 (by rfl) gN kN bN .nil pass0 (pa_cons (pv 1) pa_nil))))))
      (fun _ _ _ _ _ => by exact (pv 1)))) pa_nil))), ?_⟩
    refine ⟨_, rfl, a, rfl, ⟨_, ha⟩, fun D nD => ?_⟩
    refine ss_list (K := K) (a := a) (xs := ts.map V.str) (fun i H' => Same H H' ∧ ∃ L : List Str, H' D = some (SetSO w D L) ∧ L.length ≤ i ∧ ∀ z, z ∈ L ↔ z ∈ ts.take i ∧ IsNm z)
      ⟨same_new nD, [], upd_same, Nat.le_refl _, fun z => by simp⟩ (fun i H' _ y => y.1.seq ha) ?_ ?_
    · rintro i x H1 hi ⟨s1, L, e1, l1, m1⟩
      obtain ⟨z, hz, rfl⟩ := at_map hi
      have hi2 : i < ts.length := (List.getElem?_eq_some_iff.mp hz).1
      refine ⟨rfl, _, rfl, ?_⟩
      dsimp only [tNil]
      refine spTxt.yes (short z (List.mem_of_getElem? hz)) fun H2 s2 => ?_
      have e2 := s2 _ _ e1
      have s12 := s1.trans s2
      have tk : ∀ y, y ∈ ts.take (i + 1) ↔ y ∈ ts.take i ∨ y = z := fun y => by rw [take_one hz, List.mem_append, List.mem_singleton]
      refine ⟨_, rfl, ?_⟩
      by_cases nz : IsNm z
      · rw [decide_eq_true nz]
        simp only [if_true]
        refine ⟨_, rfl, z, L, rfl, e2, by unfold scanBound; omega, same_put s12 nD, _, upd_same, ?_, fun y => ?_⟩
        · split
          · omega
          · rw [List.length_cons]
            omega
        · rw [tk]
          by_cases mz : z ∈ L
          · rw [if_pos mz, m1]
            refine ⟨fun h => ⟨.inl h.1, h.2⟩, fun h => ⟨h.1.elim id fun e => e ▸ ((m1 z).mp mz).1, h.2⟩⟩
          · rw [if_neg mz, List.mem_cons, m1]
            refine ⟨fun h => ?_, fun h => ?_⟩
            · rcases h with rfl | h
              · exact ⟨.inr rfl, nz⟩
              · exact ⟨.inl h.1, h.2⟩
            · rcases h.1 with k | k
              · exact .inr ⟨k, h.2⟩
              · exact .inl k
      · rw [decide_eq_false nz]
        simp only [Bool.false_eq_true, if_false]
        refine ⟨s12, L, e2, by omega, fun y => ?_⟩
        rw [tk, m1]
        refine ⟨fun h => ⟨.inl h.1, h.2⟩, fun h => ⟨h.1.elim id fun e => absurd (e ▸ h.2) nz, h.2⟩⟩
    · rintro H1 ⟨s1, L, e1, l1, m1⟩
      rw [List.length_map] at l1 m1
      rw [List.take_length] at m1
      refine ⟨D, L, rfl, e1, by omega, fun p zs np pm nd up => q p _ zs (s1.free np) (s1.trans (same_new np)) upd_same ⟨pm.nodup_iff.mpr nd, up, fun z => by rw [pm.mem_iff, m1]⟩⟩
end
end Nv
set_option maxHeartbeats 4000000
namespace Nv
open PySem PySem.Spec PyProof.Rows L2
/-! # set(xs), xs a list of texts: a set that sorted takes -/
section
variable {prog : Program} {w : World} {A : Around} {R : Result → Shared → Prop} {J : Addr} {fp wr : List Addr} {G : Array GenState → Array GenState → Prop} {n : Nat} {P : Nat → Value → Prop} {St : Nat → Shared → Prop}
/-- a set that can be walked is filled from a walk over texts -/
theorem fillSS (W : WalksS prog w A.in1 J fp wr G n P St) (b : Addr) (hb : b ∉ fp) (zs : List Str) (hn : n = zs.length) (hs : n + 1 < scanBound) (hP : ∀ i v, P i v → ∃ z t, zs[i]? = some z ∧ v = .str z t) :
    ∀ (k i : Nat) (s : Shared) (L : List Str), n - i = k → i ≤ n → St i s → SetS w s.heap b L → L.length ≤ i → (∀ y, y ∈ L ↔ y ∈ zs.take i) →
      (∀ s' L', Moved (b :: wr) G s s' → SetS w s'.heap b L' → L'.length ≤ zs.length → (∀ y, y ∈ L' ↔ y ∈ zs) → R (.ok (.ret .none)) s') →
      codeAny (model prog w) A (.builtin "set.update.loop" ⟨[.ref b, .ref J], []⟩) R s := by
  have hbw : b ∉ wr := fun h => hb (W.sub _ h)
  have more : ∀ c ∈ wr, c ∈ b :: wr := fun c hc => List.mem_cons_of_mem _ hc
  intro k
  induction k with
  | zero =>
    intro i s L hk hi hst hS hl hm hR
    have e : i = n := by omega
    subst e
    refine codeAny_builtin PyProof.Rows.F.entry_set_update_loop ?_
    rw [Around.under_plainId PyProof.Rows.F.plain_set_update_loop _]
    show wpAny _ A.in1 (pyNext (.ref J) >>= _) _ _ s
    refine wpAny_bind (W.done s _ _ hst fun s1 m1 => ?_)
    show wpAny _ A.in1 (ret Value.none) _ _ s1
    rw [hn, List.take_length] at hm
    exact wpAny_pure (hR s1 L (m1.mono more) (hS.move fun o ho => m1.heap b _ hbw ho) (by omega) hm)
  | succ k ih =>
    intro i s L hk hi hst hS hl hm hR
    have lt : i < n := by omega
    refine codeAny_builtin PyProof.Rows.F.entry_set_update_loop ?_
    rw [Around.under_plainId PyProof.Rows.F.plain_set_update_loop _]
    show wpAny _ A.in1 (pyNext (.ref J) >>= _) _ _ s
    refine wpAny_bind (W.item i s _ _ lt hst fun v s1 hPv st1 m1 => ?_)
    obtain ⟨z, t, hz, rfl⟩ := hP i v hPv
    have hS1 : SetS w s1.heap b L := hS.move fun o ho => m1.heap b _ hbw ho
    show wpAny _ A.in1 (holding [Value.str z t] (setAdd b (.str z t)) >>= _) _ _ s1
    refine wpAny_bind (wpAny_holding ?_)
    unfold setAdd
    refine wpAny_holding (wpAny_bind ((PySem.strKind prog w).pyHash (k := z) (strKind_is _ _ _ _) ?_))
    refine addHashS (s := { s1 with toks := s1.toks + 1 }) hS1 (by omega) fun bb h2 sb2 hS2 => ?_
    have else2 : ∀ c, c ≠ b → h2.get? c = s1.heap.get? c := fun c hc => sb2.2 c hc
    have tk : ∀ y, y ∈ zs.take (i + 1) ↔ y ∈ zs.take i ∨ y = z := fun y => by rw [take_one hz, List.mem_append, List.mem_singleton]
    refine wpAny_pure ⟨plainId_quiet PyProof.Rows.F.plain_set_update_loop _, ih (i + 1) _ _ (by omega) lt (W.frame _ s1 _ _ st1 (Nat.le_succ _) fun c hc o e => ?_) hS2 ?_ (fun y => ?_) fun s3 L3 m3 hS4 hl4 hm4 => ?_⟩
    · rw [else2 c fun z => hb (z ▸ hc)]
      exact e
    · split
      · omega
      · rw [List.length_cons]
        omega
    · rw [tk]
      by_cases mz : z ∈ L
      · rw [if_pos mz, hm]
        exact ⟨.inl, fun h => h.elim id fun e => e ▸ (hm z).mp mz⟩
      · rw [if_neg mz, List.mem_cons, hm]
        exact ⟨fun h => h.elim .inr .inl, fun h => h.elim .inr .inl⟩
    · refine hR s3 L3 (Moved.trans W.gtrans ((m1.mono more).then_heap (Nat.le_succ _) fun c o hc e => ?_) m3) hS4 hl4 hm4
      rw [else2 c fun z => hc (by rw [z]; exact List.mem_cons_self)]
      exact e
theorem code_set_newS (a : Value) {Q₁ : Value → Shared → Prop} {s : Shared} {E : Value → Shared → Prop}
    (h : ∀ led : Bool, (w.params.followText "set-order" = true ∨ led = true) → Q₁ (.ref s.heap.objs.size) { s with heap := s.heap.push { cls := .type "set", dict := none, data := .set #[] 0 (.fresh 0 0 led) } }) :
    codeAny (model prog w) A (.call (.builtin "set.__new__") ⟨[.type "set", a], []⟩) (wants Q₁ E) s := by
  refine codeAny_of_tree ?_
  show wpAny _ A.in1 (do checkBuiltinCall "set.__new__" ⟨[.type "set", a], []⟩; again (.builtin "set.__new__" ⟨[.type "set", a], []⟩)) _ _ s
  refine wpAny_bind (wpAny_of_eq (PySem.F.newCall_set_1 a) (wpAny_pure ⟨plainId_quiet PySem.F.plain_set_new _, codeAny_builtin PySem.F.entry_set_new ?_⟩))
  rw [Around.under_plainId PySem.F.plain_set_new _]
  unfold Builtin.«set.__new__» Builtin.Frozenset.newClass
  have hsub := PySem.sub_set_self
  obtain ⟨hp, g, d, tk, os⟩ := s
  dsimp only
  wp_walk
  refine wpAny_askSetting (wpAny_pure ?_)
  dsimp only
  simp only [newObj]
  refine wpAny_bind (wpAny_alloc (wpAny_pure ?_))
  exact wpAny_pure (h _ (by show w.params.followText "set-order" = true ∨ (!w.params.followText "set-order") = true; cases w.params.followText "set-order" <;> simp))
end
end Nv
set_option maxHeartbeats 4000000
namespace Nv
open PySem PySem.Spec PyProof.Rows L2
section
variable {prog : Program} {w : World} {A : Around} {E : Value → Shared → Prop} {s : Shared}
abbrev FilledS (w : World) (zs : List Str) (b : Addr) (h0 h1 : Heap) : Prop :=
  ∃ L : List Str, SetS w h1 b L ∧ L.length ≤ zs.length ∧ (∀ y, y ∈ L ↔ y ∈ zs) ∧ ∀ c o, c < b → h0.get? c = some o → h1.get? c = some o
/-- set(xs), xs a list of texts -/
theorem set_of_strsS {l : Addr} {its : Array Value} {zs : List Str} {Q : Value → Shared → Prop} (calm : A.handled = none) (hl : s.heap.IsList l its) (hz : StrsAre its.toList zs) (few : zs.length + 1 < scanBound)
    (hq : ∀ (h1 : Heap) (tk : Nat), FilledS w zs s.heap.objs.size s.heap h1 → Q (.ref s.heap.objs.size) { s with heap := h1, toks := tk }) : wpAny (model prog w) A (call (.type "set") [.ref l]) Q E s := by
  obtain ⟨c, tl, m0⟩ := PySem.F.called_set.mro
  have m1 := PySem.F.called_set.made; have m2 := PySem.F.called_set.sub; have m3 := PySem.F.called_set.notType; have m4 := PySem.F.called_set.canCreate
  have m5 := PySem.F.typeCall_set_1 (.ref l)
  have size : its.size = zs.length := by rw [← Array.length_toList]; exact hz.len_eq
  refine wpAny_call (codeAny_of_tree (show wpAny _ _ (callAny (.type "set") _) _ _ _ from wpAny_pure ⟨Code.quiet_builtin _ (by decide +kernel), codeAny_builtin PySem.F.entry_type_call ?_⟩))
  rw [Around.under_plain (weight_type_call_type "set" [.ref l] []) rfl]
  repeat (any_goals (first | assumption | wp_step))
  refine codeAny_mono (code_set_newS (.ref l) (E := E) (Q₁ := fun v s1 => ∃ led : Bool, (w.params.followText "set-order" = true ∨ led = true) ∧ v = .ref s.heap.objs.size ∧ s1 = { s with heap := s.heap.push (freshSet led) }) fun led hb => ⟨led, hb, rfl, rfl⟩) fun r s1 hr => ?_
  rcases r with e | fl
  · exact hr
  cases fl with
  | ret v =>
    obtain ⟨led, hled, rfl, rfl⟩ := hr
    have at0 : (s.heap.push (freshSet led)).get? s.heap.objs.size = some (freshSet led) := Heap.get?_push_size _ rfl
    have ty : Shared.TypeIs { s with heap := s.heap.push (freshSet led) } (.ref s.heap.objs.size) "set" := ⟨_, at0, rfl⟩
    have i1 := PySem.F.called_set.init.lookup; have i2 := PySem.F.called_set.init.bind (.ref s.heap.objs.size)
    repeat (any_goals (first | assumption | wp_step))
    refine codeAny_mono (codeAny_call_builtin (R := wants (fun v s2 => v = .none ∧ ∃ h1 tk, s2 = { s with heap := h1, toks := tk } ∧ FilledS w zs s.heap.objs.size s.heap h1) E) PySem.F.called_set.init.plain PySem.F.entry_set_init (check_set_init_1 ty ?_)) fun r2 s2 hr2 => ?_
    · obtain ⟨⟨oc, od, odt, osl⟩, ho, e1, nl, e2⟩ := hl
      simp only at e1 e2; subst e1; subst e2
      have ho1 : (s.heap.push (freshSet led)).get? l = some { cls := .type "list", dict := od, data := .seq its nl, slots := osl } := Heap.get?_push_of_some _ ho
      have f1 := PySem.F.sub_list_set; have f2 := PySem.F.sub_list_frozenset; have f3 : (Value.type "list" == Value.type "dict") = false := by decide
      have lst : (s.heap.push (freshSet led)).IsList l its := ⟨_, ho1, rfl, nl, rfl⟩
      have lt : l < s.heap.objs.size := Heap.lt_size ho
      unfold Builtin.«set.__init__» noKeywords Builtin.Frozenset.updateFrom; generalize hI : pyIter = PI
      wp_walk; subst hI
      refine wpAny_pyIter_list lst (wpAny_bind (wpAny_runValue ?_))
      have n1 : l ≠ (s.heap.push (freshSet led)).objs.size := by rw [Heap.size_push]; exact Nat.ne_of_lt (Nat.lt_succ_of_lt lt)
      have n2 : s.heap.objs.size ∉ [(s.heap.push (freshSet led)).objs.size, l] := by
        rw [Heap.size_push]; simp only [List.mem_cons, List.not_mem_nil, or_false, not_or]; exact ⟨Nat.ne_of_lt (Nat.lt_succ_self _), Nat.ne_of_gt lt⟩
      refine fillSS ((Walks.list (by simp [calm]) _ l n1 its).toS) s.heap.objs.size n2 zs size (by omega) (fun i v hv => ?_) (its.size - 0) 0 _ [] (by omega) (Nat.zero_le _) ⟨⟨_, Heap.get?_push_size _ rfl, rfl, rfl⟩, lst.push _⟩ ?_ (Nat.zero_le _) (fun y => by rw [List.take_zero]) ?_
      · exact str_at hz (j := i) (by rw [Array.getElem?_toList]; exact hv)
      · exact (setS_new led hled).move fun o ho => Heap.get?_push_of_some _ ho
      · intro s3 L m hS hSl hSm
        obtain ⟨h3, g3, d3, t3, o3⟩ := s3
        have eg : g3 = s.gens := m.gens; have ed : d3 = s.drawn := m.drawn; have eo : o3 = s.os := m.os
        subst eg; subst ed; subst eo
        refine show wpAny _ _ _ _ _ _ from wpAny_pure (show wpAny _ _ (ret Value.none) _ _ _ from wpAny_pure ⟨rfl, h3, t3, rfl, L, hS, hSl, hSm, fun c o hc e => ?_⟩)
        refine m.heap c o ?_ (Heap.get?_push_of_some _ (Heap.get?_push_of_some _ e))
        rw [Heap.size_push]; simp only [List.mem_cons, List.not_mem_nil, or_false, not_or]; exact ⟨Nat.ne_of_lt hc, Nat.ne_of_lt (Nat.lt_succ_of_lt hc)⟩
    · rcases r2 with e | fl2
      · exact hr2
      cases fl2 with
      | ret v2 =>
        obtain ⟨rfl, h1, tk, rfl, hF⟩ := hr2
        repeat (any_goals (first | assumption | wp_step))
        exact hq _ _ hF
      | _ => exact hr2.elim
  | _ => exact hr.elim
end
section
variable {X : Cx}
theorem strs_of : ∀ {ys : List Str} {us : List Value}, Vals (ys.map V.str) us → StrsAre us ys := by
  intro ys
  induction ys with
  | nil =>
    intro us r
    cases r
    exact .nil
  | cons y ys ih =>
    intro us r
    cases r with
    | cons r t =>
      obtain ⟨k, rfl⟩ := r
      exact .cons y k (ih t)
def rSetOf (K : PySem.W.Frag) (w : World) : List V → Hp → VK → Prop := fun xs H Q => ∃ (a : Addr) (zs : List Str), xs = [.ref a] ∧ SqL K H a (zs.map V.str) ∧ zs.length ≤ 4000 ∧ ∀ (p : Addr) (L : List Str), H p = none → L.length ≤ zs.length → (∀ y, y ∈ L ↔ y ∈ zs) → Q (.ref p) (upd H p (SetSO w p L))
theorem call_setS (calm : X.calm = true) : CallR X (.type "set") (rSetOf X.K X.w) := by
  intro pins s σ H xs us Q I r h
  obtain ⟨a, zs, rfl, hl, few, q⟩ := h
  obtain ⟨u, rfl, rx⟩ := vals1 r
  cases rx
  obtain ⟨its, rv, pl, _⟩ := I.list hl
  refine set_of_strsS (zs := zs) (I.ok.hd calm) pl.isList (by simpa using strs_of rv) (by unfold scanBound; omega) fun h1 tk hF => ?_
  obtain ⟨L, hS, hSl, hSm, kept⟩ := hF
  exact ⟨.ref s.heap.objs.size, _, I.laid (t' := tk) (fun b o e => kept b o (Heap.lt_size e) e) (Nat.le_refl _) (setSO_is hS), rfl, q _ L (I.hok.fresh (Nat.le_refl _)) hSl hSm⟩
end
end Nv
set_option maxHeartbeats 4000000
namespace Nv
open PySem PySem.Spec PyProof.Rows L2
/-! # _law_filled -/
theorem fill_cons {sb : Str → Str} {w : Str} {ts : List Str} : fillT sb (w :: ts) = w :: ts.map sb := rfl
section
variable {P : Program} {w : World} {K : PySem.W.Frag} {mg : Str → Option Value} {base : Heap}
def spLFilled (K : PySem.W.Frag) : Sp := fun vs H Q _ => ∃ (t b : Addr) (p : List Str) (sb : Str → Str), vs = [.ref t, .ref b] ∧ Tu H t p ∧ 1 ≤ p.length ∧ p.length ≤ 4 ∧ SubAt H b sb ∧
  ∀ (r : Addr) (H' : Hp), H r = none → Same H H' → H' r = some (.tup ((fillT sb p).map V.str)) → Q (.ref r) H'
abbrev nLFilled : List Str := ["_law_pattern_here", "_law_match", "_law_term"]
theorem scLFilled : FnScope nLFilled ["_law_pattern_here", "_law_match"] (defScope sLFilled) := ⟨rfl, rfl, rfl, by decide +kernel, rfl, by decide +kernel, by decide +kernel⟩
theorem ok_lfilled {f : Addr} {fd : FuncData} (F : Fun K "_law_filled" "_law_filled" sLFilled f fd) (B : Bp mg) : FnOk P w K mg base CX0 1 f fd ["_law_pattern_here", "_law_match"] (spLFilled K) := by
  refine F.ok scLFilled (fun vs H Q E h => ?_) (fun cdv A outer s H vs Q E hr h => ?_)
  · obtain ⟨t, b, p, sb, rfl, _⟩ := h
    rfl
  · obtain ⟨t, b, p, sb, rfl, et, h2, h4, hb, q⟩ := h
    have hu : (A.deeper (envOfC "_law_filled" (defScope sLFilled) s.heap.objs.size f cdv)).units + 1 < cLine := Nat.lt_of_le_of_lt (Nat.add_le_add_left (by decide : 1 ≤ 64) _) hr.units
    refine ⟨_, pss_one (ps_ret (pe_callTy call_tuple_of (by rfl) B.tup PyProof.Rows.boot_tuple (pa_cons (pe_op op_cat (pe_lst (pa_cons (by exact (pe_ix ix_tup (pv 0) pe_int (fun _ _ => rfl))) pa_nil))
      (by exact (pe_lc (own := [("_law_term", 2)]) (g := gName 2) (tt := tYes) (te := tDGet2 (tVar 1) (tVar 2) (tVar 2)) rfl scLFilled.nd (pi_tup (pe_slice sl_tupA (pv 0) (po_some pe_int) po_none))
        (blkOk_by (own := [("_law_term", 2)]) (N := nLFilled) (sc := defScope sLFilled) (by decide +kernel))
        (fun _ _ _ _ _ => pg_name (i := 2) scLFilled.nd rfl (Or.inl rfl)) (fun _ _ _ _ _ => pts_nil)
        (fun _ _ _ _ _ => by exact (pe_dget2 hu (pv 1) (pv 2) (pv 2) ⟨rfl, rfl, rfl, rfl⟩))))) pa_nil))), ?_⟩
    obtain ⟨wd, ts, rfl⟩ : ∃ wd ts, p = wd :: ts := by
      cases p with
      | nil => exact absurd h2 (by decide)
      | cons wd ts => exact ⟨wd, ts, rfl⟩
    rw [List.length_cons] at h4
    refine ⟨_, rfl, _, _, _, V.str wd, rfl, rfl, et.sq, atI_nat (j := 0) rfl, ?_⟩
    refine ⟨by show 1 ≤ _; decide, fun l nl => ?_⟩
    have s1 : Same H (upd H l (.lst [V.str wd])) := same_new nl
    have el : upd H l (.lst [V.str wd]) l = some (.lst [V.str wd]) := upd_same
    generalize upd H l (.lst [V.str wd]) = H1 at s1 el ⊢
    refine ⟨_, rfl, 1, rfl, ?_⟩
    dsimp only [tNoPart]
    refine (et.same s1).rest h2 fun t2 H2 s2 e2 => ?_
    rw [List.drop_one, List.tail_cons] at e2
    have s12 := s1.trans s2
    obtain ⟨kvs, eb, hsub⟩ := hb
    refine ⟨t2, rfl, ⟨_, e2.sq⟩, fun D nD => ?_⟩
    have lD : l ≠ D := ne_of_none (s2 _ _ el) nD
    refine lc_tup (K := K) (a := t2) (xs := ts.map V.str) (fun i H' => Same H2 H' ∧ H' D = some (.lst (((ts.take i).map sb).map V.str))) ⟨same_new nD, upd_same⟩ (fun i H' _ y => (e2.same y.1).sq) ?_ ?_
    · rintro i x H3 hi ⟨s3, e3⟩
      obtain ⟨z, hz, rfl⟩ := at_map hi
      have eb3 := s3 _ _ (s12 _ _ eb)
      refine ⟨rfl, _, rfl, b, rfl, .inl ⟨kvs, .inl eb3⟩, _, rfl, _, rfl, _, DGet.k (k := .inr z) eb3, ?_⟩
      rw [hsub]
      refine ⟨_, e3, ?_, same_put s3 nD, ?_⟩
      · rw [List.length_map, List.length_map, List.length_take]
        exact Nat.lt_of_le_of_lt (by omega : _ ≤ 1000) (by decide)
      · rw [upd_same, take_one hz, List.map_append, List.map_append] <;> rfl
    · rintro H3 ⟨s3, e3⟩
      rw [List.length_map, List.take_length] at e3
      have el3 := s3 _ _ (s2 _ _ el)
      refine ⟨_, _, _, _, rfl, rfl, el3, e3, ?_, fun q1 nq => ?_⟩
      · rw [List.length_map, List.length_map]
        have := big1000
        show 1 + ts.length ≤ _
        omega
      · refine ⟨q1, _, rfl, .inl ⟨SqL.of upd_same, fun q2 nq2 => ?_⟩⟩
        have s4 : Same H (upd H3 q1 (.lst ([V.str wd] ++ (ts.map sb).map V.str))) := (s12.trans s3).trans (same_new nq)
        exact q q2 _ (s4.free nq2) (s4.trans (same_new nq2)) upd_same
end
end Nv
set_option maxHeartbeats 4000000
namespace Nv
open PySem PySem.Spec PyProof.Rows L2
/-! # the names are told by what they stand in; no twins; matches have names -/
theorem rise_pw : ∀ (l : List Str) (p : Str), risingS p l = true → (p :: l).Pairwise (fun a b => a.cps.toList ≤ b.cps.toList)
  | [], p, _ => List.pairwise_singleton _ _
  | x :: r, p, h => by
    have h : (!ltCps x.cps.toList p.cps.toList && risingS x r) = true := h
    rw [Bool.and_eq_true, ltCps_eq] at h
    have h2 := rise_pw r x h.2
    have px : p.cps.toList ≤ x.cps.toList := List.not_lt.mp (by simpa using h.1)
    refine List.pairwise_cons.mpr ⟨fun y hy => ?_, h2⟩
    rcases List.mem_cons.mp hy with rfl | hy
    · exact px
    · exact List.le_trans px ((List.pairwise_cons.mp h2).1 y hy)
theorem sorted_pw {l : List Str} (h : sortedS l = true) : l.Pairwise (fun a b => a.cps.toList ≤ b.cps.toList) := by
  cases l with
  | nil => exact .nil
  | cons x r => exact rise_pw r x h
theorem str_of_list {a b : Str} (h : a.cps.toList = b.cps.toList) : a = b := by
  rw [str_eta a, str_eta b, h]
theorem NamesOf.uniq {ts zs zs' : List Str} (h : NamesOf ts zs) (h' : NamesOf ts zs') : zs = zs' :=
  List.Perm.eq_of_pairwise (le := fun a b : Str => a.cps.toList ≤ b.cps.toList) (fun a b _ _ x y => str_of_list (List.le_antisymm x y)) (sorted_pw h.up) (sorted_pw h'.up) ((List.perm_ext_iff_of_nodup h.nd h'.nd).mpr fun z => (h.mem z).trans (h'.mem z).symm)
theorem cols_get {pat : List Str} : (colsOf pat).map (fun c => pat.getD c "") = pat.drop 1 := by
  unfold colsOf
  refine List.ext_getElem? fun i => ?_
  rw [List.getElem?_map, List.getElem?_drop]
  by_cases h : i < pat.length - 1
  · rw [List.getElem?_range' h, Nat.one_mul]
    show some (pat.getD (1 + i) "") = _
    rw [List.getD_eq_getElem?_getD, List.getElem?_eq_getElem (by omega)] <;> rfl
  · rw [List.getElem?_eq_none (by rw [List.length_range']; omega), List.getElem?_eq_none (by omega)] <;> rfl
theorem stepT_le {ts p : List Str} : ts.length ≤ (stepTerms ts p).length := by
  unfold stepTerms termsIn
  rw [List.length_append]
  exact Nat.le_add_right _ _
theorem planT_le : ∀ {ps : List (List Str)} {ts : List Str}, ts.length ≤ (planT ts ps).length
  | [], _ => Nat.le_refl _
  | p :: ps, ts => Nat.le_trans stepT_le (planT_le (ps := ps) (ts := stepTerms ts p))
theorem fold_wide {prs : List (List Str)} : ∀ (pats : List (List Str)) (ts : List Str) (pss : List (List (List Str))) (r : List (List Str)), pss.length = pats.length → (∀ x ∈ r, x.length = ts.length) → ∀ x ∈ ((planOf ts pats).zip pss).foldl (stepR prs) r, x.length = (planT ts pats).length
  | [], ts, pss, r, _, h => h
  | p :: pats, ts, [], r, hl, h => by cases hl
  | p :: pats, ts, q :: pss, r, hl, h => fold_wide pats (stepTerms ts p) pss (stepR prs r ((p, ts), q)) (Nat.succ.inj hl) (onw_wide h)
theorem metF_wide {zs : List Str} {pats prs ps : List (List Str)} : ∀ x ∈ metF zs pats prs ps, x.length = (planT zs pats).length - zs.length := fun x hx => by
  unfold metF at hx
  obtain ⟨row, hr, rfl⟩ := List.mem_map.mp hx
  rw [List.length_drop]
  unfold rowsF at hr
  rw [fold_wide pats zs _ _ List.length_replicate (fun y hy => by rw [List.mem_singleton.mp (keepA_sub _ hy)]) row hr]
/-! ### where no term is new there is one match at most -/
theorem no_news {ts pat : List Str} (h : (stepTerms ts pat).length = ts.length) : newsIn ts pat (colsOf pat) = [] := by
  unfold stepTerms termsIn at h
  rw [List.length_append, List.length_map] at h
  exact List.length_eq_zero_iff.mp (by omega)
theorem all_olds {ts pat : List Str} (h : (stepTerms ts pat).length = ts.length) : ∀ c ∈ colsOf pat, c ∈ oldsIn ts pat (colsOf pat) := fun c hc => by
  refine List.mem_filter.mpr ⟨hc, ?_⟩
  by_cases hz : pat.getD c "" ∈ ts
  · exact decide_eq_true hz
  · obtain ⟨i, hi⟩ := List.getElem?_of_mem hc
    obtain ⟨f1, f2, _, _, f5⟩ := first_col hi
    have hm := List.mem_range'_1.mp hc
    have : first1 pat (pat.getD c "") ∈ newsIn ts pat (colsOf pat) := by
      refine List.mem_filter.mpr ⟨List.mem_range'_1.mpr (by omega), ?_⟩
      unfold isNew
      rw [f5, decide_eq_false hz, decide_eq_true rfl]
      rfl
    rw [no_news h] at this
    cases this
theorem alike_one {α : Type} {l : List α} (nd : l.Nodup) (h : ∀ x ∈ l, ∀ y ∈ l, x = y) : l.length ≤ 1 := by
  cases l with
  | nil => exact Nat.zero_le _
  | cons x r =>
    cases r with
    | nil => exact Nat.le_refl _
    | cons y r =>
      have e := h x List.mem_cons_self y (List.mem_cons_of_mem _ List.mem_cons_self)
      rw [List.nodup_cons] at nd
      exact absurd (by rw [e]; exact List.mem_cons_self) nd.1
theorem onw_one {ts pat : List Str} {prs rws ps : List (List Str)} (h : (stepTerms ts pat).length = ts.length) (hr : rws.length ≤ 1) (nd : ps.Nodup) (ok : ∀ p ∈ ps, 1 ≤ p.length) (hp : 1 ≤ pat.length) : (onw pat ts prs rws (ofKind pat ps)).length ≤ 1 := by
  unfold onw
  refine Nat.le_trans (keepA_len _ _) ?_
  refine Nat.le_trans (flatM_len (m := 1) (fun row => ?_) rws) (by omega)
  unfold onRow
  rw [List.length_map]
  refine alike_one (((nd.filter _).filter _).filter _) fun x hx y hy => ?_
  obtain ⟨hx1, hx2⟩ := List.mem_filter.mp hx
  obtain ⟨hy1, hy2⟩ := List.mem_filter.mp hy
  obtain ⟨x1, _⟩ := List.mem_filter.mp hx1
  obtain ⟨y1, _⟩ := List.mem_filter.mp hy1
  obtain ⟨x3, x4⟩ := List.mem_filter.mp x1
  obtain ⟨y3, y4⟩ := List.mem_filter.mp y1
  have kx := of_decide_eq_true x4
  have ky := of_decide_eq_true y4
  have lx := kind_len (ok x x3) hp kx
  have ly := kind_len (ok y y3) hp ky
  have ek : keyO (oldsIn ts pat (colsOf pat)) x = keyO (oldsIn ts pat (colsOf pat)) y := (of_decide_eq_true hx2).trans (of_decide_eq_true hy2).symm
  have same : ∀ c ∈ colsOf pat, x.getD c "" = y.getD c "" := fun c hc => by
    have := (List.map_inj_left.mp ek) c (all_olds h c hc)
    injection this
  refine List.ext_getElem? fun i => ?_
  by_cases hi : i < pat.length
  · rw [List.getElem?_eq_getElem (by omega), List.getElem?_eq_getElem (by omega)]
    cases i with
    | zero =>
      have k := kx.trans ky.symm
      cases x with
      | nil => have := ok _ x3; simp at this
      | cons a x =>
        cases y with
        | nil => have := ok _ y3; simp at this
        | cons b y =>
          unfold kindK at k
          injection k with k _
          injection k with k
          show some a = some b
          rw [k]
    | succ i =>
      have e := same (i + 1) (List.mem_range'_1.mpr (by omega))
      rw [List.getD_eq_getElem?_getD, List.getD_eq_getElem?_getD, List.getElem?_eq_getElem (by omega), List.getElem?_eq_getElem (by omega)] at e
      exact congrArg some e
  · rw [List.getElem?_eq_none (by omega), List.getElem?_eq_none (by omega)]
theorem fold_one {prs ps : List (List Str)} (nd : ps.Nodup) (ok : ∀ p ∈ ps, 1 ≤ p.length) : ∀ (pats : List (List Str)) (ts : List Str) (r : List (List Str)), (∀ p ∈ pats, 1 ≤ p.length) → (planT ts pats).length = ts.length → r.length ≤ 1 → (((planOf ts pats).zip (List.replicate pats.length ps)).foldl (stepR prs) r).length ≤ 1
  | [], ts, r, _, _, h => h
  | p :: pats, ts, r, hp, hl, h => by
    have h1 := stepT_le (ts := ts) (p := p)
    have h2 := planT_le (ps := pats) (ts := stepTerms ts p)
    have h3 : (planT (stepTerms ts p) pats).length = ts.length := hl
    exact fold_one nd ok pats (stepTerms ts p) _ (fun q hq => hp q (List.mem_cons_of_mem _ hq)) (by omega) (onw_one (ts := ts) (pat := p) (by omega) h nd ok (hp p List.mem_cons_self))
theorem metF_one {zs : List Str} {pats prs ps : List (List Str)} (nd : ps.Nodup) (ok : ∀ p ∈ ps, 1 ≤ p.length) (hp : ∀ p ∈ pats, 1 ≤ p.length) (h : (planT zs pats).length = zs.length) : (metF zs pats prs ps).length ≤ 1 := by
  unfold metF
  rw [List.length_map]
  exact fold_one nd ok pats zs _ hp h (keepA_len _ _)
/-- matches can be sorted: they have names, or there is one at most -/
theorem metF_sort {zs : List Str} {pats prs ps : List (List Str)} (nd : ps.Nodup) (ok : ∀ p ∈ ps, FactOk p) (hp : ∀ p ∈ pats, PatOk p) : (∀ x ∈ metF zs pats prs ps, x ≠ []) ∨ (metF zs pats prs ps).length ≤ 1 := by
  by_cases h : (planT zs pats).length = zs.length
  · refine .inr (metF_one nd (fun p hq => (ok p hq).1.1) (fun p hq => ?_) h)
    obtain ⟨w, ts, rfl, _⟩ := hp p hq
    exact Nat.le_add_left _ _
  · refine .inl fun x hx e => ?_
    have h1 := metF_wide x hx
    have h2 := planT_le (ps := pats) (ts := zs)
    rw [e, List.length_nil] at h1
    omega
end Nv
set_option maxHeartbeats 4000000
namespace Nv
open PySem PySem.Spec PyProof.Rows
open PySem.Sem (wp)
/-! # zip of two sequences of any kind, each turn told by its iterators; dict(zip(..)) of it -/
/-- the iterator at it, over the sequence at l, gives xs one by one -/
structure Gives (prog : Program) (w : World) (it l : Addr) (xs : Array Value) (St : Nat → Heap → Prop) : Prop where
  item : ∀ (A : Around) (E : Value → Shared → Prop) (s : Shared) (i : Nat) (x : Value) (Q : Value → Shared → Prop), St i s.heap → xs[i]? = some x →
    (∀ h', St (i + 1) h' → Heap.SameBut it s.heap h' → Q x { s with heap := h' }) → wpAny (model prog w) A (Builtin.SmallTypes.nextOf (.ref it)) Q E s
  done : ∀ (A : Around) (E : Value → Shared → Prop) (s : Shared) (i : Nat) (Q : Value → Shared → Prop), A.handled = none → St i s.heap → xs[i]? = none →
    (∀ h' e, Heap.ExtBut it s.heap h' → (∃ o, h'.get? e = some o ∧ o.cls = .type "StopIteration") → E (.ref e) { s with heap := h' }) → wpAny (model prog w) A (Builtin.SmallTypes.nextOf (.ref it)) Q E s
  keep : ∀ (i : Nat) (h h' : Heap), St i h → (∀ o, h.get? it = some o → h'.get? it = some o) → (∀ o, h.get? l = some o → h'.get? l = some o) → St i h'
  there : ∀ (i : Nat) (h : Heap), St i h → (∃ o, h.get? it = some o) ∧ ∃ o, h.get? l = some o
theorem gives_list {prog : Program} {w : World} (it l : Addr) (xs : Array Value) : Gives prog w it l xs (fun i h => h.IsListIter it l i ∧ h.IsList l xs) where
  item := fun A E s i x Q st hx q => wpAny_nextOf_list_item st.1 st.2 hx fun h' a b => q h' ⟨a, by
    obtain ⟨o, ho, hc, n, hd⟩ := st.2
    obtain ⟨o1, ho1, hc1, hd1⟩ := st.1
    have ne : l ≠ it := fun z => by
      rw [z, ho1] at ho
      cases ho
      rw [hd1] at hd
      cases hd
    exact st.2.extBut b.extBut ne⟩ b
  done := fun A E s i Q hh st hx q => wpAny_nextOf_list_end hh st.1 st.2 hx q
  keep := fun i h h' st k1 k2 => ⟨st.1.at k1, st.2.at k2⟩
  there := fun i h st => by
    obtain ⟨⟨o, e, _⟩, ⟨o2, e2, _⟩⟩ := st
    exact ⟨⟨o, e⟩, o2, e2⟩
theorem gives_tup {prog : Program} {w : World} (it l : Addr) (xs : Array Value) : Gives prog w it l xs (fun i h => h.IsTupleIter it l i ∧ h.IsTuple l xs) where
  item := fun A E s i x Q st hx q => RZ.nextOf_tuple_item st.1 st.2 hx fun h' a b => q h' ⟨a, by
    obtain ⟨o, ho, hc, n, hd⟩ := st.2
    obtain ⟨o1, ho1, hc1, hd1⟩ := st.1
    have ne : l ≠ it := fun z => by
      rw [z, ho1] at ho
      cases ho
      rw [hd1] at hd
      cases hd
    exact st.2.extBut b.extBut ne⟩ b
  done := fun A E s i Q hh st hx q => RZ.nextOf_tuple_end hh st.1 st.2 hx q
  keep := fun i h h' st k1 k2 => ⟨st.1.at k1, st.2.at k2⟩
  there := fun i h st => by
    obtain ⟨⟨o, e, _⟩, ⟨o2, e2, _⟩⟩ := st
    exact ⟨⟨o, e⟩, o2, e2⟩
section
variable {prog : Program} {w : World} {A : Around} {E : Value → Shared → Prop} {s : Shared}
variable {z TI TO T i1 i2 l1 l2 : Addr} {k : Nat} {xs ys : Array Value} {S1 S2 : Nat → Heap → Prop}
theorem gz_item {x y a b : Value} {Q : Value → Shared → Prop} (D : ZipApart z TI TO i1 i2 l1 l2) (G1 : Gives prog w i1 l1 xs S1) (G2 : Gives prog w i2 l2 ys S2)
    (kz : IsZip s.heap z TI TO .none) (kTI : IsPair s.heap TI (.ref i1) (.ref i2)) (kTO : IsPair s.heap TO a b) (st1 : S1 k s.heap) (st2 : S2 k s.heap) (hx : xs[k]? = some x) (hy : ys[k]? = some y)
    (q : ∀ h', IsZip h' z TI TO (rawInt s.heap.objs.size) → IsPair h' TO x y → S1 (k + 1) h' → S2 (k + 1) h' → IsPair h' s.heap.objs.size x y → h'.objs.size = s.heap.objs.size + 1 →
      (∀ c o, c ≠ z → c ≠ TO → c ≠ i1 → c ≠ i2 → s.heap.get? c = some o → h'.get? c = some o) → Q (.ref s.heap.objs.size) { s with heap := h' }) :
    wpAny (model prog w) A (Builtin.«zip.__next__» ⟨[.ref z], []⟩) (fun fin s' => ∃ v, fin = .done (.ret v) ∧ Q v s') E s := by
  have z1lt : ∀ {j h}, S1 j h → i1 < h.objs.size := fun st => (let ⟨⟨_, e⟩, _⟩ := G1.there _ _ st; Heap.lt_size e)
  have z2lt : ∀ {j h}, S2 j h → i2 < h.objs.size := fun st => (let ⟨⟨_, e⟩, _⟩ := G2.there _ _ st; Heap.lt_size e)
  show wpAny _ _ (field (.ref z) 2 >>= _) _ _ _
  refine wpAny_bind (wpAny_field kz rfl (x := .bool false) rfl ?_)
  show wpAny _ _ (field (.ref z) 3 >>= _) _ _ _
  refine wpAny_bind (wpAny_field kz rfl (x := .ref TI) rfl ?_)
  refine wpAny_bind (wpAny_seqItems kTI rfl ?_)
  refine wpAny_bind (m := Builtin.SmallTypes.ownedTupleIsFree (.ref z)) ?_
  unfold Builtin.SmallTypes.ownedTupleIsFree
  refine wpAny_bind (wpAny_field kz rfl (x := .none) rfl (wpAny_pure ?_))
  dsimp only
  rw [if_pos rfl]
  refine wpAny_bind (wpAny_rule ?_)
  refine wpAny_bind (wpAny_field kz rfl (x := .ref TO) rfl ?_)
  refine wpAny_bind (wpAny_setField_rec kz (by simp) fun g1 kz1 b1 => ?_)
  replace kz1 : IsZip g1 z TI TO .ellipsis := kz1
  refine wpAny_bind ?_
  simp only [List.zipIdx_cons, List.zipIdx_nil, List.forIn_cons, List.forIn_nil]
  have st1a := G1.keep _ _ g1 st1 (fun o e => b1.extBut _ o D.i1z e) (fun o e => b1.extBut _ o D.l1z e)
  have st2a := G2.keep _ _ g1 st2 (fun o e => b1.extBut _ o D.i2z e) (fun o e => b1.extBut _ o D.l2z e)
  refine wpAny_bind (wpAny_bind (wpAny_onRaise ?_))
  refine wpAny_bind (m := Builtin.SmallTypes.nextOf (.ref i1)) (G1.item _ _ { s with heap := g1 } k x _ st1a hx fun g2 st1b b2 => wpAny_pure ?_)
  have kTO2 : IsPair g2 TO a b := b2.extBut _ _ D.TOi1 (b1.extBut _ _ D.TOz kTO)
  refine wpAny_bind (wpAny_seqItems kTO2 rfl ?_)
  refine wpAny_bind (wpAny_updateSeq_pair kTO2 fun g3 kTO3 b3 => ?_)
  replace kTO3 : IsPair g3 TO x b := kTO3
  refine wpAny_bind (wpAny_letGo (wpAny_pure ?_))
  have st1c := G1.keep _ _ g3 st1b (fun o e => b3.extBut _ o D.TOi1.symm e) (fun o e => b3.extBut _ o D.l1TO e)
  have st2b := G2.keep _ _ g2 st2a (fun o e => b2.extBut _ o D.i12.symm e) (fun o e => b2.extBut _ o D.l2i1 e)
  have st2c := G2.keep _ _ g3 st2b (fun o e => b3.extBut _ o D.TOi2.symm e) (fun o e => b3.extBut _ o D.l2TO e)
  refine wpAny_bind (wpAny_bind (wpAny_onRaise ?_))
  refine wpAny_bind (m := Builtin.SmallTypes.nextOf (.ref i2)) (G2.item _ _ { s with heap := g3 } k y _ st2c hy fun g4 st2d b4 => wpAny_pure ?_)
  have kTO4 : IsPair g4 TO x b := b4.extBut _ _ D.TOi2 kTO3
  refine wpAny_bind (wpAny_seqItems kTO4 rfl ?_)
  refine wpAny_bind (wpAny_updateSeq_pair kTO4 fun g5 kTO5 b5 => ?_)
  replace kTO5 : IsPair g5 TO x y := kTO5
  refine wpAny_bind (wpAny_letGo (wpAny_pure (wpAny_pure ?_)))
  refine wpAny_bind (wpAny_seqItems kTO5 rfl ?_)
  refine wpAny_bind (wpAny_newTuple ?_)
  have zs : g5.objs.size = s.heap.objs.size := by rw [b5.1, b4.1, b3.1, b2.1, b1.1]
  have kz5 : IsZip g5 z TI TO .ellipsis := b5.extBut _ _ D.TOz.symm (b4.extBut _ _ D.i2z.symm (b3.extBut _ _ D.TOz.symm (b2.extBut _ _ D.i1z.symm kz1)))
  have kk5 : ∀ c o, c ≠ z → c ≠ TO → c ≠ i1 → c ≠ i2 → s.heap.get? c = some o → g5.get? c = some o := fun c o n1 n2 n3 n4 e =>
    b5.extBut _ _ n2 (b4.extBut _ _ n4 (b3.extBut _ _ n2 (b2.extBut _ _ n3 (b1.extBut _ _ n1 e))))
  have st1d := G1.keep _ _ g4 st1c (fun o e => b4.extBut _ o D.i12 e) (fun o e => b4.extBut _ o D.l1i2 e)
  have st1e := G1.keep _ _ g5 st1d (fun o e => b5.extBut _ o D.TOi1.symm e) (fun o e => b5.extBut _ o D.l1TO e)
  have st2e := G2.keep _ _ g5 st2d (fun o e => b5.extBut _ o D.TOi2.symm e) (fun o e => b5.extBut _ o D.l2TO e)
  have zlt : z < g5.objs.size := Heap.lt_size kz5
  refine wpAny_bind (m := Builtin.SmallTypes.ownedTupleHandOut (.ref z) (.ref g5.objs.size)) ?_
  unfold Builtin.SmallTypes.ownedTupleHandOut
  have kz6 : IsZip (g5.push { cls := .type "tuple", data := .seq #[x, y] }) z TI TO .ellipsis := Heap.get?_push_of_some _ kz5
  refine wpAny_bind (wpAny_setField_rec kz6 (by simp) fun g7 kz7 b7 => ?_)
  replace kz7 : IsZip g7 z TI TO (rawInt g5.objs.size) := kz7
  refine wpAny_setField_rec kz7 (by simp) fun g8 kz8 b8 => ?_
  replace kz8 : IsZip g8 z TI TO (rawInt g5.objs.size) := kz8
  have up : ∀ c o, c ≠ z → g5.get? c = some o → g8.get? c = some o := fun c o n1 e => b8.extBut _ _ n1 (b7.extBut _ _ n1 (Heap.get?_push_of_some _ e))
  have kT : IsPair g8 g5.objs.size x y := b8.extBut _ _ (Nat.ne_of_gt zlt) (b7.extBut _ _ (Nat.ne_of_gt zlt) (Heap.get?_push_size _ rfl))
  have z8 : g8.objs.size = g5.objs.size + 1 := by rw [b8.1, b7.1, Heap.size_push]
  rw [zs] at kz8 kT z8
  refine wpAny_pure ⟨_, rfl, ?_⟩
  show Q (.ref g5.objs.size) _
  rw [zs]
  exact q g8 kz8 (up _ _ D.TOz kTO5) (G1.keep _ _ g8 st1e (fun o e => up _ o D.i1z e) (fun o e => up _ o D.l1z e)) (G2.keep _ _ g8 st2e (fun o e => up _ o D.i2z e) (fun o e => up _ o D.l2z e)) kT z8 fun c o n1 n2 n3 n4 e => up c o n1 (kk5 c o n1 n2 n3 n4 e)
theorem gz_held {f : Bool} {oT : Obj} {x y : Value} {Q : Value → Shared → Prop} (D : ZipApart z TI TO i1 i2 l1 l2) (G1 : Gives prog w i1 l1 xs S1) (G2 : Gives prog w i2 l2 ys S2)
    (kz : IsZipHeld s.heap z TI TO T f) (kT : s.heap.get? T = some oT) (kTI : IsPair s.heap TI (.ref i1) (.ref i2)) (st1 : S1 k s.heap) (st2 : S2 k s.heap) (hx : xs[k]? = some x) (hy : ys[k]? = some y)
    (q : ∀ h', IsZipHeld h' z TI TO T true → S1 (k + 1) h' → S2 (k + 1) h' → IsPair h' s.heap.objs.size x y → h'.objs.size = s.heap.objs.size + 1 →
      (∀ c o, c ≠ z → c ≠ i1 → c ≠ i2 → s.heap.get? c = some o → h'.get? c = some o) → Q (.ref s.heap.objs.size) { s with heap := h' }) :
    wpAny (model prog w) A (Builtin.«zip.__next__» ⟨[.ref z], []⟩) (fun fin s' => ∃ v, fin = .done (.ret v) ∧ Q v s') E s := by
  show wpAny _ _ (field (.ref z) 2 >>= _) _ _ _
  refine wpAny_bind (wpAny_field kz rfl (x := .bool false) rfl ?_)
  show wpAny _ _ (field (.ref z) 3 >>= _) _ _ _
  refine wpAny_bind (wpAny_field kz rfl (x := .ref TI) rfl ?_)
  refine wpAny_bind (wpAny_seqItems kTI rfl ?_)
  refine wpAny_bind (m := Builtin.SmallTypes.ownedTupleIsFree (.ref z)) (wpAny_tupleHeld_zip kz kT fun g1 kz1 b1 => ?_)
  dsimp only
  rw [if_neg Bool.false_ne_true]
  refine wpAny_bind ?_
  rw [← Array.forIn_toList]
  dsimp only
  rw [List.forIn_cons]
  have st1a := G1.keep _ _ g1 st1 (fun o e => b1.extBut _ o D.i1z e) (fun o e => b1.extBut _ o D.l1z e)
  have st2a := G2.keep _ _ g1 st2 (fun o e => b1.extBut _ o D.i2z e) (fun o e => b1.extBut _ o D.l2z e)
  refine wpAny_bind (wpAny_bind (wpAny_holding ?_))
  refine wpAny_bind (m := Builtin.SmallTypes.nextOf (.ref i1)) (G1.item _ _ { s with heap := g1 } k x _ st1a hx fun g2 st1b b2 => wpAny_pure ?_)
  refine wpAny_pure ?_
  dsimp only
  rw [List.forIn_cons]
  have st2b := G2.keep _ _ g2 st2a (fun o e => b2.extBut _ o D.i12.symm e) (fun o e => b2.extBut _ o D.l2i1 e)
  refine wpAny_bind (wpAny_bind (wpAny_holding ?_))
  refine wpAny_bind (m := Builtin.SmallTypes.nextOf (.ref i2)) (G2.item _ _ { s with heap := g2 } k y _ st2b hy fun g3 st2c b3 => wpAny_pure ?_)
  refine wpAny_pure ?_
  dsimp only
  rw [List.forIn_nil]
  refine wpAny_pure ?_
  refine wpAny_bind (m := newTuple [x, y]) (wpAny_newTuple ?_)
  have zs : g3.objs.size = s.heap.objs.size := by rw [b3.1, b2.1, b1.1]
  have kz3 : IsZipHeld g3 z TI TO T true := b3.extBut _ _ D.i2z.symm (b2.extBut _ _ D.i1z.symm kz1)
  have kk : ∀ c o, c ≠ z → c ≠ i1 → c ≠ i2 → s.heap.get? c = some o → g3.get? c = some o := fun c o n1 n2 n3 e => b3.extBut _ _ n3 (b2.extBut _ _ n2 (b1.extBut _ _ n1 e))
  have st1c := G1.keep _ _ g3 st1b (fun o e => b3.extBut _ o D.i12 e) (fun o e => b3.extBut _ o D.l1i2 e)
  refine wpAny_pure ⟨_, rfl, ?_⟩
  show Q (.ref g3.objs.size) _
  have kp : IsPair (g3.push { cls := .type "tuple", data := .seq #[x, y] }) g3.objs.size x y := Heap.get?_push_size _ rfl
  have z4 : (g3.push { cls := .type "tuple", data := .seq #[x, y] }).objs.size = g3.objs.size + 1 := Heap.size_push ..
  rw [zs] at kp z4 ⊢
  exact q _ (Heap.get?_push_of_some _ kz3) (G1.keep _ _ _ st1c (fun o e => Heap.get?_push_of_some _ e) fun o e => Heap.get?_push_of_some _ e) (G2.keep _ _ _ st2c (fun o e => Heap.get?_push_of_some _ e) fun o e => Heap.get?_push_of_some _ e) kp z4
    fun c o n1 n2 n3 e => Heap.get?_push_of_some _ (kk c o n1 n2 n3 e)
/-- the first of the two is at its end: so is the zip -/
theorem gz_end {a b : Value} {Q : Fin → Shared → Prop} (hh : A.handled = none) (D : ZipApart z TI TO i1 i2 l1 l2) (G1 : Gives prog w i1 l1 xs S1)
    (kz : IsZip s.heap z TI TO .none) (kTI : IsPair s.heap TI (.ref i1) (.ref i2)) (kTO : IsPair s.heap TO a b) (st1 : S1 k s.heap) (hx : xs[k]? = none)
    (hE : ∀ h' e, (∀ c o, c ≠ z → c ≠ TO → c ≠ i1 → c ≠ i2 → s.heap.get? c = some o → h'.get? c = some o) → (∃ o, h'.get? e = some o ∧ o.cls = .type "StopIteration") → E (.ref e) { s with heap := h' }) :
    wpAny (model prog w) A (Builtin.«zip.__next__» ⟨[.ref z], []⟩) Q E s := by
  show wpAny _ _ (field (.ref z) 2 >>= _) _ _ _
  refine wpAny_bind (wpAny_field kz rfl (x := .bool false) rfl ?_)
  show wpAny _ _ (field (.ref z) 3 >>= _) _ _ _
  refine wpAny_bind (wpAny_field kz rfl (x := .ref TI) rfl ?_)
  refine wpAny_bind (wpAny_seqItems kTI rfl ?_)
  refine wpAny_bind (m := Builtin.SmallTypes.ownedTupleIsFree (.ref z)) ?_
  unfold Builtin.SmallTypes.ownedTupleIsFree
  refine wpAny_bind (wpAny_field kz rfl (x := .none) rfl (wpAny_pure ?_))
  dsimp only
  rw [if_pos rfl]
  refine wpAny_bind (wpAny_rule ?_)
  refine wpAny_bind (wpAny_field kz rfl (x := .ref TO) rfl ?_)
  refine wpAny_bind (wpAny_setField_rec kz (by simp) fun g1 kz1 b1 => ?_)
  replace kz1 : IsZip g1 z TI TO .ellipsis := kz1
  refine wpAny_bind ?_
  simp only [List.zipIdx_cons, List.zipIdx_nil, List.forIn_cons, List.forIn_nil]
  have st1a := G1.keep _ _ g1 st1 (fun o e => b1.extBut _ o D.i1z e) (fun o e => b1.extBut _ o D.l1z e)
  refine wpAny_bind (wpAny_bind (wpAny_onRaise ?_))
  refine wpAny_bind (m := Builtin.SmallTypes.nextOf (.ref i1)) (G1.done _ _ { s with heap := g1 } k _ hh st1a hx fun g2 e b2 he => ?_)
  obtain ⟨oe, hoe, hce⟩ := he
  have kz2 : IsZip g2 z TI TO .ellipsis := b2 _ _ D.i1z.symm kz1
  have ez : e ≠ z := fun y => by subst y; rw [kz2] at hoe; cases hoe; simp at hce
  refine wpAny_setField_rec kz2 (by simp) fun g3 _ b3 => hE g3 e (fun c o n1 _ n3 _ y => b3.extBut _ _ n1 (b2 _ _ n3 (b1.extBut _ _ n1 y))) ⟨oe, b3.extBut _ _ ez hoe, hce⟩
theorem gz_held_end {f : Bool} {oT : Obj} {Q : Fin → Shared → Prop} (hh : A.handled = none) (D : ZipApart z TI TO i1 i2 l1 l2) (G1 : Gives prog w i1 l1 xs S1)
    (kz : IsZipHeld s.heap z TI TO T f) (kT : s.heap.get? T = some oT) (kTI : IsPair s.heap TI (.ref i1) (.ref i2)) (st1 : S1 k s.heap) (hx : xs[k]? = none)
    (hE : ∀ h' e, (∀ c o, c ≠ z → c ≠ i1 → c ≠ i2 → s.heap.get? c = some o → h'.get? c = some o) → (∃ o, h'.get? e = some o ∧ o.cls = .type "StopIteration") → E (.ref e) { s with heap := h' }) :
    wpAny (model prog w) A (Builtin.«zip.__next__» ⟨[.ref z], []⟩) Q E s := by
  show wpAny _ _ (field (.ref z) 2 >>= _) _ _ _
  refine wpAny_bind (wpAny_field kz rfl (x := .bool false) rfl ?_)
  show wpAny _ _ (field (.ref z) 3 >>= _) _ _ _
  refine wpAny_bind (wpAny_field kz rfl (x := .ref TI) rfl ?_)
  refine wpAny_bind (wpAny_seqItems kTI rfl ?_)
  refine wpAny_bind (m := Builtin.SmallTypes.ownedTupleIsFree (.ref z)) (wpAny_tupleHeld_zip kz kT fun g1 kz1 b1 => ?_)
  dsimp only
  rw [if_neg Bool.false_ne_true]
  refine wpAny_bind ?_
  rw [← Array.forIn_toList]
  dsimp only
  rw [List.forIn_cons]
  have st1a := G1.keep _ _ g1 st1 (fun o e => b1.extBut _ o D.i1z e) (fun o e => b1.extBut _ o D.l1z e)
  refine wpAny_bind (wpAny_bind (wpAny_holding ?_))
  refine wpAny_bind (m := Builtin.SmallTypes.nextOf (.ref i1)) (G1.done _ _ { s with heap := g1 } k _ hh st1a hx fun g2 e b2 he => ?_)
  exact hE g2 e (fun c o n1 n2 _ y => b2 _ _ n2 (b1.extBut _ _ n1 y)) he
end
end Nv
set_option maxHeartbeats 4000000
namespace Nv
open PySem PySem.Spec PyProof.Rows
open PySem.Sem (wp)
section
variable {prog : Program} {w : World} {A : Around} {E : Value → Shared → Prop} {s : Shared}
variable {z TI TO T i1 i2 l1 l2 : Addr} {k : Nat} {xs ys : Array Value} {S1 S2 : Nat → Heap → Prop}
/-- the step of a zip, told of its next -/
theorem pz_next {Q : Option Value → Shared → Prop} (hT : s.TypeIs (.ref z) "zip") (h : wpAny (model prog w) A.in1 (Builtin.«zip.__next__» ⟨[.ref z], []⟩) (fun fin s' => ∃ v, fin = .done (.ret v) ∧ Q (some v) s') (fun e s' => (∃ o, ∃ a, e = .ref a ∧ s'.heap.get? a = some o ∧ o.cls = .type "StopIteration") ∧ Q none s') s) :
    wpAny (model prog w) A (pyNext (.ref z)) Q E s := by
  unfold pyNext
  refine wpAny_bind (wpAny_attempt (wpAny_callSpecial?_slot (name := Str.ofString "__next__") hT F.slot_zip_next (wpAny_call_entry F.slot_zip_next hT F.entry_zip_next (wpAny_mono h (fun fin s' hv => ?_) fun e s' he => ?_) (F.args_zip_next_1 _))))
  · obtain ⟨v, e, hq⟩ := hv
    exact ⟨v, e, wpAny_pure hq⟩
  · obtain ⟨⟨o, a, e, ho, hc⟩, hq⟩ := he
    subst e
    exact wpAny_bind (wpAny_isInstance (T := "StopIteration") (b := true) ⟨o, ho, hc⟩ isSubtype_stop (wpAny_pure hq))
/-- how it stands at turn i: its first tuple not yet told, or told and kept -/
def ZAt (z TI TO i1 i2 d : Addr) (S1 S2 : Nat → Heap → Prop) (i : Nat) (h : Heap) : Prop :=
  IsPair h TI (.ref i1) (.ref i2) ∧ S1 i h ∧ S2 i h ∧ ((IsZip h z TI TO .none ∧ ∃ a b, IsPair h TO a b) ∨ ∃ T f oT, IsZipHeld h z TI TO T f ∧ h.get? T = some oT ∧ T ≠ z ∧ T ≠ i1 ∧ T ≠ i2 ∧ T ≠ d)
theorem zip_src (hA : A.handled = none) (D : ZipApart z TI TO i1 i2 l1 l2) (G1 : Gives prog w i1 l1 xs S1) (G2 : Gives prog w i2 l2 ys S2) (hl : xs.size ≤ ys.size) {d : Addr}
    (dz : d ≠ z) (dTI : d ≠ TI) (dTO : d ≠ TO) (di1 : d ≠ i1) (di2 : d ≠ i2) (dl1 : d ≠ l1) (dl2 : d ≠ l2) :
    PairSrc prog w A z d [z, TO, i1, i2] xs.size (fun i k v => xs[i]? = some k ∧ ys[i]? = some v) (ZAt z TI TO i1 i2 d S1 S2) where
  off := fun hm => by
    simp only [List.mem_cons, List.not_mem_nil, or_false] at hm
    rcases hm with e | e | e | e
    · exact dz e
    · exact dTO e
    · exact di1 e
    · exact di2 e
  frame := fun i h h' st kk => by
    obtain ⟨kTI, st1, st2, kz⟩ := st
    refine ⟨kk _ _ dTI.symm kTI, G1.keep _ _ _ st1 (fun o e => kk _ o di1.symm e) (fun o e => kk _ o dl1.symm e), G2.keep _ _ _ st2 (fun o e => kk _ o di2.symm e) (fun o e => kk _ o dl2.symm e), ?_⟩
    rcases kz with ⟨kz, a, b, kTO⟩ | ⟨T, f, oT, kz, kT, r1, r2, r3, r4⟩
    · exact .inl ⟨kk _ _ dz.symm kz, a, b, kk _ _ dTO.symm kTO⟩
    · exact .inr ⟨T, f, oT, kk _ _ dz.symm kz, kk _ _ r4 kT, r1, r2, r3, r4⟩
  item := fun i s Q E hi st hds q => by
    obtain ⟨kTI, st1, st2, kz⟩ := st
    have ex := Array.getElem?_eq_getElem hi
    have ey := Array.getElem?_eq_getElem (xs := ys) (i := i) (by omega)
    obtain ⟨⟨o1, e1⟩, _⟩ := G1.there _ _ st1
    obtain ⟨⟨o2, e2⟩, _⟩ := G2.there _ _ st2
    have n1 : s.heap.objs.size ≠ i1 := Nat.ne_of_gt (Heap.lt_size e1)
    have n2 : s.heap.objs.size ≠ i2 := Nat.ne_of_gt (Heap.lt_size e2)
    rcases kz with ⟨kz, a, b, kTO⟩ | ⟨T, f, oT, kz, kT, r1, r2, r3, r4⟩
    · refine pz_next ⟨_, kz, rfl⟩ (gz_item (Q := fun v s' => Q (some v) s') D G1 G2 kz kTI kTO st1 st2 ex ey fun h' a1 a2 a3 a4 a5 a6 kk => ?_)
      exact q s.heap.objs.size _ _ h' s.toks ⟨ex, ey⟩ (.inl ⟨_, a5, rfl, _, rfl⟩) ⟨kk _ _ D.TIz D.TITO D.TIi1 D.TIi2 kTI, a3, a4, .inr ⟨s.heap.objs.size, false, _, a1, a5, Nat.ne_of_gt (Heap.lt_size kz), n1, n2, Nat.ne_of_gt hds⟩⟩
        fun c o hc e => kk c o (fun y => hc (by simp [y])) (fun y => hc (by simp [y])) (fun y => hc (by simp [y])) (fun y => hc (by simp [y])) e
    · refine pz_next ⟨_, kz, rfl⟩ (gz_held (Q := fun v s' => Q (some v) s') D G1 G2 kz kT kTI st1 st2 ex ey fun h' a1 a3 a4 a5 a6 kk => ?_)
      exact q s.heap.objs.size _ _ h' s.toks ⟨ex, ey⟩ (.inl ⟨_, a5, rfl, _, rfl⟩) ⟨kk _ _ D.TIz D.TIi1 D.TIi2 kTI, a3, a4, .inr ⟨T, true, oT, a1, kk _ _ r1 r2 r3 kT, r1, r2, r3, r4⟩⟩
        fun c o hc e => kk c o (fun y => hc (by simp [y])) (fun y => hc (by simp [y])) (fun y => hc (by simp [y])) e
  done := fun s Q E st q => by
    obtain ⟨kTI, st1, st2, kz⟩ := st
    have ex : xs[xs.size]? = none := Array.getElem?_eq_none (Nat.le_refl _)
    rcases kz with ⟨kz, a, b, kTO⟩ | ⟨T, f, oT, kz, kT, r1, r2, r3, r4⟩
    · refine pz_next ⟨_, kz, rfl⟩ (gz_end hA D G1 kz kTI kTO st1 ex fun h' e kk ⟨o, ho, hc⟩ => ⟨⟨o, e, rfl, ho, hc⟩, q h' s.toks fun c o hc e => kk c o (fun y => hc (by simp [y])) (fun y => hc (by simp [y])) (fun y => hc (by simp [y])) (fun y => hc (by simp [y])) e⟩)
    · refine pz_next ⟨_, kz, rfl⟩ (gz_held_end hA D G1 kz kT kTI st1 ex fun h' e kk ⟨o, ho, hc⟩ => ⟨⟨o, e, rfl, ho, hc⟩, q h' s.toks fun c o hc e => kk c o (fun y => hc (by simp [y])) (fun y => hc (by simp [y])) (fun y => hc (by simp [y])) e⟩)
theorem zip_arg (D : ZipApart z TI TO i1 i2 l1 l2) (G1 : Gives prog w i1 l1 xs S1) (G2 : Gives prog w i2 l2 ys S2) (hl : xs.size ≤ ys.size) :
    PairArg prog w "zip" z [z, TI, TO, i1, i2, l1, l2] [z, TO, i1, i2] xs.size (fun i k v => xs[i]? = some k ∧ ys[i]? = some v)
      (fun h => IsZip h z TI TO .none ∧ IsPair h TI (.ref i1) (.ref i2) ∧ (∃ a b, IsPair h TO a b) ∧ S1 0 h ∧ S2 0 h) where
  type := fun s ok => ⟨_, ok.1, rfl⟩
  notDict := by decide
  keep := fun h h' ok kk => by
    obtain ⟨kz, kTI, ⟨a, b, kTO⟩, st1, st2⟩ := ok
    exact ⟨kk _ _ kz, kk _ _ kTI, ⟨a, b, kk _ _ kTO⟩, G1.keep _ _ _ st1 (fun o e => kk _ o e) (fun o e => kk _ o e), G2.keep _ _ _ st2 (fun o e => kk _ o e) fun o e => kk _ o e⟩
  there := fun h ok c hc => by
    obtain ⟨kz, kTI, ⟨a, b, kTO⟩, st1, st2⟩ := ok
    obtain ⟨e1, e2⟩ := G1.there _ _ st1
    obtain ⟨e3, e4⟩ := G2.there _ _ st2
    simp only [List.mem_cons, List.not_mem_nil, or_false] at hc
    rcases hc with rfl | rfl | rfl | rfl | rfl | rfl | rfl
    · exact ⟨_, kz⟩
    · exact ⟨_, kTI⟩
    · exact ⟨_, kTO⟩
    · exact e1
    · exact e3
    · exact e2
    · exact e4
  sub := fun c hc => by
    simp only [List.mem_cons, List.not_mem_nil, or_false] at hc ⊢
    rcases hc with rfl | rfl | rfl | rfl <;> simp
  noKeys := fun A s Q E hA ok h => getAttrOr_miss_zip ok.1 rfl rfl rfl zip_no_keys (by decide +kernel) hA h
  iter := fun A s d Q E hA ok hd hdf h => by
    obtain ⟨kz, kTI, ⟨a, b, kTO⟩, st1, st2⟩ := ok
    simp only [List.mem_cons, List.not_mem_nil, or_false, not_or] at hdf
    obtain ⟨dz, dTI, dTO, di1, di2, dl1, dl2⟩ := hdf
    exact wpAny_pyIter_zip kz (h z [z, TO, i1, i2] (ZAt z TI TO i1 i2 d S1 S2) s.heap s.toks (zip_src hA D G1 G2 hl dz dTI dTO di1 di2 dl1 dl2) ⟨kTI, st1, st2, .inl ⟨kz, a, b, kTO⟩⟩ (fun _ _ e => e) fun c hc => .inl hc)
end
end Nv
set_option maxHeartbeats 4000000
namespace Nv
open PySem PySem.Spec PyProof.Rows L2
/-! # dict(zip(ks, zs)): a list of texts and a tuple of texts -/
abbrev zl1 (h : Heap) (l1 : Addr) : Heap := h.push { cls := .type "list_iterator", data := .fields #[.ref l1, .int 0 0] }
abbrev zl2 (h : Heap) (l1 l2 : Addr) : Heap := (zl1 h l1).push { cls := .type "tuple_iterator", data := .fields #[.ref l2, .int 0 0] }
abbrev zl3 (h : Heap) (l1 l2 : Addr) : Heap := (zl2 h l1 l2).push { cls := .type "tuple", data := .seq #[.ref h.objs.size, .ref (zl1 h l1).objs.size] }
abbrev zl4 (h : Heap) (l1 l2 : Addr) : Heap := (zl3 h l1 l2).push { cls := .type "tuple", data := .seq #[.none, .none] }
abbrev zl5 (h : Heap) (l1 l2 : Addr) : Heap := (zl4 h l1 l2).push { cls := .type "zip", data := .fields #[.none, .bool false, .bool false, .ref (zl2 h l1 l2).objs.size, .ref (zl3 h l1 l2).objs.size] }
theorem meets_zipLT (l1 l2 : Addr) (xs ys : Array Value) : Meets (Builtin.«zip.__new__» ⟨[.type "zip", .ref l1, .ref l2], []⟩) (fun _ R s => s.heap.IsList l1 xs ∧ s.heap.IsTuple l2 ys ∧
      R (.ok (.ret (.ref (zl4 s.heap l1 l2).objs.size))) { s with heap := zl5 s.heap l1 l2 }) :=
  .of_wp fun prog w A R s h => by
    obtain ⟨hp, g, d, tk, os⟩ := s
    obtain ⟨k1, k2, h⟩ := h
    have hsub := sub_zip
    have kL1 : Heap.IsList (Shared.heap ⟨hp, g, d, tk, os⟩) l1 xs := k1
    have kL2 : Heap.IsTuple (Shared.heap ⟨hp.push { cls := .type "list_iterator", data := .fields #[.ref l1, .int 0 0] }, g, d, tk, os⟩) l2 ys := Heap.IsTuple.push k2 _
    wp_walk using wpAny_pyIter_list kL1, wpAny_pyIter_tuple kL2
    exact ⟨_, rfl, h⟩
section
variable {prog : Program} {w : World} {A : Around} {E : Value → Shared → Prop} {s : Shared}
theorem call_zipLT {l1 l2 : Addr} {xs ys : Array Value} {Q : Value → Shared → Prop} (k1 : s.heap.IsList l1 xs) (k2 : s.heap.IsTuple l2 ys)
    (q : ∀ h', IsZip h' (s.heap.objs.size + 4) (s.heap.objs.size + 2) (s.heap.objs.size + 3) .none → IsPair h' (s.heap.objs.size + 2) (.ref s.heap.objs.size) (.ref (s.heap.objs.size + 1)) →
      IsPair h' (s.heap.objs.size + 3) .none .none → h'.IsListIter s.heap.objs.size l1 0 → h'.IsTupleIter (s.heap.objs.size + 1) l2 0 → h'.objs.size = s.heap.objs.size + 5 →
      (∀ c o, s.heap.get? c = some o → h'.get? c = some o) → Q (.ref (s.heap.objs.size + 4)) { s with heap := h' }) :
    wpAny (model prog w) A (call (.type "zip") [.ref l1, .ref l2]) Q E s := by
  refine callType_new F.called_zip (by decide) (F.typeCall_zip_2 _ _) (F.newCall_zip_2 _ _) (fun obj => F.args_object_init_3 obj _ _) F.entry_zip_new (meets_zipLT l1 l2 xs ys) ⟨k1, k2, ?_⟩
  have z1 : (zl1 s.heap l1).objs.size = s.heap.objs.size + 1 := Heap.size_push ..
  have z2 : (zl2 s.heap l1 l2).objs.size = s.heap.objs.size + 2 := by rw [Heap.size_push, z1]
  have z3 : (zl3 s.heap l1 l2).objs.size = s.heap.objs.size + 3 := by rw [Heap.size_push, z2]
  have z4 : (zl4 s.heap l1 l2).objs.size = s.heap.objs.size + 4 := by rw [Heap.size_push, z3]
  have z5 : (zl5 s.heap l1 l2).objs.size = s.heap.objs.size + 5 := by rw [Heap.size_push, z4]
  have g5 : (zl5 s.heap l1 l2).get? (zl4 s.heap l1 l2).objs.size = some _ := Heap.get?_push_size _ rfl
  have g4 : (zl5 s.heap l1 l2).get? (zl3 s.heap l1 l2).objs.size = some _ := Heap.get?_push_of_some _ (Heap.get?_push_size _ rfl)
  have g3 : (zl5 s.heap l1 l2).get? (zl2 s.heap l1 l2).objs.size = some _ := Heap.get?_push_of_some _ (Heap.get?_push_of_some _ (Heap.get?_push_size _ rfl))
  have g2 : (zl5 s.heap l1 l2).get? (zl1 s.heap l1).objs.size = some _ := Heap.get?_push_of_some _ (Heap.get?_push_of_some _ (Heap.get?_push_of_some _ (Heap.get?_push_size _ rfl)))
  have g1 : (zl5 s.heap l1 l2).get? s.heap.objs.size = some _ := Heap.get?_push_of_some _ (Heap.get?_push_of_some _ (Heap.get?_push_of_some _ (Heap.get?_push_of_some _ (Heap.get?_push_size _ rfl))))
  have up : ∀ c o, s.heap.get? c = some o → (zl5 s.heap l1 l2).get? c = some o := fun c o e => Heap.get?_push_of_some _ (Heap.get?_push_of_some _ (Heap.get?_push_of_some _ (Heap.get?_push_of_some _ (Heap.get?_push_of_some _ e))))
  generalize hz : zl5 s.heap l1 l2 = hh at *
  show _ ∧ _
  rw [z2, z3, z4] at g5
  rw [z1, z2] at g3
  rw [z3] at g4
  rw [z1] at g2
  rw [z4]
  exact ⟨⟨_, g5, rfl⟩, q hh g5 g3 g4 ⟨_, g1, rfl, rfl⟩ ⟨_, g2, rfl, rfl⟩ z5 up⟩
end
end Nv
set_option maxHeartbeats 4000000
namespace Nv
open PySem PySem.Spec PyProof.Rows L2
/-- the pairs, as keys and values -/
def zipK (ks zs : List Str) : List (L2.Key × V) := (ks.zip zs).map fun y => (.inr y.1, .str y.2)
/-- what the dict of the pairs gives a text: its partner, else itself -/
def subZ (ks zs : List Str) (z : Str) : Str := match valV (mergeK [] (zipK ks zs)) (.inr z) with
  | some (.str y) => y
  | _ => z
def StrV (kvs : List (L2.Key × V)) : Prop := ∀ kv ∈ kvs, ∃ y, kv.2 = V.str y
theorem strv_put {kvs : List (L2.Key × V)} {k : L2.Key} {y : Str} (h : StrV kvs) : StrV (putK kvs k (.str y)) := fun kv hk => by
  unfold putK at hk
  split at hk
  · obtain ⟨z, hz, rfl⟩ := List.mem_map.mp hk
    split
    · exact ⟨y, rfl⟩
    · exact h z hz
  · rcases List.mem_append.mp hk with hk | hk
    · exact h kv hk
    · rw [List.mem_singleton.mp hk]
      exact ⟨y, rfl⟩
theorem strv_merge : ∀ (ys : List (Str × Str)) {acc : List (L2.Key × V)}, StrV acc → StrV (mergeK acc (ys.map fun y => (.inr y.1, .str y.2)))
  | [], _, h => h
  | y :: ys, acc, h => strv_merge ys (strv_put (k := .inr y.1) (y := y.2) h)
theorem sub_at {H : Hp} {b : Addr} {ks zs : List Str} (e : H b = some (.dK (mergeK [] (zipK ks zs)))) : SubAt H b (subZ ks zs) := ⟨_, e, fun z => by
  have st := strv_merge (ks.zip zs) (acc := []) (fun _ h => nomatch h)
  unfold subZ
  have e2 : mergeK [] (zipK ks zs) = mergeK [] ((ks.zip zs).map fun y => (Sum.inr y.1, V.str y.2)) := rfl
  rw [← e2] at st
  cases g : valV (mergeK [] (zipK ks zs)) (.inr z) with
  | none => rfl
  | some v =>
    have g2 := g
    unfold valV at g2
    obtain ⟨kv, h1, h2⟩ := Option.map_eq_some_iff.mp g2
    obtain ⟨y, hy⟩ := st kv (List.mem_of_find?_eq_some h1)
    rw [← h2, hy] <;> rfl⟩
theorem kv_zip : ∀ {ks zs : List Str} {us : List Value}, Vals (zs.map V.str) us → KV (zipK ks zs) ((ks.zip us).map fun y => ((Sum.inr y.1 : L2.Key), y.2))
  | [], _, _, _ => .nil
  | _ :: _, [], _, .nil => .nil
  | k :: ks, z :: zs, _, .cons r t => .cons ⟨rfl, r⟩ (kv_zip (ks := ks) t)
section
variable {X : Cx}
def rDictZip (K : PySem.W.Frag) : List V → Hp → VK → Prop := fun vs H Q => ∃ (a b : Addr) (ks zs : List Str), vs = [.ref a, .ref b] ∧ SqL K H a (ks.map V.str) ∧ SqT K H b (zs.map V.str) ∧ ks.length ≤ zs.length ∧ ∀ p, H p = none → Q (.ref p) (upd H p (.dK (mergeK [] (zipK ks zs))))
theorem pe_dictZip {e e2 : Expr} {ta : TA} {p p2 pos pos2 : Pos} (hc : X.calm = true) (hg : Gl X "dict") (hm : X.mg "dict" = none) (hg2 : Gl X "zip") (hm2 : X.mg "zip" = none) (ha : PA X [e, e2] ta)
    (hs : starEach [e, e2] X.env = (false, eval e X.env) :: starEach [e2] X.env := by rfl) (hpl : (backTo pos2 (starEach [e2] X.env)).any (·.1) = false := by rfl)
    (na : starEach [.Call (.Name "zip" p2) [e, e2] [] pos2] X.env = (false, eval (.Call (.Name "zip" p2) [e, e2] [] pos2) X.env) :: starEach [] X.env := by rfl) :
    PE X (.Call (.Name "dict" p) [.Call (.Name "zip" p2) [e, e2] [] pos2] [] pos) (tCB (rDictZip X.K) ta) := by
  refine ⟨fun pins s σ H Q I h => ?_⟩
  refine Call_ (ld_blt I hg hm PyProof.Rows.boot_dict (PyProof.Rows.callWith_type1 (args_cons ?_ na) na))
  refine Call_ (ld_blt I hg2 hm2 PyProof.Rows.boot_zip (PyProof.Rows.callWith_type1 (thn (ha.run pos2 pins s σ H _ I h) fun us s1 ⟨vs, H1, I1, r1, q1⟩ => ?_) hs hpl))
  obtain ⟨a, b, ks, zs, ex, qa, qb, hl, q⟩ := q1
  subst ex
  obtain ⟨u1, u2, rfl, ra, rb⟩ := vals2 r1
  cases ra
  cases rb
  obtain ⟨its, rv, pl, hz⟩ := I1.list qa
  obtain ⟨its2, rv2, pt, _⟩ := I1.tuple qb
  obtain ⟨ot, hot, _⟩ := id pt
  have l1 := rv.length
  have l2 := rv2.length
  rw [List.length_map] at l1 l2 hz
  refine call_zipLT pl.isList (show s1.heap.IsTuple b its2.toArray from pt) fun h' hz' hTI hTO h1 h2 hsz hk => args_nil ?_
  have D := PySem.W.ktu_apart s1.heap.objs.size a b pl.lt (Heap.lt_size hot)
  have PAr := zip_arg (prog := X.prog) (w := X.w) D (gives_list _ a its.toArray) (gives_tup _ b its2.toArray) (by simp only [List.size_toArray]; omega)
  have itk : ∀ (i : Nat) (key : Value), its[i]? = some key → ∃ k, ks[i]? = some k ∧ RelV (.str k) key := fun i key hi => by
    have il : i < ks.length := by
      have := (List.getElem?_eq_some_iff.mp hi).1
      omega
    obtain ⟨u, hu, ru⟩ := rv.get (show (ks.map V.str)[i]? = some (.str ks[i]) by rw [List.getElem?_map, List.getElem?_eq_getElem il] <;> rfl)
    rw [hi] at hu
    cases hu
    exact ⟨ks[i], List.getElem?_eq_getElem il, ru⟩
  refine _root_.PySem.call_dict_pairs (knd := mixKind X.prog X.w) (kvs := (ks.zip its2).map fun y => ((Sum.inr y.1 : L2.Key), y.2)) PAr (I1.ok.hd hc)
    ⟨hz', hTI, ⟨_, _, hTO⟩, ⟨h1, pl.isList.at fun o e => hk _ o e⟩, ⟨h2, (show s1.heap.IsTuple b its2.toArray from pt).at fun o e => hk _ o e⟩⟩ ⟨?_, fun i key v hr => ?_⟩ ?_ fun h'' tk hd hk2 => ?_
  · rw [List.length_map, List.length_zip, List.size_toArray]
    omega
  · obtain ⟨r1, r2⟩ := hr
    obtain ⟨k, hk1, hk2⟩ := itk i key (by simpa using r1)
    refine ⟨.inr k, ?_, kV_is (P := X.prog) (w := X.w) (k := .inr k) hk2⟩
    have e0 : (ks.zip its2)[i]? = some (k, v) := List.getElem?_zip_eq_some.mpr ⟨hk1, by simpa using r2⟩
    rw [List.getElem?_map, e0] <;> rfl
  · rw [List.size_toArray]
    omega
  · have hle : s1.heap.objs.size ≤ h'.objs.size := by omega
    have hm' : (h'.objs.size == sysModules) = false := beq_eq_false_iff_ne.mpr (Nat.ne_of_gt (Nat.lt_of_lt_of_le I1.big hle))
    have hlen : (mergeK [] (zipK ks zs)).length ≤ sizeLine := by
      refine Nat.le_trans (length_mergeK _ []) ?_
      unfold zipK
      rw [List.length_nil, Nat.zero_add, List.length_map, List.length_zip]
      omega
    refine ⟨.ref h'.objs.size, upd H1 h'.objs.size (.dK (mergeK [] (zipK ks zs))), I1.laid (t' := tk) (fun c o e => ?_) hle (show ObjOk X.prog X.w _ _ _ (.dK (mergeK [] (zipK ks zs))) from ⟨hlen, hm', merged [] _, KV.merge (kv_zip rv2) .nil, hd⟩), rfl, q _ (I1.hok.fresh hle)⟩
    refine hk2 c o (fun hm3 => ?_) (hk _ _ e)
    have := Heap.lt_size e
    simp only [List.mem_cons, List.not_mem_nil, or_false] at hm3
    rcases hm3 with z | z | z | z
    · exact Nat.not_lt_of_le (Nat.le_add_right _ 4) (z ▸ this)
    · exact Nat.not_lt_of_le (Nat.le_add_right _ 3) (z ▸ this)
    · exact Nat.lt_irrefl _ (z ▸ this)
    · exact Nat.not_lt_of_le (Nat.le_add_right _ 1) (z ▸ this)
end
end Nv
set_option maxHeartbeats 4000000
namespace Nv
open PySem PySem.Spec PyProof.Rows L2
/-! # the terms of a plan are the names and the variables; what stands in rows -/
theorem vst_in {acc : List Str} {x : Str} (h : x ∈ acc ∨ ¬ IsVr x) : vst acc x = acc := by
  unfold vst
  rw [if_neg (fun c => h.elim (fun m => c.2 m) fun v => v c.1)]
theorem vst_new {acc : List Str} {x : Str} (v : IsVr x) (h : x ∉ acc) : vst acc x = acc ++ [x] := by
  unfold vst
  rw [if_pos ⟨v, h⟩]
theorem vst_sub {acc tl : List Str} {x : Str} (h : x ∈ acc) : x ∈ tl.foldl vst acc := by
  induction tl generalizing acc with
  | nil => exact h
  | cons y tl ih =>
    refine ih ?_
    unfold vst
    by_cases c : IsVr y ∧ y ∉ acc
    · rw [if_pos c]
      exact List.mem_append_left _ h
    · rw [if_neg c]
      exact h
/-- a step takes the variables of its pattern behind the terms -/
theorem step_eq {zs acc p : List Str} (hz : ∀ x ∈ p.drop 1, (IsVr x ∧ x ∉ zs) ∨ (¬ IsVr x ∧ x ∈ zs)) : stepTerms (zs ++ acc) p = zs ++ (p.drop 1).foldl vst acc := by
  have hd : ∀ (i c : Nat), (colsOf p)[i]? = some c → (p.drop 1)[i]? = some (p.getD c "") := fun i c h => by
    rw [← cols_get, List.getElem?_map, h]
    rfl
  have go : ∀ i, i ≤ (colsOf p).length → termsIn (zs ++ acc) p ((colsOf p).take i) = zs ++ ((p.drop 1).take i).foldl vst acc := fun i => by
    induction i with
    | zero =>
      intro _
      show (zs ++ acc) ++ _ = _
      exact List.append_nil _
    | succ i ih =>
      intro hi
      have hc : (colsOf p)[i]? = some (colsOf p)[i] := List.getElem?_eq_getElem (by omega)
      generalize (colsOf p)[i] = c at hc
      have hp := hd i c hc
      have ih := ih (by omega)
      rw [take_one hp, List.foldl_append]
      show _ = zs ++ vst (((p.drop 1).take i).foldl vst acc) (p.getD c "")
      have hx := hz _ (List.mem_of_getElem? hp)
      by_cases h1 : p.getD c "" ∈ zs ++ acc
      · rw [(in_step hc h1).2.2.2.1, ih, vst_in]
        rcases List.mem_append.mp h1 with h | h
        · exact .inr fun v => hx.elim (fun y => y.2 h) fun y => y.1 v
        · exact .inl (vst_sub h)
      · have nz : p.getD c "" ∉ zs := fun m => h1 (List.mem_append_left _ m)
        have v : IsVr (p.getD c "") := hx.elim (fun y => y.1) fun y => absurd y.2 nz
        have mt := mem_terms hc h1
        rw [ih, List.mem_append] at mt
        by_cases hf : first1 p (p.getD c "") = c
        · rw [(out_step hc h1 hf).2.2.2.1, ih, vst_new v (fun m => mt.mp (.inr m) hf), List.append_assoc]
        · rw [(twin_step hc h1 hf).2.2.2.1, ih, vst_in (.inl ((mt.mpr hf).elim (fun y => absurd y nz) id))]
  have e := go (colsOf p).length (Nat.le_refl _)
  have el : (p.drop 1).length = (colsOf p).length := by rw [← cols_get, List.length_map]
  rw [List.take_length, ← el, List.take_length] at e
  exact e
theorem planT_eq : ∀ {pats : List (List Str)} {zs acc : List Str}, (∀ p ∈ pats, ∀ x ∈ p.drop 1, (IsVr x ∧ x ∉ zs) ∨ (¬ IsVr x ∧ x ∈ zs)) → planT (zs ++ acc) pats = zs ++ (tails pats).foldl vst acc
  | [], zs, acc, _ => rfl
  | p :: pats, zs, acc, hz => by
    have e : tails (p :: pats) = p.drop 1 ++ tails pats := by
      unfold tails
      rw [List.map_cons, List.flatten_cons, List.drop_one]
    rw [e, List.foldl_append]
    show planT (stepTerms (zs ++ acc) p) pats = _
    rw [step_eq (hz p List.mem_cons_self)]
    exact planT_eq fun q hq => hz q (List.mem_cons_of_mem _ hq)
theorem names_terms {pats : List (List Str)} {more zs : List Str} (ok : ∀ p ∈ pats, PatOk p) (h : NamesOf (tails pats ++ more) zs) : ∀ p ∈ pats, ∀ x ∈ p.drop 1, (IsVr x ∧ x ∉ zs) ∨ (¬ IsVr x ∧ x ∈ zs) := fun p hp x hx => by
  obtain ⟨w, ts, rfl, _, _, ht⟩ := ok p hp
  rcases ht x hx with v | n
  · exact .inl ⟨v, fun m => nm_not_vr ((h.mem x).mp m).2 v⟩
  · exact .inr ⟨nm_not_vr n, (h.mem x).mpr ⟨List.mem_append.mpr (.inl (by
      unfold tails
      exact List.mem_flatten.mpr ⟨ts, List.mem_map.mpr ⟨_, hp, rfl⟩, hx⟩)), n⟩⟩
theorem plan_vars {pats : List (List Str)} {more zs : List Str} (ok : ∀ p ∈ pats, PatOk p) (h : NamesOf (tails pats ++ more) zs) : planT zs pats = zs ++ varsIn (tails pats) := by
  have := planT_eq (acc := []) (names_terms ok h)
  rw [List.append_nil] at this
  exact this
theorem strp_put {P : Str → Prop} {kvs : List (L2.Key × V)} {k : L2.Key} {y : Str} (h : ∀ kv ∈ kvs, ∃ y, kv.2 = V.str y ∧ P y) (hy : P y) : ∀ kv ∈ putK kvs k (.str y), ∃ y, kv.2 = V.str y ∧ P y := fun kv hk => by
  unfold putK at hk
  split at hk
  · obtain ⟨z, hz, rfl⟩ := List.mem_map.mp hk
    split
    · exact ⟨y, rfl, hy⟩
    · exact h z hz
  · rcases List.mem_append.mp hk with hk | hk
    · exact h kv hk
    · rw [List.mem_singleton.mp hk]
      exact ⟨y, rfl, hy⟩
theorem strp_merge {P : Str → Prop} : ∀ (ys : List (Str × Str)) {acc : List (L2.Key × V)}, (∀ kv ∈ acc, ∃ y, kv.2 = V.str y ∧ P y) → (∀ y ∈ ys, P y.2) → ∀ kv ∈ mergeK acc (ys.map fun y => (.inr y.1, .str y.2)), ∃ y, kv.2 = V.str y ∧ P y
  | [], _, h, _ => h
  | y :: ys, acc, h, hy => strp_merge ys (strp_put (k := .inr y.1) (y := y.2) h (hy y List.mem_cons_self)) fun x hx => hy x (List.mem_cons_of_mem _ hx)
theorem subZ_P {P : Str → Prop} {ks zs : List Str} {z : Str} (h : ∀ y ∈ zs, P y) (hz : P z) : P (subZ ks zs z) := by
  have st := strp_merge (P := P) (ks.zip zs) (acc := []) (fun _ h => nomatch h) fun y hy => h y.2 (List.of_mem_zip hy).2
  have e2 : mergeK [] (zipK ks zs) = mergeK [] ((ks.zip zs).map fun y => (Sum.inr y.1, V.str y.2)) := rfl
  rw [← e2] at st
  unfold subZ
  cases g : valV (mergeK [] (zipK ks zs)) (.inr z) with
  | none => exact hz
  | some v =>
    have g2 := g
    unfold valV at g2
    obtain ⟨kv, h1, h2⟩ := Option.map_eq_some_iff.mp g2
    obtain ⟨y, hy, py⟩ := st kv (List.mem_of_find?_eq_some h1)
    rw [← h2, hy]
    exact py
end Nv
set_option maxHeartbeats 4000000
namespace Nv
open PySem PySem.Spec PyProof.Rows L2
/-! # What the rows of met are: each way to fill the patterns so that facts of the store come out -/
/-- the name that a row gives a term -/
def val (ts row : List Str) (z : Str) : Str := row.getD (pos1 ts z) ""
/-- a pattern with the names of a row -/
def fillR (ts row p : List Str) : List Str := p.take 1 ++ (p.drop 1).map (val ts row)
theorem val_at {ts row : List Str} {i : Nat} {y z : Str} (nd : ts.Nodup) (h : ts[i]? = some z) (r : row[i]? = some y) : val ts row z = y := by
  obtain ⟨p1, _⟩ := pos1_at (List.mem_of_getElem? h)
  have hi : i < ts.length := (List.getElem?_eq_some_iff.mp h).1
  have e : i = pos1 ts z := (List.getElem?_inj hi nd).mp (h.trans p1.symm)
  unfold val
  rw [← e, List.getD_eq_getElem?_getD, r] <;> rfl
theorem map_val {ts row : List Str} (nd : ts.Nodup) (hl : row.length = ts.length) : ts.map (val ts row) = row := by
  refine List.ext_getElem? fun i => ?_
  rw [List.getElem?_map]
  cases h : ts[i]? with
  | none =>
    have := List.getElem?_eq_none_iff.mp h
    rw [List.getElem?_eq_none (by omega)] <;> rfl
  | some z =>
    have hi := (List.getElem?_eq_some_iff.mp h).1
    have r : row[i]? = some row[i] := List.getElem?_eq_getElem (by omega)
    rw [r]
    exact congrArg some (val_at nd h r)
theorem pos1_pre {ts more : List Str} {z : Str} (h : z ∈ ts) : pos1 (ts ++ more) z = pos1 ts z := by
  unfold pos1
  rw [List.findIdx_append]
  exact if_pos (show ts.findIdx (fun y => y == z) < ts.length from List.findIdx_lt_length_of_exists ⟨z, h, beq_self_eq_true z⟩)
theorem pos1_lt {ts : List Str} {z : Str} (h : z ∈ ts) : pos1 ts z < ts.length := List.findIdx_lt_length_of_exists ⟨z, h, beq_self_eq_true z⟩
theorem val_pre {ts more row : List Str} {z : Str} (h : z ∈ ts) : val (ts ++ more) row z = val ts (row.take ts.length) z := by
  unfold val
  rw [pos1_pre h, List.getD_eq_getElem?_getD, List.getD_eq_getElem?_getD, List.getElem?_take_of_lt (pos1_lt h)]
/-! ### the terms of a step -/
theorem cols_nd {p : List Str} : (colsOf p).Nodup := List.nodup_range'
theorem col_mem {p : List Str} {z : Str} (h : z ∈ p.drop 1) : ∃ c, c ∈ colsOf p ∧ p.getD c "" = z := by
  rw [← cols_get] at h
  obtain ⟨c, hc, e⟩ := List.mem_map.mp h
  exact ⟨c, hc, e⟩
theorem first_new {ts p : List Str} {c : Nat} (hc : c ∈ colsOf p) (h : p.getD c "" ∉ ts) : first1 p (p.getD c "") ∈ newsIn ts p (colsOf p) ∧ p.getD (first1 p (p.getD c "")) "" = p.getD c "" := by
  obtain ⟨i, hi⟩ := List.getElem?_of_mem hc
  obtain ⟨f1, f2, _, _, f5⟩ := first_col hi
  have hm := List.mem_range'_1.mp hc
  refine ⟨List.mem_filter.mpr ⟨List.mem_range'_1.mpr (by omega), ?_⟩, f5⟩
  unfold isNew
  rw [f5, decide_eq_false h, decide_eq_true rfl]
  rfl
theorem news_out {ts p : List Str} {c : Nat} (h : c ∈ newsIn ts p (colsOf p)) : c ∈ colsOf p ∧ p.getD c "" ∉ ts ∧ first1 p (p.getD c "") = c := by
  obtain ⟨h1, h2⟩ := List.mem_filter.mp h
  unfold isNew at h2
  rw [Bool.and_eq_true, Bool.not_eq_true', decide_eq_false_iff_not, decide_eq_true_eq] at h2
  exact ⟨h1, h2.1, h2.2⟩
theorem step_app {ts p : List Str} : stepTerms ts p = ts ++ (newsIn ts p (colsOf p)).map fun c => p.getD c "" := rfl
theorem step_in {ts p : List Str} {z : Str} (h : z ∈ p.drop 1) : z ∈ stepTerms ts p := by
  obtain ⟨c, hc, rfl⟩ := col_mem h
  rw [step_app]
  by_cases hz : p.getD c "" ∈ ts
  · exact List.mem_append_left _ hz
  · obtain ⟨h1, h2⟩ := first_new hc hz
    exact List.mem_append_right _ (List.mem_map.mpr ⟨_, h1, h2⟩)
theorem step_nd {ts p : List Str} (nd : ts.Nodup) : (stepTerms ts p).Nodup := by
  rw [step_app, List.nodup_append]
  refine ⟨nd, ?_, fun x hx y hy e => ?_⟩
  · refine List.pairwise_map.mpr ((cols_nd.filter _).imp_of_mem fun {a b} ha hb ne e => ne ?_)
    rw [← (news_out ha).2.2, ← (news_out hb).2.2, e]
  · obtain ⟨c, hc, rfl⟩ := List.mem_map.mp hy
    exact (news_out hc).2.1 (e ▸ hx)
theorem planT_app : ∀ {pats : List (List Str)} {ts : List Str}, ∃ more, planT ts pats = ts ++ more
  | [], ts => ⟨[], (List.append_nil _).symm⟩
  | p :: pats, ts => by
    obtain ⟨more, e⟩ := planT_app (pats := pats) (ts := stepTerms ts p)
    exact ⟨_, by
      show planT (stepTerms ts p) pats = _
      rw [e, step_app, List.append_assoc]⟩
/-! ### one step -/
theorem mem_keepA : ∀ (ijs : List (Nat × Nat)) {ps : List (List Str)} {p : List Str}, p ∈ keepA ijs ps ↔ p ∈ ps ∧ ∀ z ∈ ijs, apartB z p = true
  | [], _, _ => ⟨fun h => ⟨h, fun z hz => nomatch hz⟩, fun h => h.1⟩
  | z :: ijs, ps, p => by
    show p ∈ keepA ijs (ps.filter (apartB z)) ↔ _
    rw [mem_keepA ijs, List.mem_filter]
    refine ⟨fun ⟨⟨h1, h2⟩, h3⟩ => ⟨h1, fun y hy => ?_⟩, fun ⟨h1, h2⟩ => ⟨⟨h1, h2 z List.mem_cons_self⟩, fun y hy => h2 y (List.mem_cons_of_mem _ hy)⟩⟩
    rcases List.mem_cons.mp hy with rfl | hy
    · exact h2
    · exact h3 y hy
theorem apart_val {ts row pr : List Str} : apartB (ijOf ts pr) row = true ↔ val ts row (pr.getD 0 "") ≠ val ts row (pr.getD 1 "") := by
  unfold apartB ijOf val
  rw [Bool.not_eq_true', decide_eq_false_iff_not]
theorem fill_col {ts row p : List Str} {c : Nat} (hc : c ∈ colsOf p) : (fillR ts row p).getD c "" = val ts row (p.getD c "") := by
  have hm := List.mem_range'_1.mp hc
  unfold fillR
  rw [List.getD_eq_getElem?_getD, List.getElem?_append_right (by rw [List.length_take]; omega), List.length_take, List.getElem?_map, List.getElem?_drop, Nat.min_eq_left (by omega), show 1 + (c - 1) = c by omega, List.getElem?_eq_getElem (by omega), List.getD_eq_getElem?_getD, List.getElem?_eq_getElem (by omega)] <;> rfl
theorem kind_fill {ts row p : List Str} : kindK (fillR ts row p) = kindK p := by
  cases p with
  | nil => rfl
  | cons w t =>
    rw [show fillR ts row (w :: t) = w :: t.map (val ts row) from rfl]
    show ([.inr w, .inl ((t.map (val ts row)).length : Nat)] : List L2.Key) = [.inr w, .inl (t.length : Nat)]
    rw [List.length_map]
theorem fill_eq {ts row p f : List Str} (hp : 1 ≤ p.length) (hf : 1 ≤ f.length) (k : kindK f = kindK p) (h : ∀ c ∈ colsOf p, f.getD c "" = val ts row (p.getD c "")) : f = fillR ts row p := by
  have hl := kind_len hf hp k
  have hl2 : (fillR ts row p).length = p.length := kind_len (by cases p with | nil => exact absurd hp (by decide) | cons w t => exact Nat.le_add_left _ _) hp kind_fill
  refine List.ext_getElem? fun i => ?_
  by_cases hi : i < p.length
  · cases i with
    | zero =>
      cases p with
      | nil => exact absurd hp (by decide)
      | cons w t =>
        cases f with
        | nil => exact absurd hf (by decide)
        | cons a f =>
          unfold kindK at k
          injection k with k _
          injection k with k
          show some a = some w
          rw [k]
    | succ i =>
      have hc : i + 1 ∈ colsOf p := List.mem_range'_1.mpr (by omega)
      have e := (h _ hc).trans (fill_col hc).symm
      rw [List.getD_eq_getElem?_getD, List.getD_eq_getElem?_getD, List.getElem?_eq_getElem (by omega), List.getElem?_eq_getElem (by omega)] at e
      rw [List.getElem?_eq_getElem (by omega), List.getElem?_eq_getElem (by omega)]
      exact congrArg some e
  · rw [List.getElem?_eq_none (by omega), List.getElem?_eq_none (by omega)]
theorem row_step {ts p : List Str} {row0 f : List Str} (nd : ts.Nodup) (hl : row0.length = ts.length) (hk : keyO (oldsIn ts p (colsOf p)) f = keyR (placesIn ts p (colsOf p)) row0) (ht : twB (twinsIn ts p (colsOf p)) f = true) :
    ∀ c ∈ colsOf p, f.getD c "" = val (stepTerms ts p) (row0 ++ selT (newsIn ts p (colsOf p)) f) (p.getD c "") := fun c hc => by
  by_cases hz : p.getD c "" ∈ ts
  · rw [step_app, val_pre hz, ← hl, List.take_left' rfl]
    unfold keyO keyR placesIn at hk
    rw [List.map_map] at hk
    have ho : c ∈ oldsIn ts p (colsOf p) := List.mem_filter.mpr ⟨hc, decide_eq_true hz⟩
    have := (List.map_inj_left.mp hk) c ho
    injection this
  · obtain ⟨h1, h2⟩ := first_new hc hz
    obtain ⟨i, hi⟩ := List.getElem?_of_mem h1
    have e := val_at (row := row0 ++ selT (newsIn ts p (colsOf p)) f) (step_nd (p := p) nd) (i := ts.length + i) (z := p.getD c "") (y := f.getD (first1 p (p.getD c "")) "") (by
      rw [step_app, List.getElem?_append_right (Nat.le_add_right _ _), Nat.add_sub_cancel_left, List.getElem?_map, hi]
      exact congrArg some h2) (by
      unfold selT
      rw [List.getElem?_append_right (by omega), hl, Nat.add_sub_cancel_left, List.getElem?_map, hi] <;> rfl)
    rw [e]
    by_cases hf : first1 p (p.getD c "") = c
    · rw [hf]
    · have tw : (c, first1 p (p.getD c "")) ∈ twinsIn ts p (colsOf p) := List.mem_map.mpr ⟨c, List.mem_filter.mpr ⟨hc, by
        unfold isTwin
        rw [decide_eq_false hz, decide_eq_false hf]
        rfl⟩, rfl⟩
      have := List.all_eq_true.mp ht _ tw
      unfold apartB at this
      rw [Bool.not_not, decide_eq_true_eq] at this
      exact this
theorem onw_mem {ts p : List Str} {prs rws ps : List (List Str)} {row : List Str} (nd : ts.Nodup) (hr : ∀ x ∈ rws, x.length = ts.length) (hp : 1 ≤ p.length) (ok : ∀ f ∈ ps, 1 ≤ f.length) :
    row ∈ onw p ts prs rws (ofKind p ps) ↔ row.length = (stepTerms ts p).length ∧ row.take ts.length ∈ rws ∧ fillR (stepTerms ts p) row p ∈ ps ∧ ∀ pr ∈ readyOf ts (stepTerms ts p) prs, val (stepTerms ts p) row (pr.getD 0 "") ≠ val (stepTerms ts p) row (pr.getD 1 "") := by
  have nd' := step_nd (p := p) nd
  unfold onw
  rw [mem_keepA]
  have pairs : (∀ z ∈ (readyOf ts (stepTerms ts p) prs).map (ijOf (stepTerms ts p)), apartB z row = true) ↔ ∀ pr ∈ readyOf ts (stepTerms ts p) prs, val (stepTerms ts p) row (pr.getD 0 "") ≠ val (stepTerms ts p) row (pr.getD 1 "") :=
    ⟨fun h pr hpr => apart_val.mp (h _ (List.mem_map.mpr ⟨pr, hpr, rfl⟩)), fun h z hz => by
      obtain ⟨pr, hpr, rfl⟩ := List.mem_map.mp hz
      exact apart_val.mpr (h pr hpr)⟩
  rw [pairs, ← and_assoc, ← and_assoc]
  refine and_congr_left fun _ => ?_
  constructor
  · intro h
    obtain ⟨row0, h0, h⟩ := List.mem_flatMap.mp h
    obtain ⟨f, hf, rfl⟩ := List.mem_map.mp h
    obtain ⟨hf1, hf2⟩ := List.mem_filter.mp hf
    obtain ⟨hf3, hf4⟩ := List.mem_filter.mp hf1
    obtain ⟨hf5, hf6⟩ := List.mem_filter.mp hf3
    have hl := hr row0 h0
    have hv := row_step nd hl (of_decide_eq_true hf2) hf4
    refine ⟨⟨?_, ?_⟩, ?_⟩
    · rw [step_app, List.length_append, List.length_append, hl]
      unfold selT
      rw [List.length_map, List.length_map]
    · rw [← hl, List.take_left' rfl]
      exact h0
    · rw [← fill_eq hp (ok f hf5) (of_decide_eq_true hf6) hv]
      exact hf5
  · rintro ⟨⟨hl, h0⟩, hf⟩
    refine List.mem_flatMap.mpr ⟨_, h0, List.mem_map.mpr ⟨_, List.mem_filter.mpr ⟨List.mem_filter.mpr ⟨List.mem_filter.mpr ⟨hf, decide_eq_true kind_fill⟩, ?_⟩, decide_eq_true ?_⟩, ?_⟩⟩
    · refine List.all_eq_true.mpr fun z hz => ?_
      obtain ⟨c, hc, rfl⟩ := List.mem_map.mp hz
      obtain ⟨hc, ht⟩ := List.mem_filter.mp hc
      unfold isTwin at ht
      rw [Bool.and_eq_true, Bool.not_eq_true', decide_eq_false_iff_not] at ht
      obtain ⟨h1, h2⟩ := first_new hc ht.1
      unfold apartB
      rw [Bool.not_not, decide_eq_true_eq, fill_col hc, fill_col (news_out h1).1, h2]
    · unfold keyO keyR placesIn
      rw [List.map_map]
      refine List.map_inj_left.mpr fun c hc => ?_
      obtain ⟨hc, hz⟩ := List.mem_filter.mp hc
      rw [fill_col hc]
      show Sum.inr _ = Sum.inr _
      rw [step_app, val_pre (of_decide_eq_true hz)] <;> rfl
    · refine Eq.trans ?_ (List.take_append_drop ts.length row)
      refine congrArg _ ?_
      have e := map_val nd' hl
      have e2 : row.drop ts.length = ((newsIn ts p (colsOf p)).map fun c => p.getD c "").map (val (stepTerms ts p) row) := by
        conv => lhs; rw [← e]
        rw [step_app, List.map_append, List.drop_left' (by rw [List.length_map])]
      rw [e2, List.map_map]
      unfold selT
      exact List.map_inj_left.mpr fun c hc => fill_col (news_out hc).1
end Nv
set_option maxHeartbeats 4000000
namespace Nv
open PySem PySem.Spec PyProof.Rows L2
/-! # _law_lets, with nothing denied -/
def meetB (sb : Str → Str) (pr : List Str) : Bool := decide (sb (pr.getD 0 "") = sb (pr.getD 1 ""))
def dOnes (n : Nat) : PyData := .list (List.replicate n (.int 1))
theorem dp_ones {K : PySem.W.Frag} {H : Hp} : ∀ n : Nat, DpAll K H (List.replicate n (V.int 1)) (List.replicate n (.int 1))
  | 0 => .nil
  | n + 1 => .cons (.int 1) (dp_ones n)
theorem eqv_ones : ∀ n : Nat, PyData.eqv (dOnes n) (dS []) = decide (n = 0)
  | 0 => by rw [decide_eq_true rfl] <;> rfl
  | n + 1 => by rw [decide_eq_false (Nat.succ_ne_zero n)] <;> rfl
theorem lay_int {i : Int} : Lay 0 (.int i) := ⟨by simp [PyData.canLay0], by simp [PyData.depth]⟩
theorem lay_ones (n : Nat) : Lay 1 (dOnes n) := lay_list fun d hd => by
  rw [(List.mem_replicate.mp hd).2]
  exact lay_int
theorem rep_one (n : Nat) (v : V) : List.replicate n v ++ [v] = List.replicate (n + 1) v := by rw [List.replicate_succ']
section
variable {P : Program} {w : World} {K : PySem.W.Frag} {mg : Str → Option Value} {base : Heap}
def spLets (K : PySem.W.Frag) : Sp := fun vs H Q _ => ∃ (m a b c : Addr) (us : List V) (prs : List (List Str)) (sb : Str → Str), vs = [.ref m, .ref a, .ref b, .ref c] ∧ SubAt H m sb ∧ (SqL K H a us ∧ PaL H us prs ∧ (∀ p ∈ prs, PairOk p) ∧ prs.length ≤ 300) ∧ H b = some (.lst []) ∧
  ∀ H', Same H H' → Q (.bl (prs.all fun pr => !meetB sb pr)) H'
abbrev nLets : List Str := ["_law_match", "_law_pairs_here", "_law_denied", "_law_store_here", "_law_one", "_law_other", "_law_pattern_here"]
theorem scLets : FnScope nLets ["_law_match", "_law_pairs_here", "_law_denied", "_law_store_here"] (defScope sLets) := ⟨rfl, rfl, rfl, by decide +kernel, rfl, by decide +kernel, by decide +kernel⟩
theorem ok_lets {f fF : Addr} {fd dF : FuncData} (F : Fun K "_law_lets" "_law_lets" sLets f fd) (B : Bp mg)
    (GF : FnOk P w K mg base CX0 1 fF dF ["_law_pattern_here", "_law_match"] (spLFilled K)) (kF : PySem.W.keepIn K (.ref fF) = true) (gF : mg "_law_filled" = some (.ref fF)) (bF : Binds K dF ["_law_pattern_here", "_law_match"] []) :
    FnOk P w K mg base CX0 2 f fd ["_law_match", "_law_pairs_here", "_law_denied", "_law_store_here"] (spLets K) := by
  refine F.ok scLets (fun vs H Q E h => ?_) (fun cdv A outer s H vs Q E hr h => ?_)
  · obtain ⟨m, a, b, c, us, prs, sb, rfl, _⟩ := h
    rfl
  · obtain ⟨m, a, b, c, us, prs, sb, rfl, hm, ⟨ha, hp, hok, hl⟩, eb, q⟩ := h
    have hr1 : Room 1 _ := hr.mono (by decide)
    have hu5 : (A.deeper (envOfC "_law_lets" (defScope sLets) s.heap.objs.size f cdv)).units + 65 < cLine := by have := hr.un; omega
    have hu : (A.deeper (envOfC "_law_lets" (defScope sLets) s.heap.objs.size f cdv)).units + 1 < cLine := Nat.lt_of_le_of_lt (Nat.add_le_add_left (by decide : 1 ≤ 64) _) hr1.units
    refine ⟨_, pss_cons (ps_if (pt_cmpR (op_neD hr1.units) (by exact (pe_lc (own := [("_law_one", 4), ("_law_other", 5)]) (g := gTup K 2 (gCons (gName 4) (gCons (gName 5) gNil))) (tt := tTest (tOp rEq (tDGet2 (tVar 0) (tVar 4) (tVar 4)) (tDGet2 (tVar 0) (tVar 5) (tVar 5)))) (te := tC (.int 1)) rfl scLets.nd (pi_list (pv 1))
        (blkOk_by (own := [("_law_one", 4), ("_law_other", 5)]) (N := nLets) (sc := defScope sLets) (by decide +kernel))
        (fun _ _ _ _ _ => pg_tup rfl (pgs_cons (pg_name (i := 4) scLets.nd rfl (Or.inl rfl)) (pgs_cons (pg_name (i := 5) scLets.nd rfl (Or.inl rfl)) pgs_nil)))
        (fun _ _ _ _ _ => by exact (pts_one (pt_cmpR op_eq (pe_dget2 hu (pv 0) (pv 4) (pv 4) ⟨rfl, rfl, rfl, rfl⟩) (pe_dget2 hu (pv 0) (pv 5) (pv 5) ⟨rfl, rfl, rfl, rfl⟩) (nomark _))))
        (fun _ _ _ _ _ => pe_int))) (pe_lst pa_nil) (nomark _)) (pss_one (ps_ret pe_bl)) pss_nil)
      (pss_one (ps_ret (by exact (pe_cmpR (op_eqD hr1.units) (by exact (pe_lc (own := [("_law_pattern_here", 6)]) (g := gName 6) (tt := tTest (tOp (rInD K) (tCall (spLFilled K) [] E0 (tCons (tVar 6) (tCons (tVar 0) tNil))) (tVar 3))) (te := tVar 6) rfl scLets.nd (pi_list (pv 2))
        (blkOk_by (own := [("_law_pattern_here", 6)]) (N := nLets) (sc := defScope sLets) (by decide +kernel))
        (fun _ _ _ _ _ => pg_name (i := 6) scLets.nd rfl (Or.inl rfl))
        (fun _ _ _ _ _ => by exact (pts_one (pt_cmpR (op_inD hu5) (by exact (pe_call GF hr1 (by rfl) gF kF bF .nil pass0 (pa_cons (pv 6) (pa_cons (pv 0) pa_nil)))) (pv 3) (by rfl))))
        (fun _ _ _ _ _ => by exact (pv 6)))) (pe_lst pa_nil) (nomark _))))), ?_⟩
    obtain ⟨kvs, em, hsub⟩ := id hm
    have hul := hp.len
    refine ⟨_, rfl, a, rfl, ⟨_, ha⟩, fun D nD => ?_⟩
    refine lc_list (K := K) (a := a) (xs := us) (fun i H' => Same H H' ∧ H' D = some (.lst (List.replicate ((prs.take i).filter (meetB sb)).length (V.int 1)))) ⟨same_new nD, upd_same⟩ (fun i H' _ y => y.1.seq ha) ?_ ?_
    · rintro i v H1 hi ⟨s1, e1⟩
      obtain ⟨t, p, rfl, hpi, et⟩ := hp.at_ hi
      obtain ⟨x, y, rfl, _⟩ := hok p (List.mem_of_getElem? hpi)
      have il := (List.getElem?_eq_some_iff.mp hpi).1
      have em1 := s1 _ _ em
      have ft := filter_take (f := meetB sb) hpi
      refine ⟨t, _, rfl, (et.same s1).sq, rfl, _, _, rfl, _, _, rfl, rfl, rfl, ?_⟩
      refine ⟨_, rfl, m, rfl, .inl ⟨kvs, .inl em1⟩, _, rfl, _, rfl, _, DGet.k (k := .inr x) em1, ?_⟩
      rw [hsub]
      refine ⟨_, rfl, m, rfl, .inl ⟨kvs, .inl em1⟩, _, rfl, _, rfl, _, DGet.k (k := .inr y) em1, ?_⟩
      rw [hsub]
      refine ⟨rfl, _, rfl, ?_⟩
      have eb2 : decide (V.str (sb x) = V.str (sb y)) = meetB sb [x, y] := decide_eq_decide.mpr ⟨fun h => by injection h, fun h => congrArg V.str h⟩
      rw [eb2]
      cases hb : meetB sb [x, y] with
      | true =>
        rw [hb, if_pos rfl] at ft
        refine iteT ⟨_, e1, ?_, same_put s1 nD, ?_⟩
        · rw [List.length_replicate]
          have h2 := List.length_filter_le (meetB sb) (prs.take i)
          rw [List.length_take] at h2
          exact Nat.lt_of_le_of_lt (by omega : _ ≤ 1000) (by decide)
        · rw [upd_same, ft, List.length_append, rep_one] <;> rfl
      | false =>
        rw [hb, if_neg Bool.false_ne_true, List.append_nil] at ft
        exact iteF ⟨s1, by rw [e1, ft]⟩
    · rintro H1 ⟨s1, e1⟩
      rw [hul, List.take_length] at e1
      have sm : ∀ {l : Addr} {G : Hp}, G l = none → Same G (upd G l (.lst [])) := fun n => same_new n
      refine ⟨by show 0 ≤ _; exact Nat.zero_le _, fun l nl => ?_⟩
      have s2 := s1.trans (sm nl)
      have e2 := sm nl _ _ e1
      have el : upd H1 l (.lst []) l = some (.lst []) := upd_same
      generalize upd H1 l (.lst []) = H2 at s2 e2 el ⊢
      refine ⟨dOnes _, dS [], .lst (SqL.of e2) (dp_ones _), .lst (SqL.of el) .nil, (lay_ones _).shaped (by decide), (lay_dS (xs := []) (fun x hx => nomatch hx)).shaped (by decide), _, rfl, ?_⟩
      rw [eqv_ones]
      have key : (prs.all fun pr => !meetB sb pr) = decide ((prs.filter (meetB sb)).length = 0) := by
        rw [Bool.eq_iff_iff, List.all_eq_true, decide_eq_true_iff, List.length_eq_zero_iff, List.filter_eq_nil_iff]
        exact ⟨fun h x hx => by have := h x hx; simpa using this, fun h x hx => by have := h x hx; simpa using this⟩
      cases hz : decide ((prs.filter (meetB sb)).length = 0) with
      | false =>
        rw [hz] at key
        rw [key] at q
        exact iteT (q H2 s2)
      | true =>
        rw [hz] at key
        rw [key] at q
        refine iteF ?_
        show tSeq _ _ _ _ _
        have eb2 := s2 _ _ eb
        refine ⟨_, rfl, b, rfl, ⟨_, SqL.of eb2⟩, fun D3 nD3 => ?_⟩
        refine lc_list (K := K) (a := b) (xs := []) (fun i H' => Same H2 H' ∧ H' D3 = some (.lst [])) ⟨same_new nD3, upd_same⟩ (fun i H' _ y => SqL.of (y.1 _ _ eb2)) ?_ ?_
        · intro i v H3 hi _
          cases hi
        · rintro H3 ⟨s3, e3⟩
          refine ⟨by show 0 ≤ _; exact Nat.zero_le _, fun l4 nl4 => ?_⟩
          have s4 : Same H3 (upd H3 l4 (.lst [])) := same_new nl4
          refine ⟨dS [], dS [], .lst (SqL.of (s4 _ _ e3)) .nil, .lst (SqL.of upd_same) .nil, (lay_dS (xs := []) (fun x hx => nomatch hx)).shaped (by decide), (lay_dS (xs := []) (fun x hx => nomatch hx)).shaped (by decide), ?_⟩
          exact q _ ((s2.trans s3).trans s4)
end
end Nv
set_option maxHeartbeats 4000000
namespace Nv
open PySem PySem.Spec PyProof.Rows L2
theorem RA.sbo {C C2 : Addr} {H H1 : Hp} {a r dx : Addr} {x : Rl} (h : RA C H a x) (e : H r = some (.ins C2 dx [])) (s : Sb r H H1) : RA C H1 a x := by
  obtain ⟨dx, th, l1, l2, l3, us, us2, us3, e0, e1, ⟨e2, p2⟩, ⟨e3, p3⟩, e4, p4⟩ := h
  refine ⟨dx, th, l1, l2, l3, us, us2, us3, s _ _ (fun z => ?_) e0, e1.elim (fun z => .inl (s _ _ (e1.ins e) z)) (fun ⟨o, z⟩ => .inr ⟨o, s _ _ (e1.ins e) z⟩), ⟨s _ _ (fun z => ?_) e2, p2.sbo e s⟩, ⟨s _ _ (fun z => ?_) e3, p3.sbo e s⟩, s _ _ (fun z => ?_) e4, p4.sbo e s⟩
  · rw [z, e] at e0
    injection e0 with e0
    injection e0 with _ _ e0
    cases e0
  · rw [z, e] at e2
    cases e2
  · rw [z, e] at e3
    cases e3
  · rw [z, e] at e4
    cases e4
section
variable {P : Program} {w : World} {K : PySem.W.Frag} {mg : Str → Option Value} {base : Heap}
/-- rules, as a list of the heap -/
def RAs (C : Addr) (H : Hp) (rs : List Addr) (xs : List Rl) : Prop := All2 (fun r x => RA C H r x) rs xs
theorem RAs.same {C : Addr} {H H1 : Hp} {rs : List Addr} {xs : List Rl} (h : RAs C H rs xs) (s : Same H H1) : RAs C H1 rs xs := h.imp fun _ _ z => z.same s
theorem at_ref {rs : List Addr} {i : Nat} {x : V} (hx : (rs.map V.ref)[i]? = some x) : ∃ r, rs[i]? = some r ∧ x = V.ref r := by
  rw [List.getElem?_map] at hx
  cases g : rs[i]? with
  | none =>
    rw [g] at hx
    cases hx
  | some z =>
    rw [g] at hx
    exact ⟨z, rfl, (Option.some.inj hx).symm⟩
end
end Nv
set_option maxHeartbeats 4000000
namespace Nv
open PySem PySem.Spec PyProof.Rows L2
/-! # need_question, where it lets pass -/
section
variable {P : Program} {w : World} {K : PySem.W.Frag} {mg : Str → Option Value} {base : Heap}
def spNeedQ (C : Addr) : Sp := fun vs H Q _ => ∃ (r dx : Addr) (fs : List (Str × V)), vs = [.ref r] ∧ H r = some (.ins C dx fs) ∧ Q .non H
theorem scNeedQ : FnScope ["value"] ["value"] (defScope sNeedQuestion) := ⟨rfl, rfl, rfl, by decide +kernel, rfl, by decide +kernel, by decide +kernel⟩
theorem ok_needQ {f C : Addr} {fd : FuncData} (F : Fun K "need_question" "need_question" sNeedQuestion f fd) (B : Bp mg) (cl : Cls K C) (I : IC K C) (gQ : mg "Question" = some (.ref C)) :
    FnOk P w K mg base CX0 1 f fd ["value"] (spNeedQ C) := by
  refine F.ok scNeedQ (fun vs H Q E h => ?_) (fun cdv A outer s H vs Q E hr h => ?_)
  · obtain ⟨r, dx, fs, rfl, _⟩ := h
    rfl
  · obtain ⟨r, dx, fs, rfl, e, q⟩ := h
    refine ⟨_, pss_one (ps_if (pt_not (pt_val (pe_callB call_isi (by rfl) B.isi bootIsi (pa_cons (pv 0) (pa_cons (pe_glob (v := V.ref C) (by rfl) gQ rfl) pa_nil))))) (pss_one ps_never) pss_nil), ?_⟩
    refine ⟨_, rfl, _, _, _, _, true, rfl, .own _, .base (.ins e cl I.ha I.hn I.ht I.hm), I.me, ?_⟩
    exact ⟨true, rfl, iteF q⟩
end
end Nv
set_option maxHeartbeats 4000000
namespace Nv
open PySem PySem.Spec PyProof.Rows L2
/-- the book of the rules rs stands at b -/
def BA (C : Addr) (H : Hp) (b : Addr) (rs : List Addr) : Prop := ∃ dx l : Addr, H b = some (.ins C dx [("_rules", .ref l)]) ∧ H l = some (.lst (rs.map V.ref))
theorem BA.same {C : Addr} {H H1 : Hp} {b : Addr} {rs : List Addr} (h : BA C H b rs) (s : Same H H1) : BA C H1 b rs := by
  obtain ⟨dx, l, e1, e2⟩ := h
  exact ⟨dx, l, s _ _ e1, s _ _ e2⟩
theorem lkR {l : Addr} : List.lookup ("_rules" : Str) ([("_rules", V.ref l)] : Flds) = some (V.ref l) := lk_yes
end Nv
set_option maxHeartbeats 4000000
namespace Nv
open PySem PySem.Spec PyProof.Rows L2
section
variable {P : Program} {w : World} {K : PySem.W.Frag} {mg : Str → Option Value} {base : Heap}
theorem All2.app {α β : Type} {R : α → β → Prop} {xs xs' : List α} {ys ys' : List β} (h : All2 R xs ys) (h' : All2 R xs' ys') : All2 R (xs ++ xs') (ys ++ ys') := by
  induction h with
  | nil => exact h'
  | cons a _ ih => exact .cons a ih
def less {α : Type} (xs : List α) (j : Nat) : List α := xs.take j ++ xs.drop (j + 1)
/-- a new instance: what stood stands -/
theorem made_same {H H1 H2 : Hp} {x dx C : Addr} (s : Same H H1) (nx : H1 x = none) (nd : H1 dx = none) (sb : Sb x (upd (upd H1 dx (.own x)) x (.ins C dx [])) H2) : Same H H2 := by
  intro b o e
  have e1 := s b o e
  have n1 : b ≠ x := ne_of_none e1 nx
  refine sb b o n1 ?_
  rw [upd_ne n1, upd_ne (ne_of_none e1 nd)]
  exact e1
end
end Nv
set_option maxHeartbeats 4000000
set_option maxHeartbeats 4000000
set_option maxHeartbeats 4000000
namespace Nv
open PySem PySem.Spec PyProof.Rows L2
abbrev sQInit : Stmt := inClass cQuestion 0
/-- what a question is made of -/
structure Ql where
  cs : List Str
  ps : List (List Str)
  qs : List (List Str)
  deriving DecidableEq
structure Ql.Ok (x : Ql) : Prop where
  cs : ∀ y ∈ x.cs, IsVr y
  cl : x.cs.length ≤ 300
  ps : ∀ y ∈ x.ps, PatOk y
  pl : x.ps.length ≤ 300
  qs : ∀ y ∈ x.qs, PairOk y
  ql : x.qs.length ≤ 300
abbrev qF (l1 l2 l3 : Addr) : Flds := [("_columns", .ref l1), ("_told", .ref l2), ("_pairs", .ref l3)]
theorem qF2 {l1 l2 : Addr} : putF "_told" (V.ref l2) ([("_columns", V.ref l1)] : Flds) = ([("_columns", V.ref l1), ("_told", V.ref l2)] : Flds) := putF_new (ns := ["_columns"]) rfl (by decide +kernel)
theorem qF3 {l1 l2 l3 : Addr} : putF "_pairs" (V.ref l3) ([("_columns", V.ref l1), ("_told", V.ref l2)] : Flds) = qF l1 l2 l3 := putF_new (ns := ["_columns", "_told"]) rfl (by decide +kernel)
theorem qk1 {l1 l2 l3 : Addr} : (qF l1 l2 l3).lookup ("_columns" : Str) = some (V.ref l1) := lk_yes
theorem qk2 {l1 l2 l3 : Addr} : (qF l1 l2 l3).lookup ("_told" : Str) = some (V.ref l2) := (lk_no (by decide +kernel)).trans lk_yes
theorem qk3 {l1 l2 l3 : Addr} : (qF l1 l2 l3).lookup ("_pairs" : Str) = some (V.ref l3) := (lk_no (by decide +kernel)).trans ((lk_no (by decide +kernel)).trans lk_yes)
structure QC (K : PySem.W.Frag) (C : Addr) : Prop where
  cl : Cls K C
  n1 : NoAttr K C "_columns"
  n2 : NoAttr K C "_told"
  n3 : NoAttr K C "_pairs"
/-- the question x stands at r -/
def QA (C : Addr) (H : Hp) (r : Addr) (x : Ql) : Prop := ∃ (dx l1 l2 l3 : Addr) (us us2 : List V), H r = some (.ins C dx (qF l1 l2 l3)) ∧ H l1 = some (.lst (x.cs.map V.str)) ∧ (H l2 = some (.lst us) ∧ PaX H us x.ps) ∧ H l3 = some (.lst us2) ∧ PaL H us2 x.qs
theorem QA.same {C : Addr} {H H1 : Hp} {r : Addr} {x : Ql} (h : QA C H r x) (s : Same H H1) : QA C H1 r x := by
  obtain ⟨dx, l1, l2, l3, us, us2, e, e1, ⟨e2, p2⟩, e3, p3⟩ := h
  exact ⟨dx, l1, l2, l3, us, us2, s _ _ e, s _ _ e1, ⟨s _ _ e2, p2.same s⟩, s _ _ e3, p3.same s⟩
theorem free_sb {H G : Hp} {r l C dx : Addr} {fs : Flds} (s : Sb r H G) (e : G r = some (.ins C dx fs)) (n : G l = none) : l ≠ r ∧ H l = none := by
  have hn : l ≠ r := fun z => by
    rw [z, e] at n
    cases n
  refine ⟨hn, ?_⟩
  cases g : H l with
  | none => rfl
  | some o =>
    rw [s _ _ hn g] at n
    cases n
section
variable {P : Program} {w : World} {K : PySem.W.Frag} {mg : Str → Option Value} {base : Heap}
def spQInit (C : Addr) : Sp := fun vs H Q _ => ∃ (r dx tc tt : Addr) (cs : List Str) (us : List V) (ps : List (List Str)) (vp : V) (qs : List (List Str)), vs = [.ref r, .ref tc, .ref tt, vp] ∧ H r = some (.ins C dx []) ∧
  (H tc = some (.lst (cs.map V.str)) ∧ (∀ x ∈ cs, IsVr x) ∧ cs.length ≤ 300) ∧ (H tt = some (.lst us) ∧ PaL H us ps ∧ (∀ x ∈ ps, PatOk x) ∧ ps.length ≤ 300) ∧ (Opt H vp qs ∧ ∀ x ∈ qs, PairOk x) ∧ (hasMore cs ps = false ∧ hasMore qs.flatten ps = false) ∧
  ∀ (l1 l2 l3 : Addr) (us2 : List V) (H' : Hp), H l1 = none → H l2 = none → H l3 = none → Sb r H H' → H' r = some (.ins C dx (qF l1 l2 l3)) → H' l1 = some (.lst (cs.map V.str)) → H' l2 = some (.lst us) → PaL H' us ps → H' l3 = some (.lst us2) → PaL H' us2 qs → Q .non H'
theorem scQInit : FnScope ["self", "columns", "told", "pairs", "part"] ["self", "columns", "told", "pairs"] (defScope sQInit) := ⟨rfl, rfl, rfl, by decide +kernel, rfl, by decide +kernel, by decide +kernel⟩
theorem ok_qInit {f C : Addr} {fd : FuncData} (F : FunD K "__init__" "Question.__init__" (defArgs sQInit) (defBody sQInit) (defScope sQInit) [.non] [] f fd) (B : Bp mg) (R : QC K C) (T : Ct P w K mg base) :
    FnOk P w K mg base CX0 5 f fd ["self", "columns", "told", "pairs"] (spQInit C) := by
  obtain ⟨fN, dN, GN, kN, gN, bN⟩ := T.vr
  obtain ⟨fS, dS, GS, kS, gS, bS⟩ := T.ps
  obtain ⟨fR, dR, GR, kR, gR, bR⟩ := T.pr
  obtain ⟨fD, dD, GD, kD, gD, bD⟩ := T.sd
  obtain ⟨fM, dM, GM, kM, gM, bM⟩ := T.hm
  refine F.ok scQInit (fun vs H Q E h => ?_) (fun cdv A outer s H vs Q E hr h => ?_)
  · obtain ⟨r, dx, tc, tt, cs, us, ps, vp, qs, rfl, _⟩ := h
    rfl
  · obtain ⟨r, dx, tc, tt, cs, us, ps, vp, qs, rfl, er, ⟨ec, hc, hcl⟩, ⟨et, hp, hok, hpl⟩, ⟨oq, hq⟩, ⟨m1, m2⟩, q⟩ := h
    have hr1 : Room 1 _ := hr.mono (by decide)
    refine ⟨_, pss_cons (ps_if (PW.pt (pw_or (pt_not (pt_val (pe_callB call_isi (by rfl) B.isi bootIsi (pa_cons (pv 1) (pa_cons (pe_bltn (v := V.ty "list") (by rfl) B.lst PyProof.Rows.boot_list rfl) pa_nil)))))
        (pw_or1 (pt_not (pt_val (pe_callB (cr_all rfl) (by rfl) B.all bootAll (pa_cons (by exact (pe_lc (own := [("part", 4)]) (g := gName 4) (tt := tYes) (te := tCall (spTxt K fun z => decide (IsVr z)) [] E0 (tCons (tVar 4) tNil)) rfl scQInit.nd (pi_list (pv 1))
          (blkOk_by (own := [("part", 4)]) (N := ["self", "columns", "told", "pairs", "part"]) (sc := defScope sQInit) (by decide +kernel))
          (fun _ _ _ _ _ => pg_name (i := 4) scQInit.nd rfl (Or.inl rfl)) (fun _ _ _ _ _ => pts_nil)
          (fun _ _ _ _ _ => by exact (pe_call GN hr1 (by rfl) gN kN bN .nil pass0 (pa_cons (pv 4) pa_nil))))) pa_nil))))))) (pss_one ps_never) pss_nil)
      (pss_cons (ps_if (pt_not (pt_val (by exact (pe_call GS hr (by rfl) gS kS bS .nil pass0 (pa_cons (pv 2) pa_nil))))) (pss_one ps_never) pss_nil)
      (pss_cons (ps_if (PW.pt (pw_and (pt_cmpR op_notN (pv 3) pe_non (nomark _)) (pw_and1 (pt_not (pt_val (by exact (pe_call GR hr (by rfl) gR kR bR .nil pass0 (pa_cons (pv 3) pa_nil)))))))) (pss_one ps_never) pss_nil)
      (pss_cons (ps_if (pt_val (by exact (pe_call GM hr (by rfl) gM kM bM .nil pass0 (pa_cons (pv 1) (pa_cons (pv 2) pa_nil))))) (pss_one ps_never) pss_nil)
      (pss_cons (ps_if (pt_val (by exact (pe_call GM hr (by rfl) gM kM bM .nil pass0 (pa_cons (by exact (pe_call GD hr1 (by rfl) gD kD bD .nil pass0 (pa_cons (pe_orT (pv 3) (pe_one (pe_lst pa_nil))) pa_nil))) (pa_cons (pv 2) pa_nil))))) (pss_one ps_never) pss_nil)
      (pss_cons (ps_fld (pv 0) (pe_callTy call_list_of (by rfl) B.lst PyProof.Rows.boot_list (pa_cons (pv 1) pa_nil)) rfl)
      (pss_cons (ps_fld (pv 0) (pe_callTy call_list_of (by rfl) B.lst PyProof.Rows.boot_list (pa_cons (pv 2) pa_nil)) rfl)
      (pss_one (ps_fld (pv 0) (pe_callTy call_list_of (by rfl) B.lst PyProof.Rows.boot_list (pa_cons (pe_orT (pv 3) (pe_one (pe_lst pa_nil))) pa_nil)) rfl)))))))), ?_⟩
    refine ⟨_, rfl, _, _, _, _, true, rfl, .ty _, tyx_lst ec, kit_ty (by decide +kernel), true, rfl, iteF ?_⟩
    refine ⟨_, rfl, tc, rfl, ⟨_, SqL.of ec⟩, fun D nD => ?_⟩
    refine lc_list (K := K) (a := tc) (xs := cs.map V.str) (fun i H' => Same H H' ∧ H' D = some (.lst ((cs.take i).map fun _ => V.bl true))) ⟨same_new nD, upd_same⟩ (fun i H' _ y => SqL.of (y.1 _ _ ec)) ?_ ?_
    · rintro i v H1 hi ⟨s1, e1⟩
      obtain ⟨z, hz, rfl⟩ := at_map hi
      have hv := hc z (List.mem_of_getElem? hz)
      refine ⟨rfl, _, rfl, ?_⟩
      dsimp only [tNil]
      refine spTxt.yes (by have := hv.2.1; omega) fun H2 s2 => ?_
      show ∃ acc, H2 D = some (.lst acc) ∧ acc.length < sizeLine ∧ _
      rw [decide_eq_true hv]
      refine ⟨_, s2 _ _ e1, ?_, same_put (s1.trans s2) nD, ?_⟩
      · rw [List.length_map, List.length_take]
        exact Nat.lt_of_le_of_lt (by omega : _ ≤ 300) (by decide)
      · rw [upd_same, take_one hz, List.map_append] <;> rfl
    · rintro H1 ⟨s1, e1⟩
      rw [List.length_map, List.take_length] at e1
      refine ⟨D, cs.map fun _ => true, rfl, SqL.of (by rw [e1, List.map_map] <;> rfl), _, rfl, ?_⟩
      have eall : (cs.map fun _ => true).all id = true := by simp
      rw [eall]
      refine iteF ?_
      have tq : Tps K H1 (.ref tt) (some (ps.map fun q => some (q.map some))) := ⟨tt, us, rfl, s1 _ _ et, (hp.same s1).tps fun p hpp => (hok p hpp).small, by rw [List.length_map]; omega⟩
      refine ⟨_, rfl, _, _, rfl, tq, fun H2 s2 => ⟨_, rfl, ?_⟩⟩
      rw [all_yes fun x hx => (hok x hx).yes]
      refine iteF ?_
      have s12 := s1.trans s2
      show tSeq _ _ _ _ _
      refine if_opt (v := vp) (o := oq.same s12) rfl (fun x hx => (hq x hx).small) (fun x hx => (hq x hx).yes) fun G3 s3 => ?_
      have s13 := s12.trans s3
      refine ⟨_, rfl, _, rfl, tc, tt, cs, us, ps, rfl, ⟨.inl (SqL.of (s13 _ _ ec)), fun x hx => by have := (hc x hx).2.1; omega, by omega⟩, ⟨SqL.of (s13 _ _ et), hp.same s13, hok, by omega⟩, fun G4 s4 => ⟨_, rfl, ?_⟩⟩
      rw [m1]
      refine iteF ?_
      replace s13 := s13.trans s4
      show tSeq _ _ _ _ _
      refine if_sides (K := K) (v := vp) (o := oq.same s13) rfl rfl (fun x hx => hq x hx) (s13 _ _ et) (hp.same s13) hok hpl m2 fun G9 s8 => ?_
      replace s13 := s13.trans s8
      clear s8 s4 s3
      refine ⟨_, rfl, tc, _, rfl, .inl (SqL.of (s13 _ _ ec)), fun l1 n1 => ⟨_, rfl, r, C, dx, [], rfl, same_new n1 _ _ (s13 _ _ er), R.cl, R.n1, (by show 0 < 1000; decide), ?_⟩⟩
      have l1r : l1 ≠ r := fun z => by
        rw [z, s13 _ _ er] at n1
        cases n1
      have n1H := s13.free n1
      have f1 : Sb r H (upd (upd G9 l1 (.lst (cs.map V.str))) r (.ins C dx (putF "_columns" (V.ref l1) []))) := (Sb.of (same_put s13 n1H)).trans Sb.upd
      have e2 : upd (upd G9 l1 (.lst (cs.map V.str))) r (.ins C dx (putF "_columns" (V.ref l1) [])) r = some (.ins C dx [("_columns", .ref l1)]) := upd_same
      have el1 : upd (upd G9 l1 (.lst (cs.map V.str))) r (.ins C dx (putF "_columns" (V.ref l1) [])) l1 = some (.lst (cs.map V.str)) := by rw [upd_ne l1r, upd_same]
      generalize upd (upd G9 l1 (.lst (cs.map V.str))) r (.ins C dx (putF "_columns" (V.ref l1) [])) = G at f1 e2 el1 ⊢
      have tne : tt ≠ r := fun z => by
        rw [z, er] at et
        cases et
      refine ⟨_, rfl, tt, us, rfl, .inl (SqL.of (f1 _ _ tne et)), fun l2 n2 => ⟨_, rfl, r, C, dx, _, rfl, same_new n2 _ _ e2, R.cl, R.n2, (by show 1 < 1000; decide), ?_⟩⟩
      rw [qF2]
      obtain ⟨l2r, n2H⟩ := free_sb f1 e2 n2
      have l12 : l1 ≠ l2 := fun z => by
        rw [← z, el1] at n2
        cases n2
      have f2 : Sb r H (upd (upd G l2 (.lst us)) r (.ins C dx [("_columns", V.ref l1), ("_told", V.ref l2)])) := (f1.put n2H).trans Sb.upd
      have e3 : upd (upd G l2 (.lst us)) r (.ins C dx [("_columns", V.ref l1), ("_told", V.ref l2)]) r = some (.ins C dx [("_columns", V.ref l1), ("_told", V.ref l2)]) := upd_same
      have el1' : upd (upd G l2 (.lst us)) r (.ins C dx [("_columns", V.ref l1), ("_told", V.ref l2)]) l1 = some (.lst (cs.map V.str)) := by rw [upd_ne l1r, upd_ne l12]; exact el1
      have el2 : upd (upd G l2 (.lst us)) r (.ins C dx [("_columns", V.ref l1), ("_told", V.ref l2)]) l2 = some (.lst us) := by rw [upd_ne l2r, upd_same]
      generalize upd (upd G l2 (.lst us)) r (.ins C dx [("_columns", V.ref l1), ("_told", V.ref l2)]) = G3 at f2 e3 el1' el2 ⊢
      refine fld_list (K := K) (v := vp) (oq.sbo er f2) rfl rfl e3 R.cl R.n3 (by show 2 < 1000; decide) fun l3 us2 G5 n3 s5 e5 el3 p3 => ?_
      rw [qF3] at e5
      obtain ⟨l3r, n3H⟩ := free_sb f2 e3 n3
      exact q l1 l2 l3 us2 G5 n1H n2H n3H (f2.trans s5) e5 (s5 _ _ l1r el1') (s5 _ _ l2r el2) ((hp.sbo er f2).sbo e3 s5) el3 p3
end
end Nv
set_option maxHeartbeats 4000000
namespace Nv
open PySem PySem.Spec PyProof.Rows L2
/-! # variables, matches, count_matches -/
section
variable (P : Program) (w : World) (K : PySem.W.Frag) (mg : Str → Option Value) (base : Heap)
/-- a property that tells a list of its own in a new one -/
structure PropL (C : Addr) (x f : Str) : Prop where
  ex : ∃ p g fd, PropOf K C x p g ∧ FnOk P w K mg base CX0 1 g fd ["self"] (spGetL C f) ∧ Binds K fd ["self"] []
/-- a def of the text by its name -/
structure CallA (x : Str) (k : Nat) (ps : List Str) (sp : Sp) : Prop where
  ex : ∃ f fd, FnOk P w K mg base CX0 k f fd ps sp ∧ PySem.W.keepIn K (.ref f) = true ∧ mg x = some (.ref f) ∧ Binds K fd ps []
end
/-- a store at b -/
structure StoreAt (H : Hp) (b : Addr) (us : List V) (ps : List (List Str)) : Prop where
  at_ : H b = some (.lst us)
  pal : PaL H us ps
  ok : ∀ p ∈ ps, FactOk p
  nd : ps.Nodup
  few : ps.length < 64
theorem StoreAt.same {H H' : Hp} {b : Addr} {us : List V} {ps : List (List Str)} (h : StoreAt H b us ps) (s : Same H H') : StoreAt H' b us ps := ⟨s _ _ h.at_, h.pal.same s, h.ok, h.nd, h.few⟩
theorem FactOk.small {p : List Str} (h : FactOk p) : p.length ≤ 1000 ∧ ∀ x ∈ p, x.length ≤ 1000 := ⟨by have := h.1.2; omega, fun x hx => by have := (h.2 x hx).2.1; omega⟩
theorem StoreAt.tps {K : PySem.W.Frag} {H : Hp} {b : Addr} {us : List V} {ps : List (List Str)} (h : StoreAt H b us ps) : Tps K H (.ref b) (some (ps.map fun q => some (q.map some))) :=
  ⟨b, us, rfl, h.at_, h.pal.tps fun p hp => (h.ok p hp).small, by rw [List.length_map]; have := h.few; omega⟩
theorem storeB_of {ps : List (List Str)} (ok : ∀ p ∈ ps, FactOk p) (nd : ps.Nodup) : storeB (some (ps.map fun q => some (q.map some))) = true := by
  show ((ps.map _).all factB && decide (ps.map _).Nodup) = true
  rw [Bool.and_eq_true]
  refine ⟨?_, decide_eq_true ((map_inj_nd fun x y e => some_map_inj e).mpr nd)⟩
  rw [List.all_map, List.all_eq_true]
  exact fun p hp => factB_strs.trans (decide_eq_true (ok p hp))
theorem StoreAt.need {K : PySem.W.Frag} {H : Hp} {b : Addr} {us : List V} {ps : List (List Str)} {Q : VK} {E : XK} (h : StoreAt H b us ps) (q : ∀ H', Same H H' → Q .non H') : spNeedStore K [.ref b] H Q E :=
  ⟨.ref b, _, rfl, h.tps, fun ls e => by cases e; rw [List.length_map]; exact h.few, storeB_of h.ok h.nd, q⟩
section
variable {P : Program} {w : World} {K : PySem.W.Frag} {mg : Str → Option Value} {base : Heap}
def spVarsQ (CQ : Addr) : Sp := fun vs H Q _ => ∃ (r : Addr) (x : Ql), vs = [.ref r] ∧ QA CQ H r x ∧ x.Ok ∧
  ∀ (p : Addr) (H' : Hp), H p = none → Same H H' → H' p = some (.lst ((varsIn (tails x.ps)).map V.str)) → Q (.ref p) H'
theorem scVarsQ : FnScope ["question"] ["question"] (defScope sVarsQ) := ⟨rfl, rfl, rfl, by decide +kernel, rfl, by decide +kernel, by decide +kernel⟩
theorem ok_varsQ {f CQ : Addr} {fd : FuncData} (F : Fun K "variables" "variables" sVarsQ f fd) (R : QC K CQ) (T : PropL P w K mg base CQ "told" "_told")
    (GN : CallA P w K mg base "need_question" 1 ["value"] (spNeedQ CQ)) (GV : CallA P w K mg base "variables_of" 3 ["patterns"] (spVarsOf K)) :
    FnOk P w K mg base CX0 4 f fd ["question"] (spVarsQ CQ) := by
  obtain ⟨pt, gt, dt, PO, PF, PB⟩ := T.ex
  obtain ⟨fN, dN, GN, kN, gN, bN⟩ := GN.ex
  obtain ⟨fV, dV, GV, kV, gV, bV⟩ := GV.ex
  refine F.ok scVarsQ (fun vs H Q E h => ?_) (fun cdv A outer s H vs Q E hr h => ?_)
  · obtain ⟨r, x, rfl, _⟩ := h
    rfl
  · obtain ⟨r, x, rfl, hq, ok, q⟩ := h
    have hr1 : Room 1 _ := hr.mono (by decide)
    have hr2 : Room 2 _ := hr.mono (by decide)
    refine ⟨_, pss_cons (ps_expr (by exact (pe_call GN hr1 (by rfl) gN kN bN .nil pass0 (pa_cons (pv 0) pa_nil))))
      (pss_one (ps_ret (by exact (pe_call GV hr (by rfl) gV kV bV .nil pass0 (pa_cons (pe_prop (pv 0) R.cl PO PF hr2 PB .nil pass0 rfl) pa_nil))))), ?_⟩
    obtain ⟨dx, l1, l2, l3, us, us2, e, e1, ⟨e2, p2⟩, e3, p3⟩ := id hq
    refine ⟨_, rfl, ?_⟩
    dsimp only [tNil]
    refine ⟨r, dx, _, rfl, e, ?_⟩
    refine ⟨_, rfl, r, dx, _, rfl, e, r, dx, l2, _, us, rfl, e, qk2, e2, fun p np => ?_⟩
    dsimp only [tNil]
    have s1 : Same H (upd H p (.lst us)) := same_new np
    have ep : upd H p (.lst us) p = some (.lst us) := upd_same
    generalize upd H p (.lst us) = H1 at s1 ep ⊢
    refine ⟨p, us, x.ps, rfl, SqL.of ep, (p2.same s1).pal, ok.ps, by have := ok.pl; omega, fun p' H' n' s' e' => q p' H' (s1.free n') (s1.trans s') e'⟩
def spMatches (CQ : Addr) : Sp := fun vs H Q _ => ∃ (r b : Addr) (x : Ql) (us : List V) (ps : List (List Str)) (m : Nat), vs = [.ref r, .ref b] ∧ (QA CQ H r x ∧ x.Ok ∧ x.ps.length ≤ 10 ∧ x.qs.length ≤ 10) ∧ StoreAt H b us ps ∧ (ps.length ≤ m ∧ 1 ≤ m ∧ m ≤ 1000 ∧ m ^ x.ps.length ≤ 100000) ∧
  ∀ (p : Addr) (H' : Hp) (us' : List V) (zs : List Str), H p = none → Same H H' → H' p = some (.lst us') → PaL H' us' (sortT (metF zs x.ps x.qs ps)) → NamesOf (tails x.ps ++ x.qs.flatten) zs → Q (.ref p) H'
theorem scMatches : FnScope ["question", "store"] ["question", "store"] (defScope sMatches) := ⟨rfl, rfl, rfl, by decide +kernel, rfl, by decide +kernel, by decide +kernel⟩
theorem ok_matches {f CQ : Addr} {fd : FuncData} (F : Fun K "matches" "matches" sMatches f fd) (R : QC K CQ) (T : PropL P w K mg base CQ "told" "_told") (T2 : PropL P w K mg base CQ "pairs" "_pairs") (so : mg "sorted" = none)
    (GN : CallA P w K mg base "need_question" 1 ["value"] (spNeedQ CQ)) (GS : CallA P w K mg base "need_store" 5 ["value"] (spNeedStore K))
    (GM : CallA P w K mg base "met" 6 ["told", "pairs", "shelf"] (spMet K)) (GB : CallA P w K mg base "by_kind" 2 ["facts"] (spByKind K)) :
    FnOk P w K mg base CX0 7 f fd ["question", "store"] (spMatches CQ) := by
  obtain ⟨pt, gt, dt, PO, PF, PB⟩ := T.ex
  obtain ⟨pt2, gt2, dt2, PO2, PF2, PB2⟩ := T2.ex
  obtain ⟨fN, dN, GN, kN, gN, bN⟩ := GN.ex
  obtain ⟨fS, dS, GS, kS, gS, bS⟩ := GS.ex
  obtain ⟨fM, dM, GM, kM, gM, bM⟩ := GM.ex
  obtain ⟨fB, dB, GB, kB, gB, bB⟩ := GB.ex
  refine F.ok scMatches (fun vs H Q E h => ?_) (fun cdv A outer s H vs Q E hr h => ?_)
  · obtain ⟨r, b, x, us, ps, m, rfl, _⟩ := h
    rfl
  · obtain ⟨r, b, x, us, ps, m, rfl, ⟨hq, ok, hl1, hl2⟩, st, ⟨m1, m2, m3, m4⟩, q⟩ := h
    have hr1 : Room 1 _ := hr.mono (by decide)
    have hr2 : Room 2 _ := hr.mono (by decide)
    have hr5 : Room 5 _ := hr.mono (by decide)
    have hu : (A.deeper (envOfC "matches" (defScope sMatches) s.heap.objs.size f cdv)).units + 64 < cLine := hr.units
    refine ⟨_, pss_cons (ps_expr (by exact (pe_call GN hr1 (by rfl) gN kN bN .nil pass0 (pa_cons (pv 0) pa_nil))))
      (pss_cons (ps_expr (by exact (pe_call GS hr5 (by rfl) gS kS bS .nil pass0 (pa_cons (pv 1) pa_nil))))
      (pss_one (ps_ret (pe_callB (cr_sortTx hu) (by rfl) so bootSorted (pa_cons (by exact (pe_call GM hr (by rfl) gM kM bM .nil pass0 (pa_cons (pe_prop (pv 0) R.cl PO PF hr2 PB .nil pass0 rfl) (pa_cons (pe_prop (pv 0) R.cl PO2 PF2 hr2 PB2 .nil pass0 rfl) (pa_cons (by exact (pe_call GB hr2 (by rfl) gB kB bB .nil pass0 (pa_cons (pv 1) pa_nil))) pa_nil))))) pa_nil))))), ?_⟩
    obtain ⟨dx, l1, l2, l3, u2, u3, e, e1, ⟨e2, p2⟩, e3, p3⟩ := id hq
    refine ⟨_, rfl, ?_⟩
    dsimp only [tNil]
    refine ⟨r, dx, _, rfl, e, ?_⟩
    refine ⟨_, rfl, ?_⟩
    dsimp only [tNil]
    refine st.need fun H1 s1 => ?_
    refine ⟨_, rfl, r, dx, _, rfl, s1 _ _ e, r, dx, l2, _, u2, rfl, s1 _ _ e, qk2, s1 _ _ e2, fun a na => ?_⟩
    have s2 : Same H (upd H1 a (.lst u2)) := s1.trans (same_new na)
    have ea : upd H1 a (.lst u2) a = some (.lst u2) := upd_same
    generalize upd H1 a (.lst u2) = H2 at s2 ea ⊢
    refine ⟨_, rfl, r, dx, _, rfl, s2 _ _ e, r, dx, l3, _, u3, rfl, s2 _ _ e, qk3, s2 _ _ e3, fun c nc => ?_⟩
    have s3 : Same H2 (upd H2 c (.lst u3)) := same_new nc
    have ec : upd H2 c (.lst u3) c = some (.lst u3) := upd_same
    generalize upd H2 c (.lst u3) = H3 at s3 ec ⊢
    have s03 := s2.trans s3
    refine ⟨_, rfl, ?_⟩
    dsimp only [tNil]
    have st3 := st.same s03
    refine ⟨b, us, ps, rfl, SqL.of st3.at_, st3.pal, st3.ok, by have := st.few; omega, fun d H4 nd s4 sh => ?_⟩
    have s04 := s03.trans s4
    refine ⟨a, c, .ref d, u2, u3, x.ps, x.qs, ps, m, rfl, ⟨s4 _ _ (s3 _ _ ea), p2.same s04, ok.ps, hl1⟩, ⟨s4 _ _ ec, p3.same s04, ok.qs, hl2⟩, ⟨⟨d, us, H3, rfl, sh, st.pal.same s04, st.ok⟩, m1, m2, m3, m4⟩, fun p H5 us' zs np s5 e5 hz h5 => ?_⟩
    refine ⟨p, us', _, rfl, SqL.of e5, h5, metF_sort st.nd st.ok ok.ps, fun p' us2 np' h2 _ => ?_⟩
    have s6 : Same H5 (upd H5 p' (.lst us2)) := same_new np'
    exact q p' _ us2 zs ((s04.trans s5).free np') ((s04.trans s5).trans s6) upd_same (h2.same s6) hz
def spCount (CQ : Addr) : Sp := fun vs H Q _ => ∃ (r b : Addr) (x : Ql) (us : List V) (ps : List (List Str)) (m : Nat), vs = [.ref r, .ref b] ∧ (QA CQ H r x ∧ x.Ok ∧ x.ps.length ≤ 10 ∧ x.qs.length ≤ 10) ∧ StoreAt H b us ps ∧ (ps.length ≤ m ∧ 1 ≤ m ∧ m ≤ 1000 ∧ m ^ x.ps.length ≤ 100000) ∧
  ∀ (H' : Hp) (zs : List Str), Same H H' → NamesOf (tails x.ps ++ x.qs.flatten) zs → Q (.int (((sortT (metF zs x.ps x.qs ps)).length : Nat) : Int)) H'
theorem scCount : FnScope ["question", "store"] ["question", "store"] (defScope sCount) := ⟨rfl, rfl, rfl, by decide +kernel, rfl, by decide +kernel, by decide +kernel⟩
theorem ok_count {f CQ : Addr} {fd : FuncData} (F : Fun K "count_matches" "count_matches" sCount f fd) (B : Bp mg) (GM : CallA P w K mg base "matches" 7 ["question", "store"] (spMatches CQ)) :
    FnOk P w K mg base CX0 8 f fd ["question", "store"] (spCount CQ) := by
  obtain ⟨fM, dM, GM, kM, gM, bM⟩ := GM.ex
  refine F.ok scCount (fun vs H Q E h => ?_) (fun cdv A outer s H vs Q E hr h => ?_)
  · obtain ⟨r, b, x, us, ps, m, rfl, _⟩ := h
    rfl
  · obtain ⟨r, b, x, us, ps, m, rfl, hq, st, hm, q⟩ := h
    refine ⟨_, pss_one (ps_ret (pe_callB call_len (by rfl) B.len PySem.boot_len (pa_cons (by exact (pe_call GM hr (by rfl) gM kM bM .nil pass0 (pa_cons (pv 0) (pa_cons (pv 1) pa_nil)))) pa_nil))), ?_⟩
    refine ⟨_, rfl, _, rfl, ?_⟩
    dsimp only [tNil]
    refine ⟨r, b, x, us, ps, m, rfl, hq, st, hm, fun p H' us' zs _ s' e' h' hz => ⟨_, _, rfl, .inl ⟨_, SqL.of e', rfl⟩, ?_⟩⟩
    rw [h'.len]
    exact q H' zs s' hz
end
end Nv
set_option maxHeartbeats 4000000
namespace Nv
open PySem PySem.Spec PyProof.Rows L2
/-- a pair of unlike terms, one of them at least among the variables vs -/
def PrOk (vs : List Str) (q : List Str) : Prop := ∃ x y, q = [x, y] ∧ x ≠ y ∧ (x ∈ vs ∨ IsNm x) ∧ (y ∈ vs ∨ IsNm y) ∧ (x ∈ vs ∨ y ∈ vs)
section
variable {P : Program} {w : World} {K : PySem.W.Frag} {mg : Str → Option Value} {base : Heap}
/-- _law_pairs(purse, told, names) -/
def spPairs (K : PySem.W.Frag) : Sp := fun vs H Q _ => ∃ (a b c : Addr) (n : Nat) (us : List V) (ps : List (List Str)) (zs : List Str), vs = [.ref a, .ref b, .ref c] ∧ Pu H a (n + 5) ∧ (SqL K H b us ∧ PaL H us ps ∧ (∀ x ∈ ps, PatOk x) ∧ ps.length ≤ 300) ∧
  (SqL K H c (zs.map V.str) ∧ c ≠ a ∧ zs.length ≤ 100 ∧ ∀ z ∈ zs, IsNm z) ∧
  ∀ (p : Addr) (ws : List V) (qs : List (List Str)) (H' : Hp), PaL H' ws qs → qs.length ≤ 1 → (∀ x ∈ qs, PrOk (varsIn (tails ps)) x) → H p = none → Pu H' a n → Sb a H H' → H' p = some (.lst ws) → Q (.ref p) H'
theorem scPairs : FnScope ["_law_purse_here", "_law_told_here", "_law_names_here", "_law_some", "_law_one", "_law_others", "_law_term"] ["_law_purse_here", "_law_told_here", "_law_names_here"] (defScope sPairs) := ⟨rfl, rfl, rfl, by decide +kernel, rfl, by decide +kernel, by decide +kernel⟩
theorem two_perm {α : Type} {x y : α} {zs : List α} (h : zs.Perm [x, y]) : zs = [x, y] ∨ zs = [y, x] := by
  have hl := h.length_eq
  match zs, hl with
  | [u, v], _ =>
    have hu : u = x ∨ u = y := by
      have := h.mem_iff.mp (List.mem_cons_self (a := u))
      simpa using this
    rcases hu with rfl | rfl
    · have h2 := (List.perm_cons u).mp h
      have := h2.mem_iff.mp (List.mem_singleton.mpr rfl : v ∈ [v])
      rw [List.mem_singleton.mp this]
      exact .inl rfl
    · have h2 : [v].Perm [x] := by
        have h3 : (u :: [v]).Perm (u :: [x]) := h.trans (List.Perm.swap _ _ _)
        exact (List.perm_cons u).mp h3
      have := h2.mem_iff.mp (List.mem_singleton.mpr rfl : v ∈ [v])
      rw [List.mem_singleton.mp this]
      exact .inr rfl
theorem ok_pairs {f fV fD fO fS : Addr} {fd fdV fdD fdO fdS : FuncData} (F : Fun K "_law_pairs" "_law_pairs" sPairs f fd)
    (GV : FnOk P w K mg base CX0 1 fV fdV ["_law_told_here"] (spVariables K)) (kV : PySem.W.keepIn K (.ref fV) = true) (gV : mg "_law_variables" = some (.ref fV)) (bV : Binds K fdV ["_law_told_here"] [])
    (GD : FnOk P w K mg base CX0 2 fD fdD ["_law_purse_here", "_law_many"] spDraw) (kD : PySem.W.keepIn K (.ref fD) = true) (gD : mg "_law_draw" = some (.ref fD)) (bD : Binds K fdD ["_law_purse_here", "_law_many"] [])
    (GO : FnOk P w K mg base CX0 3 fO fdO ["_law_purse_here", "_law_some"] (spOneOf K)) (kO : PySem.W.keepIn K (.ref fO) = true) (gO : mg "_law_one_of" = some (.ref fO)) (bO : Binds K fdO ["_law_purse_here", "_law_some"] [])
    (GS : FnOk P w K mg base CX0 3 fS fdS ["_law_purse_here", "_law_some"] (spShuffled K)) (kS : PySem.W.keepIn K (.ref fS) = true) (gS : mg "_law_shuffled" = some (.ref fS)) (bS : Binds K fdS ["_law_purse_here", "_law_some"] []) (B : Bl mg) :
    FnOk P w K mg base CX0 4 f fd ["_law_purse_here", "_law_told_here", "_law_names_here"] (spPairs K) := by
  refine F.ok scPairs (fun vs H Q E h => ?_) (fun cdv A outer s H vs Q E hr h => ?_)
  · obtain ⟨a, b, c, n, us, ps, zs, rfl, _⟩ := h
    rfl
  · obtain ⟨a, b, c, n, us, ps, zs, rfl, pu, ⟨hb, hps, hok, hpl⟩, ⟨hc, hca, hz1, hz2⟩, q⟩ := h
    have hr1 : Room 1 _ := hr.mono (by decide)
    have hr2 : Room 2 _ := hr.mono (by decide)
    refine ⟨_, pss_cons (ps_set (i := 3) scPairs.nd rfl (Or.inl rfl) (by exact (pe_call GV hr1 (by rfl) gV kV bV .nil pass0 (pa_cons (pv 1) pa_nil))))
      (pss_cons (ps_if (PW.pt (pw_or (pt_cmpR (op_eqD hr.units) (pv 3) (pe_lst pa_nil) (nomark _)) (pw_or1 (pt_cmpR op_gt (by exact (pe_call GD hr2 (by rfl) gD kD bD .nil pass0 (pa_cons (pv 0) (pa_cons pe_int pa_nil)))) pe_int (nomark _)))))
        (pss_one (ps_ret (pe_lst pa_nil))) pss_nil)
      (pss_cons (ps_set (i := 4) scPairs.nd rfl (Or.inr rfl) (by exact (pe_call GO hr (by rfl) gO kO bO .nil pass0 (pa_cons (pv 0) (pa_cons (pv 3) pa_nil)))))
      (pss_cons (ps_setLc (i := 5) (own := [("_law_term", 6)]) (g := gName 6) (tt := tTest (tOp rNe (tVar 6) (tVar 4))) (te := tVar 6) rfl scPairs.nd rfl rfl (sw_true rfl rfl rfl (by decide +kernel))
        (pi_list (pe_op op_cat (pv 3) (pe_slice sl_list (pv 2) po_none (po_some pe_int))))
        (blkOk_by (own := [("_law_term", 6)]) (N := ["_law_purse_here", "_law_told_here", "_law_names_here", "_law_some", "_law_one", "_law_others", "_law_term"]) (sc := defScope sPairs) (by decide +kernel))
        (fun _ _ _ _ _ => pg_name (i := 6) scPairs.nd rfl (Or.inl rfl)) (fun _ _ _ _ _ => pts_one (by exact (pt_cmpR op_ne (pv 6) (pv 4) (nomark _)))) (fun _ _ _ _ _ => by exact (pv 6)))
      (pss_one (ps_ret (pe_ifExp (pt_cmpR (op_neD hr.units) (pv 5) (pe_lst pa_nil) (nomark _))
        (pe_lst (pa_cons (pe_callTy call_tuple_of (by rfl) B.tup PyProof.Rows.boot_tuple (pa_cons (by exact (pe_call GS hr (by rfl) gS kS bS .nil pass0 (pa_cons (pv 0) (pa_cons
          (pe_lst (pa_cons (pv 4) (pa_cons (by exact (pe_call GO hr (by rfl) gO kO bO .nil pass0 (pa_cons (pv 0) (pa_cons (pv 5) pa_nil)))) pa_nil))) pa_nil)))) pa_nil)) pa_nil))
        (pe_lst pa_nil))))))), ?_⟩
    refine ⟨_, rfl, b, us, ps, rfl, hb, hps, hok, (by omega), fun p1 H1 np1 sm1 e1 => ?_⟩
    refine (show ∀ vs : List Str, varsIn (tails ps) = vs → H1 p1 = some (.lst (vs.map V.str)) → tSeq _ _ { nx := fun _ H' => Q .non H', rt := Q } [some (.ref a), some (.ref b), some (.ref c), some (.ref p1), none, none, none] H1 from fun vs hvs e1 => ?_) _ rfl e1
    have hv : ∀ x ∈ vs, IsVr x := fun x hx => by
      rw [← hvs] at hx
      exact (varsIn_mem.mp hx).2
    have hvl : vs.length ≤ 900 := by
      rw [← hvs]
      have h1 := varsIn_len (tails ps)
      have h2 := tails_len hok
      omega
    rw [hvs] at q
    have pu1 := pu.same sm1
    have p1a : p1 ≠ a := pu.ne np1
    refine ⟨_, rfl, by decide, fun l nl => ?_⟩
    have pu2 := pu1.put (o := .lst []) (pu1.ne nl)
    have sm2 : Same H (upd H1 l (.lst [])) := same_put sm1 (sm1.free nl)
    have e2 : upd H1 l (.lst []) p1 = some (.lst (vs.map V.str)) := same_new nl _ _ e1
    refine ⟨dS vs, dS [], dp_S (SqL.of e2), .lst (SqL.of upd_same) .nil, (lay_dS fun x hx => (hv x hx).asc).shaped (by decide), (lay_dS (xs := []) (fun x hx => nomatch hx)).shaped (by decide), _, rfl, ?_⟩
    rw [eqv_S]
    generalize upd H1 l (.lst []) = G2 at pu2 sm2 e2 ⊢
    by_cases hvs0 : vs = []
    · rw [decide_eq_true hvs0]
      refine iteT (iteT ?_)
      refine ⟨by decide, fun p np => ?_⟩
      exact q p [] [] _ .nil (by decide) (fun x hx => nomatch hx) (sm2.free np) ((pu2.put (pu2.ne np)).le (by omega)) (Sb.of (same_put sm2 (sm2.free np))) upd_same
    · rw [decide_eq_false hvs0]
      refine iteF ?_
      refine ⟨_, rfl, a, n + 4, 3, rfl, pu2, ⟨by decide, by decide⟩, fun r H3 h0 h1 pu3 sb3 => ?_⟩
      have e3 := sb3 _ _ p1a e2
      have sb3' : Sb a H H3 := (Sb.of sm2).trans sb3
      refine ⟨_, _, rfl, rfl, _, rfl, ?_⟩
      by_cases hr0 : r > 0
      · rw [decide_eq_true hr0]
        refine iteT ?_
        refine ⟨by decide, fun p np => ?_⟩
        exact q p [] [] _ .nil (by decide) (fun x hx => nomatch hx) (sb3'.free pu3 np) ((pu3.put (pu3.ne np)).le (by omega)) (sb3'.put (sb3'.free pu3 np)) upd_same
      · rw [decide_eq_false hr0]
        refine iteF ?_
        have hv1 : 1 ≤ (vs.map V.str).length := by
          rw [List.length_map]
          cases vs with
          | nil => exact absurd rfl hvs0
          | cons x xs => simp
        refine ⟨_, rfl, _, rfl, a, p1, n + 3, vs.map V.str, rfl, pu3, SqL.of e3, p1a, ⟨hv1, ?_⟩, fun v1 H4 hv4 pu4 sb4 => ?_⟩
        · rw [List.length_map]
          omega
        · obtain ⟨one, hone, rfl⟩ := List.mem_map.mp hv4
          have e4 := sb4 _ _ p1a e3
          have sb4' := sb3'.trans sb4
          refine (show ∀ G : Hp, G = H4 → tSeq _ _ { nx := fun _ H' => Q .non H', rt := Q } [some (.ref a), some (.ref b), some (.ref c), some (.ref p1), some (.str one), none, none] G from fun G hG => ?_) _ rfl
          subst hG
          refine ⟨_, rfl, _, rfl, 1, rfl, c, _, rfl, sb4'.seq hca hc, fun l2 nl2 => ?_⟩
          have hcz : cutV (zs.map V.str) none (some 1) = (zs.take 1).map V.str := by
            unfold cutV
            have hx := HT.sIx_nat (zs.map V.str).length (zs.map V.str).length 1
            rw [show ((1 : Nat) : Int) = 1 by rfl] at hx
            rw [HT.sIx_none, hx, List.drop_zero, Nat.sub_zero, List.length_map, List.map_take]
            cases zs with
            | nil => rfl
            | cons z zs =>
              rw [List.length_cons, Nat.min_eq_left (by omega)]
          rw [hcz]
          have pu5 := pu4.put (o := .lst ((zs.take 1).map V.str)) (pu4.ne nl2)
          have sb5 : Sb a H (upd G l2 (.lst ((zs.take 1).map V.str))) := sb4'.put (sb4'.free pu4 nl2)
          have e5 : upd G l2 (.lst ((zs.take 1).map V.str)) p1 = some (.lst (vs.map V.str)) := same_new nl2 _ _ e4
          have e6 : upd G l2 (.lst ((zs.take 1).map V.str)) l2 = some (.lst ((zs.take 1).map V.str)) := upd_same
          generalize upd G l2 (.lst ((zs.take 1).map V.str)) = G5 at pu5 sb5 e5 e6 ⊢
          refine ⟨_, _, _, _, rfl, rfl, e5, e6, ?_, fun l3 nl3 => ?_⟩
          · rw [List.length_map, List.length_map, List.length_take]
            exact Nat.le_trans (by omega : _ ≤ 3001) (by decide)
          · rw [← List.map_append]
            have hx : ∀ x ∈ vs ++ zs.take 1, x ∈ vs ∨ IsNm x := fun x hx => by
              rcases List.mem_append.mp hx with h | h
              · exact .inl h
              · exact .inr (hz2 x (List.mem_of_mem_take h))
            have hxl : (vs ++ zs.take 1).length ≤ 901 := by
              rw [List.length_append, List.length_take]
              omega
            generalize vs ++ zs.take 1 = xs at hx hxl ⊢
            have pu6 := pu5.put (o := .lst (xs.map V.str)) (pu5.ne nl3)
            have sb6 : Sb a H (upd G5 l3 (.lst (xs.map V.str))) := sb5.put (sb5.free pu5 nl3)
            have e7 : upd G5 l3 (.lst (xs.map V.str)) l3 = some (.lst (xs.map V.str)) := upd_same
            generalize upd G5 l3 (.lst (xs.map V.str)) = G6 at pu6 sb6 e7 ⊢
            refine ⟨l3, rfl, ⟨_, SqL.of e7⟩, fun D nD => ?_⟩
            have Da := pu6.ne nD
            refine lc_list (K := K) (a := l3) (xs := xs.map V.str) (fun i H' => Same G6 H' ∧ H' D = some (.lst (((xs.take i).filter fun x => decide (x ≠ one)).map V.str))) ⟨same_new nD, upd_same⟩ (fun i H' _ y => SqL.of (y.1 _ _ e7)) ?_ ?_
            · rintro i x H5 hi ⟨sm5, e8⟩
              rw [List.getElem?_map] at hi
              obtain ⟨z, hz, rfl⟩ : ∃ z, xs[i]? = some z ∧ x = V.str z := by
                cases g : xs[i]? with
                | none =>
                  rw [g] at hi
                  cases hi
                | some z =>
                  rw [g] at hi
                  exact ⟨z, rfl, (Option.some.inj hi).symm⟩
              have htk : (xs.take (i + 1)).filter (fun x => decide (x ≠ one)) = (xs.take i).filter (fun x => decide (x ≠ one)) ++ (if z = one then [] else [z]) := by
                rw [List.take_add_one, hz, List.filter_append]
                by_cases h : z = one
                · simp [h]
                · simp [h]
              rw [htk]
              refine ⟨rfl, _, rfl, _, rfl, rfl, _, rfl, ?_⟩
              by_cases h : z = one
              · rw [decide_eq_true (by rw [h] : V.str z = V.str one)]
                refine iteF ⟨sm5, ?_⟩
                rw [if_pos h, List.append_nil]
                exact e8
              · rw [decide_eq_false (fun e => h (by injection e) : ¬ V.str z = V.str one)]
                refine iteT ⟨_, rfl, _, e8, ?_, same_put sm5 nD, ?_⟩
                · rw [List.length_map]
                  have h1 := List.length_filter_le (fun x => decide (x ≠ one)) (xs.take i)
                  rw [List.length_take] at h1
                  exact Nat.lt_of_le_of_lt (by omega : _ ≤ 3001) (by decide)
                · rw [upd_same, if_neg h, List.map_append] <;> rfl
            · rintro H5 ⟨sm5, e8⟩
              rw [List.length_map, List.take_length] at e8
              have hy : ∀ y ∈ xs.filter (fun x => decide (x ≠ one)), (y ∈ vs ∨ IsNm y) ∧ y ≠ one := fun y hy => by
                obtain ⟨h1, h2⟩ := List.mem_filter.mp hy
                exact ⟨hx y h1, of_decide_eq_true h2⟩
              have hyl := List.length_filter_le (fun x => decide (x ≠ one)) xs
              generalize xs.filter (fun x => decide (x ≠ one)) = ys at e8 hy hyl
              have pu7 := pu6.same sm5
              have sb7 := sb6.then sm5
              refine (show ∀ G : Hp, G = H5 → tSeq _ _ { nx := fun _ H' => Q .non H', rt := Q } [some (.ref a), some (.ref b), some (.ref c), some (.ref p1), some (.str one), some (.ref D), none] G from fun G hG => ?_) _ rfl
              subst hG
              have D2a : D ≠ a := Da
              refine ⟨_, rfl, by decide, fun l4 nl4 => ?_⟩
              have e9 : upd G l4 (.lst []) D = some (.lst (ys.map V.str)) := same_new nl4 _ _ e8
              have sb8 : Sb a H (upd G l4 (.lst [])) := sb7.put (sb7.free pu7 nl4)
              have pu8 := pu7.put (o := .lst []) (pu7.ne nl4)
              have yasc : ∀ y ∈ ys, Asc y := fun y hh => by
                rcases (hy y hh).1 with h | h
                · exact (hv y h).asc
                · exact h.asc
              refine ⟨dS ys, dS [], dp_S (SqL.of e9), .lst (SqL.of upd_same) .nil, (lay_dS yasc).shaped (by decide), (lay_dS (xs := []) (fun x hx => nomatch hx)).shaped (by decide), _, rfl, ?_⟩
              rw [eqv_S]
              generalize upd G l4 (.lst []) = G7 at e9 sb8 pu8 ⊢
              by_cases hys : ys = []
              · rw [decide_eq_true hys]
                refine iteF ?_
                refine ⟨by decide, fun p np => ?_⟩
                exact q p [] [] _ .nil (by decide) (fun x hx => nomatch hx) (sb8.free pu8 np) ((pu8.put (pu8.ne np)).le (by omega)) (sb8.put (sb8.free pu8 np)) upd_same
              · rw [decide_eq_false hys]
                refine iteT ?_
                have hy1 : 1 ≤ (ys.map V.str).length := by
                  rw [List.length_map]
                  cases ys with
                  | nil => exact absurd rfl hys
                  | cons x xs => simp
                refine ⟨_, rfl, _, rfl, _, rfl, _, rfl, a, D, n + 2, ys.map V.str, rfl, pu8, SqL.of e9, Da, ⟨hy1, by rw [List.length_map]; omega⟩, fun v2 H8 hv2 pu9 sb9 => ?_⟩
                obtain ⟨two, htwo, rfl⟩ := List.mem_map.mp hv2
                obtain ⟨hto, htne⟩ := hy two htwo
                have sb10 := sb8.trans sb9
                refine ⟨(by show 2 ≤ sizeLine; decide), fun l5 nl5 => ?_⟩
                have l5a := pu9.ne nl5
                have pu10 := pu9.put (o := .lst [.str one, .str two]) l5a
                have sb11 : Sb a H (upd H8 l5 (.lst [.str one, .str two])) := sb10.put (sb10.free pu9 nl5)
                refine ⟨a, l5, n, [.str one, .str two], rfl, pu10, SqL.of upd_same, l5a, by show 2 ≤ 1000; decide, fun p2 ws H9 pm np2 pu11 sb12 e10 => ?_⟩
                have sb13 := sb11.trans sb12
                refine ⟨p2, ws, rfl, .inl ⟨SqL.of e10, fun t nt => ?_⟩⟩
                have pu12 := pu11.put (o := .tup ws) (pu11.ne nt)
                have sb14 : Sb a H (upd H9 t (.tup ws)) := sb13.put (sb13.free pu11 nt)
                refine ⟨(by show 1 ≤ sizeLine; decide), fun p3 np3 => ?_⟩
                have hne : t ≠ p3 := fun z => by
                  rw [← z, upd_same] at np3
                  cases np3
                have done : ∀ x y : Str, ws = [V.str x, V.str y] → PrOk vs [x, y] → Q (.ref p3) (upd (upd H9 t (.tup ws)) p3 (.lst [.ref t])) := fun x y hw hp => by
                  refine q p3 [.ref t] [[x, y]] _ (.cons ?_ .nil) (by show 1 ≤ 1; decide) (fun z hz => by rw [List.mem_singleton.mp hz]; exact hp) (sb14.free pu12 np3) ((pu12.put (pu12.ne np3)).le (by omega)) (sb14.put (sb14.free pu12 np3)) upd_same
                  rw [upd_ne hne, upd_same, hw] <;> rfl
                rcases two_perm pm with h | h
                · exact done one two h ⟨one, two, rfl, Ne.symm htne, .inl hone, hto, .inl hone⟩
                · exact done two one h ⟨two, one, rfl, htne, hto, .inl hone, .inr hone⟩
end
end Nv
set_option maxHeartbeats 4000000
set_option maxHeartbeats 4000000
set_option maxHeartbeats 4000000
set_option maxHeartbeats 4000000
set_option maxHeartbeats 4000000
namespace Nv
open PySem PySem.Spec PyProof.Rows L2
/-! # rules, questions, books made and compared (from Lr1, Mk1, Mk2, Mk5, Mk6, without what asks for draws or repr) -/
def RAn (C : Addr) (H H' : Hp) (r : Addr) (x : Rl) : Prop := ∃ (dx th l1 l2 l3 : Addr) (us us2 us3 : List V), (H r = none ∧ H l1 = none ∧ H l2 = none ∧ H l3 = none) ∧ (H' r = some (.ins C dx (ruleF x.l th l1 l2 l3)) ∧ Tu H' th x.h ∧ (H' l1 = some (.lst us) ∧ PaX H' us x.ps) ∧ (H' l2 = some (.lst us2) ∧ PaL H' us2 x.qs) ∧ H' l3 = some (.lst us3) ∧ PaL H' us3 x.ds)
theorem RAn.ra {C : Addr} {H H' : Hp} {r : Addr} {x : Rl} (h : RAn C H H' r x) : RA C H' r x := by
  obtain ⟨dx, th, l1, l2, l3, us, us2, us3, _, h⟩ := h
  exact ⟨dx, th, l1, l2, l3, us, us2, us3, h⟩
theorem opt_of {H : Hp} {a : Addr} {us : List V} {ps : List (List Str)} (e : H a = some (.lst us)) (h : PaL H us ps) (l : ps.length ≤ 300) : Opt H (.ref a) ps := .inr ⟨a, us, rfl, e, h, l⟩
structure QClo (y : Ql) : Prop where
  c : hasMore y.cs y.ps = false
  q : hasMore y.qs.flatten y.ps = false
def QAn (C : Addr) (H H' : Hp) (r : Addr) (x : Ql) : Prop := ∃ (dx l1 l2 l3 : Addr) (us us2 : List V), (H r = none ∧ H l1 = none ∧ H l2 = none ∧ H l3 = none) ∧ H' r = some (.ins C dx (qF l1 l2 l3)) ∧ H' l1 = some (.lst (x.cs.map V.str)) ∧ (H' l2 = some (.lst us) ∧ PaX H' us x.ps) ∧ H' l3 = some (.lst us2) ∧ PaL H' us2 x.qs
theorem QAn.ra {C : Addr} {H H' : Hp} {r : Addr} {x : Ql} (h : QAn C H H' r x) : QA C H' r x := by
  obtain ⟨dx, l1, l2, l3, us, us2, _, h⟩ := h
  exact ⟨dx, l1, l2, l3, us, us2, h⟩
theorem QAn.same {C : Addr} {H H' H1 : Hp} {r : Addr} {x : Ql} (h : QAn C H H' r x) (s : Same H' H1) : QAn C H H1 r x := by
  obtain ⟨dx, l1, l2, l3, us, us2, n, e, e1, ⟨e2, p2⟩, e3, p3⟩ := h
  exact ⟨dx, l1, l2, l3, us, us2, n, s _ _ e, s _ _ e1, ⟨s _ _ e2, p2.same s⟩, s _ _ e3, p3.same s⟩
theorem mk_q {H : Hp} {C x dx tc tt : Addr} {y : Ql} {us : List V} {vp : V} {Q : VK} (ok : y.Ok) (cl : QClo y) (nx : H x = none) (ndx : H dx = none) (etc : H tc = some (.lst (y.cs.map V.str))) (ett : H tt = some (.lst us)) (pp : PaX H us y.ps) (op : Opt H vp y.qs)
    (q : ∀ H', Same H H' → QAn C H H' x y → Q .non H') : spQInit C [.ref x, .ref tc, .ref tt, vp] (upd (upd H dx (.own x)) x (.ins C dx [])) Q E0 := by
  have sK : Same H (upd (upd H dx (.own x)) x (.ins C dx [])) := fun b o e => by
    rw [upd_ne (ne_of_none e nx), upd_ne (ne_of_none e ndx)]
    exact e
  have ex : upd (upd H dx (.own x)) x (.ins C dx []) x = some (.ins C dx []) := upd_same
  have mk : ∀ {H2 : Hp}, Sb x (upd (upd H dx (.own x)) x (.ins C dx [])) H2 → Same H H2 := fun sb => made_same (Same.refl H) nx ndx sb
  generalize upd (upd H dx (.own x)) x (.ins C dx []) = K2 at sK ex mk ⊢
  refine ⟨x, dx, tc, tt, y.cs, us, y.ps, vp, y.qs, rfl, ex, ⟨sK _ _ etc, ok.cs, ok.cl⟩, ⟨sK _ _ ett, (pp.same sK).pal, ok.ps, ok.pl⟩, ⟨op.same sK, ok.qs⟩, ⟨cl.c, cl.q⟩, ?_⟩
  intro l1 l2 l3 us2 H' f1 f2 f3 sb er el1 el2 pl2 el3 pl3
  exact q H' (mk sb) ⟨dx, l1, l2, l3, us, us2, ⟨nx, sK.free f1, sK.free f2, sK.free f3⟩, er, el1, ⟨el2, (pp.same sK).sbo ex sb⟩, el3, pl3⟩
end Nv
set_option maxHeartbeats 4000000
namespace Nv
open PySem PySem.Spec PyProof.Rows L2
theorem cutA (ks : List V) (h : 1 ≤ ks.length) : cutV ks none (some 1) = ks.take 1 := by
  unfold cutV
  have e : HT.sIx ks.length ks.length (some (1 : Int)) = min 1 ks.length := HT.sIx_nat ks.length ks.length 1
  rw [e, HT.sIx_none, List.drop_zero, Nat.sub_zero, Nat.min_eq_left h]
theorem lst_ne {H : Hp} {a p : Addr} {n : Nat} {o : HO} (pu : Pu H a n) (h : ∀ s d t k : Int, o ≠ .lst [.int s, .int d, .int t, .int k]) (e : H p = some o) : p ≠ a := fun z => by
  obtain ⟨s, d, t, k, e2, _⟩ := pu.ex
  rw [z, e2] at e
  exact h s d t k (Option.some.inj e).symm
theorem hasMore_no {ts : List Str} {ps : List (List Str)} (h : ∀ x ∈ ts, x ∈ varsIn (tails ps) ∨ IsNm x) : hasMore ts ps = false := by
  unfold hasMore
  rw [List.any_eq_false]
  intro x hx
  obtain ⟨h1, h2⟩ := varsIn_mem.mp hx
  rcases h x h1 with h3 | h3
  · rw [decide_eq_true h3]
    decide
  · exact absurd h2 (nm_not_vr h3)
theorem PrOk.pair {vs q : List Str} (h : PrOk vs q) (hv : ∀ x ∈ vs, IsVr x) : PairOk q := by
  obtain ⟨x, y, rfl, ne, h1, h2, h3⟩ := h
  have tm : ∀ z, z ∈ vs ∨ IsNm z → IsTm z := fun z h => h.elim (fun h => .inr (hv z h)) .inl
  exact ⟨x, y, rfl, ne, tm x h1, tm y h2, h3.elim (fun h => .inl (hv x h)) fun h => .inr (hv y h)⟩
end Nv
set_option maxHeartbeats 4000000
namespace Nv
open PySem PySem.Spec PyProof.Rows L2
/-! # _law_fact -/
theorem rep_memG {k : Nat} {xs : List V} {v : V} (h : v ∈ (List.replicate k xs).flatten) : v ∈ xs := by
  obtain ⟨l, hl, hv⟩ := List.mem_flatten.mp h
  rw [(List.mem_replicate.mp hl).2] at hv
  exact hv
section
variable {P : Program} {w : World} {K : PySem.W.Frag} {mg : Str → Option Value} {base : Heap}
def spFact (K : PySem.W.Frag) : Sp := fun vs H Q _ => ∃ (a b c : Addr) (n : Nat) (ks : List V) (zs : List Str), vs = [.ref a, .ref b, .ref c] ∧ Pu H a (n + 4) ∧ (H b = some (.lst ks) ∧ b ≠ a ∧ 2 ≤ ks.length ∧ ks.length ≤ 100 ∧ ∀ v ∈ ks, Kd H v) ∧
  (H c = some (.lst (zs.map V.str)) ∧ c ≠ a ∧ 1 ≤ zs.length ∧ zs.length ≤ 100 ∧ ∀ y ∈ zs, IsNm y) ∧
  ∀ (t : Addr) (p : List Str) (H' : Hp), FactOk p → H t = none → Pu H' a n → Sb a H H' → H' t = some (.tup (p.map V.str)) → Q (.ref t) H'
abbrev nFact : List Str := ["_law_purse_here", "_law_kinds_here", "_law_names_here", "_law_word", "_law_many", "_law_turn"]
theorem scFact : FnScope nFact ["_law_purse_here", "_law_kinds_here", "_law_names_here"] (defScope sFact) := ⟨rfl, rfl, rfl, by decide +kernel, rfl, by decide +kernel, by decide +kernel⟩
theorem ok_fact {f fO : Addr} {fd fdO : FuncData} (F : Fun K "_law_fact" "_law_fact" sFact f fd)
    (GO : FnOk P w K mg base CX0 3 fO fdO ["_law_purse_here", "_law_some"] (spOneOf K)) (kO : PySem.W.keepIn K (.ref fO) = true) (gO : mg "_law_one_of" = some (.ref fO)) (bO : Binds K fdO ["_law_purse_here", "_law_some"] []) (B : Bl mg) :
    FnOk P w K mg base CX0 4 f fd ["_law_purse_here", "_law_kinds_here", "_law_names_here"] (spFact K) := by
  refine F.ok scFact (fun vs H Q E h => ?_) (fun cdv A outer s H vs Q E hr h => ?_)
  · obtain ⟨a, b, c, n, ks, zs, rfl, _⟩ := h
    rfl
  · obtain ⟨a, b, c, n, ks, zs, rfl, pu, ⟨eb, hba, k2, kl, kd⟩, ⟨ec, hca, z1, zl, zn⟩, q⟩ := h
    refine ⟨_, pss_cons (ps_asg (by exact (pe_call GO hr (by rfl) gO kO bO .nil pass0 (pa_cons (pv 0) (pa_cons (pe_op op_cat (pe_op op_rep (pe_slice sl_list (pv 1) po_none (po_some pe_int)) pe_int) (pv 1)) pa_nil)))) (pg_tup (by rfl) (pgs_cons (pg_name (i := 3) scFact.nd rfl (Or.inl rfl)) (pgs_cons (pg_name (i := 4) scFact.nd rfl (Or.inl rfl)) pgs_nil))))
      (pss_one (ps_ret (pe_callTy call_tuple_of (by rfl) B.tup PyProof.Rows.boot_tuple (pa_cons (pe_op op_cat (pe_lst (pa_cons (pv 3) pa_nil))
        (by exact (pe_lc (own := [("_law_turn", 5)]) (g := gName 5) (tt := tYes) rfl scFact.nd (pi_range1 (by rfl) B.rg (pa_cons (pv 4) pa_nil))
          (blkOk_by (own := [("_law_turn", 5)]) (N := nFact) (sc := defScope sFact) (by decide +kernel))
          (fun _ _ _ _ _ => pg_name (i := 5) scFact.nd rfl (Or.inl rfl)) (fun _ _ _ _ _ => pts_nil)
          (fun _ _ _ _ _ => by exact (pe_call GO hr (by rfl) gO kO bO .nil pass0 (pa_cons (pv 0) (pa_cons (pv 2) pa_nil))))))) pa_nil)))), ?_⟩
    refine ⟨_, rfl, _, rfl, 1, rfl, b, ks, rfl, SqL.of eb, fun p1 n1 => ?_⟩
    rw [cutA ks (by omega)]
    have s1 : Same H (upd H p1 (.lst (ks.take 1))) := same_new n1
    have e1 : upd H p1 (.lst (ks.take 1)) p1 = some (.lst (ks.take 1)) := upd_same
    generalize upd H p1 (.lst (ks.take 1)) = G1 at s1 e1 ⊢
    refine ⟨p1, 2, _, rfl, rfl, e1, by decide, by decide, ?_, fun p2 n2 => ?_⟩
    · rw [List.length_take]
      exact Nat.le_trans (by show min 1 ks.length * 2 ≤ 1000; omega) (by decide)
    have s2 : Same H (upd G1 p2 (.lst (List.replicate (2 : Int).toNat (ks.take 1)).flatten)) := same_put s1 (s1.free n2)
    have e2 : upd G1 p2 (.lst (List.replicate (2 : Int).toNat (ks.take 1)).flatten) p2 = some (.lst (List.replicate (2 : Int).toNat (ks.take 1)).flatten) := upd_same
    have hm1 : ∀ v ∈ (List.replicate (2 : Int).toNat (ks.take 1)).flatten, v ∈ ks := fun v hv => List.mem_of_mem_take (rep_memG hv)
    have hl1 : (List.replicate (2 : Int).toNat (ks.take 1)).flatten.length ≤ 400 := by
      rw [show (2 : Int).toNat = 2 from rfl, List.length_flatten, List.map_replicate, List.sum_replicate_nat, List.length_take]
      omega
    generalize (List.replicate (2 : Int).toNat (ks.take 1)).flatten = k4 at s2 e2 hm1 hl1 ⊢
    generalize upd G1 p2 (.lst k4) = G2 at s2 e2 ⊢
    refine ⟨_, rfl, _, _, _, _, rfl, rfl, e2, s2 _ _ eb, Nat.le_trans (by omega : _ ≤ 1000) (by decide), fun p3 n3 => ?_⟩
    have s3 : Same H (upd G2 p3 (.lst (k4 ++ ks))) := same_put s2 (s2.free n3)
    have e3 : upd G2 p3 (.lst (k4 ++ ks)) p3 = some (.lst (k4 ++ ks)) := upd_same
    have n3H := s2.free n3
    generalize upd G2 p3 (.lst (k4 ++ ks)) = G3 at s3 e3 ⊢
    have hk3 : ∀ v ∈ k4 ++ ks, v ∈ ks := fun v hv => (List.mem_append.mp hv).elim (hm1 v) id
    have hl3 : 1 ≤ (k4 ++ ks).length ∧ (k4 ++ ks).length ≤ 1000 := by
      rw [List.length_append]
      omega
    generalize k4 ++ ks = kk at e3 hk3 hl3
    have pu3 := pu.same s3
    have p3a : p3 ≠ a := pu.ne n3H
    dsimp only [tNil]
    refine ⟨a, p3, n + 3, kk, rfl, pu3, SqL.of e3, p3a, hl3, fun v H1 hv pu1 sb1' => ?_⟩
    have sb1 : Sb a H H1 := (Sb.of s3).trans sb1'
    obtain ⟨t0, wd, m, rfl, e0, hw, hm⟩ := kd v (hk3 v hv)
    have e1 : H1 t0 = some (.tup [.str wd, .int (m : Int)]) := sb1 _ _ (tup_ne pu e0) e0
    refine ⟨t0, _, rfl, SqT.of e1, rfl, _, _, rfl, _, _, rfl, rfl, ?_⟩
    have hc1 := sb1 _ _ hca ec
    refine ⟨_, rfl, (by show 1 ≤ sizeLine; decide), fun l nl => ?_⟩
    have pu2 : Pu (upd H1 l (.lst [V.str wd])) a (n + 3) := pu1.put (pu1.ne nl)
    have sb2 : Sb a H (upd H1 l (.lst [V.str wd])) := sb1.put (sb1.free pu1 nl)
    have hc2 : upd H1 l (.lst [V.str wd]) c = some (.lst (zs.map V.str)) := same_new nl _ _ hc1
    have el : upd H1 l (.lst [V.str wd]) l = some (.lst [V.str wd]) := upd_same
    generalize upd H1 l (.lst [V.str wd]) = G at pu2 sb2 hc2 el ⊢
    refine ⟨_, rfl, (m : Int), rfl, by omega, by omega, fun D nD => ?_⟩
    have hDa := pu2.ne nD
    refine lc_range (lo := 0) (n := (m : Int).toNat) (fun i H' => ∃ ts : List Str, ts.length = i ∧ (∀ x ∈ ts, x ∈ zs) ∧ Pu H' a (n + (3 - i)) ∧ Sb a G H' ∧ H' D = some (.lst (ts.map V.str))) ⟨[], rfl, (fun x hx => nomatch hx), pu2.put hDa, Sb.new nD, upd_same⟩ ?_ ?_
    · rintro i H2 hi ⟨ts, hl, hts, pu3, sb3, e3⟩
      refine ⟨rfl, ?_⟩
      refine ⟨_, rfl, _, rfl, a, c, n + (3 - (i + 1)), zs.map V.str, rfl, pu3.le (by omega), SqL.of (sb3 _ _ hca hc2), hca, ⟨by rw [List.length_map]; exact z1, by rw [List.length_map]; omega⟩, fun v H3 hv pu4 sb4 => ?_⟩
      obtain ⟨z, hz, rfl⟩ := List.mem_map.mp hv
      refine ⟨_, sb4 _ _ hDa e3, by rw [List.length_map]; exact small1000 (by omega), ts ++ [z], by rw [List.length_append, hl] <;> rfl, ?_, pu4.put hDa, ?_, by rw [upd_same, List.map_append] <;> rfl⟩
      · intro x hx
        rcases List.mem_append.mp hx with h | h
        · exact hts x h
        · rw [List.mem_singleton.mp h]
          exact hz
      · exact (sb3.trans sb4).put nD
    · rintro H2 ⟨ts, hl, hts, pu3, sb3, e3⟩
      have hla : l ≠ a := by
        intro z
        obtain ⟨s, d, tt, kk, e2, _⟩ := pu2.ex
        rw [z, e2] at el
        injection el with el
        injection el with el
        cases el
      have el2 := sb3 _ _ hla el
      refine ⟨_, _, _, _, rfl, rfl, el2, e3, ?_, fun q1 nq => ?_⟩
      · rw [List.length_map]
        have := big1000
        show 1 + ts.length ≤ _
        omega
      · refine ⟨q1, _, rfl, .inl ⟨SqL.of upd_same, fun q2 nq2 => ?_⟩⟩
        have sb4 : Sb a H H2 := sb2.trans sb3
        have pu4 := pu3.put (o := .lst ([V.str wd] ++ ts.map V.str)) (pu3.ne nq)
        have sb5 : Sb a H (upd H2 q1 (.lst ([V.str wd] ++ ts.map V.str))) := sb4.put (sb4.free pu3 nq)
        refine q q2 (wd :: ts) _ ⟨⟨by rw [List.length_cons]; omega, by rw [List.length_cons]; omega⟩, fun y hy => ?_⟩ (sb5.free pu4 nq2) ((pu4.put (pu4.ne nq2)).le (by omega)) (sb5.put (sb5.free pu4 nq2)) upd_same
        rcases List.mem_cons.mp hy with rfl | hy
        · exact hw.1
        · exact zn y (hts y hy)
end
end Nv
set_option maxHeartbeats 4000000
namespace Nv
open PySem PySem.Spec PyProof.Rows L2
/-! # _law_store -/
theorem any_dT {qs : List (List Str)} {p : List Str} : ((qs.map dT).any fun z => PyData.eqv z (dT p)) = decide (p ∈ qs) := by
  rw [List.any_map]
  by_cases h : p ∈ qs
  · rw [decide_eq_true h, List.any_eq_true]
    exact ⟨p, h, by
      show PyData.eqv (dT p) (dT p) = true
      rw [eqv_T]
      exact decide_eq_true rfl⟩
  · rw [decide_eq_false h, List.any_eq_false]
    intro q hq z
    have z2 : PyData.eqv (dT q) (dT p) = true := z
    rw [eqv_T] at z2
    exact h (of_decide_eq_true z2 ▸ hq)
section
variable {P : Program} {w : World} {K : PySem.W.Frag} {mg : Str → Option Value} {base : Heap}
def spStore (K : PySem.W.Frag) : Sp := fun vs H Q _ => ∃ (a b c : Addr) (n most : Nat) (ks : List V) (zs : List Str), vs = [.ref a, .ref b, .ref c, .int (most : Int)] ∧ Pu H a (n + (2 + 4 * most)) ∧ (1 ≤ most ∧ most ≤ 50) ∧ (H b = some (.lst ks) ∧ b ≠ a ∧ 2 ≤ ks.length ∧ ks.length ≤ 100 ∧ ∀ v ∈ ks, Kd H v) ∧
  (H c = some (.lst (zs.map V.str)) ∧ c ≠ a ∧ 1 ≤ zs.length ∧ zs.length ≤ 100 ∧ ∀ y ∈ zs, IsNm y) ∧
  ∀ (p : Addr) (us : List V) (ps : List (List Str)) (H' : Hp), StoreAt H' p us ps → ps.length ≤ most → H p = none → p ≠ a → Pu H' a n → Sb a H H' → Q (.ref p) H'
abbrev nStore : List Str := ["_law_purse_here", "_law_kinds_here", "_law_names_here", "_law_most", "_law_found", "_law_turn", "_law_fact_here"]
theorem scStore : FnScope nStore ["_law_purse_here", "_law_kinds_here", "_law_names_here", "_law_most"] (defScope sStore) := ⟨rfl, rfl, rfl, by decide +kernel, rfl, by decide +kernel, by decide +kernel⟩
theorem ok_store {f fD fF : Addr} {fd dD dF : FuncData} (F : Fun K "_law_store" "_law_store" sStore f fd) (B : Bl mg)
    (GD : FnOk P w K mg base CX0 2 fD dD ["_law_purse_here", "_law_many"] spDraw) (kD : PySem.W.keepIn K (.ref fD) = true) (gD : mg "_law_draw" = some (.ref fD)) (bD : Binds K dD ["_law_purse_here", "_law_many"] [])
    (GF : FnOk P w K mg base CX0 4 fF dF ["_law_purse_here", "_law_kinds_here", "_law_names_here"] (spFact K)) (kF : PySem.W.keepIn K (.ref fF) = true) (gF : mg "_law_fact" = some (.ref fF)) (bF : Binds K dF ["_law_purse_here", "_law_kinds_here", "_law_names_here"] []) :
    FnOk P w K mg base CX0 5 f fd ["_law_purse_here", "_law_kinds_here", "_law_names_here", "_law_most"] (spStore K) := by
  refine F.ok scStore (fun vs H Q E h => ?_) (fun cdv A outer s H vs Q E hr h => ?_)
  · obtain ⟨a, b, c, n, most, ks, zs, rfl, _⟩ := h
    rfl
  · obtain ⟨a, b, c, n, most, ks, zs, rfl, pu, ⟨m1, m2⟩, ⟨eb, hba, k2, kl, kd⟩, ⟨ec, hca, z1, zl, zn⟩, q⟩ := h
    have hr2 : Room 2 _ := hr.mono (by decide)
    have hu : (A.deeper (envOfC "_law_store" (defScope sStore) s.heap.objs.size f cdv)).units + 65 < cLine := by have := hr.un; omega
    refine ⟨_, pss_cons (ps_set (i := 4) scStore.nd rfl (Or.inl rfl) (pe_lst pa_nil))
      (pss_cons (ps_for PassesOwn.never rfl (pi_range1 (by rfl) B.rg (pa_cons (pe_op op_mul (pe_op op_add pe_int (by exact (pe_call GD hr2 (by rfl) gD kD bD .nil pass0 (pa_cons (pv 0) (pa_cons (pv 3) pa_nil)))))
          (pe_callTy call_int1 (by rfl) B.int boot_int (pa_cons (pe_cmpR op_gt (by exact (pe_call GD hr2 (by rfl) gD kD bD .nil pass0 (pa_cons (pv 0) (pa_cons pe_int pa_nil)))) pe_int (nomark _)) pa_nil))) pa_nil)) (pg_name (i := 5) scStore.nd rfl (Or.inl rfl))
        (pss_cons (ps_set (i := 6) scStore.nd rfl (Or.inl rfl) (by exact (pe_call GF hr (by rfl) gF kF bF .nil pass0 (pa_cons (pv 0) (pa_cons (pv 1) (pa_cons (pv 2) pa_nil))))))
        (pss_one (ps_if (pt_cmpR (op_notInD hu) (pv 6) (pv 4) (by rfl)) (pss_one (ps_expr (pe_bm PySem.F.plainAttrs_list PySem.F.slot_list_append PySem.F.type_list_append mt_append (pv 4) (pa_cons (pv 6) pa_nil)))) pss_nil))))
      (pss_one (ps_ret (pv 4)))), ?_⟩
    refine ⟨by show 0 ≤ _; exact Nat.zero_le _, fun l nl => ?_⟩
    have s1 : Same H (upd H l (.lst [])) := same_new nl
    have el : upd H l (.lst []) l = some (.lst []) := upd_same
    have la : l ≠ a := pu.ne nl
    generalize upd H l (.lst []) = H1 at s1 el ⊢
    have pu1 := pu.same s1
    show tSeq _ _ _ _ _
    refine ⟨_, rfl, _, rfl, ?_⟩
    dsimp only [tNil]
    refine ⟨a, n + (1 + 4 * most), most, rfl, pu1.le (by omega), ⟨by omega, by omega⟩, fun r1 H2 r0 r1' pu2 sb2 => ⟨_, _, rfl, rfl, ?_⟩⟩
    obtain ⟨j, rfl⟩ : ∃ j : Nat, r1 = (j : Int) := ⟨r1.toNat, by omega⟩
    refine ⟨_, rfl, ?_⟩
    dsimp only [tNil]
    refine ⟨a, n + 4 * most, 12, rfl, pu2.le (by omega), ⟨by decide, by decide⟩, fun r2 H3 r20 r21 pu3 sb3 => ⟨_, _, rfl, rfl, ?_⟩⟩
    refine .inr ⟨_, rfl, ?_⟩
    have sb03 : Sb a H H3 := ((Sb.of s1).trans sb2).trans sb3
    have el3 := sb3 _ _ la (sb2 _ _ la el)
    obtain ⟨N, hN, hNm⟩ : ∃ N : Nat, (1 + (j : Int)) * (if decide (0 < r2) = true then 1 else 0) = (N : Int) ∧ N ≤ most := by
      by_cases h : 0 < r2
      · rw [decide_eq_true h, if_pos rfl]
        exact ⟨1 + j, by omega, by omega⟩
      · rw [decide_eq_false h, if_neg Bool.false_ne_true]
        exact ⟨0, by omega, by omega⟩
    refine ⟨_, _, rfl, rfl, ?_, ?_⟩
    · refine Or.inl ⟨by omega, ?_⟩
      have : (j : Int) < 100 := by omega
      omega
    refine ⟨(N : Int), congrArg (fun z => [V.int z]) hN, by omega, by omega, ?_⟩
    rw [Int.toNat_natCast]
    show ∃ W : Nat → Nat → L2.St → Hp → Prop, (∃ m, W 0 m [some (.ref a), some (.ref b), some (.ref c), some (.int (most : Int)), some (.ref l), none, none] H3) ∧ _
    refine for_range (D := { nx := tRet (tVar 4) { nx := fun x H' => Q .non H', rt := Q }, rt := Q }) (lo := 0) (n := N) (fun i σ G => ∃ (o5 o6 : Option V) (us : List V) (ps : List (List Str)), σ = [some (.ref a), some (.ref b), some (.ref c), some (.int (most : Int)), some (.ref l), o5, o6] ∧ Pu G a (n + 4 * (most - i)) ∧ Sb a H G ∧ G l = some (.lst us) ∧ PaL G us ps ∧ (∀ x ∈ ps, FactOk x) ∧ ps.Nodup ∧ ps.length ≤ i)
      ⟨none, none, [], [], rfl, pu3.le (by omega), sb03, el3, .nil, (fun _ h => nomatch h), List.nodup_nil, Nat.le_refl _⟩ ?_ ?_
    · rintro i σ G hi ⟨o5, o6, us, ps, rfl, puG, sbG, elG, hp, ok, nd, few⟩
      show tSeq _ _ _ _ _
      refine ⟨_, rfl, _, rfl, _, rfl, ?_⟩
      dsimp only [tNil]
      refine ⟨a, b, c, n + 4 * (most - (i + 1)), ks, zs, rfl, puG.le (by omega), ⟨sbG _ _ hba eb, hba, k2, kl, fun v hv => (kd v hv).sb pu sbG⟩, ⟨sbG _ _ hca ec, hca, z1, zl, zn⟩, fun t p G5 fp nt pu7 sbG5 et => ?_⟩
      have hp5 : PaL G5 us ps := hp.sb puG sbG5
      have eb5 := sbG5 _ _ la elG
      dsimp only
      refine ⟨_, rfl, _, rfl, dT p, ps.map dT, dp_T (.inl et), dp_L (SqL.of eb5) hp5, (lay_dT fun z hz => (fp.2 z hz).asc).shaped (by decide), (lay_dL fun x hx z hz => ((ok x hx).2 z hz).asc).shaped (by decide), _, rfl, ?_⟩
      rw [any_dT]
      by_cases h : p ∈ ps
      · rw [decide_eq_true h]
        exact iteF ⟨_, _, us, ps, rfl, pu7, sbG.trans sbG5, eb5, hp5, ok, nd, by omega⟩
      · rw [decide_eq_false h]
        refine iteT ⟨_, rfl, .inl ⟨rfl, _, SqL.of eb5⟩, _, rfl, l, _, _, rfl, rfl, eb5, ?_, ?_⟩
        · rw [hp5.len]
          exact Nat.lt_of_le_of_lt (by omega : _ ≤ 50) (by decide)
        · refine ⟨_, _, us ++ [.ref t], ps ++ [p], rfl, pu7.put la, (sbG.trans sbG5).put nl, upd_same, (hp5.over eb5).app (.cons (by rw [upd_ne (fun z => by rw [z, eb5] at et; cases et)]; exact et) .nil), fun x hx => ?_, ?_, by rw [List.length_append]; show ps.length + 1 ≤ _; omega⟩
          · rcases List.mem_append.mp hx with hx | hx
            · exact ok x hx
            · rw [List.mem_singleton.mp hx]
              exact fp
          · rw [List.nodup_append]
            exact ⟨nd, by simp, fun x hx y hy e => h (by rw [← List.mem_singleton.mp hy, ← e]; exact hx)⟩
    · rintro σ G ⟨o5, o6, us, ps, rfl, puG, sbG, elG, hp, ok, nd, few⟩
      exact ⟨_, rfl, q l us ps G ⟨elG, hp, ok, nd, by omega⟩ (by omega) nl la (puG.le (by omega)) sbG⟩
end
end Nv
set_option maxHeartbeats 4000000
namespace Nv
open PySem PySem.Spec PyProof.Rows L2
theorem fill_pre {ts more row p : List Str} (h : ∀ z ∈ p.drop 1, z ∈ ts) : fillR (ts ++ more) row p = fillR ts (row.take ts.length) p := by
  unfold fillR
  rw [List.map_inj_left.mpr fun z hz => val_pre (h z hz)]
/-- all steps -/
theorem foldM_mem {prs ps : List (List Str)} (ok : ∀ f ∈ ps, 1 ≤ f.length) : ∀ (pats : List (List Str)) (ts : List Str) (rws : List (List Str)), ts.Nodup → (∀ x ∈ rws, x.length = ts.length) → (∀ p ∈ pats, 1 ≤ p.length) → ∀ row : List Str,
    row ∈ ((planOf ts pats).zip (List.replicate pats.length ps)).foldl (stepR prs) rws ↔ row.length = (planT ts pats).length ∧ row.take ts.length ∈ rws ∧ (∀ p ∈ pats, fillR (planT ts pats) row p ∈ ps) ∧
      ∀ pr ∈ prs, (pr.getD 0 "" ∈ planT ts pats ∧ pr.getD 1 "" ∈ planT ts pats) → ¬ (pr.getD 0 "" ∈ ts ∧ pr.getD 1 "" ∈ ts) → val (planT ts pats) row (pr.getD 0 "") ≠ val (planT ts pats) row (pr.getD 1 "")
  | [], ts, rws, nd, hr, hp, row => by
    show row ∈ rws ↔ row.length = ts.length ∧ row.take ts.length ∈ rws ∧ _
    refine ⟨fun h => ⟨hr row h, by rw [← hr row h, List.take_length]; exact h, (fun p hq => nomatch hq), fun pr _ h1 h2 => absurd h1 h2⟩, fun ⟨h1, h2, _⟩ => ?_⟩
    rw [← h1, List.take_length] at h2
    exact h2
  | p :: pats, ts, rws, nd, hr, hp, row => by
    have hp1 := hp p List.mem_cons_self
    have ih := foldM_mem (prs := prs) ok pats (stepTerms ts p) (onw p ts prs rws (ofKind p ps)) (step_nd nd) (onw_wide hr) (fun q hq => hp q (List.mem_cons_of_mem _ hq)) row
    obtain ⟨more, eT⟩ := planT_app (pats := pats) (ts := stepTerms ts p)
    show row ∈ ((planOf (stepTerms ts p) pats).zip (List.replicate pats.length ps)).foldl (stepR prs) (onw p ts prs rws (ofKind p ps)) ↔ row.length = (planT (stepTerms ts p) pats).length ∧ _
    rw [ih, onw_mem nd hr hp1 ok]
    show _ ↔ row.length = (planT (stepTerms ts p) pats).length ∧ row.take ts.length ∈ rws ∧ (∀ q ∈ p :: pats, fillR (planT (stepTerms ts p) pats) row q ∈ ps) ∧ ∀ pr ∈ prs, (pr.getD 0 "" ∈ planT (stepTerms ts p) pats ∧ pr.getD 1 "" ∈ planT (stepTerms ts p) pats) → ¬ (pr.getD 0 "" ∈ ts ∧ pr.getD 1 "" ∈ ts) → val (planT (stepTerms ts p) pats) row (pr.getD 0 "") ≠ val (planT (stepTerms ts p) pats) row (pr.getD 1 "")
    generalize planT (stepTerms ts p) pats = T at eT
    subst eT
    have le : ts.length ≤ (stepTerms ts p).length := stepT_le
    have tt : (row.take (stepTerms ts p).length).take ts.length = row.take ts.length := by rw [List.take_take, Nat.min_eq_left le]
    rw [tt]
    have fp : fillR (stepTerms ts p ++ more) row p = fillR (stepTerms ts p) (row.take (stepTerms ts p).length) p := fill_pre fun z hz => step_in hz
    have vp : ∀ {z : Str}, z ∈ stepTerms ts p → val (stepTerms ts p ++ more) row z = val (stepTerms ts p) (row.take (stepTerms ts p).length) z := fun h => val_pre h
    have rd : ∀ {pr : List Str}, pr ∈ readyOf ts (stepTerms ts p) prs ↔ pr ∈ prs ∧ (pr.getD 0 "" ∈ stepTerms ts p ∧ pr.getD 1 "" ∈ stepTerms ts p) ∧ ¬ (pr.getD 0 "" ∈ ts ∧ pr.getD 1 "" ∈ ts) := fun {pr} => by
      unfold readyOf
      rw [List.mem_filter, Bool.and_eq_true, Bool.and_eq_true, Bool.not_eq_true', Bool.and_eq_false_iff, decide_eq_true_eq, decide_eq_true_eq, decide_eq_false_iff_not, decide_eq_false_iff_not, Decidable.not_and_iff_not_or_not]
    have up : ∀ {z : Str}, z ∈ stepTerms ts p → z ∈ stepTerms ts p ++ more := fun h => List.mem_append_left _ h
    have ut : ∀ {z : Str}, z ∈ ts → z ∈ stepTerms ts p := fun h => by
      rw [step_app]
      exact List.mem_append_left _ h
    constructor
    · rintro ⟨h1, ⟨h2, h3, h4, h5⟩, h6, h7⟩
      refine ⟨h1, h3, fun q hq => ?_, fun pr hpr hT ht => ?_⟩
      · rcases List.mem_cons.mp hq with rfl | hq
        · rw [fp]
          exact h4
        · exact h6 q hq
      · by_cases h : pr.getD 0 "" ∈ stepTerms ts p ∧ pr.getD 1 "" ∈ stepTerms ts p
        · rw [vp h.1, vp h.2]
          exact h5 pr (rd.mpr ⟨hpr, h, ht⟩)
        · exact h7 pr hpr hT h
    · rintro ⟨h1, h2, h3, h4⟩
      refine ⟨h1, ⟨?_, h2, ?_, fun pr hpr => ?_⟩, fun q hq => h3 q (List.mem_cons_of_mem _ hq), fun pr hpr hT h => h4 pr hpr hT fun z => h ⟨ut z.1, ut z.2⟩⟩
      · rw [List.length_take, h1, List.length_append]
        omega
      · rw [← fp]
        exact h3 p List.mem_cons_self
      · obtain ⟨m1, m2, m3⟩ := rd.mp hpr
        rw [← vp m2.1, ← vp m2.2]
        exact h4 pr m1 ⟨up m2.1, up m2.2⟩ m3
/-! ### by what stands at a variable -/
/-- what a match gives a term: the name at its place, else itself -/
def sub (ks xs : List Str) (z : Str) : Str := if z ∈ ks then xs.getD (pos1 ks z) "" else z
def fillS (ks xs p : List Str) : List Str := p.take 1 ++ (p.drop 1).map (sub ks xs)
theorem sub_val {zs vs xs : List Str} {z : Str} (hz : ∀ y ∈ vs, y ∉ zs) (nz : zs.Nodup) (h : z ∈ zs ++ vs) : val (zs ++ vs) (zs ++ xs) z = sub vs xs z := by
  by_cases h1 : z ∈ zs
  · rw [val_pre h1, List.take_left' rfl]
    unfold sub
    rw [if_neg (fun h2 => hz z h2 h1)]
    obtain ⟨p1, _⟩ := pos1_at h1
    unfold val
    rw [List.getD_eq_getElem?_getD, p1] <;> rfl
  · have h2 : z ∈ vs := (List.mem_append.mp h).resolve_left h1
    unfold sub
    rw [if_pos h2]
    unfold val
    have e : pos1 (zs ++ vs) z = zs.length + pos1 vs z := by
      unfold pos1
      rw [List.findIdx_append, if_neg (fun hl => ?_)]
      · exact Nat.add_comm _ _
      · have hl2 : zs.findIdx (fun y => y == z) < zs.length := hl
        have := List.findIdx_getElem (w := hl2)
        exact h1 (by rw [← beq_iff_eq.mp this]; exact List.getElem_mem _)
    rw [e, List.getD_eq_getElem?_getD, List.getElem?_append_right (Nat.le_add_right _ _), Nat.add_sub_cancel_left, List.getD_eq_getElem?_getD]
theorem merge_zip : ∀ (ks xs : List Str) (acc : List (L2.Key × V)) (z : Str), ks.Nodup → ks.length = xs.length → valV (mergeK acc (zipK ks xs)) (.inr z) = if z ∈ ks then some (.str (xs.getD (pos1 ks z) "")) else valV acc (.inr z)
  | [], xs, acc, z, _, _ => by
    rw [if_neg (fun h => nomatch h)]
    rfl
  | k :: ks, [], acc, z, _, hl => by cases hl
  | k :: ks, x :: xs, acc, z, nd, hl => by
    have nd2 := List.nodup_cons.mp nd
    show valV (mergeK (putK acc (.inr k) (.str x)) (zipK ks xs)) (.inr z) = _
    rw [merge_zip ks xs _ z nd2.2 (Nat.succ.inj hl), L2.valV_put]
    have pc : pos1 (k :: ks) z = if k = z then 0 else pos1 ks z + 1 := by
      unfold pos1
      rw [List.findIdx_cons]
      by_cases h : k = z
      · rw [if_pos h, beq_iff_eq.mpr h] <;> rfl
      · rw [if_neg h, beq_eq_false_iff_ne.mpr h] <;> rfl
    by_cases h1 : z ∈ ks
    · have ne : k ≠ z := fun e => nd2.1 (e ▸ h1)
      rw [if_pos h1, if_pos (List.mem_cons_of_mem _ h1), pc, if_neg ne, List.getD_cons_succ]
    · rw [if_neg h1]
      by_cases h2 : z = k
      · rw [if_pos (show (Sum.inr z : L2.Key) = Sum.inr k by rw [h2]), if_pos (show z ∈ k :: ks by rw [h2]; exact List.mem_cons_self), pc, if_pos h2.symm, List.getD_cons_zero]
      · rw [if_neg (fun e => h2 (by injection e)), if_neg (fun h => (List.mem_cons.mp h).elim h2 h1)]
theorem subZ_sub {ks xs : List Str} {z : Str} (nd : ks.Nodup) (hl : ks.length = xs.length) : subZ ks xs z = sub ks xs z := by
  unfold subZ sub
  rw [merge_zip ks xs [] z nd hl]
  by_cases h : z ∈ ks
  · rw [if_pos h, if_pos h]
  · rw [if_neg h, if_neg h] <;> rfl
/-- the matches of patterns and pairs -/
theorem metF_mem {zs : List Str} {pats prs ps : List (List Str)} (ok : ∀ p ∈ pats, PatOk p) (pok : ∀ pr ∈ prs, pr.getD 0 "" ∈ zs ++ varsIn (tails pats) ∧ pr.getD 1 "" ∈ zs ++ varsIn (tails pats)) (fo : ∀ f ∈ ps, 1 ≤ f.length) {more : List Str} (hz : NamesOf (tails pats ++ more) zs) (x : List Str) :
    x ∈ metF zs pats prs ps ↔ x.length = (varsIn (tails pats)).length ∧ (∀ p ∈ pats, fillS (varsIn (tails pats)) x p ∈ ps) ∧ ∀ pr ∈ prs, sub (varsIn (tails pats)) x (pr.getD 0 "") ≠ sub (varsIn (tails pats)) x (pr.getD 1 "") := by
  have pT := plan_vars ok hz
  have hv : ∀ y ∈ varsIn (tails pats), y ∉ zs := fun y hy m => nm_not_vr ((hz.mem y).mp m).2 (varsIn_mem.mp hy).2
  have tin : ∀ p ∈ pats, ∀ z ∈ p.drop 1, z ∈ zs ++ varsIn (tails pats) := fun p hp z h => by
    rcases names_terms ok hz p hp z h with h1 | h1
    · refine List.mem_append_right _ (varsIn_mem.mpr ⟨?_, h1.1⟩)
      unfold tails
      exact List.mem_flatten.mpr ⟨p.tail, List.mem_map.mpr ⟨p, hp, rfl⟩, by rw [List.drop_one] at h; exact h⟩
    · exact List.mem_append_left _ h1.2
  have fe : ∀ (y : List Str), ∀ p ∈ pats, fillR (zs ++ varsIn (tails pats)) (zs ++ y) p = fillS (varsIn (tails pats)) y p := fun y p hp => by
    unfold fillR fillS
    rw [List.map_inj_left.mpr fun z h => sub_val hv hz.nd (tin p hp z h)]
  have self : ∀ z ∈ zs, val zs zs z = z := fun z h => by
    obtain ⟨p1, _⟩ := pos1_at h
    unfold val
    rw [List.getD_eq_getElem?_getD, p1] <;> rfl
  have r0 : ∀ y : List Str, y ∈ keepA ((prs.filter (knB zs)).map (ijOf zs)) [zs] ↔ y = zs ∧ ∀ pr ∈ prs, (pr.getD 0 "" ∈ zs ∧ pr.getD 1 "" ∈ zs) → pr.getD 0 "" ≠ pr.getD 1 "" := fun y => by
    rw [mem_keepA, List.mem_singleton]
    refine and_congr_right fun e => ?_
    subst e
    refine ⟨fun h pr hpr hk => ?_, fun h z hz' => ?_⟩
    · have := apart_val.mp (h _ (List.mem_map.mpr ⟨pr, List.mem_filter.mpr ⟨hpr, by unfold knB; rw [decide_eq_true hk.1, decide_eq_true hk.2] <;> rfl⟩, rfl⟩))
      rw [self _ hk.1, self _ hk.2] at this
      exact this
    · obtain ⟨pr, hpr, rfl⟩ := List.mem_map.mp hz'
      obtain ⟨hpr, hk⟩ := List.mem_filter.mp hpr
      unfold knB at hk
      rw [Bool.and_eq_true, decide_eq_true_eq, decide_eq_true_eq] at hk
      rw [apart_val, self _ hk.1, self _ hk.2]
      exact h pr hpr hk
  have fm := foldM_mem (prs := prs) fo pats zs (keepA ((prs.filter (knB zs)).map (ijOf zs)) [zs]) hz.nd (fun y hy => by rw [List.mem_singleton.mp (keepA_sub _ hy)]) (fun p hp => by
    obtain ⟨w, ts, rfl, _⟩ := ok p hp
    exact Nat.le_add_left _ _)
  rw [pT] at fm
  unfold metF rowsF
  rw [List.mem_map]
  have key : ∀ y : List Str, (zs ++ y) ∈ ((planOf zs pats).zip (List.replicate pats.length ps)).foldl (stepR prs) (keepA ((prs.filter (knB zs)).map (ijOf zs)) [zs]) ↔ y.length = (varsIn (tails pats)).length ∧ (∀ p ∈ pats, fillS (varsIn (tails pats)) y p ∈ ps) ∧ ∀ pr ∈ prs, sub (varsIn (tails pats)) y (pr.getD 0 "") ≠ sub (varsIn (tails pats)) y (pr.getD 1 "") := fun y => by
    rw [fm, r0, List.take_left' rfl, List.length_append, List.length_append]
    have se : ∀ z, z ∈ zs → sub (varsIn (tails pats)) y z = z := fun z h => by
      unfold sub
      rw [if_neg (fun h2 => hv z h2 h)]
    constructor
    · rintro ⟨h1, ⟨_, h2⟩, h3, h4⟩
      refine ⟨by omega, fun p hp => by rw [← fe y p hp]; exact h3 p hp, fun pr hpr => ?_⟩
      by_cases hk : pr.getD 0 "" ∈ zs ∧ pr.getD 1 "" ∈ zs
      · rw [se _ hk.1, se _ hk.2]
        exact h2 pr hpr hk
      · have := h4 pr hpr (pok pr hpr) hk
        rw [sub_val hv hz.nd (pok pr hpr).1, sub_val hv hz.nd (pok pr hpr).2] at this
        exact this
    · rintro ⟨h1, h2, h3⟩
      refine ⟨by omega, ⟨rfl, fun pr hpr hk => ?_⟩, fun p hp => by rw [fe y p hp]; exact h2 p hp, fun pr hpr _ _ => ?_⟩
      · have := h3 pr hpr
        rw [se _ hk.1, se _ hk.2] at this
        exact this
      · rw [sub_val hv hz.nd (pok pr hpr).1, sub_val hv hz.nd (pok pr hpr).2]
        exact h3 pr hpr
  constructor
  · rintro ⟨row, hrow, rfl⟩
    have ht := ((r0 _).mp ((fm row).mp hrow).2.1).1
    have e : row = zs ++ row.drop zs.length := by
      conv => lhs; rw [← List.take_append_drop zs.length row, ht]
    rw [e] at hrow
    exact (key _).mp hrow
  · intro h
    exact ⟨zs ++ x, (key x).mpr h, List.drop_left' rfl⟩
end Nv
set_option maxHeartbeats 4000000
namespace Nv
open PySem PySem.Spec PyProof.Rows L2
/-! # _law_fed_store -/
theorem sub_nm {ks xs zs : List Str} {z : Str} (hl : ks.length = xs.length) (hx : ∀ x ∈ xs, x ∈ zs) (hz : ∀ x ∈ zs, IsNm x) (h : z ∈ ks ∨ IsNm z) : IsNm (sub ks xs z) := by
  unfold sub
  by_cases k : z ∈ ks
  · rw [if_pos k, List.getD_eq_getElem?_getD, List.getElem?_eq_getElem (by rw [← hl]; exact pos1_lt k)]
    exact hz _ (hx _ (List.getElem_mem _))
  · rw [if_neg k]
    exact h.resolve_left k
/-- a told pattern, filled with names for all of its variables, is a fact -/
theorem fill_fact {pats : List (List Str)} {xs zs : List Str} {p : List Str} (ok : ∀ q ∈ pats, PatOk q) (hp : p ∈ pats) (hl : (varsIn (tails pats)).length = xs.length) (hx : ∀ x ∈ xs, x ∈ zs) (hz : ∀ x ∈ zs, IsNm x) : FactOk (fillT (sub (varsIn (tails pats)) xs) p) := by
  obtain ⟨w, ts, rfl, hw, h3, ht⟩ := ok p hp
  rw [fill_cons]
  refine ⟨⟨by rw [List.length_cons]; omega, by rw [List.length_cons, List.length_map]; omega⟩, fun y hy => ?_⟩
  rcases List.mem_cons.mp hy with rfl | hy
  · exact hw
  · obtain ⟨z, hzt, rfl⟩ := List.mem_map.mp hy
    refine sub_nm hl hx hz ((ht z hzt).elim (fun v => .inl (varsIn_mem.mpr ⟨?_, v⟩)) .inr)
    unfold tails
    exact List.mem_flatten.mpr ⟨ts, List.mem_map.mpr ⟨_, hp, rfl⟩, hzt⟩
theorem fillT_congr {f g : Str → Str} (h : ∀ z, f z = g z) (p : List Str) : fillT f p = fillT g p := by
  rw [show f = g from funext h]
def Prs (H : Hp) (ts : List Addr) (kvs : List (L2.Key × V)) : Prop := Paired (fun p kv => H p = some (.tup [kV kv.1, kv.2])) ts kvs
theorem Prs.mono {H H' : Hp} {ts : List Addr} {kvs : List (L2.Key × V)} (h : Prs H ts kvs) (k : ∀ p xs, H p = some (.tup xs) → H' p = some (.tup xs)) : Prs H' ts kvs := by
  unfold Prs at h ⊢
  induction h with
  | nil => exact .nil
  | cons e _ ih => exact .cons (k _ _ e) ih
theorem Prs.sq {K : PySem.W.Frag} {H : Hp} {ts : List Addr} {kvs : List (L2.Key × V)} (h : Prs H ts kvs) : Paired (fun p kv => SqT K H p [kV kv.1, kv.2]) ts kvs := by
  unfold Prs at h
  induction h with
  | nil => exact .nil
  | cons e _ ih => exact .cons (SqT.of e) ih
theorem Prs.len {H : Hp} {ts : List Addr} {kvs : List (L2.Key × V)} (h : Prs H ts kvs) : ts.length = kvs.length := Paired.length h
theorem zipK_snoc {vs ns : List Str} {i : Nat} {x z : Str} (h : vs[i]? = some x) (hl : ns.length = i) : zipK (vs.take (i + 1)) (ns ++ [z]) = zipK (vs.take i) ns ++ [(.inr x, .str z)] := by
  unfold zipK
  have il := (List.getElem?_eq_some_iff.mp h).1
  rw [take_one h, List.zip_append (by rw [List.length_take, hl]; omega), List.map_append] <;> rfl
section
variable {P : Program} {w : World} {K : PySem.W.Frag} {mg : Str → Option Value} {base : Heap}
def spFed (K : PySem.W.Frag) : Sp := fun vs H Q _ => ∃ (a b c d : Addr) (n most : Nat) (us ks : List V) (pats : List (List Str)) (zs : List Str), vs = [.ref a, .ref b, .ref c, .ref d, .int (most : Int)] ∧ Pu H a (n + (30 + 4 * most)) ∧ (1 ≤ most ∧ most ≤ 10) ∧
  (H b = some (.lst us) ∧ b ≠ a ∧ PaL H us pats ∧ (∀ x ∈ pats, PatOk x) ∧ pats.length ≤ 4) ∧ (H c = some (.lst ks) ∧ c ≠ a ∧ 2 ≤ ks.length ∧ ks.length ≤ 100 ∧ ∀ v ∈ ks, Kd H v) ∧
  (H d = some (.lst (zs.map V.str)) ∧ d ≠ a ∧ 1 ≤ zs.length ∧ zs.length ≤ 100 ∧ ∀ y ∈ zs, IsNm y) ∧
  ∀ (p : Addr) (us' : List V) (ps : List (List Str)) (H' : Hp), StoreAt H' p us' ps → ps.length ≤ most + 2 * 4 → H p = none → p ≠ a → Pu H' a n → Sb a H H' → Q (.ref p) H'
abbrev nFed : List Str := ["_law_purse_here", "_law_told_here", "_law_kinds_here", "_law_names_here", "_law_most", "_law_found", "_law_turn", "_law_match", "_law_pattern_here", "_law_fact_here", "_law_term"]
theorem scFed : FnScope nFed ["_law_purse_here", "_law_told_here", "_law_kinds_here", "_law_names_here", "_law_most"] (defScope sFed) := ⟨rfl, rfl, rfl, by decide +kernel, rfl, by decide +kernel, by decide +kernel⟩
theorem ok_fed {f fD fO fV fS fF : Addr} {fd dD dO dV dS' dF : FuncData} (F : Fun K "_law_fed_store" "_law_fed_store" sFed f fd) (B : Bl mg) (md : mg "dict" = none)
    (GD : FnOk P w K mg base CX0 2 fD dD ["_law_purse_here", "_law_many"] spDraw) (kD : PySem.W.keepIn K (.ref fD) = true) (gD : mg "_law_draw" = some (.ref fD)) (bD : Binds K dD ["_law_purse_here", "_law_many"] [])
    (GO : FnOk P w K mg base CX0 3 fO dO ["_law_purse_here", "_law_some"] (spOneOf K)) (kO : PySem.W.keepIn K (.ref fO) = true) (gO : mg "_law_one_of" = some (.ref fO)) (bO : Binds K dO ["_law_purse_here", "_law_some"] [])
    (GV : FnOk P w K mg base CX0 1 fV dV ["_law_told_here"] (spVariables K)) (kV : PySem.W.keepIn K (.ref fV) = true) (gV : mg "_law_variables" = some (.ref fV)) (bV : Binds K dV ["_law_told_here"] [])
    (GS : FnOk P w K mg base CX0 5 fS dS' ["_law_purse_here", "_law_kinds_here", "_law_names_here", "_law_most"] (spStore K)) (kS : PySem.W.keepIn K (.ref fS) = true) (gS : mg "_law_store" = some (.ref fS)) (bS : Binds K dS' ["_law_purse_here", "_law_kinds_here", "_law_names_here", "_law_most"] [])
    (GF : FnOk P w K mg base CX0 1 fF dF ["_law_pattern_here", "_law_match"] (spLFilled K)) (kF : PySem.W.keepIn K (.ref fF) = true) (gF : mg "_law_filled" = some (.ref fF)) (bF : Binds K dF ["_law_pattern_here", "_law_match"] []) :
    FnOk P w K mg base CX0 6 f fd ["_law_purse_here", "_law_told_here", "_law_kinds_here", "_law_names_here", "_law_most"] (spFed K) := by
  refine F.ok scFed (fun vs H Q E h => ?_) (fun cdv A outer s H vs Q E hr h => ?_)
  · obtain ⟨a, b, c, d, n, most, us, ks, pats, zs, rfl, _⟩ := h
    rfl
  · obtain ⟨a, b, c, d, n, most, us, ks, pats, zs, rfl, pu, ⟨m1, m2⟩, ⟨eb, hba, hpat, okp, pl⟩, ⟨ec, hca, k2, kl, kd⟩, ⟨ed, hda, z1, zl, zn⟩, q⟩ := h
    have hr1 : Room 1 _ := hr.mono (by decide)
    have hr2 : Room 2 _ := hr.mono (by decide)
    have hr3 : Room 3 _ := hr.mono (by decide)
    have hr5 : Room 5 _ := hr.mono (by decide)
    have hu : (A.deeper (envOfC "_law_fed_store" (defScope sFed) s.heap.objs.size f cdv)).units + 65 < cLine := by have := hr.un; omega
    refine ⟨_, pss_cons (ps_set (i := 5) scFed.nd rfl (Or.inl rfl) (by exact (pe_call GS hr5 (by rfl) gS kS bS .nil pass0 (pa_cons (pv 0) (pa_cons (pv 2) (pa_cons (pv 3) (pa_cons (pv 4) pa_nil)))))))
      (pss_cons (ps_for PassesOwn.never rfl (pi_range1 (by rfl) B.rg (pa_cons (by exact (pe_call GD hr2 (by rfl) gD kD bD .nil pass0 (pa_cons (pv 0) (pa_cons pe_int pa_nil)))) pa_nil)) (pg_name (i := 6) scFed.nd rfl (Or.inl rfl))
        (pss_cons (ps_set (i := 7) scFed.nd rfl (Or.inl rfl) (pe_callTy (call_dictP rfl) (by rfl) md PyProof.Rows.boot_dict (pa_cons (by exact (pe_lc (own := [("_law_term", 10)]) (g := gName 10) (tt := tYes)
            (te := tTup (tCons (tVar 10) (tCons (tCall (spOneOf K) [] E0 (tCons (tVar 0) (tCons (tVar 3) tNil))) tNil))) rfl scFed.nd (pi_list (by exact (pe_call GV hr1 (by rfl) gV kV bV .nil pass0 (pa_cons (pv 1) pa_nil))))
            (blkOk_by (own := [("_law_term", 10)]) (N := nFed) (sc := defScope sFed) (by decide +kernel))
            (fun _ _ _ _ _ => pg_name (i := 10) scFed.nd rfl (Or.inl rfl)) (fun _ _ _ _ _ => pts_nil)
            (fun _ _ _ _ _ => by exact (pe_tup (pa_cons (pv 10) (pa_cons (by exact (pe_call GO hr3 (by rfl) gO kO bO .nil pass0 (pa_cons (pv 0) (pa_cons (pv 3) pa_nil)))) pa_nil)))))) pa_nil)))
        (pss_one (ps_for PassesOwn.never rfl (pi_list (pv 1)) (pg_name (i := 8) scFed.nd rfl (Or.inl rfl))
          (pss_cons (ps_set (i := 9) scFed.nd rfl (Or.inl rfl) (by exact (pe_call GF hr1 (by rfl) gF kF bF .nil pass0 (pa_cons (pv 8) (pa_cons (pv 7) pa_nil)))))
          (pss_one (ps_if (pt_cmpR (op_notInD hu) (pv 9) (pv 5) (by rfl)) (pss_one (ps_expr (pe_bm PySem.F.plainAttrs_list PySem.F.slot_list_append PySem.F.type_list_append mt_append (pv 5) (pa_cons (pv 9) pa_nil)))) pss_nil)))))))
      (pss_one (ps_ret (pv 5)))), ?_⟩
    refine ⟨_, rfl, _, rfl, _, rfl, _, rfl, ?_⟩
    dsimp only [tNil]
    refine ⟨a, c, d, n + 28, most, ks, zs, rfl, pu.le (by omega), ⟨m1, by omega⟩, ⟨ec, hca, k2, kl, kd⟩, ⟨ed, hda, z1, zl, zn⟩, fun l us1 ps1 H1 st1 few1 nl la pu1 sb1 => ?_⟩
    have bl : b ≠ l := fun z => by rw [z, nl] at eb; cases eb
    have mv : ∀ x ∈ varsIn (tails pats), IsVr x := fun x hx => (varsIn_mem.mp hx).2
    have vl : (varsIn (tails pats)).length ≤ 12 := by
      have h1 := varsIn_len (tails pats)
      have h2 := tails_len okp
      omega
    show tSeq _ _ _ _ _
    refine ⟨_, rfl, ?_⟩
    dsimp only [tNil]
    refine ⟨a, n + 27, 3, rfl, pu1.le (by omega), ⟨by decide, by decide⟩, fun r H2 r0 r1 pu2 sb2 => ?_⟩
    obtain ⟨N, rfl⟩ : ∃ N : Nat, r = (N : Int) := ⟨r.toNat, by omega⟩
    have sb02 := sb1.trans sb2
    have st2 := sb2 _ _ la st1.at_
    have pl2 := st1.pal.sb pu1 sb2
    refine ⟨(N : Int), rfl, by omega, by omega, ?_⟩
    rw [Int.toNat_natCast]
    refine for_range (D := { nx := tRet (tVar 5) { nx := fun x H' => Q .non H', rt := Q }, rt := Q }) (lo := 0) (n := N) (fun i σ G => ∃ (o6 o7 o8 o9 : Option V) (us' : List V) (ps : List (List Str)), σ = [some (.ref a), some (.ref b), some (.ref c), some (.ref d), some (.int (most : Int)), some (.ref l), o6, o7, o8, o9, none] ∧ Pu G a (n + 12 * (2 - i)) ∧ Sb a H G ∧ G l = some (.lst us') ∧ PaL G us' ps ∧ (∀ x ∈ ps, FactOk x) ∧ ps.Nodup ∧ ps.length ≤ most + 4 * i)
      ⟨none, none, none, none, _, _, rfl, pu2.le (by omega), sb02, st2, pl2, st1.ok, st1.nd, by omega⟩ ?_ ?_
    · rintro t σ G ht ⟨o6, o7, o8, o9, us', ps, rfl, puG, sbG, elG, hp, ok, nd, few⟩
      have ebG := sbG _ _ hba eb
      have hpG := hpat.sb pu sbG
      show tSeq _ _ _ _ _
      refine ⟨_, rfl, ?_⟩
      dsimp only [tNil]
      refine ⟨b, us, pats, rfl, SqL.of ebG, hpG, okp, by omega, fun v H3 nv s3 ev => ?_⟩
      generalize hvs : varsIn (tails pats) = vs at ev mv vl
      have pu3 := puG.same s3
      have va : v ≠ a := puG.ne nv
      refine ⟨v, rfl, ⟨_, SqL.of ev⟩, fun D nD => ?_⟩
      have hDa : D ≠ a := pu3.ne nD
      refine lc_list (K := K) (a := v) (xs := vs.map V.str) (fun i H' => ∃ (ts : List Addr) (ns : List Str), ns.length = i ∧ (∀ x ∈ ns, x ∈ zs) ∧ Pu H' a (n + 12 * (2 - (t + 1)) + (12 - i)) ∧ Sb a H3 H' ∧ H' D = some (.lst (ts.map V.ref)) ∧ Prs H' ts (zipK (vs.take i) ns)) ⟨[], [], rfl, (fun x hx => nomatch hx), (pu3.put hDa).le (by omega), Sb.new nD, upd_same, .nil⟩ (fun i H' _ y => ?_) ?_ ?_
      · obtain ⟨_, _, _, _, _, sb, _⟩ := y
        exact SqL.of (sb _ _ va ev)
      · rintro i v0 H4 hi ⟨ts, ns, hl, hns, pu4, sb4, e4, hpr⟩
        obtain ⟨x, hx, rfl⟩ := at_map hi
        have il := (List.getElem?_eq_some_iff.mp hx).1
        refine ⟨rfl, _, rfl, _, rfl, _, rfl, ?_⟩
        dsimp only [tNil]
        have ed4 := sb4 _ _ hda (s3 _ _ (sbG _ _ hda ed))
        refine ⟨a, d, n + 12 * (2 - (t + 1)) + (12 - (i + 1)), zs.map V.str, rfl, pu4.le (by omega), SqL.of ed4, hda, ⟨by rw [List.length_map]; exact z1, by rw [List.length_map]; omega⟩, fun v5 H5 hv5 pu5 sb5 => ?_⟩
        obtain ⟨z, hz, rfl⟩ := List.mem_map.mp hv5
        refine ⟨by show 2 ≤ _; decide, fun q2 nq => ?_⟩
        have s6 : Same H5 (upd H5 q2 (.tup [.str x, .str z])) := same_new nq
        have eq2 : upd H5 q2 (.tup [.str x, .str z]) q2 = some (.tup [.str x, .str z]) := upd_same
        have q2a := pu5.ne nq
        have pu6 := pu5.same s6
        have e6 := s6 _ _ (sb5 _ _ hDa e4)
        generalize upd H5 q2 (.tup [.str x, .str z]) = H6 at s6 eq2 pu6 e6 ⊢
        have sb36 := (sb4.trans sb5).trans (Sb.of s6)
        have hpl := hpr.len
        refine ⟨_, e6, ?_, ts ++ [q2], ns ++ [z], by rw [List.length_append, hl] <;> rfl, ?_, pu6.put hDa, sb36.put nD, by rw [upd_same, List.map_append] <;> rfl, ?_⟩
        · rw [List.length_map, hpl]
          unfold zipK
          rw [List.length_map, List.length_zip, hl, List.length_take]
          exact Nat.lt_of_le_of_lt (by omega : _ ≤ 1000) (by decide)
        · intro y hy
          rcases List.mem_append.mp hy with hy | hy
          · exact hns y hy
          · rw [List.mem_singleton.mp hy]
            exact hz
        · rw [zipK_snoc hx hl]
          refine Paired.snoc (hpr.mono fun p xs e => ?_) ?_
          · rw [upd_ne (fun z => by rw [z, e4] at e; cases e)]
            exact s6 _ _ (sb5 _ _ (tup_ne pu4 e) e)
          · rw [upd_ne (fun z => by rw [z, e6] at eq2; cases eq2)]
            exact eq2
      · rintro H4 ⟨ts, ns, hl, hns, pu4, sb4, e4, hpr⟩
        rw [List.length_map] at hl hpr
        rw [List.length_map] at pu4
        rw [List.take_length] at hpr
        refine ⟨D, ts, zipK vs ns, rfl, SqL.of e4, hpr.sq, fun m nm => ?_⟩
        have sb3G := (Sb.of s3).trans sb4 (a := a)
        have sb4H := sbG.trans sb3G
        have s5 : Same H4 (upd H4 m (.dK (mergeK [] (zipK vs ns)))) := same_new nm
        have em : upd H4 m (.dK (mergeK [] (zipK vs ns))) m = some (.dK (mergeK [] (zipK vs ns))) := upd_same
        have ma := pu4.ne nm
        have pu5 := pu4.same s5
        generalize upd H4 m (.dK (mergeK [] (zipK vs ns))) = H5 at s5 em pu5 ⊢
        have sb5 := sb4H.trans (Sb.of s5)
        have el5 := s5 _ _ (sb3G _ _ la elG)
        have hp5 := (hp.sb puG sb3G).same s5
        have hul := hpat.len
        refine ⟨_, rfl, b, rfl, ⟨_, SqL.of (sb5 _ _ hba eb)⟩, for_list (K := K) (a := b) (xs := us) (fun j σ G => ∃ (o8 o9 : Option V) (us' : List V) (ps : List (List Str)), σ = [some (.ref a), some (.ref b), some (.ref c), some (.ref d), some (.int (most : Int)), some (.ref l), some (.int (0 + (t : Int))), some (.ref m), o8, o9, none] ∧ Pu G a (n + 12 * (2 - (t + 1))) ∧ Sb a H G ∧ G m = some (.dK (mergeK [] (zipK vs ns))) ∧ G l = some (.lst us') ∧ PaL G us' ps ∧ (∀ x ∈ ps, FactOk x) ∧ ps.Nodup ∧ ps.length ≤ most + 4 * t + j)
          ⟨o8, o9, us', ps, rfl, pu5.le (by omega), sb5, em, el5, hp5, ok, nd, few⟩ (fun j σ G _ y => ?_) ?_ ?_⟩
        · obtain ⟨_, _, _, _, _, _, sb, _⟩ := y
          exact SqL.of (sb _ _ hba eb)
        · rintro j v0 σ G hj ⟨o8, o9, us', ps, rfl, puG, sbG, emG, elG, hp, ok, nd, few⟩
          obtain ⟨u, p, rfl, hpj, et⟩ := (hpat.sb pu sbG).at_ hj
          have jl := (List.getElem?_eq_some_iff.mp hpj).1
          have pin := List.mem_of_getElem? hpj
          have pok := okp p pin
          refine ⟨_, rfl, _, rfl, ?_⟩
          dsimp only [tNil]
          have plen : 1 ≤ p.length ∧ p.length ≤ 4 := by
            obtain ⟨w, ts, rfl, _, h3, _⟩ := pok
            rw [List.length_cons]
            omega
          refine ⟨u, m, p, _, rfl, et, plen.1, plen.2, sub_at emG, fun r G2 nr s2 er => ?_⟩
          have fok : FactOk (fillT (subZ vs ns) p) := by
            rw [fillT_congr (g := sub vs ns) (fun z => subZ_sub (by rw [← hvs]; exact varsIn_nd _) hl.symm), ← hvs]
            exact fill_fact okp pin (by rw [hvs]; exact hl.symm) hns zn
          generalize fillT (subZ vs ns) p = f at er fok
          have sb6 := sbG.trans (Sb.of s2)
          have pu6 := puG.same s2
          have el6 := s2 _ _ elG
          have em6 := s2 _ _ emG
          have hp6 := hp.same s2
          refine ⟨_, rfl, _, rfl, dT f, ps.map dT, dp_T (.inl er), dp_L (SqL.of el6) hp6, (lay_dT fun z hz => (fok.2 z hz).asc).shaped (by decide), (lay_dL fun x hx z hz => ((ok x hx).2 z hz).asc).shaped (by decide), _, rfl, ?_⟩
          rw [any_dT]
          by_cases h : f ∈ ps
          · rw [decide_eq_true h]
            exact iteF ⟨_, _, us', ps, rfl, pu6, sb6, em6, el6, hp6, ok, nd, by omega⟩
          · rw [decide_eq_false h]
            refine iteT ⟨_, rfl, .inl ⟨rfl, _, SqL.of el6⟩, _, rfl, l, _, _, rfl, rfl, el6, ?_, ?_⟩
            · rw [hp6.len]
              exact Nat.lt_of_le_of_lt (by omega : _ ≤ 100) (by decide)
            · refine ⟨_, _, us' ++ [.ref r], ps ++ [f], rfl, pu6.put la, sb6.put nl, ?_, upd_same, (hp6.over el6).app (.mk (.inl ?_) .nil), fun x hx => ?_, ?_, by rw [List.length_append]; show ps.length + 1 ≤ _; omega⟩
              · rw [upd_ne (fun z => by rw [z, el6] at em6; cases em6)]
                exact em6
              · rw [upd_ne (fun z => by rw [z, el6] at er; cases er)]
                exact er
              · rcases List.mem_append.mp hx with hx | hx
                · exact ok x hx
                · rw [List.mem_singleton.mp hx]
                  exact fok
              · rw [List.nodup_append]
                exact ⟨nd, by simp, fun x hx y hy e => h (by rw [← List.mem_singleton.mp hy, ← e]; exact hx)⟩
        · rintro σ G ⟨o8, o9, us', ps, rfl, puG, sbG, emG, elG, hp, ok, nd, few⟩
          exact ⟨_, _, _, _, us', ps, rfl, puG, sbG, elG, hp, ok, nd, by omega⟩
    · rintro σ G ⟨o6, o7, o8, o9, us', ps, rfl, puG, sbG, elG, hp, ok, nd, few⟩
      exact ⟨_, rfl, q l us' ps G ⟨elG, hp, ok, nd, by omega⟩ (by omega) nl la (puG.le (by omega)) sbG⟩
end
end Nv
set_option maxHeartbeats 4000000
namespace Nv
open PySem PySem.Spec PyProof.Rows L2
/-! # no match twice; two lists of the same matches are the same when sorted -/
theorem listLt_anti : ∀ {p q : List Str}, PySem.W.listLt p q = false → PySem.W.listLt q p = false → p = q
  | [], [], _, _ => rfl
  | [], _ :: _, h, _ => by cases h
  | _ :: _, [], _, h => by cases h
  | x :: p, y :: q, h1, h2 => by
    unfold PySem.W.listLt at h1 h2
    by_cases e : x = y
    · subst e
      rw [if_pos rfl] at h1 h2
      rw [listLt_anti h1 h2]
    · rw [if_neg e] at h1
      rw [if_neg (Ne.symm e)] at h2
      have h1 : decide (x.cps.toList < y.cps.toList) = false := h1
      have h2 : decide (y.cps.toList < x.cps.toList) = false := h2
      exact absurd (str_of_list (List.le_antisymm (List.not_lt.mp (of_decide_eq_false h2)) (List.not_lt.mp (of_decide_eq_false h1)))) e
theorem leT_eq (p q : List Str) : PySem.W.dataLe false encT p q = !PySem.W.listLt q p := by
  have h : PySem.W.dataLt (encT q) (encT p) = PySem.W.listLt q p := (PySem.W.dataLt_tuple _ _).trans (PySem.W.lexAll_map q p)
  rw [PySem.W.dataLe_eq]
  show (!PySem.W.dataLt (encT q) (encT p)) = _
  rw [h]
theorem sortT_uniq {l l' : List (List Str)} (nd : l.Nodup) (nd' : l'.Nodup) (h : ∀ x, x ∈ l ↔ x ∈ l') : sortT l = sortT l' := by
  have tot := PySem.W.sortLe_total (listOrd itemOrd) false fun b : List Str => PySem.W.keyToks (encT b)
  refine List.Perm.eq_of_pairwise (le := fun a b => PySem.W.dataLe false encT a b = true) (fun a b _ _ x y => ?_) (PySem.W.sort_pairwise tot l) (PySem.W.sort_pairwise tot l') ?_
  · rw [leT_eq, Bool.not_eq_true'] at x y
    exact (listLt_anti x y).symm
  · exact ((List.mergeSort_perm _ _).trans ((List.perm_ext_iff_of_nodup nd nd').mpr h)).trans (List.mergeSort_perm _ _).symm
theorem keepA_nd : ∀ (ijs : List (Nat × Nat)) {ps : List (List Str)}, ps.Nodup → (keepA ijs ps).Nodup
  | [], _, h => h
  | z :: ijs, ps, h => keepA_nd ijs (ps := ps.filter (apartB z)) (h.filter _)
theorem onw_nd {ts p : List Str} {prs rws ps : List (List Str)} (nd : ts.Nodup) (hr : ∀ x ∈ rws, x.length = ts.length) (hp : 1 ≤ p.length) (ok : ∀ f ∈ ps, 1 ≤ f.length) (ndr : rws.Nodup) (ndp : ps.Nodup) : (onw p ts prs rws (ofKind p ps)).Nodup := by
  unfold onw
  refine keepA_nd _ (List.pairwise_flatMap.mpr ⟨fun row0 h0 => ?_, ndr.imp_of_mem fun {a b} ha hb ne x hx y hy e => ne ?_⟩)
  · refine List.pairwise_map.mpr ((((ndp.filter _).filter _).filter _).imp_of_mem fun {f g} hf hg ne e => ne ?_)
    have get : ∀ {f : List Str}, f ∈ ((ofKind p ps).filter (twB (twinsIn ts p (colsOf p)))).filter (fun q => decide (keyO (oldsIn ts p (colsOf p)) q = keyR (placesIn ts p (colsOf p)) row0)) → f = fillR (stepTerms ts p) (row0 ++ selT (newsIn ts p (colsOf p)) f) p := fun {f} hf => by
      obtain ⟨hf1, hf2⟩ := List.mem_filter.mp hf
      obtain ⟨hf3, hf4⟩ := List.mem_filter.mp hf1
      obtain ⟨hf5, hf6⟩ := List.mem_filter.mp hf3
      exact fill_eq hp (ok f hf5) (of_decide_eq_true hf6) (row_step nd (hr row0 h0) (of_decide_eq_true hf2) hf4)
    rw [get hf, get hg, e]
  · obtain ⟨f, _, rfl⟩ := List.mem_map.mp hx
    obtain ⟨g, _, rfl⟩ := List.mem_map.mp hy
    exact (List.append_inj e ((hr a ha).trans (hr b hb).symm)).1
theorem foldM_nd {prs ps : List (List Str)} (ok : ∀ f ∈ ps, 1 ≤ f.length) (ndp : ps.Nodup) : ∀ (pats : List (List Str)) (ts : List Str) (rws : List (List Str)), ts.Nodup → (∀ x ∈ rws, x.length = ts.length) → (∀ p ∈ pats, 1 ≤ p.length) → rws.Nodup → (((planOf ts pats).zip (List.replicate pats.length ps)).foldl (stepR prs) rws).Nodup
  | [], _, _, _, _, _, h => h
  | p :: pats, ts, rws, nd, hr, hp, h => foldM_nd ok ndp pats (stepTerms ts p) (onw p ts prs rws (ofKind p ps)) (step_nd nd) (onw_wide hr) (fun q hq => hp q (List.mem_cons_of_mem _ hq)) (onw_nd nd hr (hp p List.mem_cons_self) ok h ndp)
theorem metF_nd {zs : List Str} {pats prs ps : List (List Str)} {more : List Str} (okp : ∀ p ∈ pats, PatOk p) (ok : ∀ f ∈ ps, 1 ≤ f.length) (ndp : ps.Nodup) (hz : NamesOf (tails pats ++ more) zs) : (metF zs pats prs ps).Nodup := by
  have hp : ∀ p ∈ pats, 1 ≤ p.length := fun p hp => by
    obtain ⟨w, ts, rfl, _⟩ := okp p hp
    exact Nat.le_add_left _ _
  have h0 : ∀ y ∈ keepA ((prs.filter (knB zs)).map (ijOf zs)) [zs], y = zs := fun y hy => List.mem_singleton.mp (keepA_sub _ hy)
  have nd := foldM_nd (prs := prs) ok ndp pats zs (keepA ((prs.filter (knB zs)).map (ijOf zs)) [zs]) hz.nd (fun y hy => by rw [h0 y hy]) hp (keepA_nd _ (List.pairwise_singleton _ _))
  have fm := foldM_mem (prs := prs) ok pats zs (keepA ((prs.filter (knB zs)).map (ijOf zs)) [zs]) hz.nd (fun y hy => by rw [h0 y hy]) hp
  unfold metF rowsF
  refine List.pairwise_map.mpr (nd.imp_of_mem fun {a b} ha hb ne e => ne ?_)
  rw [← List.take_append_drop zs.length a, ← List.take_append_drop zs.length b, e, h0 _ ((fm a).mp ha).2.1, h0 _ ((fm b).mp hb).2.1]
/-- any list of the matches, each once, gives the same when it is sorted -/
theorem met_sorted {zs : List Str} {pats prs ps : List (List Str)} {more : List Str} (okp : ∀ p ∈ pats, PatOk p) (pok : ∀ pr ∈ prs, pr.getD 0 "" ∈ zs ++ varsIn (tails pats) ∧ pr.getD 1 "" ∈ zs ++ varsIn (tails pats)) (ok : ∀ f ∈ ps, 1 ≤ f.length) (ndp : ps.Nodup) (hz : NamesOf (tails pats ++ more) zs) {l : List (List Str)} (nd : l.Nodup)
    (h : ∀ x, x ∈ l ↔ x.length = (varsIn (tails pats)).length ∧ (∀ p ∈ pats, fillS (varsIn (tails pats)) x p ∈ ps) ∧ ∀ pr ∈ prs, sub (varsIn (tails pats)) x (pr.getD 0 "") ≠ sub (varsIn (tails pats)) x (pr.getD 1 "")) :
    sortT (metF zs pats prs ps) = sortT l := sortT_uniq (metF_nd okp ok ndp hz) nd fun x => (metF_mem okp pok ok hz x).trans (h x).symm
end Nv
set_option maxHeartbeats 4000000
namespace Nv
open PySem PySem.Spec PyProof.Rows L2
/-! # _law_due -/
/-- what _law_due keeps of a row -/
def dueB (x : Ql) (ps : List (List Str)) (r : List Str) : Bool := (x.ps.all fun p => decide (fillT (subZ (varsIn (tails x.ps)) r) p ∈ ps)) && x.qs.all fun pr => !meetB (subZ (varsIn (tails x.ps)) r) pr
/-- l holds each match once -/
def IsDue (x : Ql) (ps l : List (List Str)) : Prop := l.Nodup ∧ ∀ r, r ∈ l ↔ r.length = (varsIn (tails x.ps)).length ∧ (∀ p ∈ x.ps, fillS (varsIn (tails x.ps)) r p ∈ ps) ∧ ∀ pr ∈ x.qs, sub (varsIn (tails x.ps)) r (pr.getD 0 "") ≠ sub (varsIn (tails x.ps)) r (pr.getD 1 "")
theorem vr4_len {x : Ql} (ok : x.Ok) (v4 : ∀ p ∈ x.ps, Vr4 p) : (varsIn (tails x.ps)).length ≤ 4 := by
  refine pig _ four (varsIn_nd _) fun z hz => ?_
  obtain ⟨h1, h2⟩ := varsIn_mem.mp hz
  unfold tails at h1
  obtain ⟨l, hl, hz⟩ := List.mem_flatten.mp h1
  obtain ⟨p, hp, rfl⟩ := List.mem_map.mp hl
  rw [← List.drop_one] at hz
  exact (v4 p hp z hz).resolve_right fun n => nm_not_vr n h2
theorem due_is {x : Ql} {ps : List (List Str)} {ns : List Str} (ok : x.Ok) (nn : ns.Nodup) (hn : ∀ y, y ∈ ns ↔ y ∈ tails ps) : IsDue x ps ((waysF ns (varsIn (tails x.ps)).length).filter (dueB x ps)) := by
  refine ⟨(ways_nd nn _).filter _, fun r => ?_⟩
  rw [List.mem_filter, ways_mem]
  generalize hv : varsIn (tails x.ps) = vs
  have nd : vs.Nodup := by rw [← hv]; exact varsIn_nd _
  have key : ∀ hl : r.length = vs.length, dueB x ps r = true ↔ (∀ p ∈ x.ps, fillS vs r p ∈ ps) ∧ ∀ pr ∈ x.qs, sub vs r (pr.getD 0 "") ≠ sub vs r (pr.getD 1 "") := fun hl => by
    unfold dueB
    rw [hv, show subZ vs r = sub vs r from funext fun z => subZ_sub nd hl.symm, Bool.and_eq_true, List.all_eq_true, List.all_eq_true]
    refine ⟨fun h => ⟨fun p hp => of_decide_eq_true (h.1 p hp), fun pr hpr e => ?_⟩, fun h => ⟨fun p hp => decide_eq_true (h.1 p hp), fun pr hpr => ?_⟩⟩
    · have := h.2 pr hpr
      unfold meetB at this
      rw [decide_eq_true e] at this
      cases this
    · unfold meetB
      rw [decide_eq_false (h.2 pr hpr)]
      rfl
  constructor
  · rintro ⟨⟨hl, _⟩, h⟩
    exact ⟨hl, (key hl).mp h⟩
  · rintro ⟨hl, h⟩
    refine ⟨⟨hl, fun y hy => ?_⟩, (key hl).mpr h⟩
    obtain ⟨i, hi, rfl⟩ := List.getElem_of_mem hy
    have iv : i < vs.length := by omega
    have hm : vs[i] ∈ varsIn (tails x.ps) := by rw [hv]; exact List.getElem_mem iv
    obtain ⟨h1, h2⟩ := varsIn_mem.mp hm
    unfold tails at h1
    obtain ⟨l, hl1, hz⟩ := List.mem_flatten.mp h1
    obtain ⟨p, hp, rfl⟩ := List.mem_map.mp hl1
    have hf := h.1 p hp
    rw [hn]
    unfold tails
    refine List.mem_flatten.mpr ⟨_, List.mem_map.mpr ⟨_, hf, rfl⟩, ?_⟩
    obtain ⟨w, ts, rfl, _⟩ := ok.ps p hp
    show _ ∈ (fillS vs r (w :: ts)).tail
    show _ ∈ ts.map (sub vs r)
    refine List.mem_map.mpr ⟨vs[i], hz, ?_⟩
    unfold sub
    rw [if_pos (List.getElem_mem iv)]
    have e := (pos1_at (List.getElem_mem iv)).1
    have lt := pos1_lt (List.getElem_mem iv)
    rw [List.getElem?_eq_getElem lt] at e
    have e2 : pos1 vs vs[i] = i := (List.getElem_inj nd).mp (Option.some.inj e)
    rw [e2, List.getD_eq_getElem?_getD, List.getElem?_eq_getElem hi] <;> rfl
theorem fact_tails {ps : List (List Str)} (h : ∀ x ∈ ps, FactOk x) : (tails ps).length ≤ 3 * ps.length := by
  induction ps with
  | nil => simp [tails]
  | cons p ps ih =>
    have h1 := (h p List.mem_cons_self).1
    have h2 := ih fun x hx => h x (List.mem_cons_of_mem _ hx)
    have e : tails (p :: ps) = p.tail ++ tails ps := by simp [tails]
    rw [e, List.length_append, List.length_cons, List.length_tail]
    omega
theorem tails_nm {ps : List (List Str)} (h : ∀ x ∈ ps, FactOk x) : ∀ z ∈ tails ps, IsNm z := fun z hz => by
  unfold tails at hz
  obtain ⟨l, hl, hz⟩ := List.mem_flatten.mp hz
  obtain ⟨p, hp, rfl⟩ := List.mem_map.mp hl
  exact (h p hp).2 z (List.mem_of_mem_tail hz)
theorem fill_asc {vs row p : List Str} (hr : ∀ y ∈ row, Asc y) (hp : PatOk p) : ∀ z ∈ fillT (subZ vs row) p, Asc z := fun z hz => by
  have ha := hp.asc
  obtain ⟨w, ts, rfl, hw, _⟩ := hp
  rw [fill_cons] at hz
  rcases List.mem_cons.mp hz with rfl | hz
  · exact hw.asc
  · obtain ⟨y, hy, rfl⟩ := List.mem_map.mp hz
    exact subZ_P hr (ha y (List.mem_cons_of_mem _ hy))
section
variable {P : Program} {w : World} {K : PySem.W.Frag} {mg : Str → Option Value} {base : Heap}
def spDue (K : PySem.W.Frag) (CQ : Addr) : Sp := fun vs H Q _ => ∃ (r b : Addr) (x : Ql) (us : List V) (ps : List (List Str)), vs = [.ref r, .ref b] ∧ (QA CQ H r x ∧ x.Ok ∧ (∀ p ∈ x.ps, Vr4 p) ∧ x.ps.length ≤ 4 ∧ x.qs.length ≤ 10) ∧ StoreAt H b us ps ∧ ps.length ≤ 20 ∧
  ∀ (p : Addr) (H' : Hp) (us' : List V) (l : List (List Str)), H p = none → Same H H' → H' p = some (.lst us') → PaL H' us' (sortT l) → IsDue x ps l → Q (.ref p) H'
abbrev nDue : List Str := ["_law_question_here", "_law_store_here", "_law_told_here", "_law_names_here", "_law_fact_here", "_law_some", "_law_due_here", "_law_row", "_law_match", "_law_gone", "_law_pattern_here"]
theorem scDue : FnScope nDue ["_law_question_here", "_law_store_here"] (defScope sDue) := ⟨rfl, rfl, rfl, by decide +kernel, rfl, by decide +kernel, by decide +kernel⟩
theorem ok_due {f fV fW fF fL CQ : Addr} {fd dV dW dF dL' : FuncData} (F : Fun K "_law_due" "_law_due" sDue f fd) (B : Bl mg) (md : mg "dict" = none) (mz : mg "zip" = none) (ms : mg "set" = none) (so : mg "sorted" = none) (ml : mg "list" = none)
    (R : QC K CQ) (T : PropL P w K mg base CQ "told" "_told") (T2 : PropL P w K mg base CQ "pairs" "_pairs")
    (GV : FnOk P w K mg base CX0 1 fV dV ["_law_told_here"] (spVariables K)) (kV : PySem.W.keepIn K (.ref fV) = true) (gV : mg "_law_variables" = some (.ref fV)) (bV : Binds K dV ["_law_told_here"] [])
    (GW : FnOk P w K mg base CX0 1 fW dW ["_law_names_here", "_law_many"] (spWays K)) (kW : PySem.W.keepIn K (.ref fW) = true) (gW : mg "_law_ways" = some (.ref fW)) (bW : Binds K dW ["_law_names_here", "_law_many"] [])
    (GF : FnOk P w K mg base CX0 1 fF dF ["_law_pattern_here", "_law_match"] (spLFilled K)) (kF : PySem.W.keepIn K (.ref fF) = true) (gF : mg "_law_filled" = some (.ref fF)) (bF : Binds K dF ["_law_pattern_here", "_law_match"] [])
    (GL : FnOk P w K mg base CX0 2 fL dL' ["_law_match", "_law_pairs_here", "_law_denied", "_law_store_here"] (spLets K)) (kL : PySem.W.keepIn K (.ref fL) = true) (gL : mg "_law_lets" = some (.ref fL)) (bL : Binds K dL' ["_law_match", "_law_pairs_here", "_law_denied", "_law_store_here"] []) :
    FnOk P w K mg base CX0 4 f fd ["_law_question_here", "_law_store_here"] (spDue K CQ) := by
  obtain ⟨pt, gt, dt, PO, PF, PB⟩ := T.ex
  obtain ⟨pt2, gt2, dt2, PO2, PF2, PB2⟩ := T2.ex
  refine F.ok scDue (fun vs H Q E h => ?_) (fun cdv A outer s H vs Q E hr h => ?_)
  · obtain ⟨r, b, x, us, ps, rfl, _⟩ := h
    rfl
  · obtain ⟨r, b, x, us, ps, rfl, ⟨hq, ok, v4, pl, ql⟩, st, hps, q⟩ := h
    have hr1 : Room 1 _ := hr.mono (by decide)
    have hr2 : Room 2 _ := hr.mono (by decide)
    have hu : (A.deeper (envOfC "_law_due" (defScope sDue) s.heap.objs.size f cdv)).units + 65 < cLine := by have := hr.un; omega
    have hu4 : (A.deeper (envOfC "_law_due" (defScope sDue) s.heap.objs.size f cdv)).units + 64 < cLine := by have := hr.un; omega
    refine ⟨_, pss_cons (ps_par (i := 2) (j := 3) (by rfl) scDue.nd rfl rfl (by decide) rfl rfl (pa_cons (pe_prop (pv 0) R.cl PO PF hr2 PB .nil pass0 rfl) (pa_cons (pe_lst pa_nil) pa_nil)) rfl)
      (pss_cons (ps_for PassesOwn.never rfl (pi_list (pv 1)) (pg_name (i := 4) scDue.nd rfl (Or.inl rfl)) (pss_one (ps_set (i := 3) scDue.nd rfl (Or.inl rfl) (pe_op op_cat (pv 3) (pe_callTy call_list_of (by rfl) ml PyProof.Rows.boot_list (pa_cons (pe_slice sl_tupA (pv 4) (po_some pe_int) po_none) pa_nil))))))
      (pss_cons (ps_par (i := 5) (j := 6) (by rfl) scDue.nd rfl rfl (by decide) rfl rfl (pa_cons (by exact (pe_call GV hr1 (by rfl) gV kV bV .nil pass0 (pa_cons (pv 2) pa_nil))) (pa_cons (pe_lst pa_nil) pa_nil)) rfl)
      (pss_cons (ps_for PassesOwn.never rfl (pi_list (by exact (pe_call GW hr1 (by rfl) gW kW bW .nil pass0 (pa_cons (pe_callB (cr_sortS rfl) (by rfl) so bootSorted (pa_cons (pe_callTy (call_setS rfl) (by rfl) ms PyProof.Rows.boot_set (pa_cons (pv 3) pa_nil)) pa_nil)) (pa_cons (pe_callB call_len (by rfl) B.len PySem.boot_len (pa_cons (pv 5) pa_nil)) pa_nil))))) (pg_name (i := 7) scDue.nd rfl (Or.inl rfl))
        (pss_cons (ps_set (i := 8) scDue.nd rfl (Or.inr rfl) (pe_dictZip rfl (by rfl) md (by rfl) mz (pa_cons (pv 5) (pa_cons (pv 7) pa_nil))))
        (pss_cons (ps_setLc (i := 9) (own := [("_law_pattern_here", 10)]) (g := gName 10) (tt := tTest (tOp (rNotInD K) (tCall (spLFilled K) [] E0 (tCons (tVar 10) (tCons (tVar 8) tNil))) (tVar 1))) (te := tVar 10) rfl scDue.nd rfl rfl (sw_true rfl rfl rfl (by decide +kernel)) (pi_list (pv 2))
            (blkOk_by (own := [("_law_pattern_here", 10)]) (N := nDue) (sc := defScope sDue) (by decide +kernel))
            (fun _ _ _ _ _ => pg_name (i := 10) scDue.nd rfl (Or.inl rfl))
            (fun _ _ _ _ _ => by exact (pts_one (pt_cmpR (op_notInD hu) (by exact (pe_call GF hr1 (by rfl) gF kF bF .nil pass0 (pa_cons (pv 10) (pa_cons (pv 8) pa_nil)))) (pv 1) (by rfl))))
            (fun _ _ _ _ _ => by exact (pv 10)))
        (pss_one (ps_if (PW.pt (pw_and (pt_cmpR (op_eqD hu4) (pv 9) (pe_lst pa_nil) (nomark _)) (pw_and1 (pt_val (by exact (pe_call GL hr2 (by rfl) gL kL bL .nil pass0 (pa_cons (pv 8) (pa_cons (pe_prop (pv 0) R.cl PO2 PF2 hr2 PB2 .nil pass0 rfl) (pa_cons (pe_lst pa_nil) (pa_cons (pe_lst pa_nil) pa_nil)))))))))) 
          (pss_one (ps_expr (pe_bm PySem.F.plainAttrs_list PySem.F.slot_list_append PySem.F.type_list_append mt_append (pv 6) (pa_cons (pv 7) pa_nil)))) pss_nil)))))
      (pss_one (ps_ret (pe_callB (cr_sortTx hu4) (by rfl) so bootSorted (pa_cons (pv 6) pa_nil))))))), ?_⟩
    obtain ⟨dx, l1, l2, l3, u2, u3, e, e1, ⟨e2, p2⟩, e3, p3⟩ := id hq
    have ft := fact_tails st.ok
    have tn := tails_nm st.ok
    have vl := vr4_len ok v4
    refine ⟨_, rfl, r, dx, _, rfl, e, r, dx, l2, _, u2, rfl, e, qk2, e2, fun a na => ?_⟩
    have s1 : Same H (upd H a (.lst u2)) := same_new na
    have ea : upd H a (.lst u2) a = some (.lst u2) := upd_same
    generalize upd H a (.lst u2) = H1 at s1 ea ⊢
    refine ⟨by show 0 ≤ _; exact Nat.zero_le _, fun n0 nn0 => ?_⟩
    have s2 : Same H1 (upd H1 n0 (.lst [])) := same_new nn0
    have en0 : upd H1 n0 (.lst []) n0 = some (.lst []) := upd_same
    have ea2 := s2 _ _ ea
    generalize upd H1 n0 (.lst []) = H2 at s2 en0 ea2 ⊢
    have s02 := s1.trans s2
    refine ⟨_, _, rfl, ?_⟩
    show tSeq _ _ _ _ _
    refine ⟨_, rfl, b, rfl, ⟨_, SqL.of (s02 _ _ st.at_)⟩, for_list (K := K) (a := b) (xs := us) (fun i σ G => ∃ (nm : Addr) (o4 : Option V), σ = [some (.ref r), some (.ref b), some (.ref a), some (.ref nm), o4, none, none, none, none, none, none] ∧ Same H2 G ∧ G nm = some (.lst ((tails (ps.take i)).map V.str))) ⟨n0, none, rfl, Same.refl _, en0⟩ (fun i σ G _ y => ?_) ?_ ?_⟩
    · obtain ⟨_, _, _, sm, _⟩ := y
      exact SqL.of (sm _ _ (s02 _ _ st.at_))
    · rintro i v σ G hi ⟨nm, o4, rfl, sm, en⟩
      obtain ⟨t, f0, rfl, hfi, et⟩ := st.pal.at_ hi
      have il := (List.getElem?_eq_some_iff.mp hfi).1
      have fok := st.ok f0 (List.mem_of_getElem? hfi)
      have et' := et.same (s02.trans sm)
      refine ⟨_, rfl, _, rfl, 1, rfl, ?_⟩
      dsimp only [tNoPart]
      refine et'.rest fok.1.1 fun t2 G2 s3 et2 => ?_
      refine ⟨t2, _, rfl, .inr et2.sq, fun l nl => ?_⟩
      have s4 : Same G2 (upd G2 l (.lst ((f0.drop 1).map V.str))) := same_new nl
      have el : upd G2 l (.lst ((f0.drop 1).map V.str)) l = some (.lst ((f0.drop 1).map V.str)) := upd_same
      generalize upd G2 l (.lst ((f0.drop 1).map V.str)) = G3 at s4 el ⊢
      have s34 := s3.trans s4
      refine ⟨nm, l, _, _, rfl, rfl, s34 _ _ en, el, ?_, fun p np => ?_⟩
      · rw [List.length_map, List.length_map, List.length_drop]
        have h1 := fact_tails (ps := ps.take i) fun x hx => st.ok x (List.mem_of_mem_take hx)
        rw [List.length_take] at h1
        have := fok.1.2
        exact Nat.le_trans (by omega : _ ≤ 1000) (by decide)
      · refine ⟨p, _, rfl, (sm.trans s34).trans (same_new np), ?_⟩
        rw [upd_same, tails_take hfi, List.map_append, List.drop_one]
    rintro σ G ⟨nm, o4, rfl, sm, en⟩
    rw [st.pal.len, List.take_length] at en
    have s03 := s02.trans sm
    have ea3 := sm _ _ ea2
    clear en0 ea2 sm s2
    show tSeq _ _ _ _ _
    refine ⟨_, rfl, ?_⟩
    dsimp only [tNil]
    refine ⟨a, u2, x.ps, rfl, SqL.of ea3, (p2.same s03).pal, ok.ps, by omega, fun sm H3 nsm s3 esm => ?_⟩
    generalize hv : varsIn (tails x.ps) = vs at esm vl
    have hvn : vs.Nodup := by rw [← hv]; exact varsIn_nd _
    have s04 := s03.trans s3
    refine ⟨by show 0 ≤ _; exact Nat.zero_le _, fun d nd => ?_⟩
    have s4 : Same H3 (upd H3 d (.lst [])) := same_new nd
    have ed : upd H3 d (.lst []) d = some (.lst []) := upd_same
    generalize upd H3 d (.lst []) = H4 at s4 ed ⊢
    refine ⟨_, _, rfl, ?_⟩
    show tSeq _ _ _ _ _
    have en4 := s4 _ _ (s3 _ _ en)
    have esm4 := s4 _ _ esm
    refine ⟨_, rfl, ?_⟩
    dsimp only [tNil]
    refine ⟨nm, tails ps, rfl, SqL.of en4, by omega, fun S L nS lS mS => ?_⟩
    show rSortS w _ (upd H4 S (SetSO w S L)) _
    have s5 : Same H4 (upd H4 S (SetSO w S L)) := same_new nS
    have eS : upd H4 S (SetSO w S L) S = some (SetSO w S L) := upd_same
    generalize upd H4 S (SetSO w S L) = H5 at s5 eS ⊢
    refine ⟨S, L, rfl, eS, by omega, fun p1 ns np1 pm ndL up => ?_⟩
    have s6 : Same H5 (upd H5 p1 (.lst (ns.map V.str))) := same_new np1
    have ep1 : upd H5 p1 (.lst (ns.map V.str)) p1 = some (.lst (ns.map V.str)) := upd_same
    generalize upd H5 p1 (.lst (ns.map V.str)) = H6 at s6 ep1 ⊢
    have s46 := s5.trans s6
    refine ⟨_, rfl, ?_⟩
    dsimp only [tNil]
    refine ⟨_, _, rfl, .inl ⟨_, SqL.of (s46 _ _ esm4), rfl⟩, ?_⟩
    rw [List.length_map]
    have nsn : ns.Nodup := pm.nodup_iff.mpr ndL
    have nsm' : ∀ y, y ∈ ns ↔ y ∈ tails ps := fun y => by rw [pm.mem_iff, mS]
    have nsl : ns.length ≤ 60 := by rw [pm.length_eq]; omega
    refine ⟨p1, ns, vs.length, rfl, SqL.of ep1, nsl, vl, fun W usW H7 nW s7 eW hW => ?_⟩
    have s47 := s46.trans s7
    have s37 := s4.trans s47
    have s07 := s04.trans s37
    have ed7 := s47 _ _ ed
    have Wd : W ≠ d := fun z => by rw [z, s46 _ _ ed] at nW; cases nW
    have due := due_is (ps := ps) ok nsn nsm'
    rw [hv] at due
    have hrow : ∀ r0 ∈ waysF ns vs.length, r0.length = vs.length ∧ ∀ y ∈ r0, Asc y := fun r0 h0 => by
      obtain ⟨h1, h2⟩ := ways_mem.mp h0
      exact ⟨h1, fun y hy => (tn y ((nsm' y).mp (h2 y hy))).asc⟩
    have rlen : (waysF ns vs.length).length ≤ 12960000 := by
      rw [ways_len]
      exact Nat.le_trans (Nat.pow_le_pow_left nsl _) (Nat.le_trans (Nat.pow_le_pow_right (by decide) vl) (by decide))
    have rone : vs = [] → (waysF ns vs.length).length ≤ 1 := fun z => by
      rw [z, ways_len]
      exact Nat.le_refl _
    generalize waysF ns vs.length = rows at hW due hrow rlen rone
    refine ⟨W, rfl, ⟨_, SqL.of eW⟩, for_list (D := { nx := tRet (tCB (rSortTx K) (tCons (tVar 6) tNil)) { nx := fun x H' => Q .non H', rt := Q }, rt := Q }) (K := K) (a := W) (xs := usW) (fun j σ G => ∃ (o7 o8 o9 : Option V) (ws : List V), σ = [some (.ref r), some (.ref b), some (.ref a), some (.ref nm), o4, some (.ref sm), some (.ref d), o7, o8, o9, none] ∧ Same H3 G ∧ G d = some (.lst ws) ∧ G W = some (.lst usW) ∧ PaL G usW rows ∧ PaL G ws ((rows.take j).filter (dueB x ps))) ⟨none, none, none, [], rfl, s37, ed7, eW, hW, .nil⟩ (fun j σ G _ y => ?_) ?_ ?_⟩
    · obtain ⟨_, _, _, _, _, _, _, e, _⟩ := y
      exact SqL.of e
    · rintro j v σ G hj ⟨o7, o8, o9, ws, rfl, s3G, edG, eWG, hWG, hws⟩
      obtain ⟨t, row, rfl, hrj, et⟩ := hWG.at_ hj
      obtain ⟨rl, ra⟩ := hrow row (List.mem_of_getElem? hrj)
      have jl := (List.getElem?_eq_some_iff.mp hrj).1
      have fta := filter_take (f := dueB x ps) hrj
      refine ⟨_, rfl, _, rfl, sm, t, vs, row, rfl, SqL.of (s3G _ _ esm), et.sq, by omega, fun m nm' => ?_⟩
      have s8 : Same G (upd G m (.dK (mergeK [] (zipK vs row)))) := same_new nm'
      have em : SubAt (upd G m (.dK (mergeK [] (zipK vs row)))) m (subZ vs row) := sub_at upd_same
      generalize upd G m (.dK (mergeK [] (zipK vs row))) = G1 at s8 em ⊢
      have s0G : Same H G1 := (s04.trans s3G).trans s8
      have eaG := s8 _ _ (s3G _ _ (s3 _ _ ea3))
      have stG := st.same s0G
      show tSeq _ _ _ _ _
      refine ⟨_, rfl, a, rfl, ⟨_, SqL.of eaG⟩, fun D nD => ?_⟩
      refine lc_list (K := K) (a := a) (xs := u2) (fun i H' => Same G1 H' ∧ ∃ zs : List V, H' D = some (.lst zs) ∧ PaL H' zs ((x.ps.take i).filter fun p => !decide (fillT (subZ vs row) p ∈ ps))) ⟨same_new nD, [], upd_same, .nil⟩ (fun i H' _ y => SqL.of (y.1 _ _ eaG)) ?_ ?_
      · rintro i v0 G2 hi ⟨s9, zs, eD, hzs⟩
        obtain ⟨c, p, rfl, hpi, ec⟩ := (p2.same s0G).at_ hi
        have il := (List.getElem?_eq_some_iff.mp hpi).1
        have pok := ok.ps p (List.mem_of_getElem? hpi)
        have plen : 1 ≤ p.length ∧ p.length ≤ 4 := by
          obtain ⟨w, ts, rfl, _, h3, _⟩ := pok
          rw [List.length_cons]
          omega
        have ec2 := (ec.same s9).ta
        obtain ⟨kvs, em1, em2⟩ := id em
        refine ⟨rfl, _, rfl, _, rfl, ?_⟩
        dsimp only [tNil]
        refine ⟨c, m, p, subZ vs row, rfl, ec2, plen.1, plen.2, ⟨kvs, s9 _ _ em1, em2⟩, fun f1 G3 nf s10 ef => ?_⟩
        have s910 := s9.trans s10
        have stG3 := stG.same s910
        have fp := filter_take (f := fun p => !decide (fillT (subZ vs row) p ∈ ps)) hpi
        refine ⟨_, rfl, dT (fillT (subZ vs row) p), ps.map dT, dp_T (.inl ef), dp_L (SqL.of stG3.at_) stG3.pal, (lay_dT (fill_asc ra pok)).shaped (by decide), (lay_dL fun x hx z hz => ((st.ok x hx).2 z hz).asc).shaped (by decide), _, rfl, ?_⟩
        rw [any_dT]
        cases hb : decide (fillT (subZ vs row) p ∈ ps) with
        | true =>
          rw [hb, Bool.not_true, if_neg Bool.false_ne_true, List.append_nil] at fp
          refine iteF ⟨s910, zs, s10 _ _ eD, ?_⟩
          rw [fp]
          exact hzs.same s10
        | false =>
          rw [hb, Bool.not_false, if_pos rfl] at fp
          have eD3 := s10 _ _ eD
          refine iteT ⟨_, rfl, zs, eD3, ?_, same_put s910 nD, _, upd_same, ?_⟩
          · have h1 := hzs.len
            have h2 := List.length_filter_le (fun p => !decide (fillT (subZ vs row) p ∈ ps)) (x.ps.take i)
            rw [List.length_take] at h2
            exact Nat.lt_of_le_of_lt (by omega : _ ≤ 1000) (by decide)
          · rw [fp]
            have ec3 := ec2.same s10
            exact ((hzs.same s10).over eD3).app (.mk (ec3.upd (ec3.lst eD3)) .nil)
      · rintro G2 ⟨s9, zs, eD, hzs⟩
        rw [p2.len, List.take_length] at hzs
        have hgone : (x.ps.filter fun p => !decide (fillT (subZ vs row) p ∈ ps)) = [] ↔ (x.ps.all fun p => decide (fillT (subZ vs row) p ∈ ps)) = true := by
          rw [List.filter_eq_nil_iff, List.all_eq_true]
          exact ⟨fun h p hp => by have := h p hp; simpa using this, fun h p hp => by have := h p hp; simpa using this⟩
        have hdue : dueB x ps row = ((x.ps.all fun p => decide (fillT (subZ vs row) p ∈ ps)) && x.qs.all fun pr => !meetB (subZ vs row) pr) := by
          unfold dueB
          rw [hv]
        have s89 := s8.trans s9
        have edG2 := s89 _ _ edG
        have stay : ∀ {G' : Hp}, Same G2 G' → dueB x ps row = false → ∃ (o7 o8 o9 : Option V) (ws : List V), [some (.ref r), some (.ref b), some (.ref a), some (.ref nm), o4, some (.ref sm), some (.ref d), some (.ref t), some (.ref m), some (.ref D), none] = [some (V.ref r), some (.ref b), some (.ref a), some (.ref nm), o4, some (.ref sm), some (.ref d), o7, o8, o9, none] ∧ Same H3 G' ∧ G' d = some (.lst ws) ∧ G' W = some (.lst usW) ∧ PaL G' usW rows ∧ PaL G' ws ((rows.take (j + 1)).filter (dueB x ps)) := fun {G'} sx hb => by
          have sy := s89.trans sx
          refine ⟨_, _, _, ws, rfl, s3G.trans sy, sy _ _ edG, sy _ _ eWG, hWG.same sy, ?_⟩
          rw [fta, if_neg (by rw [hb]; exact Bool.false_ne_true), List.append_nil]
          exact hws.same sy
        refine ⟨_, rfl, by show 0 ≤ _; exact Nat.zero_le _, fun l5 nl5 => ?_⟩
        have s10 : Same G2 (upd G2 l5 (.lst [])) := same_new nl5
        have el5 : upd G2 l5 (.lst []) l5 = some (.lst []) := upd_same
        have eD3 := s10 _ _ eD
        have hzs3 := hzs.same s10
        generalize upd G2 l5 (.lst []) = G3 at s10 el5 eD3 hzs3 ⊢
        refine ⟨dL _, dL [], dp_L (SqL.of eD3) hzs3, dp_L (SqL.of el5) .nil, (lay_dL fun y hy z hz => (ok.ps y (List.mem_filter.mp hy).1).asc z hz).shaped (by decide), (lay_dL (ps := []) (fun y hy => by cases hy)).shaped (by decide), _, rfl, ?_⟩
        rw [eqv_L]
        by_cases hg : (x.ps.filter fun p => !decide (fillT (subZ vs row) p ∈ ps)) = []
        · rw [decide_eq_true hg]
          rw [hgone.mp hg, Bool.true_and] at hdue
          refine iteT ?_
          have s0G3 : Same H G3 := (s0G.trans s9).trans s10
          refine ⟨_, rfl, _, rfl, r, dx, _, rfl, s0G3 _ _ e, r, dx, l3, _, u3, rfl, s0G3 _ _ e, qk3, s0G3 _ _ e3, fun c nc => ?_⟩
          have s11 : Same G3 (upd G3 c (.lst u3)) := same_new nc
          have ec : upd G3 c (.lst u3) c = some (.lst u3) := upd_same
          generalize upd G3 c (.lst u3) = G4 at s11 ec ⊢
          refine ⟨by show 0 ≤ _; exact Nat.zero_le _, fun b1 nb1 => ?_⟩
          have s12 : Same G4 (upd G4 b1 (.lst [])) := same_new nb1
          have eb1 : upd G4 b1 (.lst []) b1 = some (.lst []) := upd_same
          have ec5 := s12 _ _ ec
          generalize upd G4 b1 (.lst []) = G5 at s12 eb1 ec5 ⊢
          refine ⟨by show 0 ≤ _; exact Nat.zero_le _, fun b2 nb2 => ?_⟩
          have s13 : Same G5 (upd G5 b2 (.lst [])) := same_new nb2
          have eb16 := s13 _ _ eb1
          have ec6 := s13 _ _ ec5
          generalize upd G5 b2 (.lst []) = G6 at s13 eb16 ec6 ⊢
          have s36 := (s11.trans s12).trans s13
          have s26 := s10.trans s36
          obtain ⟨kvs, em1, em2⟩ := id em
          dsimp only [tNil]
          refine ⟨m, c, b1, b2, u3, x.qs, subZ vs row, rfl, ⟨kvs, s26 _ _ (s9 _ _ em1), em2⟩, ⟨SqL.of ec6, p3.same (s0G3.trans s36), ok.qs, by omega⟩, eb16, fun G7 s14 => ?_⟩
          have s27 := s26.trans s14
          refine ⟨_, rfl, ?_⟩
          cases hb : x.qs.all fun pr => !meetB (subZ vs row) pr with
          | false =>
            rw [hb] at hdue
            exact iteF (stay s27 hdue)
          | true =>
            rw [hb] at hdue
            have sy := s89.trans s27
            have ed7 := sy _ _ edG
            have hws7 := hws.same sy
            have et7 := et.same sy
            refine iteT ⟨_, rfl, .inl ⟨rfl, _, SqL.of ed7⟩, _, rfl, d, _, _, rfl, rfl, ed7, ?_, ?_⟩
            · have h1 := hws.len
              have h2 := List.length_filter_le (dueB x ps) (rows.take j)
              rw [List.length_take] at h2
              exact Nat.lt_of_le_of_lt (by omega : _ ≤ 12960000) (by decide)
            · refine ⟨_, _, _, ws ++ [.ref t], rfl, same_put (s3G.trans sy) nd, upd_same, ?_, (hWG.same sy).over ed7, ?_⟩
              · rw [upd_ne Wd]
                exact sy _ _ eWG
              · rw [fta, if_pos hdue]
                exact (hws7.over ed7).app (.mk (et7.upd (et7.lst ed7)) .nil)
        · rw [decide_eq_false hg]
          refine iteF (stay s10 ?_)
          rw [hdue]
          cases hb : x.ps.all fun p => decide (fillT (subZ vs row) p ∈ ps) with
          | true => exact absurd (hgone.mpr hb) hg
          | false => rfl
    · rintro σ G ⟨o7, o8, o9, ws, rfl, s3G, edG, eWG, hWG, hws⟩
      rw [hW.len, List.take_length] at hws
      refine ⟨_, rfl, d, ws, _, rfl, SqL.of edG, hws, ?_, fun p us' np h' _ => ?_⟩
      · by_cases hz : vs = []
        · exact .inr (Nat.le_trans (List.length_filter_le _ _) (rone hz))
        · refine .inl fun y hy z => hz ?_
          have := (hrow y (List.mem_filter.mp hy).1).1
          rw [z] at this
          exact List.length_eq_zero_iff.mp this.symm
      · have s8 : Same G (upd G p (.lst us')) := same_new np
        exact q p _ us' _ ((s04.trans s3G).free np) ((s04.trans s3G).trans s8) upd_same (h'.same s8) due
end
end Nv
set_option maxHeartbeats 4000000
namespace Nv
open PySem PySem.Spec PyProof.Rows L2
/-! ### defs that ask for repr: run where no repr is under way -/
abbrev RunG (P : Program) (w : World) (K : PySem.W.Frag) (mg : Str → Option Value) (base : Heap) (k : Nat) (f : Addr) (fd : FuncData) (ps : List Str) (sp : Sp) : Prop :=
  ∀ (A : Around) (outer : List Env) (s : Shared) (H : Hp) (args : Args) (us : List Value) (vs : List V) (Q : VK), A.guards = some [] → Room k A → Env0 P w K mg base A outer s H →
    BindsTo s fd args (ps.zip us) → Vals vs us → sp vs H Q E0 → codeAny (model P w) A (.call (.ref f) args) (CR CX0 outer P w H s Q E0) s
section
variable {P : Program} {w : World} {K : PySem.W.Frag} {mg : Str → Option Value} {base : Heap}
theorem run_ofG {k : Nat} {f : Addr} {qual : Str} {st : Stmt} {fd : FuncData} {N ps : List Str} {sp : Sp} (F : Fun K qual qual st f fd) (S : FnScope N ps (defScope st)) (len : ∀ vs H Q E, sp vs H Q E → vs.length = ps.length)
    (body : ∀ (cdv : Value) (A : Around) (outer : List Env) (s : Shared) (H : Hp) (vs : List V) (Q : VK), A.guards = some [] → Room k (A.deeper (envOfC qual (defScope st) s.heap.objs.size f cdv)) → sp vs H Q E0 →
      ∃ t, PSs (cxOf CX0 P w K mg base N qual (defScope st) f cdv A outer s H E0).nox (defBody st) t ∧ t { nx := fun _ H' => Q .non H', rt := Q } (start N vs) H) : RunG P w K mg base (k + 1) f fd ps sp := by
  obtain ⟨oc, od, kV, doc, pm, an, cdv, ct, osl, rfl, lk, hcd⟩ := F.ex
  intro A outer s H args us vs Q hg hr e0 hb r hsp
  have hl := len _ _ _ _ hsp
  have KX : K.In s.heap := e0.mod.kin.keeps fun b o e => (e0.bs b o e).1
  have lim : s.heap.NoLimit := e0.mod.nolimit.keeps fun b o e => (e0.bs b o e).1
  refine codeAny_call_function hr.depth (KX _ _ lk) rfl S.co S.gen rfl (PySem.W.codeRec_of KX hcd) (hb _ _ _ _ ?_)
  refine wpAny_newFunctionEnv_cells S.kind (fun ⟨n, v⟩ hy => ?_) fun env he s1 x => ?_
  · rcases S.par n (List.of_mem_zip hy).1 with z | z
    · exact .inl z
    · exact .inr ⟨z, PySem.W.cellsFrom_some _ _ _ (.inl z)⟩
  · subst he
    refine ⟨lim.keeps x.toInCall.keep, codeAny_func ?_⟩
    obtain ⟨t, ht, hq⟩ := body cdv A outer s H vs Q hg (hr.deeper _) hsp
    have I := inv_start (CX := CX0) (E := E0) S hr.hd e0 hl r x
    refine wpAny_mono (ht.nox.run [] s1 (start N vs) H _ I hq) (fun fl s' hs => ?_) fun e s' hs => hs
    cases fl with
    | ret u =>
      obtain ⟨v, σ', H', J, rv, q⟩ := hs
      exact ⟨v, H', J.os, J.bare, J.base, J.hok, rv, q⟩
    | next =>
      obtain ⟨σ', H', J, q⟩ := hs
      exact ⟨V.non, H', J.os, J.bare, J.base, J.hok, rfl, q⟩
    | brk =>
      obtain ⟨_, _, _, q⟩ := hs
      exact False.elim q
    | cont =>
      obtain ⟨_, _, _, q⟩ := hs
      exact False.elim q
end
end Nv
set_option maxHeartbeats 4000000
namespace PySem
namespace Xv
open PySem.W PySem.Calls PyProof.Rows PySem.HandSPX
section
variable {prog : Program} {w : World} {A : Around} {E : Value → Shared → Prop} {R : Result → Shared → Prop}
variable {h : Heap} {g : Array GenState} {d : Drawn} {t : Nat} {os : OsState}
variable {nm q : Str} {C N : Addr} {bs bm bmB : List Value} {hdct : Bool} {sn : List Str} {sub : List Value} {ab : Bool}
variable {col : Option Bool} {dd : Option Addr} {k0 k1 k2 k3 k5 : Option Value} {B newId initId : String}
variable {kw : List (Str × Value)} {rest : List Value}
abbrev Holds (h : Heap) (nm q : Str) (C N : Addr) (bs bm : List Value) (hdct : Bool) (sn : List Str) (sub : List Value) (ab : Bool)
    (col : Option Bool) (dd : Option Addr) (k0 k1 k2 k3 k5 : Option Value) (newId : String) : Prop :=
  h.get? C = some (excClassObj nm q C N bs bm hdct sn sub ab col dd k0 k1 k2 k3 k5 newId)
end
end Xv
end PySem
set_option maxHeartbeats 4000000
namespace L2
open PySem PySem.Spec PyProof.Rows
/-- at a stands an exception of the class at C whose one field f holds v -/
def EA (H : Hp) (a C : Addr) (f : Str) (v : V) : Prop := ∃ d, H a = some (exo a C (some d)) ∧ H d = some (exd d [(f, v)])
theorem EA.mono {H H' : Hp} {a C : Addr} {f : Str} {v : V} (x : EA H a C f v) (e : Same H H') : EA H' a C f v :=
  let ⟨d, h1, h2⟩ := x
  ⟨d, e _ _ h1, e _ _ h2⟩
end L2
set_option maxHeartbeats 4000000
namespace L2
open PySem PySem.Spec PyProof.Rows
/-- an exception of D stands at a -/
def IsX (H : Hp) (a D : Addr) : Prop := (∃ f v, EA H a D f v) ∨ H a = some (ExO (.ref D) a)
theorem IsX.mono {H H' : Hp} {a D : Addr} (x : IsX H a D) (e : Same H H') : IsX H' a D := by
  rcases x with ⟨f, v, x⟩ | x
  · exact .inl ⟨f, v, x.mono e⟩
  · exact .inr (e _ _ x)
/-! ### repr of what is known as data -/
/-- v is the data d, wherever the abstract heap is held -/
def Rdd (P : Program) (w : World) (K : PySem.W.Frag) (H : Hp) (v : V) (d : PyData) : Prop :=
  ∀ (h : Heap) (u : Value), HOk P w H h → K.In h → RelV v u → ∃ as, Reads h u d as ∧ ∀ b ∈ as, H b ≠ none
def RddAll (P : Program) (w : World) (K : PySem.W.Frag) (H : Hp) (vs : List V) (ds : List PyData) : Prop :=
  ∀ (h : Heap) (us : List Value), HOk P w H h → K.In h → Vals vs us → ∃ as, ReadsAll h us ds as ∧ ∀ b ∈ as, H b ≠ none
section
variable {P : Program} {w : World} {K : PySem.W.Frag} {H : Hp} {v : V} {vs : List V} {d : PyData} {ds : List PyData} {a : Addr}
theorem rdd_bl (b : Bool) : Rdd P w K H (.bl b) (.bool b) := fun h u _ _ r => by
  obtain rfl : u = Value.bool b := r
  exact ⟨[], .bool b, fun b z => nomatch z⟩
theorem rdd_str (x : Str) : Rdd P w K H (.str x) (.str x) := fun h u _ _ r => by
  obtain ⟨t, rfl⟩ := (show ∃ t, u = Value.str x t from r)
  exact ⟨[], .str x t, fun b z => nomatch z⟩
theorem rddAll_nil : RddAll P w K H [] [] := fun h us _ _ r => by
  cases r
  exact ⟨[], .nil, fun b z => nomatch z⟩
theorem rddAll_cons (h1 : Rdd P w K H v d) (h2 : RddAll P w K H vs ds) : RddAll P w K H (v :: vs) (d :: ds) := fun h us ok kin r => by
  cases r with
  | cons r1 r2 =>
    obtain ⟨as, x1, y1⟩ := h1 h _ ok kin r1
    obtain ⟨bs, x2, y2⟩ := h2 h _ ok kin r2
    exact ⟨as ++ bs, .cons x1 x2, fun b hb => (List.mem_append.mp hb).elim (y1 b) (y2 b)⟩
theorem rdd_lst (e : H a = some (.lst vs)) (h1 : RddAll P w K H vs ds) : Rdd P w K H (.ref a) (.list ds) := fun h u ok kin r => by
  obtain rfl : u = Value.ref a := r
  obtain ⟨_, its, n, rv, ho⟩ := (show ObjOk P w H h a (.lst vs) from ok a _ e)
  obtain ⟨as, x1, y1⟩ := h1 h _ ok kin rv
  refine ⟨a :: as, .list ho rfl rfl x1, fun b hb => ?_⟩
  rcases List.mem_cons.mp hb with z | z
  · rw [z, e]
    exact fun q => nomatch q
  · exact y1 b z
end
section
variable {X : Cx}
/-- repr(x), x known as data -/
def rRepr (P : Program) (w : World) (K : PySem.W.Frag) : List V → Hp → VK → Prop := fun xs H Q => ∃ (a : Addr) (d : PyData),
  xs = [.ref a] ∧ Rdd P w K H (.ref a) d ∧ d.showable = true ∧ d.shown.length ≤ sizeLine ∧ d.depth ≤ 60 ∧ Q (.str d.shown) H
theorem call_repr (hg : X.A.guards = some []) (hs : ∃ o, X.base.get? sysModules = some o) (hu : X.A.units + 64 < cLine) : CallR X (.builtin "repr") (rRepr X.prog X.w X.K) := by
  intro pins s σ H xs us Q I r h
  obtain ⟨a, d, rfl, rd, sh, sz, dp, q⟩ := h
  obtain ⟨u, rfl, ru⟩ := vals1 r
  obtain rfl : u = Value.ref a := ru
  obtain ⟨as, x1, y1⟩ := rd s.heap _ I.hok I.kIn rfl
  obtain ⟨o, ho⟩ := hs
  have nosys : sysModules ∉ as := fun hm => y1 _ hm (I.bs _ _ ho).2
  exact PySem.repr_of_reads' x1 sh (fun _ => nosys) hg (by omega) (fun _ _ z => z) (fun h' u tk k => ⟨.str _, H, I.kept k, ⟨_, rfl⟩, q⟩) sz
end
end L2
set_option maxHeartbeats 4000000
namespace Nv
open PySem PySem.Spec PyProof.Rows L2
section
variable {P : Program} {w : World} {K : PySem.W.Frag} {H : Hp}
theorem rddAll_strs : ∀ xs : List Str, RddAll P w K H (xs.map V.str) (xs.map PyData.str)
  | [] => rddAll_nil
  | x :: xs => rddAll_cons (rdd_str x) (rddAll_strs xs)
theorem rdd_Rtup {a : Addr} {vs : List V} {ds : List PyData} (e : Rd H a (.tup vs)) (h1 : RddAll P w K H vs ds) : Rdd P w K H (.ref a) (.tuple ds) := fun h u ok kin r => by
  obtain rfl : u = Value.ref a := r
  obtain ⟨_, its, rv, o, ho, hc, n, hd⟩ := (show ObjOk P w H h a (.tup vs) from Rd.ok e ok)
  obtain ⟨as, x1, y1⟩ := h1 h _ ok kin rv
  exact ⟨as, .tuple ho hc hd x1, y1⟩
theorem rdd_T {t : Addr} {p : List Str} (e : Tu H t p) : Rdd P w K H (.ref t) (dT p) := rdd_Rtup e (rddAll_strs p)
theorem rdd_S {t : Addr} {p : List Str} (e : H t = some (.lst (p.map V.str))) : Rdd P w K H (.ref t) (dS p) := rdd_lst e (rddAll_strs p)
theorem PaL.rdd {vs : List V} {ps : List (List Str)} (h : PaL H vs ps) : RddAll P w K H vs (ps.map dT) := by
  induction h with
  | nil => exact rddAll_nil
  | mk e _ ih => exact rddAll_cons (rdd_T e) ih
theorem rdd_L {t : Addr} {vs : List V} {ps : List (List Str)} (e : H t = some (.lst vs)) (h : PaL H vs ps) : Rdd P w K H (.ref t) (dL ps) := rdd_lst e h.rdd
end
end Nv
set_option maxHeartbeats 4000000
namespace Nv
open PySem PySem.Spec PyProof.Rows L2
/-! ### how long what repr shows may be -/
def Shw (k n : Nat) (d : PyData) : Prop := d.showable = true ∧ d.shown.length ≤ n ∧ d.depth ≤ k
theorem textFrom_le : ∀ (ts : List Str) (k : Nat) (acc : Str), (textFrom k acc ts).length ≤ acc.length + piled ts
  | [], _, acc => Nat.le_add_right _ _
  | t :: r, k, acc => by
    have ih := textFrom_le r (k + 1) (acc ++ (if k > 0 then ", " else "" : String) ++ t)
    have e : (acc ++ (if k > 0 then ", " else "" : String) ++ t).length = acc.length + (if k > 0 then 2 else 0) + t.length := by
      rw [strLen_append, strLen_append]
      split <;> rfl
    rw [e] at ih
    rw [piled_cons]
    show (textFrom (k + 1) _ r).length ≤ _
    have le2 : (if k > 0 then 2 else 0 : Nat) ≤ 2 := by split <;> omega
    omega
theorem listText_le (ts : List Str) : (listText ts).length ≤ 2 + piled ts := by
  have h := textFrom_le ts 0 "["
  have e1 : (("[" : String) : Str).length = 1 := rfl
  have e2 : (("]" : String) : Str).length = 1 := rfl
  unfold listText
  rw [strLen_append, e2]
  rw [e1] at h
  omega
theorem tupleText_le (ts : List Str) : (tupleText ts).length ≤ 3 + piled ts := by
  unfold tupleText
  rw [strLen_append, strLen_append]
  have e1 : ((("(" : String) : Str)).length = 1 := rfl
  have e3 : (((if ts.length == 1 then ",)" else ")" : String) : Str)).length ≤ 2 := by split <;> decide
  rw [e1]
  cases ts with
  | nil =>
    have e4 : (Str.join ", " []).length = 0 := by decide
    rw [e4]
    omega
  | cons t r =>
    have e4 := join_length_add (t :: r) (by simp)
    omega
theorem Shw.le {k n k' n' : Nat} {d : PyData} (h : Shw k n d) (hk : k ≤ k') (hn : n ≤ n') : Shw k' n' d := ⟨h.1, Nat.le_trans h.2.1 hn, Nat.le_trans h.2.2 hk⟩
theorem shw_all {k m : Nat} : ∀ {ds : List PyData}, (∀ d ∈ ds, Shw k m d) → PyData.showableAll ds = true ∧ piled (PyData.shownAll ds) ≤ ds.length * (m + 2) ∧ PyData.depthAll ds ≤ k
  | [], _ => ⟨by simp [PyData.showableAll], by simp [PyData.shownAll, piled_nil], by simp [PyData.depthAll]⟩
  | d :: ds, h => by
    obtain ⟨a, b, c⟩ := h d List.mem_cons_self
    obtain ⟨h1, h2, h3⟩ := shw_all (ds := ds) fun x hx => h x (List.mem_cons_of_mem _ hx)
    refine ⟨by simp [PyData.showableAll, a, h1], ?_, ?_⟩
    · simp only [PyData.shownAll, piled_cons, List.length_cons, Nat.add_mul, Nat.one_mul]
      omega
    · simp only [PyData.depthAll]
      omega
theorem shw_list {k m n : Nat} {ds : List PyData} (h : ∀ d ∈ ds, Shw k m d) (hn : 2 + ds.length * (m + 2) ≤ n) : Shw (k + 1) n (.list ds) := by
  obtain ⟨h1, h2, h3⟩ := shw_all h
  refine ⟨by simpa [PyData.showable] using h1, ?_, ?_⟩
  · simp only [PyData.shown]
    exact Nat.le_trans (listText_le _) (by omega)
  · simp only [PyData.depth]
    omega
theorem shw_tup {k m n : Nat} {ds : List PyData} (h : ∀ d ∈ ds, Shw k m d) (hn : 3 + ds.length * (m + 2) ≤ n) : Shw (k + 1) n (.tuple ds) := by
  obtain ⟨h1, h2, h3⟩ := shw_all h
  refine ⟨by simpa [PyData.showable] using h1, ?_, ?_⟩
  · simp only [PyData.shown]
    exact Nat.le_trans (tupleText_le _) (by omega)
  · simp only [PyData.depth]
    omega
theorem shw_str {z : Str} (h : Asc z) (l : z.length ≤ 10) : Shw 0 102 (.str z) := by
  refine ⟨by simp [PyData.showable], ?_, by simp [PyData.depth]⟩
  simp only [PyData.shown]
  have := StrLaws.reprText_len z fun c hc => Nat.lt_trans (h c hc) (by decide)
  omega
/-- a text of at most ten signs -/
def Shz (z : Str) : Prop := Asc z ∧ z.length ≤ 10
theorem IsNm.shz {z : Str} (h : IsNm z) : Shz z := ⟨h.asc, h.2.1⟩
theorem IsVr.shz {z : Str} (h : IsVr z) : Shz z := ⟨h.asc, Nat.le_trans h.2.1 (by decide)⟩
theorem PatOk.shz {p : List Str} (h : PatOk p) : p.length ≤ 4 ∧ ∀ x ∈ p, Shz x := by
  obtain ⟨w, ts, rfl, hw, h3, ht⟩ := h
  refine ⟨by rw [List.length_cons]; omega, fun x hx => ?_⟩
  rcases List.mem_cons.mp hx with rfl | hx
  · exact hw.shz
  · exact (ht x hx).elim IsVr.shz IsNm.shz
theorem PairOk.shz {p : List Str} (h : PairOk p) : p.length ≤ 4 ∧ ∀ x ∈ p, Shz x := by
  obtain ⟨x, y, rfl, _, h1, h2, _⟩ := h
  refine ⟨by show 2 ≤ 4; decide, fun z hz => ?_⟩
  simp only [List.mem_cons, List.not_mem_nil, or_false] at hz
  rcases hz with rfl | rfl
  · exact h1.elim IsNm.shz IsVr.shz
  · exact h2.elim IsNm.shz IsVr.shz
theorem shw_strs {p : List Str} (h : ∀ x ∈ p, Shz x) : ∀ d ∈ p.map PyData.str, Shw 0 102 d := fun d hd => by
  obtain ⟨x, hx, rfl⟩ := List.mem_map.mp hd
  exact shw_str (h x hx).1 (h x hx).2
theorem shw_T {p : List Str} (l : p.length ≤ 4) (h : ∀ x ∈ p, Shz x) : Shw 1 419 (dT p) := shw_tup (shw_strs h) (by rw [List.length_map]; omega)
theorem shw_S {p : List Str} (l : p.length ≤ 300) (h : ∀ x ∈ p, Shz x) : Shw 1 31202 (dS p) := shw_list (shw_strs h) (by rw [List.length_map]; omega)
theorem shw_L {ps : List (List Str)} (l : ps.length ≤ 300) (h : ∀ p ∈ ps, p.length ≤ 4 ∧ ∀ x ∈ p, Shz x) : Shw 2 126302 (dL ps) := by
  refine shw_list (k := 1) (m := 419) (fun d hd => ?_) (by rw [List.length_map]; omega)
  obtain ⟨p, hp, rfl⟩ := List.mem_map.mp hd
  exact shw_T (h p hp).1 (h p hp).2
/-- what a rule is made of, as data -/
def dR (x : Rl) : PyData := .list [.str x.l, dT x.h, dL x.ps, dL x.qs, dL x.ds]
theorem Shw.fits {k n : Nat} {d : PyData} (h : Shw k n d) (hk : k ≤ 60) (hn : n ≤ 1000000) : d.showable = true ∧ d.shown.length ≤ sizeLine ∧ d.depth ≤ 60 :=
  ⟨h.1, Nat.le_trans h.2.1 (Nat.le_trans hn (by decide)), Nat.le_trans h.2.2 hk⟩
end Nv
set_option maxHeartbeats 4000000
namespace Nv
open PySem PySem.Spec PyProof.Rows L2
/-! # how long the matches are when shown; the matches are what is due -/
open PySem.Builtin.Str in
theorem nm_char {q c : Nat} (hq : q = 34 ∨ q = 39) (h : 97 ≤ c ∧ c ≤ 122) : (reprChar q c).length ≤ 1 := by
  have key : ∀ c ∈ List.range' 97 26, (reprChar 34 c).length ≤ 1 ∧ (reprChar 39 c).length ≤ 1 := by decide +kernel
  have hm : c ∈ List.range' 97 26 := by
    rw [List.mem_range'_1]
    omega
  rcases hq with rfl | rfl
  · exact (key c hm).1
  · exact (key c hm).2
open PySem.Builtin.Str in
theorem nm_fold {q : Nat} (hq : q = 34 ∨ q = 39) : ∀ (l : List Nat) (acc : Array Nat), (∀ c ∈ l, 97 ≤ c ∧ c ≤ 122) → (l.foldl (fun out c => out ++ (reprChar q c).toArray) acc).size ≤ acc.size + l.length
  | [], acc, _ => by simp
  | c :: r, acc, h => by
    have ih := nm_fold hq r (acc ++ (reprChar q c).toArray) fun d hd => h d (List.mem_cons_of_mem _ hd)
    have hc := nm_char hq (h c (List.mem_cons_self ..))
    simp only [List.foldl_cons, List.length_cons]
    simp only [Array.size_append, List.size_toArray] at ih
    omega
theorem nm_repr {x : Str} (h : IsNm x) : (reprText x).length ≤ 12 := by
  unfold reprText
  show ((x.cps.foldl (fun out c => out ++ (Builtin.Str.reprChar (reprQuote x) c).toArray) #[reprQuote x]).push (reprQuote x)).size ≤ _
  rw [Array.size_push, ← Array.foldl_toList]
  have hq : reprQuote x = 34 ∨ reprQuote x = 39 := by
    unfold reprQuote
    split
    · exact .inl rfl
    · exact .inr rfl
  have := nm_fold hq x.cps.toList #[reprQuote x] h.2.2
  have e : x.cps.toList.length = x.length := by simp [Str.length]
  rw [e] at this
  have e1 : (#[reprQuote x] : Array Nat).size = 1 := rfl
  have := h.2.1
  omega
theorem shw_nm {z : Str} (h : IsNm z) : Shw 0 12 (.str z) := by
  refine ⟨by simp [PyData.showable], ?_, by simp [PyData.depth]⟩
  simp only [PyData.shown]
  exact nm_repr h
theorem shw_row {p : List Str} (l : p.length ≤ 4) (h : ∀ x ∈ p, IsNm x) : Shw 1 59 (dT p) := shw_tup (k := 0) (m := 12) (fun d hd => by
  obtain ⟨x, hx, rfl⟩ := List.mem_map.mp hd
  exact shw_nm (h x hx)) (by rw [List.length_map]; omega)
theorem shw_rows {ps : List (List Str)} (l : ps.length ≤ 100000) (h : ∀ p ∈ ps, p.length ≤ 4 ∧ ∀ x ∈ p, IsNm x) : Shw 2 6100002 (dL ps) := shw_list (k := 1) (m := 59) (fun d hd => by
  obtain ⟨p, hp, rfl⟩ := List.mem_map.mp hd
  exact shw_row (h p hp).1 (h p hp).2) (by rw [List.length_map]; omega)
theorem Shw.fits2 {k n : Nat} {d : PyData} (h : Shw k n d) (hk : k ≤ 60) (hn : n ≤ 16000000) : d.showable = true ∧ d.shown.length ≤ sizeLine ∧ d.depth ≤ 60 :=
  ⟨h.1, Nat.le_trans h.2.1 (Nat.le_trans hn (by decide)), Nat.le_trans h.2.2 hk⟩
theorem mem_sortT {l : List (List Str)} {x : List Str} : x ∈ sortT l ↔ x ∈ l := (List.mergeSort_perm _ _).mem_iff
theorem len_sortT {l : List (List Str)} : (sortT l).length = l.length := (List.mergeSort_perm _ _).length_eq
/-- what is due depends on what stands in the store, not on its order -/
theorem IsDue.of {x : Ql} {ps ps' l : List (List Str)} (h : IsDue x ps l) (e : ∀ y, y ∈ ps' ↔ y ∈ ps) : IsDue x ps' l := ⟨h.1, fun r => by
  rw [h.2 r]
  exact and_congr_right fun _ => and_congr_left fun _ => ⟨fun k p hp => (e _).mpr (k p hp), fun k p hp => (e _).mp (k p hp)⟩⟩
theorem pr_in {x : Ql} {zs : List Str} (pr : ∀ pr ∈ x.qs, PrOk (varsIn (tails x.ps)) pr) (hz : NamesOf (tails x.ps ++ x.qs.flatten) zs) : ∀ p ∈ x.qs, p.getD 0 "" ∈ zs ++ varsIn (tails x.ps) ∧ p.getD 1 "" ∈ zs ++ varsIn (tails x.ps) := fun p hp => by
  obtain ⟨a, b, rfl, _, h1, h2, _⟩ := pr p hp
  have go : ∀ c, c ∈ [a, b] → (c ∈ varsIn (tails x.ps) ∨ IsNm c) → c ∈ zs ++ varsIn (tails x.ps) := fun c hc h => by
    rw [List.mem_append]
    rcases h with h | h
    · exact .inr h
    · exact .inl ((hz.mem c).mpr ⟨List.mem_append.mpr (.inr (List.mem_flatten.mpr ⟨_, hp, hc⟩)), h⟩)
  exact ⟨go a (by simp) h1, go b (by simp) h2⟩
theorem matches_due {x : Ql} {ps l : List (List Str)} {zs : List Str} (ok : x.Ok) (pr : ∀ pr ∈ x.qs, PrOk (varsIn (tails x.ps)) pr) (fo : ∀ f ∈ ps, FactOk f) (nd : ps.Nodup) (hz : NamesOf (tails x.ps ++ x.qs.flatten) zs) (h : IsDue x ps l) : sortT (metF zs x.ps x.qs ps) = sortT l :=
  met_sorted ok.ps (pr_in pr hz) (fun f hf => (fo f hf).1.1) nd hz h.1 h.2
theorem due_nm {x : Ql} {ps l : List (List Str)} (ok : x.Ok) (v4 : ∀ p ∈ x.ps, Vr4 p) (fo : ∀ f ∈ ps, FactOk f) (h : IsDue x ps l) : ∀ r ∈ l, r.length ≤ 4 ∧ ∀ y ∈ r, IsNm y := fun r hr => by
  have vl := vr4_len ok v4
  obtain ⟨hl, hf, _⟩ := (h.2 r).mp hr
  refine ⟨by omega, fun y hy => ?_⟩
  generalize hv : varsIn (tails x.ps) = vs at hl hf vl
  have nd : vs.Nodup := by rw [← hv]; exact varsIn_nd _
  obtain ⟨i, hi, rfl⟩ := List.getElem_of_mem hy
  have iv : i < vs.length := by omega
  have hm : vs[i] ∈ varsIn (tails x.ps) := by rw [hv]; exact List.getElem_mem iv
  obtain ⟨h1, h2⟩ := varsIn_mem.mp hm
  unfold tails at h1
  obtain ⟨t, hl1, hz⟩ := List.mem_flatten.mp h1
  obtain ⟨p, hp, rfl⟩ := List.mem_map.mp hl1
  refine (fo _ (hf p hp)).2 _ ?_
  obtain ⟨w, ts, rfl, _⟩ := ok.ps p hp
  show _ ∈ w :: ts.map (sub vs r)
  refine List.mem_cons_of_mem _ (List.mem_map.mpr ⟨vs[i], hz, ?_⟩)
  unfold sub
  rw [if_pos (List.getElem_mem iv)]
  have e := (pos1_at (List.getElem_mem iv)).1
  have lt := pos1_lt (List.getElem_mem iv)
  rw [List.getElem?_eq_getElem lt] at e
  have e2 : pos1 vs vs[i] = i := (List.getElem_inj nd).mp (Option.some.inj e)
  rw [e2, List.getD_eq_getElem?_getD, List.getElem?_eq_getElem hi] <;> rfl
theorem due_len {x : Ql} {ps l : List (List Str)} {zs : List Str} {m : Nat} (hm : ps.length ≤ m) (e : sortT (metF zs x.ps x.qs ps) = sortT l) : l.length ≤ m ^ x.ps.length := by
  rw [← len_sortT, ← e, len_sortT]
  unfold metF
  rw [List.length_map]
  exact rowsF_len hm
/-- there are no matches in an empty store but the empty one of no pattern -/
theorem due_nil {x : Ql} (ok : x.Ok) (pr : ∀ pr ∈ x.qs, PrOk (varsIn (tails x.ps)) pr) : IsDue x [] (if x.ps = [] then [[]] else []) := by
  by_cases h : x.ps = []
  · rw [if_pos h]
    refine ⟨List.pairwise_singleton _ _, fun r => ?_⟩
    rw [List.mem_singleton, h]
    have hq : x.qs = [] := by
      cases hx : x.qs with
      | nil => rfl
      | cons p qs =>
        obtain ⟨a, b, _, _, _, _, h3⟩ := pr p (by rw [hx]; exact List.mem_cons_self)
        rw [h] at h3
        rcases h3 with h3 | h3 <;> cases h3
    rw [hq]
    refine ⟨fun e => ⟨by rw [e]; rfl, ⟨fun p hp => (by cases hp), fun p hp => (by cases hp)⟩⟩, fun e => List.length_eq_zero_iff.mp e.1⟩
  · rw [if_neg h]
    refine ⟨List.nodup_nil, fun r => ⟨fun e => (by cases e), fun e => ?_⟩⟩
    cases hx : x.ps with
    | nil => exact absurd hx h
    | cons p ps => exact absurd (e.2.1 p (by rw [hx]; exact List.mem_cons_self)) (by intro z; cases z)
end Nv
set_option maxHeartbeats 4000000
namespace Nv
open PySem PySem.Spec PyProof.Rows L2
/-! # list.remove of a tuple of texts -/
theorem plain_T (p : List Str) : (dT p).plain = true := by
  unfold dT
  rw [PyData.plain]
  induction p with
  | nil => rfl
  | cons x xs ih =>
    show (PyData.plain (.str x) && PyData.plainAll (xs.map PyData.str)) = true
    rw [ih]
    rfl
theorem plain_Ts : ∀ ps : List (List Str), PyData.plainAll (ps.map dT) = true
  | [] => rfl
  | p :: ps => by
    show (PyData.plain (dT p) && PyData.plainAll (ps.map dT)) = true
    rw [plain_T, plain_Ts ps]
    rfl
theorem depth_T (p : List Str) : (dT p).depth ≤ 1 := by
  have : PyData.depthAll (p.map PyData.str) = 0 := by
    induction p with
    | nil => rfl
    | cons x xs ih =>
      show max (PyData.depth (.str x)) (PyData.depthAll (xs.map PyData.str)) = 0
      rw [ih]
      rfl
  unfold dT
  simp only [PyData.depth]
  omega
def rRemT : V → List V → Hp → VK → Prop := fun x xs H Q => ∃ (l t : Addr) (us : List V) (ps : List (List Str)) (p : List Str) (j : Nat), x = .ref l ∧ xs = [.ref t] ∧ H l = some (.lst us) ∧ PaL H us ps ∧ Tu H t p ∧ SeqAt.dataPlace (ps.map dT) (dT p) = some j ∧ Q .non (upd H l (.lst (us.eraseIdx j)))
section
variable {X : Cx}
theorem mt_removeT (hu : X.A.units + 64 < cLine) : MtM X "list.remove" rRemT := by
  intro pins s σ H x xs v us Q I rx rxs h
  obtain ⟨l, t, vs, ps, p, j, rfl, rfl, hH, hp, et, hj, q⟩ := h
  cases rx
  obtain ⟨u, rfl, ru⟩ := rxs.one
  obtain ⟨z, its, n, r, hl, e⟩ := I.lstM hH
  obtain ⟨as, rs⟩ := Dp.readsAll I (ps.map dT) vs its hp.dp r
  obtain ⟨bs, rt⟩ := Dp.reads I (dT p) (.ref t) u (dp_T (K := X.K) et) ru
  refine SeqAt.remove_list_data (vs := its.toArray) ⟨_, e, rfl, n, rfl⟩ (by simpa using rs) rt (plain_Ts ps) (plain_T p) ?_ hj (by rw [List.size_toArray]; omega) ?_
  · have := depth_T p
    have h2 := Nat.min_le_right (PyData.depthAll (ps.map dT)) (dT p).depth
    omega
  · refine ⟨.non, _, I.lset (its' := its.eraseIdx j) (t' := s.toks) hH e ?_ (r.eraseIdx j) ?_, rfl, q⟩
    · show its.toArray.eraseIdxIfInBounds j = (its.eraseIdx j).toArray
      rw [List.eraseIdxIfInBounds_toArray]
    · have := List.length_eraseIdx_le vs j
      omega
end
theorem place_T : ∀ {ps : List (List Str)} {p : List Str}, p ∈ ps → ∃ j, SeqAt.dataPlace (ps.map dT) (dT p) = some j ∧ ps[j]? = some p
  | ps, p, h => by
    unfold SeqAt.dataPlace
    cases e : (ps.map dT).findIdx? fun y => PyData.eqv y (dT p) with
    | none =>
      have := List.findIdx?_eq_none_iff.mp e (dT p) (List.mem_map.mpr ⟨p, h, rfl⟩)
      rw [eqv_T, decide_eq_true rfl] at this
      cases this
    | some j =>
      obtain ⟨h1, h2, _⟩ := List.findIdx?_eq_some_iff_getElem.mp e
      rw [List.length_map] at h1
      rw [List.getElem_map, eqv_T] at h2
      exact ⟨j, rfl, by rw [List.getElem?_eq_getElem h1, of_decide_eq_true h2]⟩
theorem PaL.erase {H : Hp} {us : List V} {ps : List (List Str)} (h : PaL H us ps) : ∀ j, PaL H (us.eraseIdx j) (ps.eraseIdx j) := by
  induction h with
  | nil => intro j; cases j <;> exact .nil
  | mk e t ih =>
    intro j
    cases j with
    | zero => exact t
    | succ j => exact .mk e (ih j)
end Nv
set_option maxHeartbeats 4000000
namespace Nv
open PySem PySem.Spec PyProof.Rows L2
theorem int_log {n : Nat} (h : n ≤ 1000000) : ((n : Nat) : Int).natAbs.log2 < 1920 := by
  rw [Int.natAbs_natCast]
  by_cases z : n = 0
  · rw [z]
    decide
  · refine (Nat.log2_lt z).mpr (Nat.lt_of_le_of_lt h ?_)
    exact Nat.lt_of_lt_of_le (by decide : 1000000 < 2 ^ 20) (Nat.pow_le_pow_right (by decide) (by decide))
theorem pal_perm {H : Hp} {us : List V} {ps : List (List Str)} : ∀ {ys : List V}, ys.Perm us → PaL H us ps → ∃ qs, PaL H ys qs ∧ qs.Perm ps := by
  intro ys h
  induction h generalizing ps with
  | nil => intro k; cases k; exact ⟨[], .nil, .nil⟩
  | cons x _ ih =>
    intro k
    cases k with
    | mk e t =>
      obtain ⟨qs, h1, h2⟩ := ih t
      exact ⟨_, .mk e h1, h2.cons _⟩
  | swap x y l =>
    intro k
    cases k with
    | mk e t =>
      cases t with
      | mk e2 t2 => exact ⟨_, .mk e2 (.mk e t2), .swap _ _ _⟩
  | trans _ _ ih1 ih2 =>
    intro k
    obtain ⟨qs, h1, h2⟩ := ih2 k
    obtain ⟨qs2, h3, h4⟩ := ih1 h1
    exact ⟨qs2, h3, h4.trans h2⟩
theorem StoreAt.perm {H : Hp} {b b' : Addr} {us ys : List V} {ps : List (List Str)} (h : StoreAt H b us ps) (e : H b' = some (.lst ys)) (p : ys.Perm us) : ∃ qs, StoreAt H b' ys qs ∧ qs.Perm ps := by
  obtain ⟨qs, h1, h2⟩ := pal_perm p h.pal
  exact ⟨qs, ⟨e, h1, fun x hx => h.ok x (h2.mem_iff.mp hx), h2.nodup_iff.mpr h.nd, by rw [h2.length_eq]; exact h.few⟩, h2⟩
theorem IsVr.spoilt {vs cs : List Str} (h : ∀ y ∈ cs, IsVr y) : cs ≠ vs ++ (["spoilt"] : List Str) := fun e => by
  have := h "spoilt" (by rw [e]; simp)
  exact absurd this (by decide +kernel)
end Nv
set_option maxHeartbeats 4000000
namespace Nv
open PySem PySem.Spec PyProof.Rows L2
/-! # _law_typed_right -/
abbrev tyT : List (List Str) := [["way", "X", "Y"]]
abbrev tyS : List (List Str) := [["way", "a", "b"], ["way", "b", "c"]]
abbrev tyP : Nat → List (List Str) := fun i => if i = 0 then [["X", "Y"], ["X", "a"]] else [["a", "X"], ["X", "Y"]]
theorem ty_vars : varsIn (tails tyT) = (["X", "Y"] : List Str) := by decide +kernel
theorem ty_pr : ∀ i, ∀ p ∈ tyP i, PrOk ["X", "Y"] p ∧ PairOk p := fun i p hp => by
  have x : IsVr "X" := by decide +kernel
  have y : IsVr "Y" := by decide +kernel
  have a : IsNm "a" := by decide +kernel
  have h1 : PrOk ["X", "Y"] ["X", "Y"] ∧ PairOk ["X", "Y"] := ⟨⟨_, _, rfl, by decide, .inl (by decide), .inl (by decide), .inl (by decide)⟩, ⟨_, _, rfl, by decide, .inr x, .inr y, .inl x⟩⟩
  have h2 : PrOk ["X", "Y"] ["X", "a"] ∧ PairOk ["X", "a"] := ⟨⟨_, _, rfl, by decide, .inl (by decide), .inr a, .inl (by decide)⟩, ⟨_, _, rfl, by decide, .inr x, .inl a, .inl x⟩⟩
  have h3 : PrOk ["X", "Y"] ["a", "X"] ∧ PairOk ["a", "X"] := ⟨⟨_, _, rfl, by decide, .inr a, .inl (by decide), .inr (by decide)⟩, ⟨_, _, rfl, by decide, .inl a, .inr x, .inr x⟩⟩
  unfold tyP at hp
  split at hp
  · rcases List.mem_cons.mp hp with rfl | hp
    · exact h1
    · rw [List.mem_singleton.mp hp]
      exact h2
  · rcases List.mem_cons.mp hp with rfl | hp
    · exact h3
    · rw [List.mem_singleton.mp hp]
      exact h1
theorem ty_two (i : Nat) : (tyP i).length = 2 := by
  unfold tyP
  split <;> rfl
theorem ty_pat : ∀ y ∈ tyT, PatOk y := fun y hy => by
  rw [List.mem_singleton.mp hy]
  exact ⟨"way", ["X", "Y"], rfl, by decide +kernel, by decide, by decide +kernel⟩
theorem ty_ok (i : Nat) : Ql.Ok ⟨[], tyT, tyP i⟩ := ⟨(fun y hy => nomatch hy), Nat.zero_le _, ty_pat, (by show 1 ≤ 300; decide), (fun y hy => (ty_pr i y hy).2), (by show (tyP i).length ≤ 300; rw [ty_two]; decide)⟩
theorem ty_clo (i : Nat) : QClo ⟨[], tyT, tyP i⟩ := ⟨rfl, hasMore_no (fun y hy => (by
  obtain ⟨l, hl, hy⟩ := List.mem_flatten.mp hy
  obtain ⟨x1, y1, rfl, _, h1, h2, _⟩ := (ty_pr i l hl).1
  show y ∈ varsIn (tails tyT) ∨ IsNm y
  rw [ty_vars]
  rcases List.mem_cons.mp hy with rfl | hy
  · exact h1
  · rw [List.mem_singleton.mp hy]
    exact h2))⟩
theorem ty_due (i : Nat) : IsDue ⟨[], tyT, tyP i⟩ tyS [["b", "c"]] := by
  refine ⟨List.pairwise_singleton _ _, fun r => ?_⟩
  show _ ↔ r.length = (varsIn (tails tyT)).length ∧ (∀ p ∈ tyT, fillS (varsIn (tails tyT)) r p ∈ tyS) ∧ ∀ pr ∈ tyP i, sub (varsIn (tails tyT)) r (pr.getD 0 "") ≠ sub (varsIn (tails tyT)) r (pr.getD 1 "")
  rw [List.mem_singleton, ty_vars]
  constructor
  · rintro rfl
    refine ⟨rfl, fun p hp => by rw [List.mem_singleton.mp hp]; decide +kernel, fun pr hp => ?_⟩
    unfold tyP at hp
    split at hp
    · rcases List.mem_cons.mp hp with rfl | hp
      · decide +kernel
      · rw [List.mem_singleton.mp hp]
        decide +kernel
    · rcases List.mem_cons.mp hp with rfl | hp
      · decide +kernel
      · rw [List.mem_singleton.mp hp]
        decide +kernel
  · rintro ⟨hl, hf, hp⟩
    match r, hl with
    | [u, v], _ =>
      have h1 := hf _ (List.mem_singleton.mpr rfl)
      have e : fillS ["X", "Y"] [u, v] ["way", "X", "Y"] = (["way", u, v] : List Str) := rfl
      rw [e] at h1
      rcases List.mem_cons.mp h1 with h1 | h1
      · injection h1 with _ h1
        injection h1 with h1 h2
        injection h2 with h2 _
        subst h1 h2
        exfalso
        by_cases z : i = 0
        · exact hp ["X", "a"] (by unfold tyP; rw [if_pos z]; simp) (by decide +kernel)
        · exact hp ["a", "X"] (by unfold tyP; rw [if_neg z]; simp) (by decide +kernel)
      · have h1 := List.mem_singleton.mp h1
        injection h1 with _ h1
theorem ty_sort : sortT [["b", "c"]] = ([["b", "c"]] : List (List Str)) := by
  unfold sortT
  rw [List.mergeSort_singleton]
section
variable {P : Program} {w : World} {K : PySem.W.Frag} {mg : Str → Option Value} {base : Heap}
def spTyped : Sp := fun vs H Q _ => vs = [] ∧ ∀ H', Same H H' → Q (.bl true) H'
abbrev nTyped : List Str := ["_law_store_here", "_law_told_here", "_law_pairs_here"]
theorem scTyped : FnScope nTyped [] (defScope sTyped) := ⟨rfl, rfl, rfl, by decide +kernel, rfl, by decide +kernel, by decide +kernel⟩
theorem ok_typed {f fI CQ : Addr} {fd dI : FuncData} (F : Fun K "_law_typed_right" "_law_typed_right" sTyped f fd)
    (GI : FnOk P w K mg base CX0 5 fI dI ["self", "columns", "told", "pairs"] (spQInit CQ)) (MI : Mk K CQ fI) (gQ : mg "Question" = some (.ref CQ)) (bI : Binds K dI ["self", "columns", "told", "pairs"] [])
    (GM : CallA P w K mg base "matches" 7 ["question", "store"] (spMatches CQ)) :
    FnOk P w K mg base CX0 8 f fd [] spTyped := by
  obtain ⟨fM, dM, GM, kM, gM, bM⟩ := GM.ex
  refine F.ok scTyped (fun vs H Q E h => ?_) (fun cdv A outer s H vs Q E hr h => ?_)
  · obtain ⟨rfl, _⟩ := h
    rfl
  · obtain ⟨rfl, q⟩ := h
    have hr6 : Room 6 _ := hr.mono (by decide)
    refine ⟨_, pss_cons (ps_par (i := 0) (j := 1) (by rfl) scTyped.nd rfl rfl (by decide) rfl rfl (pa_cons (pe_lst (pa_cons (pe_tup (pa_cons pe_str (pa_cons pe_str (pa_cons pe_str pa_nil)))) (pa_cons (pe_tup (pa_cons pe_str (pa_cons pe_str (pa_cons pe_str pa_nil)))) pa_nil))) (pa_cons (pe_lst (pa_cons (pe_tupF (pa_cons pe_str (pa_cons pe_str (pa_cons pe_str pa_nil)))) pa_nil)) pa_nil)) (by rfl))
      (pss_cons (ps_for PassesOwn.never rfl (pi_tup (pe_tup (pa_cons (pe_lst (pa_cons (pe_tup (pa_cons pe_str (pa_cons pe_str pa_nil))) (pa_cons (pe_tup (pa_cons pe_str (pa_cons pe_str pa_nil))) pa_nil))) (pa_cons (pe_lst (pa_cons (pe_tup (pa_cons pe_str (pa_cons pe_str pa_nil))) (pa_cons (pe_tup (pa_cons pe_str (pa_cons pe_str pa_nil))) pa_nil))) pa_nil)))) (pg_name (i := 2) scTyped.nd rfl (Or.inl rfl))
        (pss_one (ps_if (pt_cmpR (op_neD hr.units) (by exact (pe_call GM hr (by rfl) gM kM bM .nil pass0 (pa_cons (by exact (pe_make MI GI hr6 (by rfl) gQ bI .nil pass0 (pa_cons (pe_lst pa_nil) (pa_cons (pv 1) (pa_cons (pv 2) pa_nil))))) (pa_cons (pv 0) pa_nil)))) (pe_lst (pa_cons (pe_tup (pa_cons pe_str (pa_cons pe_str pa_nil))) pa_nil)) (nomark _)) (pss_one (ps_ret pe_bl)) pss_nil)))
      (pss_one (ps_ret pe_bl))), ?_⟩
    have two : ∀ {α : Type} (a b : α), [a, b].length ≤ sizeLine := fun _ _ => by show 2 ≤ _; decide
    have three : ∀ {α : Type} (a b c : α), [a, b, c].length ≤ sizeLine := fun _ _ _ => by show 3 ≤ _; decide
    have one : ∀ {α : Type} (a : α), [a].length ≤ sizeLine := fun _ => by show 1 ≤ _; decide
    refine ⟨three _ _ _, fun t1 n1 => ?_⟩
    have s1 : Same H (upd H t1 (.tup [.str "way", .str "a", .str "b"])) := same_new n1
    have e1 : upd H t1 (.tup [.str "way", .str "a", .str "b"]) t1 = some (.tup ((["way", "a", "b"] : List Str).map V.str)) := upd_same
    generalize upd H t1 (.tup [.str "way", .str "a", .str "b"]) = H1 at s1 e1 ⊢
    refine ⟨three _ _ _, fun t2 n2 => ?_⟩
    have s2 : Same H1 (upd H1 t2 (.tup [.str "way", .str "b", .str "c"])) := same_new n2
    have e2 : upd H1 t2 (.tup [.str "way", .str "b", .str "c"]) t2 = some (.tup ((["way", "b", "c"] : List Str).map V.str)) := upd_same
    have e1 := s2 _ _ e1
    have s2 := s1.trans s2
    generalize upd H1 t2 (.tup [.str "way", .str "b", .str "c"]) = H2 at s2 e1 e2 ⊢
    clear s1
    refine ⟨two _ _, fun l1 n3 => ?_⟩
    have s3 : Same H2 (upd H2 l1 (.lst [.ref t1, .ref t2])) := same_new n3
    have el : upd H2 l1 (.lst [.ref t1, .ref t2]) l1 = some (.lst [.ref t1, .ref t2]) := upd_same
    have hS : PaL (upd H2 l1 (.lst [.ref t1, .ref t2])) [.ref t1, .ref t2] tyS := .mk (.inl (s3 _ _ e1)) (.mk (.inl (s3 _ _ e2)) .nil)
    have s3 := s2.trans s3
    generalize upd H2 l1 (.lst [.ref t1, .ref t2]) = H3 at s3 el hS ⊢
    clear e1 e2 s2
    refine ⟨three _ _ _, fun t3 ob3 hob n4 => ?_⟩
    have s4 : Same H3 (upd H3 t3 (.frz ob3 (.tup [.str "way", .str "X", .str "Y"]))) := same_new n4
    have e3 : TX (upd H3 t3 (.frz ob3 (.tup [.str "way", .str "X", .str "Y"]))) t3 ["way", "X", "Y"] := ⟨ob3, hob, upd_same⟩
    generalize upd H3 t3 (.frz ob3 (.tup [.str "way", .str "X", .str "Y"])) = H4 at s4 e3 ⊢
    refine ⟨one _, fun l2 n5 => ?_⟩
    have s5 : Same H4 (upd H4 l2 (.lst [.ref t3])) := same_new n5
    have em : upd H4 l2 (.lst [.ref t3]) l2 = some (.lst [.ref t3]) := upd_same
    have hT : PaX (upd H4 l2 (.lst [.ref t3])) [.ref t3] tyT := .cons (e3.same s5) .nil
    have s45 := s4.trans s5
    have el := s45 _ _ el
    have hS := hS.same s45
    have s5 := s3.trans s45
    generalize upd H4 l2 (.lst [.ref t3]) = H5 at s5 el hS em hT ⊢
    clear s4 e3 s45 s3
    refine ⟨_, _, rfl, ?_⟩
    dsimp only [tSeq, tFor, iTup, tTup, tCons, tNil]
    have pr : ∀ {G : Hp} {Q' : VK} (u v u' v' : Str), (∀ (l t t' : Addr) (G' : Hp), Same G G' → G' l = some (.lst [.ref t, .ref t']) → PaL G' [.ref t, .ref t'] [[u, v], [u', v']] → Q' (.ref l) G') →
        tLst (tCons (tTup (tCons (tC (.str u)) (tCons (tC (.str v)) tNil))) (tCons (tTup (tCons (tC (.str u')) (tCons (tC (.str v')) tNil))) tNil)) [some (.ref l1), some (.ref l2), none] G Q' := fun {G Q'} u v u' v' k => by
      refine ⟨two _ _, fun t1 n1 => ?_⟩
      have s1 : Same G (upd G t1 (.tup [.str u, .str v])) := same_new n1
      have e1 : upd G t1 (.tup [.str u, .str v]) t1 = some (.tup (([u, v] : List Str).map V.str)) := upd_same
      generalize upd G t1 (.tup [.str u, .str v]) = H1 at s1 e1 ⊢
      refine ⟨two _ _, fun t2 n2 => ?_⟩
      have s2 : Same H1 (upd H1 t2 (.tup [.str u', .str v'])) := same_new n2
      have e2 : upd H1 t2 (.tup [.str u', .str v']) t2 = some (.tup (([u', v'] : List Str).map V.str)) := upd_same
      generalize upd H1 t2 (.tup [.str u', .str v']) = H2 at s2 e2 ⊢
      refine ⟨two _ _, fun l n3 => ?_⟩
      have s3 : Same H2 (upd H2 l (.lst [.ref t1, .ref t2])) := same_new n3
      exact k l t1 t2 _ ((s1.trans s2).trans s3) upd_same (.mk (.inl (s3 _ _ (s2 _ _ e1))) (.mk (.inl (s3 _ _ e2)) .nil))
    refine pr "X" "Y" "X" "a" fun c1 a1 a2 G1 g1 ec1 hc1 => ?_
    refine pr "a" "X" "X" "Y" fun c2 b1 b2 G2 g2 ec2 hc2 => ?_
    refine ⟨two _ _, fun tt nt => ?_⟩
    have s6 : Same G2 (upd G2 tt (.tup [.ref c1, .ref c2])) := same_new nt
    have ett : upd G2 tt (.tup [.ref c1, .ref c2]) tt = some (.tup [.ref c1, .ref c2]) := upd_same
    have s56 := (g1.trans g2).trans s6
    have hc : ∀ i v, [V.ref c1, V.ref c2][i]? = some v → ∃ (c : Addr) (us3 : List V), v = .ref c ∧ upd G2 tt (.tup [.ref c1, .ref c2]) c = some (.lst us3) ∧ PaL (upd G2 tt (.tup [.ref c1, .ref c2])) us3 (tyP i) := fun i v hi => by
      match i, hi with
      | 0, hi => exact ⟨c1, _, (Option.some.inj hi).symm, s6 _ _ (g2 _ _ ec1), (hc1.same g2).same s6⟩
      | 1, hi => exact ⟨c2, _, (Option.some.inj hi).symm, s6 _ _ ec2, hc2.same s6⟩
    have el := s56 _ _ el
    have em := s56 _ _ em
    have hS := hS.same s56
    have hT := hT.same s56
    have s6 := s5.trans s56
    generalize upd G2 tt (.tup [.ref c1, .ref c2]) = H6 at s6 ett hc el em hS hT ⊢
    refine ⟨tt, rfl, ⟨_, SqT.of ett⟩, for_tup (D := { nx := tRet (tC (V.bl true)) { nx := fun x H' => Q V.non H', rt := Q }, rt := Q }) (K := K) (a := tt) (xs := [.ref c1, .ref c2]) (fun i σ G => ∃ o2 : Option V, σ = [some (.ref l1), some (.ref l2), o2] ∧ Same H6 G) ⟨none, rfl, Same.refl _⟩ (fun i σ G _ y => ?_) ?_ ?_⟩
    · obtain ⟨_, _, sm⟩ := y
      exact SqT.of (sm _ _ ett)
    · rintro i v σ G hi ⟨o2, rfl, sm⟩
      obtain ⟨c, us3, rfl, ec, hcp⟩ := hc i v hi
      have st : StoreAt G l1 [.ref t1, .ref t2] tyS := ⟨sm _ _ el, hS.same sm, by decide +kernel, by decide +kernel, by decide⟩
      refine ⟨by show 0 ≤ _; exact Nat.zero_le _, fun lc nlc => ?_⟩
      have s7 : Same G (upd G lc (.lst [])) := same_new nlc
      have elc : upd G lc (.lst []) lc = some (.lst ((([] : List Str)).map V.str)) := upd_same
      generalize upd G lc (.lst []) = G1 at s7 elc ⊢
      have s07 := sm.trans s7
      refine ⟨_, rfl, _, rfl, ?_⟩
      refine fun x dx nx ndx ne => mk_q (ty_ok i) (ty_clo i) nx ndx elc (s07 _ _ em) (hT.same s07) (opt_of (s07 _ _ ec) (hcp.same s07) (by rw [ty_two]; decide)) fun H8 s8 qa => ⟨rfl, ?_⟩
      have s08 := s7.trans s8
      refine ⟨_, rfl, ?_⟩
      dsimp only [tNil]
      refine ⟨x, l1, ⟨[], tyT, tyP i⟩, _, tyS, 2, rfl, ⟨qa.ra, ty_ok i, by show 1 ≤ 10; decide, by show (tyP i).length ≤ 10; rw [ty_two]; decide⟩, st.same s08, ⟨by decide, by decide, by decide, by show 2 ^ 1 ≤ 100000; decide⟩, fun p H9 us' zs _ s9 ep hp hz => ?_⟩
      rw [matches_due (ty_ok i) (fun p hp => by show PrOk (varsIn (tails tyT)) p; rw [ty_vars]; exact (ty_pr i p hp).1) st.ok st.nd hz (ty_due i), ty_sort] at hp
      refine ⟨two _ _, fun t4 n4 => ?_⟩
      have u1 : Same H9 (upd H9 t4 (.tup [.str "b", .str "c"])) := same_new n4
      have f1 : upd H9 t4 (.tup [.str "b", .str "c"]) t4 = some (.tup ((["b", "c"] : List Str).map V.str)) := upd_same
      generalize upd H9 t4 (.tup [.str "b", .str "c"]) = Ha at u1 f1 ⊢
      refine ⟨one _, fun l4 n5 => ?_⟩
      have u2 : Same Ha (upd Ha l4 (.lst [.ref t4])) := same_new n5
      have f2 : upd Ha l4 (.lst [.ref t4]) l4 = some (.lst [.ref t4]) := upd_same
      have f1 := u2 _ _ f1
      generalize upd Ha l4 (.lst [.ref t4]) = Hb at u2 f1 f2 ⊢
      have u12 := u1.trans u2
      have bc : ∀ p ∈ ([["b", "c"]] : List (List Str)), ∀ x ∈ p, Asc x := fun p hp x hx => (show IsNm x from (by decide +kernel : ∀ p ∈ ([["b", "c"]] : List (List Str)), ∀ x ∈ p, IsNm x) p hp x hx).asc
      refine ⟨dL [["b", "c"]], dL [["b", "c"]], dp_L (SqL.of (u12 _ _ ep)) (hp.same u12), dp_L (SqL.of f2) (.mk (.inl f1) .nil), (lay_dL bc).shaped (by decide), (lay_dL bc).shaped (by decide), _, rfl, ?_⟩
      rw [eqv_L, decide_eq_true rfl]
      exact iteF ⟨_, rfl, sm.trans ((s08.trans s9).trans u12)⟩
    · rintro σ G ⟨o2, rfl, sm⟩
      exact q G (s6.trans sm)
end
end Nv
set_option maxHeartbeats 4000000
namespace Nv
open PySem PySem.Spec PyProof.Rows L2
/-! # _law_question -/
section
variable {P : Program} {w : World} {K : PySem.W.Frag} {mg : Str → Option Value} {base : Heap}
def spLawQ (K : PySem.W.Frag) (CQ : Addr) : Sp := fun vs H Q _ => ∃ (a b c : Addr) (n most : Nat) (ks : List V) (zs : List Str), vs = [.ref a, .ref b, .ref c, .int (most : Int)] ∧ Pu H a (n + (20 + 4 * most)) ∧ most ≤ 10 ∧
  (SqL K H b ks ∧ b ≠ a ∧ 1 ≤ ks.length ∧ ks.length ≤ 1000 ∧ ∀ v ∈ ks, Kd H v) ∧ (SqL K H c (zs.map V.str) ∧ c ≠ a ∧ zs.length ≤ 100 ∧ ∀ z ∈ zs, IsNm z) ∧
  ∀ (r : Addr) (x : Ql) (H' : Hp), x.Ok → (∀ p ∈ x.ps, Vr4 p) → (QClo x ∧ ∀ pr ∈ x.qs, PrOk (varsIn (tails x.ps)) pr) → x.ps.length ≤ most → x.qs.length ≤ 2 → QAn CQ H H' r x → Pu H' a n → Sb a H H' → Q (.ref r) H'
abbrev nLawQ : List Str := ["_law_purse_here", "_law_kinds_here", "_law_names_here", "_law_most", "_law_told_here", "_law_some", "_law_columns", "_law_pairs_here", "_law_turn"]
theorem scLawQ : FnScope nLawQ ["_law_purse_here", "_law_kinds_here", "_law_names_here", "_law_most"] (defScope sLawQ) := ⟨rfl, rfl, rfl, by decide +kernel, rfl, by decide +kernel, by decide +kernel⟩
theorem cols_ev {σ : L2.St} {H : Hp} {Q : VK} {a p : Addr} {n : Nat} {vs : List Str} (h0 : σ[0]? = some (some (.ref a))) (h5 : σ[5]? = some (some (.ref p))) (pu : Pu H a (n + 1)) (pa : p ≠ a) (e : H p = some (.lst (vs.map V.str))) (asc : ∀ x ∈ vs, Asc x)
    (q : ∀ (m : Nat) (G : Hp), m ≤ 3 → (vs = [] → m = 0) → Pu G a n → Sb a H G → Q (.int (m : Int)) G) :
    tIf (tTest (tOp (rNeD K) (tVar 5) (tLst tNil))) (tCall spDraw [] E0 (tCons (tVar 0) (tCons (tC (.int 4)) tNil))) (tC (.int 0)) σ H Q := by
  refine ⟨_, h5, by decide, fun l nl => ?_⟩
  have s1 : Same H (upd H l (.lst [])) := same_new nl
  have pu1 := pu.same s1
  have e1 := s1 _ _ e
  have el : upd H l (.lst []) l = some (.lst []) := upd_same
  generalize upd H l (.lst []) = G at s1 pu1 e1 el ⊢
  refine ⟨dS vs, dS [], dp_S (SqL.of e1), .lst (SqL.of el) .nil, (lay_dS asc).shaped (by decide), (lay_dS (xs := []) (fun x hx => nomatch hx)).shaped (by decide), _, rfl, ?_⟩
  rw [eqv_S]
  by_cases hv : vs = []
  · rw [decide_eq_true hv]
    exact iteF (q 0 G (Nat.zero_le _) (fun _ => rfl) (pu1.le (by omega)) (Sb.of s1))
  · rw [decide_eq_false hv]
    refine iteT ⟨_, h0, ?_⟩
    dsimp only [tNil]
    refine ⟨a, n, 4, rfl, pu1, ⟨by decide, by decide⟩, fun r H1 r0 r1 pu2 sb => ?_⟩
    obtain ⟨j, rfl⟩ : ∃ j : Nat, r = (j : Int) := ⟨r.toNat, by omega⟩
    exact q j H1 (by omega) (fun z => absurd z hv) pu2 ((Sb.of s1).trans sb)
theorem ok_lawQ {f fD fO fT fV fP fI CQ : Addr} {fd dD dO dT dV dP dI : FuncData} (F : Fun K "_law_question" "_law_question" sLawQ f fd) (B : Bl mg)
    (GD : FnOk P w K mg base CX0 2 fD dD ["_law_purse_here", "_law_many"] spDraw) (kD : PySem.W.keepIn K (.ref fD) = true) (gD : mg "_law_draw" = some (.ref fD)) (bD : Binds K dD ["_law_purse_here", "_law_many"] [])
    (GO : FnOk P w K mg base CX0 3 fO dO ["_law_purse_here", "_law_some"] (spOneOf K)) (kO : PySem.W.keepIn K (.ref fO) = true) (gO : mg "_law_one_of" = some (.ref fO)) (bO : Binds K dO ["_law_purse_here", "_law_some"] [])
    (GT : FnOk P w K mg base CX0 5 fT dT ["_law_purse_here", "_law_kinds_here", "_law_names_here", "_law_most", "_law_few"] (spTold K)) (kT : PySem.W.keepIn K (.ref fT) = true) (gT : mg "_law_told" = some (.ref fT)) (bT : Binds K dT ["_law_purse_here", "_law_kinds_here", "_law_names_here", "_law_most", "_law_few"] [])
    (GV : FnOk P w K mg base CX0 1 fV dV ["_law_told_here"] (spVariables K)) (kV : PySem.W.keepIn K (.ref fV) = true) (gV : mg "_law_variables" = some (.ref fV)) (bV : Binds K dV ["_law_told_here"] [])
    (GP : FnOk P w K mg base CX0 4 fP dP ["_law_purse_here", "_law_told_here", "_law_names_here"] (spPairs K)) (kP : PySem.W.keepIn K (.ref fP) = true) (gP : mg "_law_pairs" = some (.ref fP)) (bP : Binds K dP ["_law_purse_here", "_law_told_here", "_law_names_here"] [])
    (GI : FnOk P w K mg base CX0 5 fI dI ["self", "columns", "told", "pairs"] (spQInit CQ)) (MI : Mk K CQ fI) (gQ : mg "Question" = some (.ref CQ)) (bI : Binds K dI ["self", "columns", "told", "pairs"] []) :
    FnOk P w K mg base CX0 7 f fd ["_law_purse_here", "_law_kinds_here", "_law_names_here", "_law_most"] (spLawQ K CQ) := by
  refine F.ok scLawQ (fun vs H Q E h => ?_) (fun cdv A outer s H vs Q E hr h => ?_)
  · obtain ⟨a, b, c, n, most, ks, zs, rfl, _⟩ := h
    rfl
  · obtain ⟨a, b, c, n, most, ks, zs, rfl, pu, hmost, ⟨hb, hba, k1, kl, kd⟩, ⟨hc, hca, zl, zn⟩, q⟩ := h
    have hr1 : Room 1 _ := hr.mono (by decide)
    have hr2 : Room 2 _ := hr.mono (by decide)
    have hr3 : Room 3 _ := hr.mono (by decide)
    have hr4 : Room 4 _ := hr.mono (by decide)
    have hr5 : Room 5 _ := hr.mono (by decide)
    have hr6 : Room 6 _ := hr.mono (by decide)
    refine ⟨_, pss_cons (ps_set (i := 4) scLawQ.nd rfl (Or.inl rfl) (by exact (pe_call GT hr5 (by rfl) gT kT bT .nil pass0 (pa_cons (pv 0) (pa_cons (pv 1) (pa_cons (pv 2) (pa_cons (pv 3) (pa_cons (pe_op op_add pe_int (by exact (pe_call GD hr2 (by rfl) gD kD bD .nil pass0 (pa_cons (pv 0) (pa_cons pe_int pa_nil))))) pa_nil))))))))
      (pss_cons (ps_set (i := 5) scLawQ.nd rfl (Or.inr rfl) (by exact (pe_call GV hr1 (by rfl) gV kV bV .nil pass0 (pa_cons (pv 4) pa_nil))))
      (pss_cons (ps_setLc (i := 6) (own := [("_law_turn", 8)]) (g := gName 8) (tt := tYes) rfl scLawQ.nd rfl rfl (sw_true rfl rfl rfl (by decide +kernel))
        (pi_range1 (by rfl) B.rg (pa_cons (pe_ifExp (pt_cmpR (op_neD hr.units) (pv 5) (pe_lst pa_nil) (nomark _)) (by exact (pe_call GD hr2 (by rfl) gD kD bD .nil pass0 (pa_cons (pv 0) (pa_cons pe_int pa_nil)))) pe_int) pa_nil))
        (blkOk_by (own := [("_law_turn", 8)]) (N := nLawQ) (sc := defScope sLawQ) (by decide +kernel))
        (fun _ _ _ _ _ => pg_name (i := 8) scLawQ.nd rfl (Or.inl rfl)) (fun _ _ _ _ _ => pts_nil) (fun _ _ _ _ _ => by exact (pe_call GO hr3 (by rfl) gO kO bO .nil pass0 (pa_cons (pv 0) (pa_cons (pv 5) pa_nil)))))
      (pss_cons (ps_set (i := 7) scLawQ.nd rfl (Or.inl rfl) (by exact (pe_call GP hr4 (by rfl) gP kP bP .nil pass0 (pa_cons (pv 0) (pa_cons (pv 4) (pa_cons (pv 2) pa_nil))))))
      (pss_one (ps_ret (by exact (pe_make MI GI hr6 (by rfl) gQ bI .nil pass0 (pa_cons (pv 6) (pa_cons (pv 4) (pa_cons (pe_op op_cat (pv 7) (by exact (pe_call GP hr4 (by rfl) gP kP bP .nil pass0 (pa_cons (pv 0) (pa_cons (pv 4) (pa_cons (pv 2) pa_nil)))))) pa_nil)))))))))), ?_⟩
    refine ⟨_, rfl, _, rfl, _, rfl, _, rfl, _, rfl, ?_⟩
    dsimp only [tNil]
    refine ⟨a, n + (19 + 4 * most), 3, rfl, pu.le (by omega), ⟨by decide, by decide⟩, fun r H1 r0 r1 pu1 sb1 => ⟨_, _, rfl, rfl, ?_⟩⟩
    obtain ⟨j, rfl⟩ : ∃ j : Nat, r = (j : Int) := ⟨r.toNat, by omega⟩
    refine ⟨a, b, c, n + 17, most, 2 + j, ks, zs, (by rw [show ((2 + j : Nat) : Int) = 2 + (j : Int) by omega]; rfl), pu1.le (by omega), ⟨by omega, by omega, by omega⟩, ⟨sb1.seq hba hb, hba, k1, kl, fun v hv => (kd v hv).sb pu sb1⟩, ⟨sb1.seq hca hc, hca, zl, zn⟩, fun p us ps H2 px pok p4 plen np pu2 sb2 ep => ?_⟩
    have sb02 : Sb a H H2 := sb1.trans sb2
    have pa : p ≠ a := pu1.ne np
    have npH : H p = none := sb1.free pu1 np
    show tSeq _ _ _ _ _
    refine ⟨_, rfl, ?_⟩
    dsimp only [tNil]
    refine ⟨p, us, ps, rfl, SqL.of ep, px.pal, pok, by omega, fun p1 H3 np1 s3 e1 => ?_⟩
    have pu3 := pu2.same s3
    have p1a : p1 ≠ a := pu2.ne np1
    have ep3 := s3 _ _ ep
    have px3 := px.same s3
    have vr : ∀ x ∈ varsIn (tails ps), IsVr x := fun x hx => (varsIn_mem.mp hx).2
    have vl : (varsIn (tails ps)).length ≤ 900 := by
      have h1 := varsIn_len (tails ps)
      have h2 := tails_len pok
      omega
    have np1H : H p1 = none := sb02.free pu2 np1
    have sb03 : Sb a H H3 := sb02.trans (Sb.of s3)
    generalize hvs : varsIn (tails ps) = vs at e1 vr vl
    show tSeq _ _ _ _ _
    refine cols_ev (n := n + 16) (vs := vs) rfl rfl (pu3.le (by omega)) p1a e1 (fun x hx => (vr x hx).asc) fun m G hm hm0 puG sbG => ?_
    have e1G := sbG _ _ p1a e1
    have epG := sbG _ _ pa ep3
    have pxG := px3.sb pu3 sbG
    have sb0G : Sb a H G := sb03.trans sbG
    refine ⟨(m : Int), rfl, by omega, by omega, fun D nD => ?_⟩
    have hDa := puG.ne nD
    refine lc_range (lo := 0) (n := (m : Int).toNat) (fun i H' => ∃ ts : List Str, ts.length = i ∧ (∀ x ∈ ts, x ∈ vs) ∧ Pu H' a (n + 10 + (3 - i)) ∧ Sb a G H' ∧ H' D = some (.lst (ts.map V.str))) ⟨[], rfl, (fun x hx => nomatch hx), (puG.put hDa).le (by omega), Sb.new nD, upd_same⟩ ?_ ?_
    · rintro i H2 hi ⟨ts, hl, hts, pu4, sb4, e4⟩
      refine ⟨rfl, ?_⟩
      refine ⟨_, rfl, _, rfl, a, p1, n + 10 + (3 - (i + 1)), vs.map V.str, rfl, pu4.le (by omega), SqL.of (sb4 _ _ p1a e1G), p1a, ⟨?_, by rw [List.length_map]; omega⟩, fun v H3 hv pu5 sb5 => ?_⟩
      · rw [List.length_map]
        cases vs with
        | nil =>
          have := hm0 rfl
          omega
        | cons y ys => exact Nat.succ_le_of_lt (Nat.zero_lt_succ _)
      obtain ⟨z, hz, rfl⟩ := List.mem_map.mp hv
      refine ⟨_, sb5 _ _ hDa e4, by rw [List.length_map]; exact small1000 (by omega), ts ++ [z], by rw [List.length_append, hl] <;> rfl, ?_, pu5.put hDa, ?_, by rw [upd_same, List.map_append] <;> rfl⟩
      · intro x hx
        rcases List.mem_append.mp hx with h | h
        · exact hts x h
        · rw [List.mem_singleton.mp h]
          exact hz
      · exact (sb4.trans sb5).put nD
    · rintro H2 ⟨ts, hl, hts, pu4, sb4, e4⟩
      have hl3 : ts.length ≤ 3 := by omega
      have ep4 := sb4 _ _ pa epG
      have px4 := pxG.sb puG sb4
      have sb04 : Sb a H H2 := sb0G.trans sb4
      have hc4 := sb04.seq hca hc
      show tSeq _ _ _ _ _
      refine ⟨_, rfl, _, rfl, _, rfl, ?_⟩
      dsimp only [tNil]
      refine ⟨a, p, c, n + 5, us, ps, zs, rfl, pu4.le (by omega), ⟨SqL.of ep4, px4.pal, pok, by omega⟩, ⟨hc4, hca, zl, zn⟩, fun p2 ws2 qs2 H5 pq2 l2 ok2 np2 pu5 sb5 e5 => ?_⟩
      have p2a : p2 ≠ a := pu4.ne np2
      have sb05 := sb04.trans sb5
      have px5 := px4.sb pu4 sb5
      have ep5 := sb5 _ _ pa ep4
      have eD5 := sb5 _ _ hDa e4
      refine ⟨_, rfl, _, rfl, _, rfl, _, rfl, _, rfl, _, rfl, ?_⟩
      dsimp only [tNil]
      refine ⟨a, p, c, n, us, ps, zs, rfl, pu5, ⟨SqL.of ep5, px5.pal, pok, by omega⟩, ⟨sb05.seq hca hc, hca, zl, zn⟩, fun p3 ws3 qs3 H6 pq3 l3 ok3 np3 pu6 sb6 e6 => ?_⟩
      have e62 := sb6 _ _ p2a e5
      have pq2' := pq2.sb pu5 sb6
      have sb06 := sb05.trans sb6
      have px6 := px5.sb pu5 sb6
      have ep6 := sb6 _ _ pa ep5
      have eD6 := sb6 _ _ hDa eD5
      refine ⟨p2, p3, ws2, ws3, rfl, rfl, e62, e6, ?_, fun pp np4 => ?_⟩
      · rw [pq2.len, pq3.len]
        exact Nat.le_trans (by omega : _ ≤ 1000) (by decide)
      have s7 : Same H6 (upd H6 pp (.lst (ws2 ++ ws3))) := same_new np4
      have e7 : upd H6 pp (.lst (ws2 ++ ws3)) pp = some (.lst (ws2 ++ ws3)) := upd_same
      generalize upd H6 pp (.lst (ws2 ++ ws3)) = H7 at s7 e7 ⊢
      have sb07 : Sb a H H7 := sb06.trans (Sb.of s7)
      have pu7 := pu6.same s7
      have pr : ∀ y ∈ qs2 ++ qs3, PrOk vs y := fun y hy => by
        rcases List.mem_append.mp hy with h | h
        · have := ok2 y h
          rw [hvs] at this
          exact this
        · have := ok3 y h
          rw [hvs] at this
          exact this
      have ok : Ql.Ok ⟨ts, ps, qs2 ++ qs3⟩ := ⟨fun y hy => vr y (hts y hy), by show ts.length ≤ 300; omega, pok, by show ps.length ≤ 300; omega, fun y hy => (pr y hy).pair vr, by show (qs2 ++ qs3).length ≤ 300; rw [List.length_append]; omega⟩
      have cl : QClo ⟨ts, ps, qs2 ++ qs3⟩ := by
        refine ⟨hasMore_no fun y hy => .inl (by rw [hvs]; exact hts y hy), hasMore_no fun y hy => ?_⟩
        obtain ⟨l, hl, hy⟩ := List.mem_flatten.mp hy
        obtain ⟨x1, y1, rfl, _, h1, h2, _⟩ := pr l hl
        rw [hvs]
        rcases List.mem_cons.mp hy with rfl | hy
        · exact h1
        · rw [List.mem_singleton.mp hy]
          exact h2
      have op : Opt H7 (.ref pp) (qs2 ++ qs3) := opt_of e7 ((pq2'.same s7).app (pq3.same s7)) (by rw [List.length_append]; omega)
      refine fun x dx nx ndx ne => mk_q ok cl nx ndx (s7 _ _ eD6) (s7 _ _ ep6) (px6.same s7) op fun H8 s8 qa => ⟨rfl, ?_⟩
      obtain ⟨dx', l1, l2, l3, u1, u2, ⟨n0, n1, n2, n3⟩, qa⟩ := qa
      have sb08 : Sb a H H8 := sb07.trans (Sb.of s8)
      exact q x ⟨ts, ps, qs2 ++ qs3⟩ H8 ok p4 ⟨cl, fun y hy => by show PrOk (varsIn (tails ps)) y; rw [hvs]; exact pr y hy⟩ plen (by show (qs2 ++ qs3).length ≤ 2; rw [List.length_append]; omega) ⟨dx', l1, l2, l3, u1, u2, ⟨sb07.free pu7 n0, sb07.free pu7 n1, sb07.free pu7 n2, sb07.free pu7 n3⟩, qa⟩ (pu7.same s8) sb08
end
end Nv
set_option maxHeartbeats 4000000
namespace Nv
open PySem PySem.Spec PyProof.Rows L2
section
variable {P : Program} {w : World} {K : PySem.W.Frag} {mg : Str → Option Value} {base : Heap}
/-- the script is handed in, tracked as what is known to the object, or an object of the written part -/
theorem law_run {fa a : Addr} {mb : Str → Option Value} {fd : FuncData} {x : Str} {sp : Sp} {k : Nat} {s1 : Shared} {vs : List Value} {ns : List Int}
    (KX : K.In s1.heap) (hns : s1.heap.Ns mainGlobals mg) (hb : s1.heap.Ns builtinsNs mb) (hbb : ∀ x : Str, x ≠ "__name__" → mb x = bootBuiltins x) (hlim : s1.heap.NoLimit) (hsys : ∃ ms, s1.heap.Ns sysModules ms) (hg : s1.gens = #[])
    (ha : s1.heap.get? a = some { cls := .type "list", data := .seq vs.toArray }) (hi : IntsAre vs ns) (hz : ns.length ≤ sizeLine) (hr : Room k callerA)
    (F : ∀ base : Heap, K.In base → base.Ns mainGlobals mg → (∃ o, base.get? sysModules = some o) → RunG P w K mg base k fa fd [x] sp) (bind : ∀ (s : Shared) (u : Value), BindsTo s fd ⟨[u], []⟩ [(x, u)])
    (hsp : ∀ H : Hp, SqL K H a (ns.map V.int) → sp [.ref a] H (fun v _ => v = .bl true) E0) :
    codeAny (model P w) callerA (.call (.ref fa) ⟨[.ref a], []⟩) (fun r s' => r = .ok (.ret (.bool true)) ∧ OldK s1.heap s'.heap ∧ s'.os = s1.os ∧ AllBare s'.gens) s1 := by
  have rv := vals_ints hi
  -- some abstract heap that tracks at most the script, locked
  obtain ⟨H, only, hS, hok, notK⟩ : ∃ H : Hp, (∀ b u, H b = some u → b = a ∧ ∃ o xs, u = .frz o (.lst xs)) ∧ SqL K H a (ns.map V.int) ∧ HOk P w H s1.heap ∧ (∀ b o, K.lookup b = some o → H b = none) := by
    cases hk : K.lookup a with
    | some o =>
      have e := KX a o hk
      rw [ha] at e
      cases e
      exact ⟨fun _ => none, (fun b u z => by cases z), .inr ⟨_, vs.toArray, _, hk, rfl, rfl, rfl, by rw [List.size_toArray, hi.length]; exact hz, by simpa using rv⟩, (fun b u z => by cases z), fun _ _ _ => rfl⟩
    | none =>
      refine ⟨upd (fun _ => none) a (.frz { cls := .type "list", data := .seq vs.toArray } (.lst (ns.map V.int))), fun b u z => ?_, .inl (.inr ⟨_, upd_same⟩), fun b u z => ?_, fun b o z => ?_⟩
      · by_cases e : b = a
        · rw [e, upd_same] at z
          exact ⟨e, _, _, (Option.some.inj z).symm⟩
        · rw [upd_ne e] at z
          cases z
      · by_cases e : b = a
        · rw [e, upd_same] at z
          cases z
          rw [e]
          exact ⟨ha, by rw [List.length_map]; exact hz, vs, _, rv, ha⟩
        · rw [upd_ne e] at z
          cases z
      · by_cases e : b = a
        · rw [e, hk] at z
          cases z
        · rw [upd_ne e]
  have in_base : ∀ {b : Addr} {o : Obj}, s1.heap.get? b = some o → H b = none → (hidT s1.heap H).get? b = some o := fun e n => hidT_get e n
  have free_of : ∀ {b : Addr} {o : Obj} {es : Array DictEntry} {ep : Nat}, s1.heap.get? b = some o → o.data = .dict es ep → H b = none := fun {b o es ep} e d => by
    cases q : H b with
    | none => rfl
    | some u =>
      rw [(only b u q).1, ha] at e
      cases e
      cases d
  have ns_base : ∀ {b : Addr} {m : Str → Option Value}, s1.heap.Ns b m → (hidT s1.heap H).Ns b m := fun ⟨o, es, ep, e, d, r⟩ => ⟨o, es, ep, in_base e (free_of e d), d, r⟩
  have kb : K.In (hidT s1.heap H) := fun b o e => in_base (KX b o e) (notK b o e)
  have md : Mod K mg (hidT s1.heap H) := ⟨kb, ns_base hns, ⟨mb, ns_base hb, hbb⟩, let ⟨mc, h1, h2⟩ := hlim; ⟨mc, ns_base h1, h2⟩⟩
  have sy : ∃ o, (hidT s1.heap H).get? sysModules = some o := let ⟨ms, o, es, ep, e, d, _⟩ := hsys; ⟨o, in_base e (free_of e d)⟩
  have e0 : Env0 P w K mg (hidT s1.heap H) callerA [] s1 H := ⟨rfl, md, fun b o e => of_hidT e, Nat.le_of_eq (hidT_size _ _), trivial, (fun b z => by cases z), hok, .of_eq hg⟩
  refine codeAny_mono (F _ kb (ns_base hns) sy callerA [] s1 H ⟨[.ref a], []⟩ [.ref a] [.ref a] _ rfl hr e0 (bind s1 (.ref a)) (.cons rfl .nil) (hsp H hS)) fun r s' h => ?_
  cases r with
  | error e => exact False.elim h
  | ok fl =>
    cases fl with
    | next => exact False.elim h
    | brk => exact False.elim h
    | cont => exact False.elim h
    | ret u =>
      obtain ⟨v, H', os, bare, un, hok', rr, q⟩ := h
      obtain rfl : v = V.bl true := q
      obtain rfl : u = Value.bool true := rr
      refine ⟨rfl, OldK.of_keep fun b o e => ?_, os, bare⟩
      cases z : H b with
      | none => exact un.keep b o e z (fun m => nomatch m) (fun m => nomatch m)
      | some u =>
        obtain ⟨_, ob, xs, rfl⟩ := only b u z
        obtain ⟨e1, _⟩ := hok b _ z
        obtain ⟨e2, _⟩ := hok' b _ (un.frzs b ob _ z)
        rw [e] at e1
        cases e1
        exact e2
end
theorem walkG {l : PySem.W.OpenLaw} {k : Nat} {q : Program} {loose : List Str} {XP : (Str → Option Value) → Heap → Prop} {YP : World → Heap → Prop} {d : DefRec} {K : Params → PySem.W.Frag} {sp : PySem.W.Frag → Sp} {x : Str}
    (hn : l.most = some 63) (hdf : d.params.defaults = []) (hr : Room k callerA) (hq : importsNone q = true) (hY : ∀ (w : World) (h : Heap), YP w h → (K w.params).In h)
    (F : ∀ (w : World) (mg : Str → Option Value) (fa : Addr) (h : Heap), (K w.params).In h → h.Ns mainGlobals mg → mg d.name = some (.ref fa) → ∃ fd : FuncData, (∀ (s : Shared) (u : Value), BindsTo s fd ⟨[u], []⟩ [(x, u)]) ∧
      ∀ base : Heap, (K w.params).In base → base.Ns mainGlobals mg → (∃ o, base.get? sysModules = some o) → RunG l.prog w (K w.params) mg base k fa fd [x] (sp (K w.params)))
    (hsp : ∀ (K : PySem.W.Frag) (H : Hp) (a : Addr) (ns : List Int), ns.length ≤ 63 → SqL K H a (ns.map V.int) → sp K [.ref a] H (fun v _ => v = .bl true) E0) :
    PySem.W.WalkO q loose XP YP l.row.toRowW d [] (fun f vs => PySem.call f vs) := by
  refine Att.attach_call hn hdf fun w s0 s1 mg mb fa o pm cd doc a vs ns G Y ho hd hcd hmg hobj hints hlen hg => ?_
  have KX := hY w _ Y
  obtain ⟨fd, hb, hF⟩ := F w mg fa _ KX G.T.g hmg
  have sy : ∃ ms, s1.heap.Ns sysModules ms := let ⟨ms, z, _⟩ := (G.T.seer hq).mods; ⟨ms, z⟩
  exact law_run KX G.T.g G.T.b G.T.builtins G.T.nolimit sy hg hobj hints (Nat.le_trans hlen (by decide)) hr hF hb fun H hS => hsp _ H a ns hlen hS
end Nv
set_option maxHeartbeats 16000000
namespace Nv
open PySem PySem.Spec PyProof.Rows L2
/-! # the law -/
abbrev nLaw : List Str := ["_law_script", "_law_purse_here", "_law_kinds_here", "_law_names_here", "_law_question_here", "_law_store_here", "_law_noted", "_law_due_here", "_law_some", "_law_told_here", "_law_fact_here", "_law_row"]
theorem scLaw : FnScope nLaw ["_law_script"] (defScope sLaw) := ⟨rfl, rfl, rfl, by decide +kernel, rfl, by decide +kernel, by decide +kernel⟩
theorem refs_no_int {bs : List Addr} {i : Nat} {a : Addr} (h : bs[i]? = some a) {s d t k : Int} : HO.lst (bs.map V.ref) ≠ .lst [.int s, .int d, .int t, .int k] := fun z => by
  injection z with z
  cases bs with
  | nil => cases h
  | cons b bs => injection z with z _; cases z
theorem Pu.other {H H1 : Hp} {a b : Addr} {n : Nat} (p : Pu H b n) (ne : b ≠ a) (s : Sb a H H1) : Pu H1 b n := by
  obtain ⟨x, d, t, k, e, h⟩ := p.ex
  exact ⟨⟨x, d, t, k, s _ _ ne e, h⟩⟩
theorem QAn.sb {C a r : Addr} {H H1 H2 : Hp} {x : Ql} {n m : Nat} (h : QAn C H H1 r x) (p0 : Pu H a n) (p1 : Pu H1 a m) (s : Sb a H1 H2) : QAn C H H2 r x := by
  obtain ⟨dx, l1, l2, l3, us, us2, ⟨n0, n1, n2, n3⟩, e, e1, ⟨e2, p2⟩, e3, p3⟩ := h
  exact ⟨dx, l1, l2, l3, us, us2, ⟨n0, n1, n2, n3⟩, s _ _ (p0.ne n0) e, s _ _ (p0.ne n1) e1, ⟨s _ _ (p0.ne n2) e2, p2.sb p1 s⟩, s _ _ (p0.ne n3) e3, p3.sb p1 s⟩
section
variable {P : Program} {w : World} {K : PySem.W.Frag} {mg : Str → Option Value} {base : Heap}
theorem nameD {i : Nat} {v : V} {σ : L2.St} {H : Hp} {D : Ends} (h : D.nx (σ.set i (some v)) H) : gName i v σ H D.nx := h
theorem seqD {t u : TS} {D : Ends} {σ : L2.St} {H : Hp} (h : ∀ D' : Ends, D'.nx = u D → D'.rt = D.rt → t D' σ H) : tSeq t u D σ H := h _ rfl rfl
theorem bothH {A : Prop} {I Qf : Hp → Prop} (h : (∀ G, I G → Qf G) → A) (k : ∀ G, I G → Qf G) : A := h k
theorem metF_due {x : Ql} {ps : List (List Str)} {zs : List Str} (ok : x.Ok) (pr : ∀ pr ∈ x.qs, PrOk (varsIn (tails x.ps)) pr) (fo : ∀ f ∈ ps, FactOk f) (nd : ps.Nodup) (hz : NamesOf (tails x.ps ++ x.qs.flatten) zs) : IsDue x ps (metF zs x.ps x.qs ps) :=
  ⟨metF_nd ok.ps (fun f hf => (fo f hf).1.1) nd hz, fun r => metF_mem ok.ps (pr_in pr hz) (fun f hf => (fo f hf).1.1) hz r⟩
theorem cutI (b : Bool) (v : V) : cutV [v] none (some (if b = true then 1 else 0)) = if b = true then [v] else [] := by cases b <;> rfl
theorem ne_same (t : Str) : (!decide (V.str t = V.str t)) = false := by rw [decide_eq_true rfl] <;> rfl
theorem cutA' (ks : List V) : cutV ks none (some 1) = ks.take 1 := by
  cases ks with
  | nil => rfl
  | cons k ks => exact cutA _ (Nat.succ_le_of_lt (Nat.zero_lt_succ _))
theorem StoreAt.sb {a b : Addr} {H H1 : Hp} {n : Nat} {us : List V} {ps : List (List Str)} (h : StoreAt H b us ps) (ba : b ≠ a) (pu : Pu H a n) (s : Sb a H H1) : StoreAt H1 b us ps := ⟨s _ _ ba h.at_, h.pal.sb pu s, h.ok, h.nd, h.few⟩
def spLaw (K : PySem.W.Frag) : Sp := fun vs H Q _ => ∃ (al : Addr) (ns : List Int), vs = [.ref al] ∧ SqL K H al (ns.map V.int) ∧ ns.length ≤ 63 ∧ ∀ H', Q (.bl true) H'
theorem ok_law {f CQ fPs fNa fKi fLQ fFe fSt fSh fDu fVa fTy : Addr} {fd dPs dNa dKi dLQ dFe dSt dSh dDu dVa dTy : FuncData} (F : Fun K "law" "law" sLaw f fd) (B : Bl mg) (B2 : Bp mg) (ml : mg "list" = none) (rp : mg "repr" = none) (sy : ∃ o, base.get? sysModules = some o)
    (R : QC K CQ) (T : PropL P w K mg base CQ "told" "_told") (T2 : PropL P w K mg base CQ "pairs" "_pairs") (T3 : PropL P w K mg base CQ "columns" "_columns")
    (GPs : FnOk P w K mg base CX0 2 fPs dPs ["_law_script", "_law_few"] (spPurses K)) (kPs : PySem.W.keepIn K (.ref fPs) = true) (gPs : mg "_law_purses" = some (.ref fPs)) (bPs : Binds K dPs ["_law_script", "_law_few"] [])
    (GNa : FnOk P w K mg base CX0 4 fNa dNa ["_law_purse_here", "_law_many"] spNames) (kNa : PySem.W.keepIn K (.ref fNa) = true) (gNa : mg "_law_names" = some (.ref fNa)) (bNa : Binds K dNa ["_law_purse_here", "_law_many"] [])
    (GKi : FnOk P w K mg base CX0 4 fKi dKi ["_law_purse_here", "_law_many"] spKinds) (kKi : PySem.W.keepIn K (.ref fKi) = true) (gKi : mg "_law_kinds" = some (.ref fKi)) (bKi : Binds K dKi ["_law_purse_here", "_law_many"] [])
    (GLQ : FnOk P w K mg base CX0 7 fLQ dLQ ["_law_purse_here", "_law_kinds_here", "_law_names_here", "_law_most"] (spLawQ K CQ)) (kLQ : PySem.W.keepIn K (.ref fLQ) = true) (gLQ : mg "_law_question" = some (.ref fLQ)) (bLQ : Binds K dLQ ["_law_purse_here", "_law_kinds_here", "_law_names_here", "_law_most"] [])
    (GFe : FnOk P w K mg base CX0 6 fFe dFe ["_law_purse_here", "_law_told_here", "_law_kinds_here", "_law_names_here", "_law_most"] (spFed K)) (kFe : PySem.W.keepIn K (.ref fFe) = true) (gFe : mg "_law_fed_store" = some (.ref fFe)) (bFe : Binds K dFe ["_law_purse_here", "_law_told_here", "_law_kinds_here", "_law_names_here", "_law_most"] [])
    (GSt : FnOk P w K mg base CX0 5 fSt dSt ["_law_purse_here", "_law_kinds_here", "_law_names_here", "_law_most"] (spStore K)) (kSt : PySem.W.keepIn K (.ref fSt) = true) (gSt : mg "_law_store" = some (.ref fSt)) (bSt : Binds K dSt ["_law_purse_here", "_law_kinds_here", "_law_names_here", "_law_most"] [])
    (GSh : FnOk P w K mg base CX0 3 fSh dSh ["_law_purse_here", "_law_some"] (spShuffled K)) (kSh : PySem.W.keepIn K (.ref fSh) = true) (gSh : mg "_law_shuffled" = some (.ref fSh)) (bSh : Binds K dSh ["_law_purse_here", "_law_some"] [])
    (GDu : FnOk P w K mg base CX0 4 fDu dDu ["_law_question_here", "_law_store_here"] (spDue K CQ)) (kDu : PySem.W.keepIn K (.ref fDu) = true) (gDu : mg "_law_due" = some (.ref fDu)) (bDu : Binds K dDu ["_law_question_here", "_law_store_here"] [])
    (GVa : FnOk P w K mg base CX0 1 fVa dVa ["_law_told_here"] (spVariables K)) (kVa : PySem.W.keepIn K (.ref fVa) = true) (gVa : mg "_law_variables" = some (.ref fVa)) (bVa : Binds K dVa ["_law_told_here"] [])
    (GTy : FnOk P w K mg base CX0 8 fTy dTy [] spTyped) (kTy : PySem.W.keepIn K (.ref fTy) = true) (gTy : mg "_law_typed_right" = some (.ref fTy)) (bTy : Binds K dTy [] [])
    (GM : CallA P w K mg base "matches" 7 ["question", "store"] (spMatches CQ)) (GC : CallA P w K mg base "count_matches" 8 ["question", "store"] (spCount CQ)) (GVQ : CallA P w K mg base "variables" 4 ["question"] (spVarsQ CQ)) :
    RunG P w K mg base 11 f fd ["_law_script"] (spLaw K) := by
  obtain ⟨pt, gt, dt, PO, PF, PB⟩ := T.ex
  obtain ⟨pt2, gt2, dt2, PO2, PF2, PB2⟩ := T2.ex
  obtain ⟨pt3, gt3, dt3, PO3, PF3, PB3⟩ := T3.ex
  obtain ⟨fM, dM, GM, kM, gM, bM⟩ := GM.ex
  obtain ⟨fC, dC, GC, kC, gC, bC⟩ := GC.ex
  obtain ⟨fVQ, dVQ, GVQ, kVQ, gVQ, bVQ⟩ := GVQ.ex
  refine run_ofG (k := 10) F scLaw (fun vs H Q E h => ?_) (fun cdv A outer s0 H vs Q hg hr h => ?_)
  · obtain ⟨al, ns, rfl, _⟩ := h
    rfl
  · obtain ⟨al, ns, rfl, hal, hnl, q⟩ := h
    have hr1 : Room 1 _ := hr.mono (by decide)
    have hr2 : Room 2 _ := hr.mono (by decide)
    have hr3 : Room 3 _ := hr.mono (by decide)
    have hr4 : Room 4 _ := hr.mono (by decide)
    have hr5 : Room 5 _ := hr.mono (by decide)
    have hr6 : Room 6 _ := hr.mono (by decide)
    have hr7 : Room 7 _ := hr.mono (by decide)
    have hr8 : Room 8 _ := hr.mono (by decide)
    have hu : (A.deeper (envOfC "law" (defScope sLaw) s0.heap.objs.size f cdv)).units + 65 < cLine := by have := hr.un; omega
    have hu4 : (A.deeper (envOfC "law" (defScope sLaw) s0.heap.objs.size f cdv)).units + 64 < cLine := by have := hr.un; omega
    refine ⟨_, pss_cons (ps_if (pt_not (pt_val (by exact (pe_call0 GTy hr8 (by rfl) gTy kTy bTy .nil pass0)))) (pss_one (ps_ret pe_bl)) pss_nil)
      (pss_cons (ps_for PassesOwn.never rfl (pi_list (by exact (pe_call GPs hr2 (by rfl) gPs kPs bPs .nil pass0 (pa_cons (pv 0) (pa_cons pe_int pa_nil))))) (pg_name (i := 1) scLaw.nd rfl (Or.inl rfl))
        (pss_cons (ps_par (i := 2) (j := 3) (by rfl) scLaw.nd rfl rfl (by decide) rfl rfl (pa_cons (by exact (pe_call GKi hr4 (by rfl) gKi kKi bKi .nil pass0 (pa_cons (pv 1) (pa_cons pe_int pa_nil)))) (pa_cons (by exact (pe_call GNa hr4 (by rfl) gNa kNa bNa .nil pass0 (pa_cons (pv 1) (pa_cons pe_int pa_nil)))) pa_nil)) (by rfl))
        (pss_cons (ps_set (i := 4) scLaw.nd rfl (Or.inl rfl) (by exact (pe_call GLQ hr7 (by rfl) gLQ kLQ bLQ .nil pass0 (pa_cons (pv 1) (pa_cons (pv 2) (pa_cons (pv 3) (pa_cons pe_int pa_nil)))))))
        (pss_cons (ps_set (i := 5) scLaw.nd rfl (Or.inl rfl) (by exact (pe_call GFe hr6 (by rfl) gFe kFe bFe .nil pass0 (pa_cons (pv 1) (pa_cons (pe_prop (pv 4) R.cl PO PF hr2 PB .nil pass0 rfl) (pa_cons (pv 2) (pa_cons (pv 3) (pa_cons pe_int pa_nil))))))))
        (pss_cons (ps_par (i := 6) (j := 7) (by rfl) scLaw.nd rfl rfl (by decide) rfl rfl (pa_cons (by exact (pe_callB (call_repr hg sy hu4) (by rfl) rp (by decide +kernel) (pa_cons (pe_lst (pa_cons (pe_prop (pv 4) R.cl PO PF hr2 PB .nil pass0 rfl) (pa_cons (pe_prop (pv 4) R.cl PO2 PF2 hr2 PB2 .nil pass0 rfl) (pa_cons (pv 5) pa_nil)))) pa_nil))) (pa_cons (by exact (pe_call GDu hr4 (by rfl) gDu kDu bDu .nil pass0 (pa_cons (pv 4) (pa_cons (pv 5) pa_nil)))) pa_nil)) (by rfl))
        (pss_cons (ps_for PassesOwn.never rfl (pi_tup (pe_tup (pa_cons (pv 5) (pa_cons (pe_revL (pv 5)) (pa_cons (by exact (pe_call GSh hr3 (by rfl) gSh kSh bSh .nil pass0 (pa_cons (pv 1) (pa_cons (pv 5) pa_nil)))) pa_nil))))) (pg_name (i := 8) scLaw.nd rfl (Or.inl rfl))
          (pss_cons (ps_set (i := 9) scLaw.nd rfl (Or.inl rfl) (by exact (pe_call GM hr7 (by rfl) gM kM bM .nil pass0 (pa_cons (pv 4) (pa_cons (pv 8) pa_nil)))))
          (pss_cons (ps_if (PW.pt (pw_or (pt_cmpR op_ne (by exact (pe_callB (call_repr hg sy hu4) (by rfl) rp (by decide +kernel) (pa_cons (pv 9) pa_nil))) (by exact (pe_callB (call_repr hg sy hu4) (by rfl) rp (by decide +kernel) (pa_cons (pv 7) pa_nil))) (nomark _))
              (pw_or1 (pt_cmpR op_ne (by exact (pe_callB SkE.call_repr_int (by rfl) rp (by decide +kernel) (pa_cons (by exact (pe_call GC hr8 (by rfl) gC kC bC .nil pass0 (pa_cons (pv 4) (pa_cons (pv 8) pa_nil)))) pa_nil))) (by exact (pe_callB SkE.call_repr_int (by rfl) rp (by decide +kernel) (pa_cons (pe_callB call_len (by rfl) B2.len PySem.boot_len (pa_cons (pv 7) pa_nil)) pa_nil))) (nomark _))))) (pss_one (ps_ret pe_bl)) pss_nil)
          (pss_one (ps_expr (pe_bm PySem.F.plainAttrs_list PySem.F.slot_list_append PySem.F.type_list_append mt_append (pv 9) (pa_cons pe_str pa_nil)))))))
        (pss_cons (ps_set (i := 8) scLaw.nd rfl (Or.inl rfl) (pe_callTy call_list_of (by rfl) ml PyProof.Rows.boot_list (pa_cons (pv 5) pa_nil)))
        (pss_cons (ps_for PassesOwn.never rfl (pi_list (pe_op op_cat (by exact (pe_call GSt hr5 (by rfl) gSt kSt bSt .nil pass0 (pa_cons (pv 1) (pa_cons (pv 2) (pa_cons (pv 3) (pa_cons pe_int pa_nil)))))) (pe_slice sl_list (pv 5) po_none (po_some pe_int)))) (pg_name (i := 10) scLaw.nd rfl (Or.inl rfl))
          (pss_cons (ps_if (pt_cmpR (op_inD hu) (pv 10) (pv 8) (by rfl)) (pss_one (ps_expr (pe_bm PySem.F.plainAttrs_list PySem.F.slot_list_remove PySem.F.type_list_remove (mt_removeT hu4) (pv 8) (pa_cons (pv 10) pa_nil)))) (pss_one (ps_expr (pe_bm PySem.F.plainAttrs_list PySem.F.slot_list_insert PySem.F.type_list_insert mt_insert (pv 8) (pa_cons pe_int (pa_cons (pv 10) pa_nil))))))
          (pss_cons (ps_if (pt_cmpR op_ne (by exact (pe_callB (call_repr hg sy hu4) (by rfl) rp (by decide +kernel) (pa_cons (by exact (pe_call GM hr7 (by rfl) gM kM bM .nil pass0 (pa_cons (pv 4) (pa_cons (pv 8) pa_nil)))) pa_nil))) (by exact (pe_callB (call_repr hg sy hu4) (by rfl) rp (by decide +kernel) (pa_cons (by exact (pe_call GDu hr4 (by rfl) gDu kDu bDu .nil pass0 (pa_cons (pv 4) (pa_cons (pv 8) pa_nil)))) pa_nil))) (nomark _)) (pss_one (ps_ret pe_bl)) pss_nil)
          (pss_one (ps_if (pt_cmpR op_ne (by exact (pe_callB SkE.call_repr_int (by rfl) rp (by decide +kernel) (pa_cons (by exact (pe_call GC hr8 (by rfl) gC kC bC .nil pass0 (pa_cons (pv 4) (pa_cons (pv 8) pa_nil)))) pa_nil))) (by exact (pe_callB SkE.call_repr_int (by rfl) rp (by decide +kernel) (pa_cons (pe_callB call_len (by rfl) B2.len PySem.boot_len (pa_cons (by exact (pe_call GDu hr4 (by rfl) gDu kDu bDu .nil pass0 (pa_cons (pv 4) (pa_cons (pv 8) pa_nil)))) pa_nil)) pa_nil))) (nomark _)) (pss_one (ps_ret pe_bl)) pss_nil)))))
        (pss_cons (ps_set (i := 11) scLaw.nd rfl (Or.inl rfl) (by exact (pe_call GVQ hr4 (by rfl) gVQ kVQ bVQ .nil pass0 (pa_cons (pv 4) pa_nil))))
        (pss_cons (ps_if (PW.pt (pw_or (pt_cmpR op_ne (by exact (pe_callB (call_repr hg sy hu4) (by rfl) rp (by decide +kernel) (pa_cons (pv 11) pa_nil))) (by exact (pe_callB (call_repr hg sy hu4) (by rfl) rp (by decide +kernel) (pa_cons (by exact (pe_call GVa hr1 (by rfl) gVa kVa bVa .nil pass0 (pa_cons (pe_prop (pv 4) R.cl PO PF hr2 PB .nil pass0 rfl) pa_nil))) pa_nil))) (nomark _))
            (pw_or1 (pt_cmpR (op_neD hu4) (by exact (pe_call GM hr7 (by rfl) gM kM bM .nil pass0 (pa_cons (pv 4) (pa_cons (pe_lst pa_nil) pa_nil)))) (pe_slice sl_list (pe_lst (pa_cons (pe_tup pa_nil) pa_nil)) po_none (po_some (pe_callTy call_int1 (by rfl) B.int boot_int (pa_cons (pe_cmpR (op_eqD hu4) (pe_prop (pv 4) R.cl PO PF hr2 PB .nil pass0 rfl) (pe_lst pa_nil) (nomark _)) pa_nil)))) (nomark _))))) (pss_one (ps_ret pe_bl)) pss_nil)
        (pss_cons (ps_expr (pe_bm PySem.F.plainAttrs_list PySem.F.slot_list_append PySem.F.type_list_append mt_append (pv 11) (pa_cons pe_str pa_nil)))
        (pss_cons (ps_if (pt_cmpR op_ne (by exact (pe_callB (call_repr hg sy hu4) (by rfl) rp (by decide +kernel) (pa_cons (pe_lst (pa_cons (by exact (pe_call GVQ hr4 (by rfl) gVQ kVQ bVQ .nil pass0 (pa_cons (pv 4) pa_nil))) (pa_cons (pe_cmpR (op_eqD hu4) (pe_prop (pv 4) R.cl PO3 PF3 hr2 PB3 .nil pass0 rfl) (pv 11) (nomark _)) pa_nil))) pa_nil))) (by exact (pe_callB (call_repr hg sy hu4) (by rfl) rp (by decide +kernel) (pa_cons (pe_lst (pa_cons (by exact (pe_call GVa hr1 (by rfl) gVa kVa bVa .nil pass0 (pa_cons (pe_prop (pv 4) R.cl PO PF hr2 PB .nil pass0 rfl) pa_nil))) (pa_cons pe_bl pa_nil))) pa_nil))) (nomark _)) (pss_one (ps_ret pe_bl)) pss_nil)
        (pss_one (ps_if (pt_cmpR op_ne (by exact (pe_callB (call_repr hg sy hu4) (by rfl) rp (by decide +kernel) (pa_cons (pe_lst (pa_cons (pe_prop (pv 4) R.cl PO PF hr2 PB .nil pass0 rfl) (pa_cons (pe_prop (pv 4) R.cl PO2 PF2 hr2 PB2 .nil pass0 rfl) (pa_cons (pv 5) pa_nil)))) pa_nil))) (pv 6) (nomark _)) (pss_one (ps_ret pe_bl)) pss_nil))))))))))))))
      (pss_one (ps_ret pe_bl))), ?_⟩
    refine ⟨rfl, fun H1 s1 => ⟨_, rfl, iteF ?_⟩⟩
    show tSeq _ _ _ _ _
    refine ⟨_, rfl, ?_⟩
    dsimp only [tNil]
    refine ⟨al, ns, 4, rfl, s1.seq hal, by omega, by decide, fun p bs H2 nd few hbs np ep sp => ⟨p, rfl, ⟨_, SqL.of ep⟩, ?_⟩⟩
    refine for_list (D := { nx := tRet (tC (V.bl true)) { nx := fun x H' => Q V.non H', rt := Q }, rt := Q }) (K := K) (a := p) (xs := bs.map V.ref)
      (fun i σ G => ∃ o1 o2 o3 o4 o5 o6 o7 o8 o9 oa ob : Option V, σ = [some (.ref al), o1, o2, o3, o4, o5, o6, o7, o8, o9, oa, ob] ∧ G p = some (.lst (bs.map V.ref)) ∧ ∀ j b, i ≤ j → bs[j]? = some b → Pu G b 1099511627776)
      ⟨none, none, none, none, none, none, none, none, none, none, none, rfl, ep, fun j b _ h => (hbs b (List.mem_of_getElem? h)).1⟩ (fun i σ G _ z => ?_) ?_ ?_
    · obtain ⟨_, _, _, _, _, _, _, _, _, _, _, _, e, _⟩ := z
      exact SqL.of e
    · rintro i v σ H0 hi ⟨o1, o2, o3, o4, o5, o6, o7, o8, o9, oa, ob, rfl, ep0, hpu⟩
      obtain ⟨a, hai, rfl⟩ := at_ref hi
      have pu0 := hpu i a (Nat.le_refl _) hai
      have pa : p ≠ a := lst_ne pu0 (fun _ _ _ _ => refs_no_int hai) ep0
      have hE : ∀ G', Sb a H0 G' → G' p = some (.lst (bs.map V.ref)) ∧ ∀ j b, i + 1 ≤ j → bs[j]? = some b → Pu G' b 1099511627776 := fun G' s => ⟨s _ _ pa ep0, fun j b hj hb => (hpu j b (by omega) hb).other (fun z => by
        rw [z] at hb
        obtain ⟨h1, e1⟩ := List.getElem?_eq_some_iff.mp hb
        obtain ⟨h2, e2⟩ := List.getElem?_eq_some_iff.mp hai
        exact List.pairwise_iff_getElem.mp nd i j h2 h1 (by omega) (e2.trans e1.symm)) s⟩
      show tSeq _ _ _ _ _
      refine ⟨_, rfl, ?_⟩
      dsimp only [tNil]
      refine ⟨a, 1000000, 3, rfl, pu0.le (by omega), by decide, fun pk ks H2 kl kd npk pu1 sb1 ek => ?_⟩
      have pka : pk ≠ a := pu0.ne npk
      refine ⟨_, rfl, ?_⟩
      dsimp only [tNil]
      refine ⟨a, 900000, 3, rfl, pu1.le (by omega), by decide, fun pn zs H3 zl zn znd npn pu2 sb2 en => ?_⟩
      have pna : pn ≠ a := pu1.ne npn
      have ek3 := sb2 _ _ pka ek
      have kd3 : ∀ v ∈ ks, Kd H3 v := fun v hv => (kd v hv).sb pu1 sb2
      have sb03 := sb1.trans sb2
      refine ⟨_, _, rfl, ?_⟩
      show tSeq _ _ _ _ _
      refine ⟨_, rfl, _, rfl, _, rfl, ?_⟩
      dsimp only [tNil]
      refine ⟨a, pk, pn, 800000, 4, ks, zs, rfl, pu2.le (by omega), by decide, ⟨SqL.of ek3, pka, by omega, by omega, kd3⟩, ⟨SqL.of en, pna, by omega, zn⟩, fun r x H4 ok v4 ⟨clo, prs⟩ pl ql qa pu3 sb3 => ?_⟩
      have ek4 := sb3 _ _ pka ek3
      have en4 := sb3 _ _ pna en
      have kd4 : ∀ v ∈ ks, Kd H4 v := fun v hv => (kd3 v hv).sb pu2 sb3
      obtain ⟨dx, l1, l2, l3, u2, u3, nn, e, e1, ⟨e2, p2⟩, e3, p3⟩ := id qa
      show tSeq _ _ _ _ _
      refine ⟨_, rfl, _, rfl, r, dx, _, rfl, e, r, dx, l2, _, u2, rfl, e, qk2, e2, fun ta nta => ?_⟩
      have st4 : Same H4 (upd H4 ta (.lst u2)) := same_new nta
      have eta : upd H4 ta (.lst u2) ta = some (.lst u2) := upd_same
      have taa : ta ≠ a := pu3.ne nta
      generalize upd H4 ta (.lst u2) = H4' at st4 eta ⊢
      refine ⟨_, rfl, _, rfl, ?_⟩
      dsimp only [tNil]
      have ptl : x.ps.length ≤ 4 := pl
      refine ⟨a, ta, pk, pn, 700000, 4, u2, ks, x.ps, zs, rfl, (pu3.same st4).le (by omega), ⟨by decide, by decide⟩, ⟨eta, taa, (p2.same st4).pal, ok.ps, ptl⟩, ⟨st4 _ _ ek4, pka, by omega, by omega, fun v hv => (kd4 v hv).sb pu3 (Sb.of st4)⟩, ⟨st4 _ _ en4, pna, by omega, by omega, zn⟩, fun b us ps H5 st5 len5 nb5 ba pu5 sb45 => ?_⟩
      have sb4 : Sb a H4 H5 := (Sb.of st4).trans sb45
      have qa5 := qa.sb pu2 pu3 sb4
      have sb05 := sb03.trans (sb3.trans sb4)
      have ek5 := sb4 _ _ pka ek4
      have en5 := sb4 _ _ pna en4
      have kd5 : ∀ v ∈ ks, Kd H5 v := fun v hv => (kd4 v hv).sb pu3 sb4
      have len5 : ps.length ≤ 12 := len5
      have vl := vr4_len ok v4
      have nbH4 := sb45
      clear nbH4 e e1 e2 p2 e3 p3 eta ek4 en4 kd4 qa sb3 sb4 ek3 kd3 en ek kd sb1 sb2 sb03 pu1 nn
      obtain ⟨dx, l1, l2, l3, u2, u3, ⟨n0, n1, n2, n3⟩, e, e1, ⟨e2, p2⟩, e3, p3⟩ := id qa5
      have hq : ∀ {G : Hp}, Sb a H5 G → G r = some (.ins CQ dx (qF l1 l2 l3)) ∧ G l1 = some (.lst (x.cs.map V.str)) ∧ (G l2 = some (.lst u2) ∧ PaX G u2 x.ps) ∧ G l3 = some (.lst u3) ∧ PaL G u3 x.qs := fun s => ⟨s _ _ (pu2.ne n0) e, s _ _ (pu2.ne n1) e1, ⟨s _ _ (pu2.ne n2) e2, p2.sb pu5 s⟩, s _ _ (pu2.ne n3) e3, p3.sb pu5 s⟩
      have qaG : ∀ {G : Hp}, Sb a H5 G → QA CQ G r x := fun s => by
        obtain ⟨f, f1, f2, f3, f4⟩ := hq s
        exact ⟨dx, l1, l2, l3, u2, u3, f, f1, ⟨f2.1, f2.2⟩, f3, f4⟩
      have stG : ∀ {G : Hp}, Sb a H5 G → StoreAt G b us ps := fun s => st5.sb ba pu5 s
      have pw : ∀ k, k ≤ 17 → k ^ x.ps.length ≤ 100000 := fun k hk => Nat.le_trans (Nat.pow_le_pow_left hk _) (Nat.le_trans (Nat.pow_le_pow_right (by decide) ptl) (by decide))
      clear e e1 e2 p2 e3 p3 st5
      have shS : ∀ {G : Hp} {L a1 a2 : Addr}, Sb a H5 G → G L = some (.lst [.ref a1, .ref a2, .ref b]) → G a1 = some (.lst u2) → G a2 = some (.lst u3) → Rdd P w K G (.ref L) (.list [dL x.ps, dL x.qs, dL ps]) := fun {G L a1 a2} sb eL f1 f2 => by
        obtain ⟨_, _, ⟨_, g2⟩, _, g3⟩ := hq sb
        exact rdd_lst eL (rddAll_cons (rdd_L f1 g2.pal) (rddAll_cons (rdd_L f2 g3) (rddAll_cons (rdd_L (stG sb).at_ (stG sb).pal) rddAll_nil)))
      have ftS : (PyData.list [dL x.ps, dL x.qs, dL ps]).showable = true ∧ (PyData.list [dL x.ps, dL x.qs, dL ps]).shown.length ≤ sizeLine ∧ (PyData.list [dL x.ps, dL x.qs, dL ps]).depth ≤ 60 := by
        have st := stG (Sb.of (Same.refl H5))
        refine Shw.fits (k := 3) (n := 700000) (shw_list (k := 2) (m := 126302) (fun d hd => ?_) (by show 2 + 3 * 126304 ≤ 700000; decide)) (by decide) (by decide)
        simp only [List.mem_cons, List.not_mem_nil, or_false] at hd
        rcases hd with rfl | rfl | rfl
        · exact shw_L ok.pl fun p hp => (ok.ps p hp).shz
        · exact shw_L ok.ql fun p hp => (ok.qs p hp).shz
        · exact shw_L (by omega) fun p hp => ⟨(st.ok p hp).1.2, fun y hy => ((st.ok p hp).2 y hy).shz⟩
      show tSeq _ _ _ _ _
      obtain ⟨e, e1, ⟨e2, p2⟩, e3, p3⟩ := hq (Sb.of (Same.refl H5))
      refine ⟨_, rfl, r, dx, _, rfl, e, r, dx, l2, _, u2, rfl, e, qk2, e2, fun a1 na1 => ?_⟩
      have t1 : Same H5 (upd H5 a1 (.lst u2)) := same_new na1
      have ea1 : upd H5 a1 (.lst u2) a1 = some (.lst u2) := upd_same
      generalize upd H5 a1 (.lst u2) = G1 at t1 ea1 ⊢
      refine ⟨_, rfl, r, dx, _, rfl, t1 _ _ e, r, dx, l3, _, u3, rfl, t1 _ _ e, qk3, t1 _ _ e3, fun a2 na2 => ?_⟩
      have t2 : Same G1 (upd G1 a2 (.lst u3)) := same_new na2
      have ea2 : upd G1 a2 (.lst u3) a2 = some (.lst u3) := upd_same
      have ea1 := t2 _ _ ea1
      generalize upd G1 a2 (.lst u3) = G2 at t2 ea1 ea2 ⊢
      refine ⟨_, rfl, by show 3 ≤ _; decide, fun L nL => ?_⟩
      have t3 : Same G2 (upd G2 L (.lst [.ref a1, .ref a2, .ref b])) := same_new nL
      have eL : upd G2 L (.lst [.ref a1, .ref a2, .ref b]) L = some (.lst [.ref a1, .ref a2, .ref b]) := upd_same
      have ea1 := t3 _ _ ea1
      have ea2 := t3 _ _ ea2
      have t13 := (t1.trans t2).trans t3
      generalize upd G2 L (.lst [.ref a1, .ref a2, .ref b]) = G3 at t13 ea1 ea2 eL ⊢
      refine ⟨L, _, rfl, shS (Sb.of t13) eL ea1 ea2, ftS.1, ftS.2.1, ftS.2.2, ?_⟩
      clear ea1 ea2 eL t1 t2 t3 e e1 e2 p2 e3 p3
      generalize hT0 : (PyData.list [dL x.ps, dL x.qs, dL ps]).shown = T0
      refine ⟨_, rfl, _, rfl, ?_⟩
      dsimp only [tNil]
      refine ⟨r, b, x, us, ps, rfl, ⟨qaG (Sb.of t13), ok, v4, ptl, by omega⟩, stG (Sb.of t13), by omega, fun d H6 ud l nd6 s6 ed hd due => ?_⟩
      have s56 := t13.trans s6
      have sb6 : Sb a H5 H6 := Sb.of s56
      have pu6 := pu5.same s56
      have da : d ≠ a := (pu5.same t13).ne nd6
      clear t13 s6 nd6
      refine ⟨_, _, rfl, ?_⟩
      have dn := due_nm ok v4 (stG sb6).ok due
      have key : ∀ {G : Hp} {bl : Addr} {ws : List V} {qs zz l' : List (List Str)} {zs2 : List Str}, StoreAt G bl ws qs → qs.length ≤ 17 → IsDue x qs l' → NamesOf (tails x.ps ++ x.qs.flatten) zs2 → sortT (metF zs2 x.ps x.qs qs) = sortT l' ∧ l'.length ≤ 100000 := fun {G bl ws qs zz l' zs2} st hl h hz => by
        have e := matches_due ok prs st.ok st.nd hz h
        exact ⟨e, Nat.le_trans (due_len (Nat.le_refl _) e) (pw _ hl)⟩
      have fitR : ∀ {qs l' : List (List Str)}, (∀ f ∈ qs, FactOk f) → IsDue x qs l' → l'.length ≤ 100000 → (dL (sortT l')).showable = true ∧ (dL (sortT l')).shown.length ≤ sizeLine ∧ (dL (sortT l')).depth ≤ 60 := fun {qs l'} fo h hl =>
        (shw_rows (by rw [len_sortT]; exact hl) fun p hp => due_nm ok v4 fo h p (mem_sortT.mp hp)).fits2 (by decide) (by decide)
      show tSeq (tFor _ _ _) _ _ _ _
      refine seqD fun D' hD hD2 => ?_
      refine ⟨_, rfl, _, rfl, b, us, rfl, SqL.of (stG sb6).at_, fun b1 nb1 => ?_⟩
      have t1 : Same H6 (upd H6 b1 (.lst us.reverse)) := same_new nb1
      have eb1 : upd H6 b1 (.lst us.reverse) b1 = some (.lst us.reverse) := upd_same
      have pu7 := pu6.same t1
      have b1a := pu6.ne nb1
      generalize upd H6 b1 (.lst us.reverse) = G1 at t1 eb1 pu7 ⊢
      have sb7 := sb6.trans (Sb.of t1)
      have usl : us.length ≤ 12 := by rw [(stG sb6).pal.len]; exact len5
      refine ⟨_, rfl, _, rfl, ?_⟩
      dsimp only [tNil]
      refine ⟨a, b, 600000, us, rfl, pu7.le (by omega), SqL.of (stG sb7).at_, ba, by omega, fun b2 ys G2 hperm nb2 pu8 sb78 eb2 => ?_⟩
      have sb8 := sb7.trans sb78
      have b2a : b2 ≠ a := pu7.ne nb2
      refine ⟨by show 3 ≤ _; decide, fun tt ntt => ?_⟩
      have t3 : Same G2 (upd G2 tt (.tup [.ref b, .ref b1, .ref b2])) := same_new ntt
      have ett : upd G2 tt (.tup [.ref b, .ref b1, .ref b2]) tt = some (.tup [.ref b, .ref b1, .ref b2]) := upd_same
      have pu9 := pu8.same t3
      have sb9 := sb8.trans (Sb.of t3)
      have eb19 := t3 _ _ (sb78 _ _ b1a eb1)
      have eb29 := t3 _ _ eb2
      have ed9 := t3 _ _ (sb78 _ _ da (t1 _ _ ed))
      have hd9 := (((hd.same t1).sb pu7 sb78).same t3)
      generalize upd G2 tt (.tup [.ref b, .ref b1, .ref b2]) = G3 at t3 ett pu9 sb9 eb19 eb29 ed9 hd9 ⊢
      clear t3 eb2 nb2 ntt
      have hlist : ∀ (i : Nat) (v : V), [V.ref b, V.ref b1, V.ref b2][i]? = some v → ∃ (bl : Addr) (ws : List V) (qs : List (List Str)), v = .ref bl ∧ StoreAt G3 bl ws qs ∧ qs.Perm ps := fun i v hi => by
        match i, hi with
        | 0, hi => exact ⟨b, us, ps, (Option.some.inj hi).symm, stG sb9, List.Perm.refl _⟩
        | 1, hi =>
          obtain ⟨qs, h1, h2⟩ := (stG sb9).perm eb19 (List.reverse_perm us)
          exact ⟨b1, _, qs, (Option.some.inj hi).symm, h1, h2⟩
        | 2, hi =>
          obtain ⟨qs, h1, h2⟩ := (stG sb9).perm eb29 hperm
          exact ⟨b2, _, qs, (Option.some.inj hi).symm, h1, h2⟩
      refine ⟨tt, rfl, ⟨_, SqT.of ett⟩, for_tup (K := K) (a := tt) (xs := [.ref b, .ref b1, .ref b2]) (fun i σ G => ∃ o8 o9 : Option V, σ = [some (.ref al), some (.ref a), some (.ref pk), some (.ref pn), some (.ref r), some (.ref b), some (.str T0), some (.ref d), o8, o9, oa, ob] ∧ Same G3 G) ⟨o8, o9, rfl, Same.refl _⟩ (fun i σ G _ y => ?_) ?_ ?_⟩
      · obtain ⟨_, _, _, sm⟩ := y
        exact SqT.of (sm _ _ ett)
      · rintro i v σ G hi ⟨o8, o9, rfl, sm⟩
        obtain ⟨bl, ws, qs, rfl, st, hperm⟩ := hlist i v hi
        have sbG := sb9.trans (Sb.of sm)
        have ql17 : qs.length ≤ 17 := by rw [hperm.length_eq]; omega
        have due' := due.of (ps' := qs) fun y => hperm.mem_iff
        show tSeq _ _ _ _ _
        refine ⟨_, rfl, _, rfl, ?_⟩
        dsimp only [tNil]
        refine ⟨r, bl, x, ws, qs, 17, rfl, ⟨qaG sbG, ok, by omega, by omega⟩, st.same sm, ⟨ql17, by decide, by decide, pw _ (Nat.le_refl _)⟩, fun m G4 um zs4 nm s4 em hm hz => ?_⟩
        obtain ⟨ek, hl⟩ := key (zz := []) st ql17 due' hz
        rw [ek] at hm
        have fr := fitR (stG sb9).ok due hl
        have ed4 := s4 _ _ (sm _ _ ed9)
        have hd4 := (hd9.same sm).same s4
        show tSeq _ _ _ _ _
        refine ⟨_, rfl, m, _, rfl, rdd_L em hm, fr.1, fr.2.1, fr.2.2, ?_⟩
        refine ⟨_, rfl, d, _, rfl, rdd_L ed4 hd4, fr.1, fr.2.1, fr.2.2, rfl, _, rfl, ?_⟩
        rw [ne_same]
        refine iteF ?_
        refine ⟨_, rfl, _, rfl, ?_⟩
        dsimp only [tNil]
        refine ⟨r, bl, x, ws, qs, 17, rfl, ⟨qaG (sbG.trans (Sb.of s4)), ok, by omega, by omega⟩, (st.same sm).same s4, ⟨ql17, by decide, by decide, pw _ (Nat.le_refl _)⟩, fun G5 zs5 s5 hz5 => ?_⟩
        rw [(key (zz := []) st ql17 due' hz5).1]
        have lg := int_log (n := (sortT l).length) (by rw [len_sortT]; omega)
        refine ⟨_, rfl, lg, ?_⟩
        refine ⟨_, rfl, ?_⟩
        dsimp only [tNil]
        refine ⟨_, _, rfl, .inl ⟨_, SqL.of (s5 _ _ ed4), rfl⟩, ?_⟩
        refine ⟨_, rfl, by rw [hd4.len]; exact lg, ?_⟩
        rw [hd4.len]
        refine ⟨rfl, _, rfl, ?_⟩
        rw [ne_same]
        refine iteF ?_
        have em5 := s5 _ _ em
        refine ⟨_, rfl, .inl ⟨rfl, _, SqL.of em5⟩, m, _, _, rfl, rfl, em5, ?_, ?_⟩
        · rw [hm.len, len_sortT]
          exact Nat.lt_of_le_of_lt hl (by decide)
        · exact ⟨_, _, rfl, same_put (sm.trans (s4.trans s5)) (sm.free nm)⟩
      rintro σ G ⟨o8, o9, rfl, sm⟩
      rw [hD]
      have sbG := sb9.trans (Sb.of sm)
      have puG := pu9.same sm
      clear hlist sm ed9 hd9 eb19 eb29 ett pu9 sb9 hperm b2a b1a eb1 sb7 sb8 pu7 pu8 sb78 t1 nb1
      have usl : us.length = ps.length := (stG sbG).pal.len
      show tSeq _ _ _ _ _
      refine ⟨_, rfl, b, us, rfl, .inl (SqL.of (stG sbG).at_), fun l8 nl8 => ?_⟩
      have t1 : Same G (upd G l8 (.lst us)) := same_new nl8
      have el8 : upd G l8 (.lst us) l8 = some (.lst us) := upd_same
      have pu1' := puG.same t1
      have l8a : l8 ≠ a := puG.ne nl8
      generalize upd G l8 (.lst us) = G1 at t1 el8 pu1' ⊢
      have sb1' := sbG.trans (Sb.of t1)
      have sbG1 : Sb a G G1 := Sb.of t1
      refine nameD ?_
      dsimp only
      refine seqD fun D' hD hD2 => ?_
      refine ⟨_, rfl, _, rfl, _, rfl, ?_⟩
      dsimp only [tNil]
      refine ⟨a, pk, pn, 500000, 2, ks, zs, rfl, pu1'.le (by omega), ⟨by decide, by decide⟩, ⟨sb1' _ _ pka ek5, pka, by omega, by omega, fun v hv => (kd5 v hv).sb pu5 sb1'⟩, ⟨sb1' _ _ pna en5, pna, by omega, by omega, zn⟩, fun b3 us3 ps3 G2 st3 len3 nb3 b3a pu2' sb12 => ?_⟩
      have sb2' := sb1'.trans sb12
      have sbG2 := sbG1.trans sb12
      have el8 := sb12 _ _ l8a el8
      refine ⟨_, rfl, 1, rfl, b, us, rfl, SqL.of (stG sb2').at_, fun p1 np1 => ?_⟩
      rw [cutA']
      have t3 : Same G2 (upd G2 p1 (.lst (us.take 1))) := same_new np1
      have ep1 : upd G2 p1 (.lst (us.take 1)) p1 = some (.lst (us.take 1)) := upd_same
      generalize upd G2 p1 (.lst (us.take 1)) = G3' at t3 ep1 ⊢
      have st3' := st3.same t3
      refine ⟨_, _, _, _, rfl, rfl, st3'.at_, ep1, ?_, fun cc ncc => ?_⟩
      · rw [st3.pal.len, List.length_take]
        exact Nat.le_trans (by omega : _ ≤ 1000) (by decide)
      have t4 : Same G3' (upd G3' cc (.lst (us3 ++ us.take 1))) := same_new ncc
      have ecc : upd G3' cc (.lst (us3 ++ us.take 1)) cc = some (.lst (us3 ++ us.take 1)) := upd_same
      have t34 := t3.trans t4
      have sb4' := sb2'.trans (Sb.of t34)
      have sbG4 := sbG2.trans (Sb.of t34)
      have pu4' := pu2'.same t34
      have cc8 : cc ≠ l8 := fun z => by rw [z, t3 _ _ el8] at ncc; cases ncc
      have el8 := t34 _ _ el8
      have hcc : PaL (upd G3' cc (.lst (us3 ++ us.take 1))) (us3 ++ us.take 1) (ps3 ++ ps.take 1) := ((st3.pal.same t34).app (by
        have h := (stG sb4').pal
        have := len5
        cases h with
        | nil => exact .nil
        | mk e1 _ => exact .mk e1 .nil))
      have okc : ∀ f ∈ ps3 ++ ps.take 1, FactOk f := fun f hf => by
        rcases List.mem_append.mp hf with hf | hf
        · exact st3.ok f hf
        · exact (stG sb4').ok f (List.mem_of_mem_take hf)
      have lcc : (ps3 ++ ps.take 1).length ≤ 3 := by
        rw [List.length_append, List.length_take]
        omega
      have lcu : (us3 ++ us.take 1).length = (ps3 ++ ps.take 1).length := hcc.len
      generalize upd G3' cc (.lst (us3 ++ us.take 1)) = G4 at ecc sb4' sbG4 pu4' el8 hcc ⊢
      generalize us3 ++ us.take 1 = uc at ecc hcc lcu
      generalize ps3 ++ ps.take 1 = fs at hcc okc lcc lcu
      clear t1 t3 t4 t34 ep1 st3 st3' pu2' sb12 sb1' sbG1 sb2' sbG2 nb3 ncc np1
      refine ⟨cc, rfl, ⟨_, SqL.of ecc⟩, for_list (K := K) (a := cc) (xs := uc) (fun i σ G' => ∃ (oa : Option V) (us8 : List V) (ps8 : List (List Str)), σ = [some (.ref al), some (.ref a), some (.ref pk), some (.ref pn), some (.ref r), some (.ref b), some (.str T0), some (.ref d), some (.ref l8), o9, oa, ob] ∧ Sb a G G' ∧ Pu G' a 500000 ∧ G' l8 = some (.lst us8) ∧ PaL G' us8 ps8 ∧ (∀ f ∈ ps8, FactOk f) ∧ ps8.Nodup ∧ ps8.length ≤ 12 + i ∧ G' cc = some (.lst uc) ∧ PaL G' uc fs) ⟨oa, us, ps, rfl, sbG4, pu4', el8, (stG sb4').pal, (stG sb4').ok, (stG sb4').nd, len5, ecc, hcc⟩ (fun i σ G' _ y => ?_) ?_ ?_⟩
      · obtain ⟨_, _, _, _, _, _, _, _, _, _, _, e, _⟩ := y
        exact SqL.of e
      · rintro i v σ G5 hi ⟨oa, us8, ps8, rfl, sb5', pu5', e8, h8, ok8, nd8, len8, ec5, hc5⟩
        obtain ⟨t, f, rfl, hfi, et⟩ := hc5.at_ hi
        have il := (List.getElem?_eq_some_iff.mp hfi).1
        have fok := okc f (List.mem_of_getElem? hfi)
        show tSeq _ _ _ _ _
        apply bothH (I := fun G6 => ∃ (us9 : List V) (ps9 : List (List Str)), Sb a G G6 ∧ Pu G6 a 500000 ∧ G6 l8 = some (.lst us9) ∧ PaL G6 us9 ps9 ∧ (∀ f ∈ ps9, FactOk f) ∧ ps9.Nodup ∧ ps9.length ≤ 12 + (i + 1) ∧ G6 cc = some (.lst uc) ∧ PaL G6 uc fs)
        · intro rest
          refine ⟨_, rfl, _, rfl, dT f, ps8.map dT, dp_T et, dp_L (SqL.of e8) h8, (lay_dT fun z hz => (fok.2 z hz).asc).shaped (by decide), (lay_dL fun y hy z hz => ((ok8 y hy).2 z hz).asc).shaped (by decide), _, rfl, ?_⟩
          rw [any_dT]
          by_cases hin : f ∈ ps8
          · rw [decide_eq_true hin]
            obtain ⟨j, hj, _⟩ := place_T hin
            refine iteT ⟨_, rfl, .inl ⟨rfl, _, SqL.of e8⟩, _, rfl, l8, t, us8, ps8, f, j, rfl, rfl, e8, h8, et, hj, ?_⟩
            refine rest _ ⟨us8.eraseIdx j, ps8.eraseIdx j, sb5'.put nl8, pu5'.put l8a, upd_same, (h8.over e8).erase j, fun y hy => ok8 y (List.mem_of_mem_eraseIdx hy), nd8.sublist (List.eraseIdx_sublist ps8 j), ?_, ?_, hc5.over e8⟩
            · have := List.length_eraseIdx_le ps8 j
              omega
            · rw [upd_ne cc8]
              exact ec5
          · rw [decide_eq_false hin]
            refine iteF ⟨_, rfl, .inl ⟨rfl, _, SqL.of e8⟩, _, rfl, l8, us8, 0, .ref t, rfl, rfl, e8, ?_, by decide, by decide, ?_⟩
            · rw [h8.len]
              exact Nat.lt_of_le_of_lt (by omega : _ ≤ 1000) (by decide)
            · refine rest _ ⟨.ref t :: us8, f :: ps8, sb5'.put nl8, pu5'.put l8a, ?_, (PaL.mk et h8).over e8, fun y hy => ?_, List.nodup_cons.mpr ⟨hin, nd8⟩, by rw [List.length_cons]; omega, ?_, hc5.over e8⟩
              · rw [upd_same]
                rfl
              · rcases List.mem_cons.mp hy with rfl | hy
                · exact fok
                · exact ok8 y hy
              · rw [upd_ne cc8]
                exact ec5
        · rintro G6 ⟨us9, ps9, sb6', pu6', e9, h9, ok9, nd9, len9, ec6, hc6⟩
          have l17 : ps9.length ≤ 17 := by omega
          have st9 : StoreAt G6 l8 us9 ps9 := ⟨e9, h9, ok9, nd9, by omega⟩
          have sbA := sbG.trans sb6'
          refine ⟨_, rfl, _, rfl, ?_⟩
          dsimp only [tNil]
          refine ⟨r, l8, x, us9, ps9, 17, rfl, ⟨qaG sbA, ok, by omega, by omega⟩, st9, ⟨l17, by decide, by decide, pw _ (Nat.le_refl _)⟩, fun m G7 um zs7 nm s7 em hm hz => ?_⟩
          have md := metF_due ok prs ok9 nd9 hz
          have hlm := (key (zz := []) st9 l17 md hz).2
          have fr := fitR ok9 md hlm
          refine ⟨m, _, rfl, rdd_L em hm, fr.1, fr.2.1, fr.2.2, ?_⟩
          refine ⟨_, rfl, _, rfl, ?_⟩
          dsimp only [tNil]
          refine ⟨r, l8, x, us9, ps9, rfl, ⟨qaG (sbA.trans (Sb.of s7)), ok, v4, ptl, by omega⟩, st9.same s7, by omega, fun d2 G8 ud2 l2' nd2 s8 ed2 hd2 due2 => ?_⟩
          rw [← (key (zz := []) st9 l17 due2 hz).1] at hd2
          refine ⟨d2, _, rfl, rdd_L ed2 hd2, fr.1, fr.2.1, fr.2.2, rfl, _, rfl, ?_⟩
          rw [ne_same]
          refine iteF ?_
          have s68 := s7.trans s8
          clear hm em hd2 ed2 due2 fr md hlm
          refine ⟨_, rfl, _, rfl, ?_⟩
          dsimp only [tNil]
          refine ⟨r, l8, x, us9, ps9, 17, rfl, ⟨qaG (sbA.trans (Sb.of s68)), ok, by omega, by omega⟩, st9.same s68, ⟨l17, by decide, by decide, pw _ (Nat.le_refl _)⟩, fun G9 zs9 s9 hz9 => ?_⟩
          have md := metF_due ok prs ok9 nd9 hz9
          have hlm := (key (zz := []) st9 l17 md hz9).2
          have lg := int_log (n := (sortT (metF zs9 x.ps x.qs ps9)).length) (by rw [len_sortT]; omega)
          refine ⟨_, rfl, lg, ?_⟩
          have s69 := s68.trans s9
          refine ⟨_, rfl, _, rfl, ?_⟩
          dsimp only [tNil]
          refine ⟨r, l8, x, us9, ps9, rfl, ⟨qaG (sbA.trans (Sb.of s69)), ok, v4, ptl, by omega⟩, st9.same s69, by omega, fun d3 Ga ud3 l3' nd3 sa ed3 hd3 due3 => ?_⟩
          rw [← (key (zz := []) st9 l17 due3 hz9).1] at hd3
          refine ⟨_, _, rfl, .inl ⟨_, SqL.of ed3, rfl⟩, ?_⟩
          refine ⟨_, rfl, by rw [hd3.len]; exact lg, ?_⟩
          rw [hd3.len]
          refine ⟨rfl, _, rfl, ?_⟩
          rw [ne_same]
          have s6a := s69.trans sa
          exact iteF ⟨_, us9, ps9, rfl, sb6'.trans (Sb.of s6a), pu6'.same s6a, s6a _ _ e9, h9.same s6a, ok9, nd9, len9, s6a _ _ ec6, hc6.same s6a⟩
      rintro σ G5 ⟨oa, us8, ps8, rfl, sb5', pu5', _⟩
      rw [hD]
      have sbF := sbG.trans sb5'
      generalize hvs : varsIn (tails x.ps) = vs at vl
      have vv : ∀ y ∈ vs, IsVr y := fun y hy => by rw [← hvs] at hy; exact (varsIn_mem.mp hy).2
      have fv : (dS vs).showable = true ∧ (dS vs).shown.length ≤ sizeLine ∧ (dS vs).depth ≤ 60 := (shw_S (by omega) fun y hy => (vv y hy).shz).fits (by decide) (by decide)
      show tSeq _ _ _ _ _
      refine ⟨_, rfl, ?_⟩
      dsimp only [tNil]
      refine ⟨r, x, rfl, qaG sbF, ok, fun rw_ G6 nrw s6 erw => ?_⟩
      rw [hvs] at erw
      have rwa := pu5'.ne nrw
      have sb6' := sbF.trans (Sb.of s6)
      show tSeq _ _ _ _ _
      obtain ⟨e, _, ⟨e2, p2⟩, _, _⟩ := hq sb6'
      refine ⟨_, rfl, rw_, dS vs, rfl, rdd_S erw, fv.1, fv.2.1, fv.2.2, ?_⟩
      refine ⟨_, rfl, r, dx, _, rfl, e, r, dx, l2, _, u2, rfl, e, qk2, e2, fun ta nta => ?_⟩
      have s7 : Same G6 (upd G6 ta (.lst u2)) := same_new nta
      have eta : upd G6 ta (.lst u2) ta = some (.lst u2) := upd_same
      generalize upd G6 ta (.lst u2) = G7 at s7 eta ⊢
      dsimp only [tNil]
      refine ⟨ta, u2, x.ps, rfl, SqL.of eta, (p2.same s7).pal, ok.ps, by omega, fun pv_ G8 npv s8 epv => ?_⟩
      rw [hvs] at epv
      refine ⟨pv_, dS vs, rfl, rdd_S epv, fv.1, fv.2.1, fv.2.2, rfl, _, rfl, ?_⟩
      rw [ne_same]
      refine iteF ?_
      have s68 := s7.trans s8
      clear e e2 p2 eta nta s7 s8 epv npv
      refine ⟨_, rfl, by show 0 ≤ _; exact Nat.zero_le _, fun l0 nl0 => ?_⟩
      have s9 : Same G8 (upd G8 l0 (.lst [])) := same_new nl0
      have el0 : upd G8 l0 (.lst []) l0 = some (.lst []) := upd_same
      generalize upd G8 l0 (.lst []) = G9 at s9 el0 ⊢
      have s69 := s68.trans s9
      dsimp only [tNil]
      have sb9' := sb6'.trans (Sb.of s69)
      refine ⟨r, l0, x, [], [], 1, rfl, ⟨qaG sb9', ok, by omega, by omega⟩, ⟨el0, .nil, (fun y hy => by cases hy), List.nodup_nil, by decide⟩, ⟨Nat.zero_le _, by decide, by decide, by rw [Nat.one_pow]; decide⟩, fun m Ga um zs4 nm sa em hm hz => ?_⟩
      rw [matches_due (ps := []) ok prs (fun y hy => by cases hy) List.nodup_nil hz (due_nil ok prs)] at hm
      have s6a := s69.trans sa
      refine ⟨by show 0 ≤ _; exact Nat.zero_le _, fun t0 nt0 => ?_⟩
      have sb : Same Ga (upd Ga t0 (.tup [])) := same_new nt0
      have et0 : Tu (upd Ga t0 (.tup [])) t0 [] := .inl upd_same
      generalize upd Ga t0 (.tup []) = Gb at sb et0 ⊢
      refine ⟨by show 1 ≤ _; decide, fun lt nlt => ?_⟩
      have sc : Same Gb (upd Gb lt (.lst [.ref t0])) := same_new nlt
      have elt : upd Gb lt (.lst [.ref t0]) lt = some (.lst [.ref t0]) := upd_same
      have et0 := et0.same sc
      generalize upd Gb lt (.lst [.ref t0]) = Gc at sc et0 elt ⊢
      have sac := sb.trans sc
      have s6c := s6a.trans sac
      obtain ⟨e, _, ⟨e2, p2⟩, _, _⟩ := hq (sb6'.trans (Sb.of s6c))
      refine ⟨_, rfl, r, dx, _, rfl, e, r, dx, l2, _, u2, rfl, e, qk2, e2, fun ta nta => ?_⟩
      have sd : Same Gc (upd Gc ta (.lst u2)) := same_new nta
      have eta : upd Gc ta (.lst u2) ta = some (.lst u2) := upd_same
      generalize upd Gc ta (.lst u2) = Gd at sd eta ⊢
      refine ⟨by show 0 ≤ _; exact Nat.zero_le _, fun l9 nl9 => ?_⟩
      have se : Same Gd (upd Gd l9 (.lst [])) := same_new nl9
      have el9 : upd Gd l9 (.lst []) l9 = some (.lst []) := upd_same
      have eta := se _ _ eta
      generalize upd Gd l9 (.lst []) = Ge at se el9 eta ⊢
      have sce := sd.trans se
      refine ⟨dL x.ps, dL [], dp_L (SqL.of eta) (p2.same sce).pal, dp_L (SqL.of el9) .nil, (lay_dL fun y hy z hz => (ok.ps y hy).asc z hz).shaped (by decide), (lay_dL (ps := []) (fun y hy => by cases hy)).shaped (by decide), ?_⟩
      rw [eqv_L]
      refine .inr ⟨_, rfl, ?_⟩
      refine ⟨_, rfl, lt, [.ref t0], rfl, SqL.of (sce _ _ elt), fun p1 np1 => ?_⟩
      rw [cutI (decide (x.ps = [])) (.ref t0)]
      generalize hws : (if decide (x.ps = []) = true then [V.ref t0] else []) = ws
      have sf : Same Ge (upd Ge p1 (.lst ws)) := same_new np1
      have ep1 : upd Ge p1 (.lst ws) p1 = some (.lst ws) := upd_same
      generalize upd Ge p1 (.lst ws) = Gf at sf ep1 ⊢
      have saf := (sac.trans sce).trans sf
      have hZ : sortT (if x.ps = [] then [[]] else []) = (if x.ps = [] then [[]] else [] : List (List Str)) := by
        unfold sortT
        split
        · rw [List.mergeSort_singleton]
        · rw [List.mergeSort_nil]
      rw [hZ] at hm
      have hws2 : PaL Gf ws (if x.ps = [] then [[]] else []) := by
        rw [← hws]
        by_cases hps : x.ps = []
        · rw [decide_eq_true hps, if_pos rfl, if_pos hps]
          exact .mk ((et0.same sce).same sf) .nil
        · rw [decide_eq_false hps, if_neg Bool.false_ne_true, if_neg hps]
          exact .nil
      have aZ : ∀ y ∈ (if x.ps = [] then [[]] else [] : List (List Str)), ∀ z ∈ y, Asc z := fun y hy z hz => by
        split at hy
        · rw [List.mem_singleton.mp hy] at hz
          cases hz
        · cases hy
      refine ⟨dL _, dL _, dp_L (SqL.of (saf _ _ em)) (hm.same saf), dp_L (SqL.of ep1) hws2, (lay_dL aZ).shaped (by decide), (lay_dL aZ).shaped (by decide), _, rfl, ?_⟩
      rw [eqv_L, decide_eq_true rfl]
      refine iteF ?_
      have s6f := s6a.trans saf
      have erwf := s6f _ _ erw
      clear e e2 p2 eta nta sb sc sd se sce sac sf ep1 np1 hws hws2 aZ hm em el9 nl9 elt et0 s6c s69 sb9' el0 s9 nl0 s68 sa
      show tSeq _ _ _ _ _
      refine ⟨_, rfl, .inl ⟨rfl, _, SqL.of erwf⟩, rw_, _, _, rfl, rfl, erwf, ?_, ?_⟩
      · rw [List.length_map]
        exact Nat.lt_of_le_of_lt (by omega : _ ≤ 1000) (by decide)
      have sbR : Sb a G5 (upd Gf rw_ (.lst (vs.map V.str ++ [.str "spoilt"]))) := ((Sb.of s6).trans (Sb.of s6f)).put nrw
      have puR : Pu (upd Gf rw_ (.lst (vs.map V.str ++ [.str "spoilt"]))) a 500000 := ((pu5'.same s6).same s6f).put rwa
      have erR : upd Gf rw_ (.lst (vs.map V.str ++ [.str "spoilt"])) rw_ = some (.lst ((vs ++ (["spoilt"] : List Str)).map V.str)) := by rw [upd_same, List.map_append] <;> rfl
      generalize upd Gf rw_ (.lst (vs.map V.str ++ [.str "spoilt"])) = Gr at sbR puR erR ⊢
      have sbR' := sbF.trans sbR
      show tSeq _ _ _ _ _
      refine ⟨_, rfl, ?_⟩
      dsimp only [tNil]
      refine ⟨r, x, rfl, qaG sbR', ok, fun p2' Gs np2 ss ep2 => ?_⟩
      rw [hvs] at ep2
      obtain ⟨e, e1, _, _, _⟩ := hq (sbR'.trans (Sb.of ss))
      refine ⟨_, rfl, r, dx, _, rfl, e, r, dx, l1, _, x.cs.map V.str, rfl, e, qk1, e1, fun ca nca => ?_⟩
      have st : Same Gs (upd Gs ca (.lst (x.cs.map V.str))) := same_new nca
      have eca : upd Gs ca (.lst (x.cs.map V.str)) ca = some (.lst (x.cs.map V.str)) := upd_same
      generalize upd Gs ca (.lst (x.cs.map V.str)) = Gt at st eca ⊢
      have sst := ss.trans st
      refine ⟨_, rfl, ?_⟩
      have spA : ∀ y ∈ vs ++ (["spoilt"] : List Str), Asc y := fun y hy => by
        rcases List.mem_append.mp hy with hy | hy
        · exact (vv y hy).asc
        · rw [List.mem_singleton.mp hy]
          exact (by decide +kernel : IsNm "spoilt").asc
      refine ⟨dS x.cs, dS (vs ++ (["spoilt"] : List Str)), dp_S (SqL.of eca), dp_S (SqL.of (sst _ _ erR)), (lay_dS fun y hy => (ok.cs y hy).asc).shaped (by decide), (lay_dS spA).shaped (by decide), ?_⟩
      rw [eqv_S, decide_eq_false (IsVr.spoilt ok.cs)]
      refine ⟨by show 2 ≤ _; decide, fun L2' nL2 => ?_⟩
      have su : Same Gt (upd Gt L2' (.lst [.ref p2', .bl false])) := same_new nL2
      have eL2 : upd Gt L2' (.lst [.ref p2', .bl false]) L2' = some (.lst [.ref p2', .bl false]) := upd_same
      generalize upd Gt L2' (.lst [.ref p2', .bl false]) = Gu at su eL2 ⊢
      have stu := st.trans su
      have fw : (PyData.list [dS vs, .bool false]).showable = true ∧ (PyData.list [dS vs, .bool false]).shown.length ≤ sizeLine ∧ (PyData.list [dS vs, .bool false]).depth ≤ 60 := by
        refine Shw.fits (k := 2) (n := 100000) (shw_list (k := 1) (m := 31202) (fun d hd => ?_) (by show 2 + 2 * 31204 ≤ 100000; decide)) (by decide) (by decide)
        simp only [List.mem_cons, List.not_mem_nil, or_false] at hd
        rcases hd with rfl | rfl
        · exact shw_S (by omega) fun y hy => (vv y hy).shz
        · refine ⟨by simp [PyData.showable], ?_, by simp [PyData.depth]⟩
          simp only [PyData.shown]
          decide
      refine ⟨L2', _, rfl, rdd_lst eL2 (rddAll_cons (rdd_S (stu _ _ ep2)) (rddAll_cons (rdd_bl false) rddAll_nil)), fw.1, fw.2.1, fw.2.2, ?_⟩
      have ssu := sst.trans su
      obtain ⟨e, _, ⟨e2, p2⟩, _, _⟩ := hq (sbR'.trans (Sb.of ssu))
      refine ⟨_, rfl, r, dx, _, rfl, e, r, dx, l2, _, u2, rfl, e, qk2, e2, fun ta nta => ?_⟩
      have sv : Same Gu (upd Gu ta (.lst u2)) := same_new nta
      have eta : upd Gu ta (.lst u2) ta = some (.lst u2) := upd_same
      generalize upd Gu ta (.lst u2) = Gv at sv eta ⊢
      dsimp only [tNil]
      refine ⟨ta, u2, x.ps, rfl, SqL.of eta, (p2.same sv).pal, ok.ps, by omega, fun pz Gw npz sw epz => ?_⟩
      rw [hvs] at epz
      refine ⟨by show 2 ≤ _; decide, fun L3 nL3 => ?_⟩
      have sx : Same Gw (upd Gw L3 (.lst [.ref pz, .bl false])) := same_new nL3
      have eL3 : upd Gw L3 (.lst [.ref pz, .bl false]) L3 = some (.lst [.ref pz, .bl false]) := upd_same
      generalize upd Gw L3 (.lst [.ref pz, .bl false]) = Gx at sx eL3 ⊢
      refine ⟨L3, _, rfl, rdd_lst eL3 (rddAll_cons (rdd_S (sx _ _ epz)) (rddAll_cons (rdd_bl false) rddAll_nil)), fw.1, fw.2.1, fw.2.2, rfl, _, rfl, ?_⟩
      rw [ne_same]
      refine iteF ?_
      have srx := ((ssu.trans sv).trans sw).trans sx
      have sbX := sbR'.trans (Sb.of srx)
      clear e e1 e2 p2 eta nta eL2 eL3 epz ep2 eca
      obtain ⟨e, e1, ⟨e2, p2⟩, e3, p3⟩ := hq sbX
      refine ⟨_, rfl, r, dx, _, rfl, e, r, dx, l2, _, u2, rfl, e, qk2, e2, fun a1 na1 => ?_⟩
      have t1 : Same Gx (upd Gx a1 (.lst u2)) := same_new na1
      have ea1 : upd Gx a1 (.lst u2) a1 = some (.lst u2) := upd_same
      generalize upd Gx a1 (.lst u2) = K1 at t1 ea1 ⊢
      refine ⟨_, rfl, r, dx, _, rfl, t1 _ _ e, r, dx, l3, _, u3, rfl, t1 _ _ e, qk3, t1 _ _ e3, fun a2 na2 => ?_⟩
      have t2 : Same K1 (upd K1 a2 (.lst u3)) := same_new na2
      have ea2 : upd K1 a2 (.lst u3) a2 = some (.lst u3) := upd_same
      have ea1 := t2 _ _ ea1
      generalize upd K1 a2 (.lst u3) = K2 at t2 ea1 ea2 ⊢
      refine ⟨_, rfl, by show 3 ≤ _; decide, fun L nL => ?_⟩
      have t3 : Same K2 (upd K2 L (.lst [.ref a1, .ref a2, .ref b])) := same_new nL
      have eL : upd K2 L (.lst [.ref a1, .ref a2, .ref b]) L = some (.lst [.ref a1, .ref a2, .ref b]) := upd_same
      have ea1 := t3 _ _ ea1
      have ea2 := t3 _ _ ea2
      have t13 := (t1.trans t2).trans t3
      generalize upd K2 L (.lst [.ref a1, .ref a2, .ref b]) = K3 at t13 ea1 ea2 eL ⊢
      have sbY := sbX.trans (Sb.of t13)
      refine ⟨L, _, rfl, shS sbY eL ea1 ea2, ftS.1, ftS.2.1, ftS.2.2, ?_⟩
      rw [hT0]
      refine ⟨_, rfl, rfl, _, rfl, ?_⟩
      rw [ne_same]
      exact iteF ⟨_, _, _, _, _, _, _, _, _, _, _, rfl, hE _ (sb05.trans sbY)⟩
    · rintro σ G ⟨o1, o2, o3, o4, o5, o6, o7, o8, o9, oa, ob, rfl, _⟩
      exact q G
end
end Nv
set_option maxHeartbeats 4000000
namespace L2
open PySem PySem.Spec PyProof.Rows
end L2
set_option maxHeartbeats 4000000
namespace Nv
open PySem PySem.Spec PyProof.Rows L2
open PySem.HandSPX (refsVE veTail)
/-- an exception class of the text, as it stands behind the top: bm its bases' line -/
structure ClsOk (K : PySem.W.Frag) (nm : Str) (C : Addr) (bm : List Value) : Prop where
  g : PySem.W.nsIn K mainGlobals nm = some (some (.ref C))
  lk : ∃ (q : Str) (N : Addr) (bs : List Value) (sn : List Str) (sub : List Value) (ab : Bool) (col : Option Bool) (dd : Option Addr) (k0 k1 k2 k3 k5 : Option Value),
    K.lookup C = some (excClassObj nm q C N bs bm true sn sub ab col dd k0 k1 k2 k3 k5 "ValueError.__new__")
  ve : refsVE bm = true
  sa : PySem.W.findIn K (.ref C) "__setattr__" = some (some (.builtin "object.__setattr__"))
  ga : PySem.W.findIn K (.ref C) "__getattribute__" = some (some (.builtin "BaseException.__getattribute__"))
  gg : PySem.W.findIn K (.ref C) "__getattr__" = some none
  cc : PySem.W.findIn K (.ref C) "__class__" = some (some (.builtin "object.__class__"))
  kC : PySem.W.keepIn K (.ref C) = true
section
variable {K : PySem.W.Frag} {nm : Str} {C cN : Addr} {bm : List Value}
theorem ClsOk.cls (c : ClsOk K nm C bm) : ∃ cd, PySem.W.clsIn K C = some cd ∧ cd.mro = .ref C :: bm ∧ cd.hasDict = true ∧ cd.name = nm := by
  obtain ⟨q, N, bs, sn, sub, ab, col, dd, k0, k1, k2, k3, k5, e⟩ := c.lk
  refine ⟨_, (by unfold PySem.W.clsIn; rw [e] <;> rfl), rfl, rfl, rfl⟩
theorem ClsOk.sub (c : ClsOk K nm C bm) (x : Value) : PySem.W.subIn K (.ref C) x = some ((Value.ref C :: bm).contains x) := by
  obtain ⟨cd, e, m, _, _⟩ := c.cls
  show PySem.W.mroIn K C x = _
  unfold PySem.W.mroIn
  rw [e, Option.bind_some, m] <;> rfl
theorem ClsOk.typ (c : ClsOk K nm C bm) : PySem.W.typeIn K (.ref C) = some (.type "type") := by
  obtain ⟨q, N, bs, sn, sub, ab, col, dd, k0, k1, k2, k3, k5, e⟩ := c.lk
  show (K.lookup C).map (·.cls) = _
  rw [e] <;> rfl
theorem ClsOk.has (c : ClsOk K nm C bm) (x : String) (h : veTail.contains (.type x) = true) : PySem.W.subIn K (.ref C) (.type x) = some true := by
  rw [c.sub, List.contains_cons, PySem.HandSPX.refsVE_contains x bm c.ve, h, Bool.or_true]
theorem ClsOk.dict (c : ClsOk K nm C bm) : PySem.W.hasDictIn K C = true := by
  obtain ⟨cd, e, _, h, _⟩ := c.cls
  unfold PySem.W.hasDictIn
  rw [e]
  exact h
theorem ClsOk.ne {nm2 : Str} {C2 : Addr} {bm2 : List Value} (c : ClsOk K nm C bm) (c2 : ClsOk K nm2 C2 bm2) (h : nm ≠ nm2) : C ≠ C2 := fun z => by
  subst z
  obtain ⟨cd, e, _, _, n⟩ := c.cls
  obtain ⟨cd2, e2, _, _, n2⟩ := c2.cls
  rw [e] at e2
  cases e2
  exact h (n.symm.trans n2)
theorem ClsOk.one {nm2 : Str} {C2 : Addr} {bm2 : List Value} (c : ClsOk K nm C bm) (c2 : ClsOk K nm2 C2 bm2) : PySem.W.kitOne K (.ref C) (.ref C2) = some ((Value.ref C :: bm).contains (.ref C2)) := by
  unfold PySem.W.kitOne
  by_cases z : C = C2
  · subst z
    rw [if_pos (by simp)]
    simp
  · rw [if_neg (by simpa using z)]
    obtain ⟨cd, e, _⟩ := c2.cls
    unfold PySem.W.kitCls
    dsimp only
    rw [e, c2.typ, if_pos (by rfl), c.sub]
end
/-- a class of the text that is no exception -/
structure KCls (K : PySem.W.Frag) (nm : Str) (C : Addr) : Prop where
  cd : ∃ cd, PySem.W.clsIn K C = some cd ∧ cd.mro = [.ref C, .type "object"] ∧ cd.name = nm
  ty : PySem.W.typeIn K (.ref C) = some (.type "type")
section
variable {K : PySem.W.Frag} {n m : Str} {C D cN : Addr} {bm : List Value}
theorem KCls.sub (c : KCls K n C) (x : Value) : PySem.W.subIn K (.ref C) x = some ([Value.ref C, .type "object"].contains x) := by
  obtain ⟨cd, e, h, _⟩ := c.cd
  show PySem.W.mroIn K C x = _
  unfold PySem.W.mroIn
  rw [e, Option.bind_some, h] <;> rfl
theorem KCls.ne (c : KCls K n C) (d : KCls K m D) (h : n ≠ m) : C ≠ D := fun z => by
  subst z
  obtain ⟨cd, e, _, p⟩ := c.cd
  obtain ⟨cd2, e2, _, p2⟩ := d.cd
  rw [e] at e2
  cases e2
  exact h (p.symm.trans p2)
theorem KCls.sub_no (c : KCls K n C) {x : Value} (h1 : Value.ref C ≠ x) (h2 : Value.type "object" ≠ x) : PySem.W.subIn K (.ref C) x = some false := by
  rw [c.sub]
  simp [h1.symm, h2.symm]
theorem KCls.to (d : KCls K m D) {t : Value} (h : t ≠ .ref D) : PySem.W.kitOne K t (.ref D) = PySem.W.subIn K t (.ref D) := by
  unfold PySem.W.kitOne
  rw [if_neg (by simpa using h)]
  obtain ⟨cd, e, _⟩ := d.cd
  unfold PySem.W.kitCls
  dsimp only
  rw [e, d.ty, if_pos (by rfl)]
theorem KCls.one (c : KCls K n C) (d : KCls K m D) (h : n ≠ m) : PySem.W.kitOne K (.ref C) (.ref D) = some false := by
  have ne := c.ne d h
  rw [d.to (fun z => ne (by cases z; rfl)), c.sub_no (x := .ref D) (fun z => ne (by cases z; rfl)) (by simp)]
theorem KCls.list (c : KCls K n C) : PySem.W.kitOne K (.ref C) (.type "list") = some false := by
  unfold PySem.W.kitOne
  rw [if_neg (by simp)]
  unfold PySem.W.kitCls
  dsimp only
  rw [if_pos (by decide +kernel), c.sub_no (x := .type "list") (by simp) (by simp)]
theorem KCls.typ (d : KCls K m D) {T : String} (h : PySem.W.subIn K (.type T) (.ref D) = some false) : PySem.W.kitOne K (.type T) (.ref D) = some false := by
  rw [d.to (t := .type T) (by simp), h]
end
end Nv
set_option maxHeartbeats 4000000
namespace Nv
open PySem PySem.Spec PyProof.Rows L2
/-! # what the text must have, read off its top -/
theorem me_of {K : PySem.W.Frag} {C : Addr} : PySem.W.kitOne K (.ref C) (.ref C) = some true := by simp [PySem.W.kitOne]
/-- a def at the top, by name -/
def DefAt (K : PySem.W.Frag) (x : Str) (st : Stmt) : Prop := ∃ (f : Addr) (fd : FuncData), PySem.W.nsIn K mainGlobals x = some (some (.ref f)) ∧ Fun K x x st f fd
theorem def_at {K : PySem.W.Frag} {h : Heap} (X : K.In h) {x : Str} {st : Stmt} {f : Addr} {oc : Value} {od an : Option Addr} {osl : Array (Option Value)} {kV doc pm cdv ct : Value} (g : PySem.W.nsIn K mainGlobals x = some (some (.ref f)))
    (l : K.lookup f = some ⟨oc, od, .func (PySem.W.fnOf x x (defArgs st) (defBody st) (defScope st) .none kV doc pm an cdv ct), osl⟩) (c : PySem.W.codeIn K cdv x = true) (k : PySem.W.keepIn K (.ref f) = true) : DefAt K x st := ⟨f, _, g, fun_mk l c k⟩
/-- a method -/
def MethAt (K : PySem.W.Frag) (C : Addr) (x qual : Str) (st : Stmt) : Prop := ∃ (f : Addr) (fd : FuncData), PySem.W.findIn K (.ref C) x = some (some (.ref f)) ∧ PySem.W.isFn K (.ref f) = true ∧ Fun K x qual st f fd
def PropAt (K : PySem.W.Frag) (C : Addr) (x qual : Str) (st : Stmt) : Prop := ∃ (p g : Addr) (fd : FuncData), PropOf K C x p g ∧ Fun K x qual st g fd
def InitAt (K : PySem.W.Frag) (C : Addr) (qual : Str) (st : Stmt) (dvs : List V) : Prop := ∃ (f : Addr) (fd : FuncData), PySem.W.findIn K (.ref C) "__init__" = some (some (.ref f)) ∧ PySem.W.isFn K (.ref f) = true ∧ FunD K "__init__" qual (defArgs st) (defBody st) (defScope st) dvs [] f fd
def InitAt0 (K : PySem.W.Frag) (C : Addr) (qual : Str) (st : Stmt) : Prop := ∃ (f : Addr) (fd : FuncData), PySem.W.findIn K (.ref C) "__init__" = some (some (.ref f)) ∧ PySem.W.isFn K (.ref f) = true ∧ Fun K "__init__" qual st f fd
structure QuestionTop (K : PySem.W.Frag) (C : Addr) : Prop where
  g : PySem.W.nsIn K mainGlobals "Question" = some (some (.ref C))
  cl : Cls K C
  I : IC K C
  ne : PySem.W.findIn K (.ref C) "__ne__" = some (some (.builtin "object.__ne__"))
  kcls : KCls K "Question" C
  mks : PySem.W.makesIn K C = true
  kc : PySem.W.keepIn K (.ref C) = true
  n0 : NoAttr K C "_columns"
  n1 : NoAttr K C "_told"
  n2 : NoAttr K C "_pairs"
  init : InitAt K C "Question.__init__" (inClass cQuestion 0) [.non]
  q0 : PropAt K C "told" "Question.told" (inClass cQuestion 3)
  q1 : PropAt K C "pairs" "Question.pairs" (inClass cQuestion 4)
  q2 : PropAt K C "columns" "Question.columns" (inClass cQuestion 2)
theorem question_at {K : PySem.W.Frag} {h : Heap} {cdd : ClassData} (X : K.In h) {C fI T fq0 pq0 fq1 pq1 fq2 pq2 : Addr} {ocI kVI dcI pmI cdI ctI oc2 ocq0 kVq0 dcq0 pmq0 cdq0 ctq0 ocq1 kVq1 dcq1 pmq1 cdq1 ctq1 ocq2 kVq2 dcq2 pmq2 cdq2 ctq2 : Value} {odI anI od2 odq0 anq0 odq1 anq1 odq2 anq2 : Option Addr} {slI sl2 slq0 slq1 slq2 : Array (Option Value)} {nn : Nat} {rsq0 rsq1 rsq2 : List Value}
    (g : PySem.W.nsIn K mainGlobals "Question" = some (some (.ref C)))
    (pg : PySem.W.plainGet K C Str.empty = true)
    (hd : PySem.W.hasDictIn K C = true)
    (po : PySem.W.plainOver K C = true)
    (sa : PySem.W.findIn K (.ref C) "__setattr__" = some (some (.builtin "object.__setattr__")))
    (mk : PySem.W.makesIn K C = true)
    (kc : PySem.W.keepIn K (.ref C) = true)
    (cc : PySem.W.findIn K (.ref C) "__class__" = some (some (.builtin "object.__class__")))
    (gt : PySem.W.specialIn K (.builtin "object.__class__") "__get__" = some (some (.builtin "getset_descriptor.__get__")))
    (tk : PySem.W.takesIn K (.builtin "object.__class__") = some true)
    (mo : PySem.W.mroIn K C (.type "object") = some true)
    (ne : PySem.W.findIn K (.ref C) "__ne__" = some (some (.builtin "object.__ne__")))
    (ty : PySem.W.typeIn K (.ref C) = some (.type "type"))
    (kc1 : PySem.W.clsIn K C = some cdd)
    (km : cdd.mro = [.ref C, .type "object"])
    (kn : cdd.name = "Question")
    (n0 : PySem.W.findIn K (.ref C) "_columns" = some none)
    (n1 : PySem.W.findIn K (.ref C) "_told" = some none)
    (n2 : PySem.W.findIn K (.ref C) "_pairs" = some none)
    (aI : PySem.W.findIn K (.ref C) "__init__" = some (some (.ref fI)))
    (iI : PySem.W.isFn K (.ref fI) = true)
    (lI : K.lookup fI = some ⟨ocI, odI, .func (PySem.W.fnOf "__init__" "Question.__init__" (defArgs (inClass cQuestion 0)) (defBody (inClass cQuestion 0)) (defScope (inClass cQuestion 0)) (.ref T) kVI dcI pmI anI cdI ctI), slI⟩)
    (cI : PySem.W.codeIn K cdI "Question.__init__" = true)
    (kI : PySem.W.keepIn K (.ref fI) = true)
    (t : K.lookup T = some ⟨oc2, od2, .seq #[.none] nn, sl2⟩)
    (aq0 : PySem.W.findIn K (.ref C) "told" = some (some (.ref pq0)))
    (sq0 : PySem.W.specialIn K (.ref pq0) "__get__" = some (some (.builtin "property.__get__")))
    (tq0 : PySem.W.takesIn K (.ref pq0) = some true)
    (rq0 : PySem.W.recIn K pq0 "property" = some (.ref fq0 :: rsq0))
    (lq0 : K.lookup fq0 = some ⟨ocq0, odq0, .func (PySem.W.fnOf "told" "Question.told" (defArgs (inClass cQuestion 3)) (defBody (inClass cQuestion 3)) (defScope (inClass cQuestion 3)) .none kVq0 dcq0 pmq0 anq0 cdq0 ctq0), slq0⟩)
    (cq0 : PySem.W.codeIn K cdq0 "Question.told" = true)
    (kq0 : PySem.W.keepIn K (.ref fq0) = true)
    (aq1 : PySem.W.findIn K (.ref C) "pairs" = some (some (.ref pq1)))
    (sq1 : PySem.W.specialIn K (.ref pq1) "__get__" = some (some (.builtin "property.__get__")))
    (tq1 : PySem.W.takesIn K (.ref pq1) = some true)
    (rq1 : PySem.W.recIn K pq1 "property" = some (.ref fq1 :: rsq1))
    (lq1 : K.lookup fq1 = some ⟨ocq1, odq1, .func (PySem.W.fnOf "pairs" "Question.pairs" (defArgs (inClass cQuestion 4)) (defBody (inClass cQuestion 4)) (defScope (inClass cQuestion 4)) .none kVq1 dcq1 pmq1 anq1 cdq1 ctq1), slq1⟩)
    (cq1 : PySem.W.codeIn K cdq1 "Question.pairs" = true)
    (kq1 : PySem.W.keepIn K (.ref fq1) = true)
    (aq2 : PySem.W.findIn K (.ref C) "columns" = some (some (.ref pq2)))
    (sq2 : PySem.W.specialIn K (.ref pq2) "__get__" = some (some (.builtin "property.__get__")))
    (tq2 : PySem.W.takesIn K (.ref pq2) = some true)
    (rq2 : PySem.W.recIn K pq2 "property" = some (.ref fq2 :: rsq2))
    (lq2 : K.lookup fq2 = some ⟨ocq2, odq2, .func (PySem.W.fnOf "columns" "Question.columns" (defArgs (inClass cQuestion 2)) (defBody (inClass cQuestion 2)) (defScope (inClass cQuestion 2)) .none kVq2 dcq2 pmq2 anq2 cdq2 ctq2), slq2⟩)
    (cq2 : PySem.W.codeIn K cdq2 "Question.columns" = true)
    (kq2 : PySem.W.keepIn K (.ref fq2) = true) :
    ∃ C, QuestionTop K C :=
  ⟨C, g, ⟨pg, hd, po, sa⟩, ⟨cc, gt, tk, mo, me_of⟩, ne, ⟨⟨_, kc1, km, kn⟩, ty⟩, mk, kc, n0, n1, n2, ⟨fI, _, aI, iI, ⟨⟨_, _, _, _, _, _, _, _, _, _, rfl, lI, cI, .inr ⟨by simp, T, _, [Value.none], nn, rfl, t, rfl, .cons rfl .nil⟩, .inl rfl⟩, kI⟩⟩, ⟨pq0, fq0, _, ⟨aq0, sq0, tq0, ⟨_, rq0⟩⟩, fun_mk lq0 cq0 kq0⟩, ⟨pq1, fq1, _, ⟨aq1, sq1, tq1, ⟨_, rq1⟩⟩, fun_mk lq1 cq1 kq1⟩, ⟨pq2, fq2, _, ⟨aq2, sq2, tq2, ⟨_, rq2⟩⟩, fun_mk lq2 cq2 kq2⟩⟩
structure StepTop (K : PySem.W.Frag) (C : Addr) : Prop where
  g : PySem.W.nsIn K mainGlobals "Step" = some (some (.ref C))
  cl : Cls K C
  mks : PySem.W.makesIn K C = true
  kc : PySem.W.keepIn K (.ref C) = true
  n0 : NoAttr K C "kind"
  n1 : NoAttr K C "olds"
  n2 : NoAttr K C "places"
  n3 : NoAttr K C "news"
  n4 : NoAttr K C "twins"
  n5 : NoAttr K C "terms"
  n6 : NoAttr K C "apart"
  init : InitAt0 K C "Step.__init__" (inClass cStep 0)
  m0 : MethAt K C "onward" "Step.onward" (inClass cStep 1)
theorem step_at {K : PySem.W.Frag} {h : Heap} (X : K.In h) {C fI fm0 : Addr} {ocI kVI dcI pmI cdI ctI ocm0 kVm0 dcm0 pmm0 cdm0 ctm0 : Value} {odI anI odm0 anm0 : Option Addr} {slI slm0 : Array (Option Value)} 
    (g : PySem.W.nsIn K mainGlobals "Step" = some (some (.ref C)))
    (pg : PySem.W.plainGet K C Str.empty = true)
    (hd : PySem.W.hasDictIn K C = true)
    (po : PySem.W.plainOver K C = true)
    (sa : PySem.W.findIn K (.ref C) "__setattr__" = some (some (.builtin "object.__setattr__")))
    (mk : PySem.W.makesIn K C = true)
    (kc : PySem.W.keepIn K (.ref C) = true)
    (n0 : PySem.W.findIn K (.ref C) "kind" = some none)
    (n1 : PySem.W.findIn K (.ref C) "olds" = some none)
    (n2 : PySem.W.findIn K (.ref C) "places" = some none)
    (n3 : PySem.W.findIn K (.ref C) "news" = some none)
    (n4 : PySem.W.findIn K (.ref C) "twins" = some none)
    (n5 : PySem.W.findIn K (.ref C) "terms" = some none)
    (n6 : PySem.W.findIn K (.ref C) "apart" = some none)
    (aI : PySem.W.findIn K (.ref C) "__init__" = some (some (.ref fI)))
    (iI : PySem.W.isFn K (.ref fI) = true)
    (lI : K.lookup fI = some ⟨ocI, odI, .func (PySem.W.fnOf "__init__" "Step.__init__" (defArgs (inClass cStep 0)) (defBody (inClass cStep 0)) (defScope (inClass cStep 0)) .none kVI dcI pmI anI cdI ctI), slI⟩)
    (cI : PySem.W.codeIn K cdI "Step.__init__" = true)
    (kI : PySem.W.keepIn K (.ref fI) = true)
    (am0 : PySem.W.findIn K (.ref C) "onward" = some (some (.ref fm0)))
    (im0 : PySem.W.isFn K (.ref fm0) = true)
    (lm0 : K.lookup fm0 = some ⟨ocm0, odm0, .func (PySem.W.fnOf "onward" "Step.onward" (defArgs (inClass cStep 1)) (defBody (inClass cStep 1)) (defScope (inClass cStep 1)) .none kVm0 dcm0 pmm0 anm0 cdm0 ctm0), slm0⟩)
    (cm0 : PySem.W.codeIn K cdm0 "Step.onward" = true)
    (km0 : PySem.W.keepIn K (.ref fm0) = true) :
    ∃ C, StepTop K C :=
  ⟨C, g, ⟨pg, hd, po, sa⟩, mk, kc, n0, n1, n2, n3, n4, n5, n6, ⟨fI, _, aI, iI, fun_mk lI cI kI⟩, ⟨fm0, _, am0, im0, fun_mk lm0 cm0 km0⟩⟩
structure PlanTop (K : PySem.W.Frag) (C : Addr) : Prop where
  g : PySem.W.nsIn K mainGlobals "Plan" = some (some (.ref C))
  cl : Cls K C
  mks : PySem.W.makesIn K C = true
  kc : PySem.W.keepIn K (.ref C) = true
  n0 : NoAttr K C "apart"
  n1 : NoAttr K C "steps"
  n2 : NoAttr K C "terms"
  init : InitAt0 K C "Plan.__init__" (inClass cPlan 0)
  m0 : MethAt K C "rows" "Plan.rows" (inClass cPlan 1)
theorem plan_at {K : PySem.W.Frag} {h : Heap} (X : K.In h) {C fI fm0 : Addr} {ocI kVI dcI pmI cdI ctI ocm0 kVm0 dcm0 pmm0 cdm0 ctm0 : Value} {odI anI odm0 anm0 : Option Addr} {slI slm0 : Array (Option Value)} 
    (g : PySem.W.nsIn K mainGlobals "Plan" = some (some (.ref C)))
    (pg : PySem.W.plainGet K C Str.empty = true)
    (hd : PySem.W.hasDictIn K C = true)
    (po : PySem.W.plainOver K C = true)
    (sa : PySem.W.findIn K (.ref C) "__setattr__" = some (some (.builtin "object.__setattr__")))
    (mk : PySem.W.makesIn K C = true)
    (kc : PySem.W.keepIn K (.ref C) = true)
    (n0 : PySem.W.findIn K (.ref C) "apart" = some none)
    (n1 : PySem.W.findIn K (.ref C) "steps" = some none)
    (n2 : PySem.W.findIn K (.ref C) "terms" = some none)
    (aI : PySem.W.findIn K (.ref C) "__init__" = some (some (.ref fI)))
    (iI : PySem.W.isFn K (.ref fI) = true)
    (lI : K.lookup fI = some ⟨ocI, odI, .func (PySem.W.fnOf "__init__" "Plan.__init__" (defArgs (inClass cPlan 0)) (defBody (inClass cPlan 0)) (defScope (inClass cPlan 0)) .none kVI dcI pmI anI cdI ctI), slI⟩)
    (cI : PySem.W.codeIn K cdI "Plan.__init__" = true)
    (kI : PySem.W.keepIn K (.ref fI) = true)
    (am0 : PySem.W.findIn K (.ref C) "rows" = some (some (.ref fm0)))
    (im0 : PySem.W.isFn K (.ref fm0) = true)
    (lm0 : K.lookup fm0 = some ⟨ocm0, odm0, .func (PySem.W.fnOf "rows" "Plan.rows" (defArgs (inClass cPlan 1)) (defBody (inClass cPlan 1)) (defScope (inClass cPlan 1)) .none kVm0 dcm0 pmm0 anm0 cdm0 ctm0), slm0⟩)
    (cm0 : PySem.W.codeIn K cdm0 "Plan.rows" = true)
    (km0 : PySem.W.keepIn K (.ref fm0) = true) :
    ∃ C, PlanTop K C :=
  ⟨C, g, ⟨pg, hd, po, sa⟩, mk, kc, n0, n1, n2, ⟨fI, _, aI, iI, fun_mk lI cI kI⟩, ⟨fm0, _, am0, im0, fun_mk lm0 cm0 km0⟩⟩
end Nv
set_option maxHeartbeats 8000000
namespace Nv
open PySem PySem.Spec PyProof.Rows L2
theorem binds_q {K : PySem.W.Frag} {f : Addr} {fd : FuncData} (F : FunD K "__init__" "Question.__init__" (defArgs sQInit) (defBody sQInit) (defScope sQInit) [.non] [] f fd) : ∀ n, n ≤ ([Value.none] : List Value).length → Binds K fd ["self", "columns", "told", "pairs"] (([Value.none] : List Value).drop n) := by
  obtain ⟨oc, od, dV, kV, doc, pm, an, cdv, ct, osl, rfl, lk, hcd, hD, hK⟩ := F.ex
  rcases hD with ⟨e, _⟩ | ⟨_, T, o, its, m, rfl, lT, oT, rT⟩
  · cases e
  · cases rT with
    | cons r0 rn =>
      cases rn
      cases r0
      intro n hn s us X hl
      have hn2 : n ≤ 1 := hn
      rcases (by omega : n = 0 ∨ n = 1) with rfl | rfl
      · have h4 : us.length = 3 := by simpa using hl
        match us, h4 with
        | [_, _, _], _ => exact BindsTo.of_looks fun M => looks_items X lT oT (.of_pure rfl)
      · have h4 : us.length = 4 := by simpa using hl
        match us, h4 with
        | [_, _, _, _], _ => exact BindsTo.of_looks fun M => looks_items X lT oT (.of_pure rfl)
theorem law_at {P : Program} {w : World} {K : PySem.W.Frag} {mg : Str → Option Value} {h : Heap} {fa : Addr} (X : K.In h) (G : h.Ns mainGlobals mg) (hfa : mg "law" = some (.ref fa)) {CQ CS CP : Addr} (TQ : QuestionTop K CQ) (TS : StepTop K CS) (TP : PlanTop K CP)
    (z_isinstance : PySem.W.nsIn K mainGlobals "isinstance" = some none) (z_str : PySem.W.nsIn K mainGlobals "str" = some none) (z_tuple : PySem.W.nsIn K mainGlobals "tuple" = some none) (z_list : PySem.W.nsIn K mainGlobals "list" = some none) (z_set : PySem.W.nsIn K mainGlobals "set" = some none) (z_len : PySem.W.nsIn K mainGlobals "len" = some none) (z_all : PySem.W.nsIn K mainGlobals "all" = some none) (z_any : PySem.W.nsIn K mainGlobals "any" = some none) (z_range : PySem.W.nsIn K mainGlobals "range" = some none) (z_sum : PySem.W.nsIn K mainGlobals "sum" = some none) (z_max : PySem.W.nsIn K mainGlobals "max" = some none) (z_min : PySem.W.nsIn K mainGlobals "min" = some none) (z_int : PySem.W.nsIn K mainGlobals "int" = some none) (z_enumerate : PySem.W.nsIn K mainGlobals "enumerate" = some none) (z_zip : PySem.W.nsIn K mainGlobals "zip" = some none) (z_sorted : PySem.W.nsIn K mainGlobals "sorted" = some none) (z_dict : PySem.W.nsIn K mainGlobals "dict" = some none) (z_repr : PySem.W.nsIn K mainGlobals "repr" = some none)
    (d_isName : DefAt K "is_name" sIsName)
    (d_isVar : DefAt K "is_variable" sIsVar)
    (d_isTerm : DefAt K "is_term" sIsTerm)
    (d_isFact : DefAt K "is_fact" sIsFact)
    (d_isPattern : DefAt K "is_pattern" sIsPattern)
    (d_isStore : DefAt K "is_store" sIsStore)
    (d_isPatterns : DefAt K "is_patterns" sIsPatterns)
    (d_isPair : DefAt K "is_pair" sIsPair)
    (d_isPairs : DefAt K "is_pairs" sIsPairs)
    (d_kindOf : DefAt K "kind_of" sKindOf)
    (d_termsOf : DefAt K "terms_of" sTermsOf)
    (d_sides : DefAt K "sides_of" sSides)
    (d_varsAmong : DefAt K "variables_among" sVarsAmong)
    (d_namesAmong : DefAt K "names_among" sNamesAmong)
    (d_varsOf : DefAt K "variables_of" sVarsOf)
    (d_hasMore : DefAt K "has_more" sHasMore)
    (d_byKind : DefAt K "by_kind" sByKind)
    (d_namesIn : DefAt K "names_in" sNamesIn)
    (d_knows : DefAt K "_knows" sKnows)
    (d_placesOf : DefAt K "_places_of_pairs" sPlacesOfPairs)
    (d_keptApart : DefAt K "_kept_apart" sKeptApart)
    (d_met : DefAt K "met" sMet)
    (d_needStore : DefAt K "need_store" sNeedStore)
    (d_needQ : DefAt K "need_question" sNeedQuestion)
    (d_varsQ : DefAt K "variables" sVarsQ)
    (d_matches : DefAt K "matches" sMatches)
    (d_count : DefAt K "count_matches" sCount)
    (d_purse : DefAt K "_law_purse" sPurse)
    (d_mixed : DefAt K "_law_mixed" sMixed)
    (d_draw : DefAt K "_law_draw" sDraw)
    (d_purses : DefAt K "_law_purses" sPurses)
    (d_oneOf : DefAt K "_law_one_of" sOneOf)
    (d_shuffled : DefAt K "_law_shuffled" sShuffled)
    (d_names : DefAt K "_law_names" sNames)
    (d_kinds : DefAt K "_law_kinds" sKinds)
    (d_fact : DefAt K "_law_fact" sFact)
    (d_store : DefAt K "_law_store" sStore)
    (d_pattern : DefAt K "_law_pattern" sPattern)
    (d_told : DefAt K "_law_told" sTold)
    (d_variables : DefAt K "_law_variables" sVariables)
    (d_pairs : DefAt K "_law_pairs" sPairs)
    (d_lfilled : DefAt K "_law_filled" sLFilled)
    (d_lets : DefAt K "_law_lets" sLets)
    (d_lawQ : DefAt K "_law_question" sLawQ)
    (d_fed : DefAt K "_law_fed_store" sFed)
    (d_ways : DefAt K "_law_ways" sWays)
    (d_due : DefAt K "_law_due" sDue)
    (d_typed : DefAt K "_law_typed_right" sTyped)
    (d_law : DefAt K "law" sLaw) :
    ∃ fd : FuncData, (∀ (s : Shared) (u : Value), BindsTo s fd ⟨[u], []⟩ [("_law_script", u)]) ∧
      ∀ base : Heap, K.In base → base.Ns mainGlobals mg → (∃ o, base.get? sysModules = some o) → RunG P w K mg base 11 fa fd ["_law_script"] (spLaw K) := by
  obtain ⟨f_isName, e_isName, g_isName, F_isName⟩ := d_isName
  have m_isName := PySem.W.mg_of X G g_isName
  have b_isName : Binds K e_isName ["value"] [] := F_isName.binds (ps := ["value"]) fun _ _ _ _ _ _ us hl => match us, hl with | [_], _ => rfl
  obtain ⟨f_isVar, e_isVar, g_isVar, F_isVar⟩ := d_isVar
  have m_isVar := PySem.W.mg_of X G g_isVar
  have b_isVar : Binds K e_isVar ["value"] [] := F_isVar.binds (ps := ["value"]) fun _ _ _ _ _ _ us hl => match us, hl with | [_], _ => rfl
  obtain ⟨f_isTerm, e_isTerm, g_isTerm, F_isTerm⟩ := d_isTerm
  have m_isTerm := PySem.W.mg_of X G g_isTerm
  have b_isTerm : Binds K e_isTerm ["value"] [] := F_isTerm.binds (ps := ["value"]) fun _ _ _ _ _ _ us hl => match us, hl with | [_], _ => rfl
  obtain ⟨f_isFact, e_isFact, g_isFact, F_isFact⟩ := d_isFact
  have m_isFact := PySem.W.mg_of X G g_isFact
  have b_isFact : Binds K e_isFact ["value"] [] := F_isFact.binds (ps := ["value"]) fun _ _ _ _ _ _ us hl => match us, hl with | [_], _ => rfl
  obtain ⟨f_isPattern, e_isPattern, g_isPattern, F_isPattern⟩ := d_isPattern
  have m_isPattern := PySem.W.mg_of X G g_isPattern
  have b_isPattern : Binds K e_isPattern ["value"] [] := F_isPattern.binds (ps := ["value"]) fun _ _ _ _ _ _ us hl => match us, hl with | [_], _ => rfl
  obtain ⟨f_isStore, e_isStore, g_isStore, F_isStore⟩ := d_isStore
  have m_isStore := PySem.W.mg_of X G g_isStore
  have b_isStore : Binds K e_isStore ["value"] [] := F_isStore.binds (ps := ["value"]) fun _ _ _ _ _ _ us hl => match us, hl with | [_], _ => rfl
  obtain ⟨f_isPatterns, e_isPatterns, g_isPatterns, F_isPatterns⟩ := d_isPatterns
  have m_isPatterns := PySem.W.mg_of X G g_isPatterns
  have b_isPatterns : Binds K e_isPatterns ["value"] [] := F_isPatterns.binds (ps := ["value"]) fun _ _ _ _ _ _ us hl => match us, hl with | [_], _ => rfl
  obtain ⟨f_isPair, e_isPair, g_isPair, F_isPair⟩ := d_isPair
  have m_isPair := PySem.W.mg_of X G g_isPair
  have b_isPair : Binds K e_isPair ["value"] [] := F_isPair.binds (ps := ["value"]) fun _ _ _ _ _ _ us hl => match us, hl with | [_], _ => rfl
  obtain ⟨f_isPairs, e_isPairs, g_isPairs, F_isPairs⟩ := d_isPairs
  have m_isPairs := PySem.W.mg_of X G g_isPairs
  have b_isPairs : Binds K e_isPairs ["value"] [] := F_isPairs.binds (ps := ["value"]) fun _ _ _ _ _ _ us hl => match us, hl with | [_], _ => rfl
  obtain ⟨f_kindOf, e_kindOf, g_kindOf, F_kindOf⟩ := d_kindOf
  have m_kindOf := PySem.W.mg_of X G g_kindOf
  have b_kindOf : Binds K e_kindOf ["pattern"] [] := F_kindOf.binds (ps := ["pattern"]) fun _ _ _ _ _ _ us hl => match us, hl with | [_], _ => rfl
  obtain ⟨f_termsOf, e_termsOf, g_termsOf, F_termsOf⟩ := d_termsOf
  have m_termsOf := PySem.W.mg_of X G g_termsOf
  have b_termsOf : Binds K e_termsOf ["patterns"] [] := F_termsOf.binds (ps := ["patterns"]) fun _ _ _ _ _ _ us hl => match us, hl with | [_], _ => rfl
  obtain ⟨f_sides, e_sides, g_sides, F_sides⟩ := d_sides
  have m_sides := PySem.W.mg_of X G g_sides
  have b_sides : Binds K e_sides ["pairs"] [] := F_sides.binds (ps := ["pairs"]) fun _ _ _ _ _ _ us hl => match us, hl with | [_], _ => rfl
  obtain ⟨f_varsAmong, e_varsAmong, g_varsAmong, F_varsAmong⟩ := d_varsAmong
  have m_varsAmong := PySem.W.mg_of X G g_varsAmong
  have b_varsAmong : Binds K e_varsAmong ["terms"] [] := F_varsAmong.binds (ps := ["terms"]) fun _ _ _ _ _ _ us hl => match us, hl with | [_], _ => rfl
  obtain ⟨f_namesAmong, e_namesAmong, g_namesAmong, F_namesAmong⟩ := d_namesAmong
  have m_namesAmong := PySem.W.mg_of X G g_namesAmong
  have b_namesAmong : Binds K e_namesAmong ["terms"] [] := F_namesAmong.binds (ps := ["terms"]) fun _ _ _ _ _ _ us hl => match us, hl with | [_], _ => rfl
  obtain ⟨f_varsOf, e_varsOf, g_varsOf, F_varsOf⟩ := d_varsOf
  have m_varsOf := PySem.W.mg_of X G g_varsOf
  have b_varsOf : Binds K e_varsOf ["patterns"] [] := F_varsOf.binds (ps := ["patterns"]) fun _ _ _ _ _ _ us hl => match us, hl with | [_], _ => rfl
  obtain ⟨f_hasMore, e_hasMore, g_hasMore, F_hasMore⟩ := d_hasMore
  have m_hasMore := PySem.W.mg_of X G g_hasMore
  have b_hasMore : Binds K e_hasMore ["terms", "told"] [] := F_hasMore.binds (ps := ["terms", "told"]) fun _ _ _ _ _ _ us hl => match us, hl with | [_, _], _ => rfl
  obtain ⟨f_byKind, e_byKind, g_byKind, F_byKind⟩ := d_byKind
  have m_byKind := PySem.W.mg_of X G g_byKind
  have b_byKind : Binds K e_byKind ["facts"] [] := F_byKind.binds (ps := ["facts"]) fun _ _ _ _ _ _ us hl => match us, hl with | [_], _ => rfl
  obtain ⟨f_namesIn, e_namesIn, g_namesIn, F_namesIn⟩ := d_namesIn
  have m_namesIn := PySem.W.mg_of X G g_namesIn
  have b_namesIn : Binds K e_namesIn ["patterns", "pairs"] [] := F_namesIn.binds (ps := ["patterns", "pairs"]) fun _ _ _ _ _ _ us hl => match us, hl with | [_, _], _ => rfl
  obtain ⟨f_knows, e_knows, g_knows, F_knows⟩ := d_knows
  have m_knows := PySem.W.mg_of X G g_knows
  have b_knows : Binds K e_knows ["terms", "pair"] [] := F_knows.binds (ps := ["terms", "pair"]) fun _ _ _ _ _ _ us hl => match us, hl with | [_, _], _ => rfl
  obtain ⟨f_placesOf, e_placesOf, g_placesOf, F_placesOf⟩ := d_placesOf
  have m_placesOf := PySem.W.mg_of X G g_placesOf
  have b_placesOf : Binds K e_placesOf ["terms", "pairs"] [] := F_placesOf.binds (ps := ["terms", "pairs"]) fun _ _ _ _ _ _ us hl => match us, hl with | [_, _], _ => rfl
  obtain ⟨f_keptApart, e_keptApart, g_keptApart, F_keptApart⟩ := d_keptApart
  have m_keptApart := PySem.W.mg_of X G g_keptApart
  have b_keptApart : Binds K e_keptApart ["rows", "apart"] [] := F_keptApart.binds (ps := ["rows", "apart"]) fun _ _ _ _ _ _ us hl => match us, hl with | [_, _], _ => rfl
  obtain ⟨f_met, e_met, g_met, F_met⟩ := d_met
  have m_met := PySem.W.mg_of X G g_met
  have b_met : Binds K e_met ["told", "pairs", "shelf"] [] := F_met.binds (ps := ["told", "pairs", "shelf"]) fun _ _ _ _ _ _ us hl => match us, hl with | [_, _, _], _ => rfl
  obtain ⟨f_needStore, e_needStore, g_needStore, F_needStore⟩ := d_needStore
  have m_needStore := PySem.W.mg_of X G g_needStore
  have b_needStore : Binds K e_needStore ["value"] [] := F_needStore.binds (ps := ["value"]) fun _ _ _ _ _ _ us hl => match us, hl with | [_], _ => rfl
  obtain ⟨f_needQ, e_needQ, g_needQ, F_needQ⟩ := d_needQ
  have m_needQ := PySem.W.mg_of X G g_needQ
  have b_needQ : Binds K e_needQ ["value"] [] := F_needQ.binds (ps := ["value"]) fun _ _ _ _ _ _ us hl => match us, hl with | [_], _ => rfl
  obtain ⟨f_varsQ, e_varsQ, g_varsQ, F_varsQ⟩ := d_varsQ
  have m_varsQ := PySem.W.mg_of X G g_varsQ
  have b_varsQ : Binds K e_varsQ ["question"] [] := F_varsQ.binds (ps := ["question"]) fun _ _ _ _ _ _ us hl => match us, hl with | [_], _ => rfl
  obtain ⟨f_matches, e_matches, g_matches, F_matches⟩ := d_matches
  have m_matches := PySem.W.mg_of X G g_matches
  have b_matches : Binds K e_matches ["question", "store"] [] := F_matches.binds (ps := ["question", "store"]) fun _ _ _ _ _ _ us hl => match us, hl with | [_, _], _ => rfl
  obtain ⟨f_count, e_count, g_count, F_count⟩ := d_count
  have m_count := PySem.W.mg_of X G g_count
  have b_count : Binds K e_count ["question", "store"] [] := F_count.binds (ps := ["question", "store"]) fun _ _ _ _ _ _ us hl => match us, hl with | [_, _], _ => rfl
  obtain ⟨f_purse, e_purse, g_purse, F_purse⟩ := d_purse
  have m_purse := PySem.W.mg_of X G g_purse
  have b_purse : Binds K e_purse ["_law_script", "_law_at"] [] := F_purse.binds (ps := ["_law_script", "_law_at"]) fun _ _ _ _ _ _ us hl => match us, hl with | [_, _], _ => rfl
  obtain ⟨f_mixed, e_mixed, g_mixed, F_mixed⟩ := d_mixed
  have m_mixed := PySem.W.mg_of X G g_mixed
  have b_mixed : Binds K e_mixed ["_law_seed", "_law_turn", "_law_at"] [] := F_mixed.binds (ps := ["_law_seed", "_law_turn", "_law_at"]) fun _ _ _ _ _ _ us hl => match us, hl with | [_, _, _], _ => rfl
  obtain ⟨f_draw, e_draw, g_draw, F_draw⟩ := d_draw
  have m_draw := PySem.W.mg_of X G g_draw
  have b_draw : Binds K e_draw ["_law_purse_here", "_law_many"] [] := F_draw.binds (ps := ["_law_purse_here", "_law_many"]) fun _ _ _ _ _ _ us hl => match us, hl with | [_, _], _ => rfl
  obtain ⟨f_purses, e_purses, g_purses, F_purses⟩ := d_purses
  have m_purses := PySem.W.mg_of X G g_purses
  have b_purses : Binds K e_purses ["_law_script", "_law_few"] [] := F_purses.binds (ps := ["_law_script", "_law_few"]) fun _ _ _ _ _ _ us hl => match us, hl with | [_, _], _ => rfl
  obtain ⟨f_oneOf, e_oneOf, g_oneOf, F_oneOf⟩ := d_oneOf
  have m_oneOf := PySem.W.mg_of X G g_oneOf
  have b_oneOf : Binds K e_oneOf ["_law_purse_here", "_law_some"] [] := F_oneOf.binds (ps := ["_law_purse_here", "_law_some"]) fun _ _ _ _ _ _ us hl => match us, hl with | [_, _], _ => rfl
  obtain ⟨f_shuffled, e_shuffled, g_shuffled, F_shuffled⟩ := d_shuffled
  have m_shuffled := PySem.W.mg_of X G g_shuffled
  have b_shuffled : Binds K e_shuffled ["_law_purse_here", "_law_some"] [] := F_shuffled.binds (ps := ["_law_purse_here", "_law_some"]) fun _ _ _ _ _ _ us hl => match us, hl with | [_, _], _ => rfl
  obtain ⟨f_names, e_names, g_names, F_names⟩ := d_names
  have m_names := PySem.W.mg_of X G g_names
  have b_names : Binds K e_names ["_law_purse_here", "_law_many"] [] := F_names.binds (ps := ["_law_purse_here", "_law_many"]) fun _ _ _ _ _ _ us hl => match us, hl with | [_, _], _ => rfl
  obtain ⟨f_kinds, e_kinds, g_kinds, F_kinds⟩ := d_kinds
  have m_kinds := PySem.W.mg_of X G g_kinds
  have b_kinds : Binds K e_kinds ["_law_purse_here", "_law_many"] [] := F_kinds.binds (ps := ["_law_purse_here", "_law_many"]) fun _ _ _ _ _ _ us hl => match us, hl with | [_, _], _ => rfl
  obtain ⟨f_fact, e_fact, g_fact, F_fact⟩ := d_fact
  have m_fact := PySem.W.mg_of X G g_fact
  have b_fact : Binds K e_fact ["_law_purse_here", "_law_kinds_here", "_law_names_here"] [] := F_fact.binds (ps := ["_law_purse_here", "_law_kinds_here", "_law_names_here"]) fun _ _ _ _ _ _ us hl => match us, hl with | [_, _, _], _ => rfl
  obtain ⟨f_store, e_store, g_store, F_store⟩ := d_store
  have m_store := PySem.W.mg_of X G g_store
  have b_store : Binds K e_store ["_law_purse_here", "_law_kinds_here", "_law_names_here", "_law_most"] [] := F_store.binds (ps := ["_law_purse_here", "_law_kinds_here", "_law_names_here", "_law_most"]) fun _ _ _ _ _ _ us hl => match us, hl with | [_, _, _, _], _ => rfl
  obtain ⟨f_pattern, e_pattern, g_pattern, F_pattern⟩ := d_pattern
  have m_pattern := PySem.W.mg_of X G g_pattern
  have b_pattern : Binds K e_pattern ["_law_purse_here", "_law_kinds_here", "_law_terms"] [] := F_pattern.binds (ps := ["_law_purse_here", "_law_kinds_here", "_law_terms"]) fun _ _ _ _ _ _ us hl => match us, hl with | [_, _, _], _ => rfl
  obtain ⟨f_told, e_told, g_told, F_told⟩ := d_told
  have m_told := PySem.W.mg_of X G g_told
  have b_told : Binds K e_told ["_law_purse_here", "_law_kinds_here", "_law_names_here", "_law_most", "_law_few"] [] := F_told.binds (ps := ["_law_purse_here", "_law_kinds_here", "_law_names_here", "_law_most", "_law_few"]) fun _ _ _ _ _ _ us hl => match us, hl with | [_, _, _, _, _], _ => rfl
  obtain ⟨f_variables, e_variables, g_variables, F_variables⟩ := d_variables
  have m_variables := PySem.W.mg_of X G g_variables
  have b_variables : Binds K e_variables ["_law_told_here"] [] := F_variables.binds (ps := ["_law_told_here"]) fun _ _ _ _ _ _ us hl => match us, hl with | [_], _ => rfl
  obtain ⟨f_pairs, e_pairs, g_pairs, F_pairs⟩ := d_pairs
  have m_pairs := PySem.W.mg_of X G g_pairs
  have b_pairs : Binds K e_pairs ["_law_purse_here", "_law_told_here", "_law_names_here"] [] := F_pairs.binds (ps := ["_law_purse_here", "_law_told_here", "_law_names_here"]) fun _ _ _ _ _ _ us hl => match us, hl with | [_, _, _], _ => rfl
  obtain ⟨f_lfilled, e_lfilled, g_lfilled, F_lfilled⟩ := d_lfilled
  have m_lfilled := PySem.W.mg_of X G g_lfilled
  have b_lfilled : Binds K e_lfilled ["_law_pattern_here", "_law_match"] [] := F_lfilled.binds (ps := ["_law_pattern_here", "_law_match"]) fun _ _ _ _ _ _ us hl => match us, hl with | [_, _], _ => rfl
  obtain ⟨f_lets, e_lets, g_lets, F_lets⟩ := d_lets
  have m_lets := PySem.W.mg_of X G g_lets
  have b_lets : Binds K e_lets ["_law_match", "_law_pairs_here", "_law_denied", "_law_store_here"] [] := F_lets.binds (ps := ["_law_match", "_law_pairs_here", "_law_denied", "_law_store_here"]) fun _ _ _ _ _ _ us hl => match us, hl with | [_, _, _, _], _ => rfl
  obtain ⟨f_lawQ, e_lawQ, g_lawQ, F_lawQ⟩ := d_lawQ
  have m_lawQ := PySem.W.mg_of X G g_lawQ
  have b_lawQ : Binds K e_lawQ ["_law_purse_here", "_law_kinds_here", "_law_names_here", "_law_most"] [] := F_lawQ.binds (ps := ["_law_purse_here", "_law_kinds_here", "_law_names_here", "_law_most"]) fun _ _ _ _ _ _ us hl => match us, hl with | [_, _, _, _], _ => rfl
  obtain ⟨f_fed, e_fed, g_fed, F_fed⟩ := d_fed
  have m_fed := PySem.W.mg_of X G g_fed
  have b_fed : Binds K e_fed ["_law_purse_here", "_law_told_here", "_law_kinds_here", "_law_names_here", "_law_most"] [] := F_fed.binds (ps := ["_law_purse_here", "_law_told_here", "_law_kinds_here", "_law_names_here", "_law_most"]) fun _ _ _ _ _ _ us hl => match us, hl with | [_, _, _, _, _], _ => rfl
  obtain ⟨f_ways, e_ways, g_ways, F_ways⟩ := d_ways
  have m_ways := PySem.W.mg_of X G g_ways
  have b_ways : Binds K e_ways ["_law_names_here", "_law_many"] [] := F_ways.binds (ps := ["_law_names_here", "_law_many"]) fun _ _ _ _ _ _ us hl => match us, hl with | [_, _], _ => rfl
  obtain ⟨f_due, e_due, g_due, F_due⟩ := d_due
  have m_due := PySem.W.mg_of X G g_due
  have b_due : Binds K e_due ["_law_question_here", "_law_store_here"] [] := F_due.binds (ps := ["_law_question_here", "_law_store_here"]) fun _ _ _ _ _ _ us hl => match us, hl with | [_, _], _ => rfl
  obtain ⟨f_typed, e_typed, g_typed, F_typed⟩ := d_typed
  have m_typed := PySem.W.mg_of X G g_typed
  have b_typed : Binds K e_typed [] [] := F_typed.binds (ps := []) fun _ _ _ _ _ _ us hl => match us, hl with | [], _ => rfl
  obtain ⟨f_law, e_law, g_law, F_law⟩ := d_law
  have m_law := PySem.W.mg_of X G g_law
  have b_law : Binds K e_law ["_law_script"] [] := F_law.binds (ps := ["_law_script"]) fun _ _ _ _ _ _ us hl => match us, hl with | [_], _ => rfl
  have B : Bp mg := ⟨PySem.W.mg_none_of X G z_isinstance, PySem.W.mg_none_of X G z_str, PySem.W.mg_none_of X G z_tuple, PySem.W.mg_none_of X G z_list, PySem.W.mg_none_of X G z_set, PySem.W.mg_none_of X G z_len, PySem.W.mg_none_of X G z_all, PySem.W.mg_none_of X G z_any⟩
  have B2 : Bl mg := ⟨PySem.W.mg_none_of X G z_range, PySem.W.mg_none_of X G z_len, PySem.W.mg_none_of X G z_sum, PySem.W.mg_none_of X G z_max, PySem.W.mg_none_of X G z_min, PySem.W.mg_none_of X G z_int, PySem.W.mg_none_of X G z_tuple⟩
  have zp := PySem.W.mg_none_of X G z_zip
  have so := PySem.W.mg_none_of X G z_sorted
  have md := PySem.W.mg_none_of X G z_dict
  have ms := PySem.W.mg_none_of X G z_set
  have ml := PySem.W.mg_none_of X G z_list
  have rp := PySem.W.mg_none_of X G z_repr
  have e := hfa.symm.trans m_law
  cases e
  refine ⟨e_law, fun s u => ?_, fun base _ _ sy => ?_⟩
  · obtain ⟨oc, od, kV, doc, pm, an, cdv, ct, osl, rfl, lk, hcd⟩ := F_law.ex
    exact .of_eq rfl
  · skip
    have G_isName : FnOk P w K mg base CX0 1 f_isName e_isName ["value"] _ := ok_isName F_isName B
    have G_isVar : FnOk P w K mg base CX0 1 f_isVar e_isVar ["value"] _ := ok_isVar F_isVar B
    have G_isTerm : FnOk P w K mg base CX0 2 f_isTerm e_isTerm ["value"] _ := ok_isTerm F_isTerm G_isName F_isName.kp m_isName b_isName G_isVar F_isVar.kp m_isVar b_isVar
    have G_isFact : FnOk P w K mg base CX0 3 f_isFact e_isFact ["value"] _ := ok_isFact F_isFact B G_isName F_isName.kp m_isName b_isName
    have G_isStore : FnOk P w K mg base CX0 4 f_isStore e_isStore ["value"] _ := ok_isStore F_isStore B G_isFact F_isFact.kp m_isFact b_isFact
    have G_isPattern : FnOk P w K mg base CX0 3 f_isPattern e_isPattern ["value"] (spTup K patB) := ok_isPattern F_isPattern B G_isName F_isName.kp m_isName b_isName G_isTerm F_isTerm.kp m_isTerm b_isTerm
    have G_isPatterns : FnOk P w K mg base CX0 4 f_isPatterns e_isPatterns ["value"] (spLst K patB) := ok_isPatterns F_isPatterns B G_isPattern F_isPattern.kp m_isPattern b_isPattern
    have G_isPair : FnOk P w K mg base CX0 3 f_isPair e_isPair ["value"] (spTup K prB) := ok_isPair F_isPair B G_isTerm F_isTerm.kp m_isTerm b_isTerm G_isVar F_isVar.kp m_isVar b_isVar
    have G_isPairs : FnOk P w K mg base CX0 4 f_isPairs e_isPairs ["value"] (spLst K prB) := ok_isPairs F_isPairs B G_isPair F_isPair.kp m_isPair b_isPair
    have G_kindOf : FnOk P w K mg base CX0 1 f_kindOf e_kindOf ["pattern"] _ := ok_kindOf F_kindOf B
    have G_termsOf : FnOk P w K mg base CX0 1 f_termsOf e_termsOf ["patterns"] _ := ok_termsOf F_termsOf
    have G_sides : FnOk P w K mg base CX0 1 f_sides e_sides ["pairs"] _ := ok_sides F_sides
    have G_varsAmong : FnOk P w K mg base CX0 2 f_varsAmong e_varsAmong ["terms"] _ := ok_varsAmong F_varsAmong B G_isVar F_isVar.kp m_isVar b_isVar
    have G_namesAmong : FnOk P w K mg base CX0 2 f_namesAmong e_namesAmong ["terms"] _ := ok_namesAmong F_namesAmong so G_isName F_isName.kp m_isName b_isName
    have G_varsOf : FnOk P w K mg base CX0 3 f_varsOf e_varsOf ["patterns"] _ := ok_varsOf F_varsOf G_termsOf F_termsOf.kp m_termsOf b_termsOf G_varsAmong F_varsAmong.kp m_varsAmong b_varsAmong
    have G_hasMore : FnOk P w K mg base CX0 4 f_hasMore e_hasMore ["terms", "told"] _ := ok_hasMore F_hasMore B G_varsAmong F_varsAmong.kp m_varsAmong b_varsAmong G_varsOf F_varsOf.kp m_varsOf b_varsOf
    have G_byKind : FnOk P w K mg base CX0 2 f_byKind e_byKind ["facts"] _ := ok_byKind F_byKind G_kindOf F_kindOf.kp m_kindOf b_kindOf
    have G_namesIn : FnOk P w K mg base CX0 3 f_namesIn e_namesIn ["patterns", "pairs"] _ := ok_namesIn (k := 2) F_namesIn (by decide) G_namesAmong F_namesAmong.kp m_namesAmong b_namesAmong G_termsOf F_termsOf.kp m_termsOf b_termsOf G_sides F_sides.kp m_sides b_sides
    have G_knows : FnOk P w K mg base CX0 1 f_knows e_knows ["terms", "pair"] _ := ok_knows F_knows
    have G_placesOf : FnOk P w K mg base CX0 1 f_placesOf e_placesOf ["terms", "pairs"] _ := ok_placesOf F_placesOf
    have G_keptApart : FnOk P w K mg base CX0 1 f_keptApart e_keptApart ["rows", "apart"] _ := ok_keptApart F_keptApart
    -- Step and Plan
    have SS : SC K CS := ⟨TS.cl, TS.n0, TS.n1, TS.n2, TS.n3, TS.n4, TS.n5, TS.n6⟩
    have PP : PNC K CP := ⟨TP.cl, TP.n0, TP.n1, TP.n2⟩
    have gS := PySem.W.mg_of X G TS.g
    have gP := PySem.W.mg_of X G TP.g
    obtain ⟨fSI, dSI, aSI, iSI, FSI⟩ := TS.init
    obtain ⟨fSO, dSO, aSO, iSO, FSO⟩ := TS.m0
    obtain ⟨fPI, dPI, aPI, iPI, FPI⟩ := TP.init
    obtain ⟨fPR, dPR, aPR, iPR, FPR⟩ := TP.m0
    have bSI : Binds K dSI ["self", "pattern", "terms", "pairs"] [] := FSI.binds (ps := ["self", "pattern", "terms", "pairs"]) fun _ _ _ _ _ _ us hl => match us, hl with | [_, _, _, _], _ => rfl
    have bSO : Binds K dSO ["self", "rows", "facts"] [] := FSO.binds (ps := ["self", "rows", "facts"]) fun _ _ _ _ _ _ us hl => match us, hl with | [_, _, _], _ => rfl
    have bPI : Binds K dPI ["self", "patterns", "pairs", "known"] [] := FPI.binds (ps := ["self", "patterns", "pairs", "known"]) fun _ _ _ _ _ _ us hl => match us, hl with | [_, _, _, _], _ => rfl
    have bPR : Binds K dPR ["self", "first", "shelves"] [] := FPR.binds (ps := ["self", "first", "shelves"]) fun _ _ _ _ _ _ us hl => match us, hl with | [_, _, _], _ => rfl
    have GSI := ok_stepInit FSI B B2.rg SS G_kindOf F_kindOf.kp m_kindOf b_kindOf G_knows F_knows.kp m_knows b_knows G_placesOf F_placesOf.kp m_placesOf b_placesOf
    have GSO := ok_onward FSO B SS G_keptApart F_keptApart.kp m_keptApart b_keptApart
    have GPI := ok_planInit FPI B PP SS GSI ⟨TS.mks, aSI, iSI, TS.kc⟩ gS bSI G_knows F_knows.kp m_knows b_knows G_placesOf F_placesOf.kp m_placesOf b_placesOf
    have GPR := ok_rows FPR zp PP SS GSO ⟨aSO, iSO, FSO.kp⟩ bSO G_keptApart F_keptApart.kp m_keptApart b_keptApart
    have MP : Mk K CP fPI := ⟨TP.mks, aPI, iPI, TP.kc⟩
    have G_met : FnOk P w K mg base CX0 6 f_met e_met ["told", "pairs", "shelf"] _ := ok_met F_met B PP G_namesIn F_namesIn.kp m_namesIn b_namesIn GPI MP gP bPI GPR ⟨aPR, iPR, FPR.kp⟩ bPR
    have G_needStore : FnOk P w K mg base CX0 5 f_needStore e_needStore ["value"] _ := ok_needStore F_needStore G_isStore F_isStore.kp m_isStore b_isStore
    -- the classes
    have QQ : QC K CQ := ⟨TQ.cl, TQ.n0, TQ.n1, TQ.n2⟩
    have gQ := PySem.W.mg_of X G TQ.g
    have CT : Ct P w K mg base := ⟨⟨_, _, G_isName, F_isName.kp, m_isName, b_isName⟩, ⟨_, _, G_isVar, F_isVar.kp, m_isVar, b_isVar⟩, ⟨_, _, G_isPattern, F_isPattern.kp, m_isPattern, b_isPattern⟩, ⟨_, _, G_isPatterns, F_isPatterns.kp, m_isPatterns, b_isPatterns⟩, ⟨_, _, G_isPairs, F_isPairs.kp, m_isPairs, b_isPairs⟩, ⟨_, _, G_termsOf, F_termsOf.kp, m_termsOf, b_termsOf⟩, ⟨_, _, G_sides, F_sides.kp, m_sides, b_sides⟩, ⟨_, _, G_hasMore, F_hasMore.kp, m_hasMore, b_hasMore⟩⟩
    -- the question
    obtain ⟨fQI, dQI, aQI, iQI, FQI⟩ := TQ.init
    obtain ⟨qp1, qg1, qd1, QO1, FQ1⟩ := TQ.q0
    obtain ⟨qp2, qg2, qd2, QO2, FQ2⟩ := TQ.q1
    obtain ⟨qp3, qg3, qd3, QO3, FQ3⟩ := TQ.q2
    have qb1 : Binds K qd1 ["self"] [] := FQ1.binds (ps := ["self"]) fun _ _ _ _ _ _ us hl => match us, hl with | [_], _ => rfl
    have qb2 : Binds K qd2 ["self"] [] := FQ2.binds (ps := ["self"]) fun _ _ _ _ _ _ us hl => match us, hl with | [_], _ => rfl
    have qb3 : Binds K qd3 ["self"] [] := FQ3.binds (ps := ["self"]) fun _ _ _ _ _ _ us hl => match us, hl with | [_], _ => rfl
    have GQI := ok_qInit (P := P) (w := w) (base := base) FQI B QQ CT
    have MQ : Mk K CQ fQI := ⟨TQ.mks, aQI, iQI, TQ.kc⟩
    have T1 : PropL P w K mg base CQ "told" "_told" := ⟨⟨qp1, qg1, qd1, QO1, ok_getL FQ1 ⟨rfl, rfl, rfl, by decide +kernel, rfl, by decide +kernel, by decide +kernel⟩ rfl (fun X e => by unfold Gl Env.kindOf; rw [e]; decide +kernel) TQ.cl TQ.n1 B, qb1⟩⟩
    have T2 : PropL P w K mg base CQ "pairs" "_pairs" := ⟨⟨qp2, qg2, qd2, QO2, ok_getL FQ2 ⟨rfl, rfl, rfl, by decide +kernel, rfl, by decide +kernel, by decide +kernel⟩ rfl (fun X e => by unfold Gl Env.kindOf; rw [e]; decide +kernel) TQ.cl TQ.n2 B, qb2⟩⟩
    have T3 : PropL P w K mg base CQ "columns" "_columns" := ⟨⟨qp3, qg3, qd3, QO3, ok_getL FQ3 ⟨rfl, rfl, rfl, by decide +kernel, rfl, by decide +kernel, by decide +kernel⟩ rfl (fun X e => by unfold Gl Env.kindOf; rw [e]; decide +kernel) TQ.cl TQ.n0 B, qb3⟩⟩
    have G_needQ : FnOk P w K mg base CX0 1 f_needQ e_needQ ["value"] _ := ok_needQ F_needQ B TQ.cl TQ.I gQ
    have cN : CallA P w K mg base "need_question" 1 ["value"] (spNeedQ CQ) := ⟨⟨_, _, G_needQ, F_needQ.kp, m_needQ, b_needQ⟩⟩
    have cS : CallA P w K mg base "need_store" 5 ["value"] (spNeedStore K) := ⟨⟨_, _, G_needStore, F_needStore.kp, m_needStore, b_needStore⟩⟩
    have cM : CallA P w K mg base "met" 6 ["told", "pairs", "shelf"] (spMet K) := ⟨⟨_, _, G_met, F_met.kp, m_met, b_met⟩⟩
    have cK : CallA P w K mg base "by_kind" 2 ["facts"] (spByKind K) := ⟨⟨_, _, G_byKind, F_byKind.kp, m_byKind, b_byKind⟩⟩
    have cV : CallA P w K mg base "variables_of" 3 ["patterns"] (spVarsOf K) := ⟨⟨_, _, G_varsOf, F_varsOf.kp, m_varsOf, b_varsOf⟩⟩
    have G_varsQ : FnOk P w K mg base CX0 4 f_varsQ e_varsQ ["question"] _ := ok_varsQ F_varsQ QQ T1 cN cV
    have G_matches : FnOk P w K mg base CX0 7 f_matches e_matches ["question", "store"] _ := ok_matches F_matches QQ T1 T2 so cN cS cM cK
    have cMa : CallA P w K mg base "matches" 7 ["question", "store"] (spMatches CQ) := ⟨⟨_, _, G_matches, F_matches.kp, m_matches, b_matches⟩⟩
    have G_count : FnOk P w K mg base CX0 8 f_count e_count ["question", "store"] _ := ok_count F_count B cMa
    -- the law
    have G_purse : FnOk P w K mg base CX0 1 f_purse e_purse ["_law_script", "_law_at"] _ := ok_purse F_purse B2
    have G_draw : FnOk P w K mg base CX0 2 f_draw e_draw ["_law_purse_here", "_law_many"] _ := ok_draw F_draw F_mixed m_mixed b_mixed B2.rg
    have G_purses : FnOk P w K mg base CX0 2 f_purses e_purses ["_law_script", "_law_few"] _ := ok_purses F_purses G_purse F_purse.kp m_purse b_purse B2
    have G_oneOf : FnOk P w K mg base CX0 3 f_oneOf e_oneOf ["_law_purse_here", "_law_some"] _ := ok_oneOf F_oneOf G_draw F_draw.kp m_draw b_draw B2
    have G_shuffled : FnOk P w K mg base CX0 3 f_shuffled e_shuffled ["_law_purse_here", "_law_some"] _ := ok_shuffled F_shuffled G_draw F_draw.kp m_draw b_draw B2
    have G_names : FnOk P w K mg base CX0 4 f_names e_names ["_law_purse_here", "_law_many"] _ := ok_names F_names G_draw F_draw.kp m_draw b_draw G_shuffled F_shuffled.kp m_shuffled b_shuffled B2
    have G_kinds : FnOk P w K mg base CX0 4 f_kinds e_kinds ["_law_purse_here", "_law_many"] _ := ok_kinds F_kinds G_draw F_draw.kp m_draw b_draw G_shuffled F_shuffled.kp m_shuffled b_shuffled B2
    have G_fact : FnOk P w K mg base CX0 4 f_fact e_fact ["_law_purse_here", "_law_kinds_here", "_law_names_here"] _ := ok_fact F_fact G_oneOf F_oneOf.kp m_oneOf b_oneOf B2
    have G_store : FnOk P w K mg base CX0 5 f_store e_store ["_law_purse_here", "_law_kinds_here", "_law_names_here", "_law_most"] _ := ok_store F_store B2 G_draw F_draw.kp m_draw b_draw G_fact F_fact.kp m_fact b_fact
    have G_pattern : FnOk P w K mg base CX0 4 f_pattern e_pattern ["_law_purse_here", "_law_kinds_here", "_law_terms"] _ := ok_pattern F_pattern G_oneOf F_oneOf.kp m_oneOf b_oneOf B2
    have G_told : FnOk P w K mg base CX0 5 f_told e_told ["_law_purse_here", "_law_kinds_here", "_law_names_here", "_law_most", "_law_few"] _ := ok_told F_told G_oneOf F_oneOf.kp m_oneOf b_oneOf G_draw F_draw.kp m_draw b_draw G_pattern F_pattern.kp m_pattern b_pattern B2
    have G_variables : FnOk P w K mg base CX0 1 f_variables e_variables ["_law_told_here"] _ := ok_variables F_variables
    have G_pairs : FnOk P w K mg base CX0 4 f_pairs e_pairs ["_law_purse_here", "_law_told_here", "_law_names_here"] _ := ok_pairs F_pairs G_variables F_variables.kp m_variables b_variables G_draw F_draw.kp m_draw b_draw G_oneOf F_oneOf.kp m_oneOf b_oneOf G_shuffled F_shuffled.kp m_shuffled b_shuffled B2
    have G_lawQ : FnOk P w K mg base CX0 7 f_lawQ e_lawQ ["_law_purse_here", "_law_kinds_here", "_law_names_here", "_law_most"] (spLawQ K CQ) := ok_lawQ F_lawQ B2 G_draw F_draw.kp m_draw b_draw G_oneOf F_oneOf.kp m_oneOf b_oneOf G_told F_told.kp m_told b_told G_variables F_variables.kp m_variables b_variables G_pairs F_pairs.kp m_pairs b_pairs GQI MQ gQ (binds_q FQI 1 (by decide))
    have G_lfilled : FnOk P w K mg base CX0 1 f_lfilled e_lfilled ["_law_pattern_here", "_law_match"] _ := ok_lfilled F_lfilled B
    have G_lets : FnOk P w K mg base CX0 2 f_lets e_lets ["_law_match", "_law_pairs_here", "_law_denied", "_law_store_here"] _ := ok_lets F_lets B G_lfilled F_lfilled.kp m_lfilled b_lfilled
    have G_fed : FnOk P w K mg base CX0 6 f_fed e_fed ["_law_purse_here", "_law_told_here", "_law_kinds_here", "_law_names_here", "_law_most"] _ := ok_fed F_fed B2 md G_draw F_draw.kp m_draw b_draw G_oneOf F_oneOf.kp m_oneOf b_oneOf G_variables F_variables.kp m_variables b_variables G_store F_store.kp m_store b_store G_lfilled F_lfilled.kp m_lfilled b_lfilled
    have G_ways : FnOk P w K mg base CX0 1 f_ways e_ways ["_law_names_here", "_law_many"] _ := ok_ways F_ways B2
    have G_due : FnOk P w K mg base CX0 4 f_due e_due ["_law_question_here", "_law_store_here"] (spDue K CQ) := ok_due F_due B2 md zp ms so ml QQ T1 T2 G_variables F_variables.kp m_variables b_variables G_ways F_ways.kp m_ways b_ways G_lfilled F_lfilled.kp m_lfilled b_lfilled G_lets F_lets.kp m_lets b_lets
    have G_typed : FnOk P w K mg base CX0 8 f_typed e_typed [] _ := ok_typed F_typed GQI MQ gQ (binds_q FQI 1 (by decide)) cMa
    have cC : CallA P w K mg base "count_matches" 8 ["question", "store"] (spCount CQ) := ⟨⟨_, _, G_count, F_count.kp, m_count, b_count⟩⟩
    have cVQ : CallA P w K mg base "variables" 4 ["question"] (spVarsQ CQ) := ⟨⟨_, _, G_varsQ, F_varsQ.kp, m_varsQ, b_varsQ⟩⟩
    exact ok_law F_law B2 B ml rp sy QQ T1 T2 T3 G_purses F_purses.kp m_purses b_purses G_names F_names.kp m_names b_names G_kinds F_kinds.kp m_kinds b_kinds G_lawQ F_lawQ.kp m_lawQ b_lawQ G_fed F_fed.kp m_fed b_fed G_store F_store.kp m_store b_store G_shuffled F_shuffled.kp m_shuffled b_shuffled G_due F_due.kp m_due b_due G_variables F_variables.kp m_variables b_variables G_typed F_typed.kp m_typed b_typed cMa cC cVQ
end Nv
class Nv.Held (p : Prop) : Prop where out : p
theorem Nv.Held.keep {p : Prop} (v : Nv.Held p) (k : let _h : Nv.Held p := v; Nv.Held p) : Nv.Held p := k
theorem Nv.split3 {α δ : Type} {x : Option α} {f : α → Bool} {q : PySem.Program} {loose : List PySem.Str} {g : α → _} {h : α → δ} {d : δ} (e1 : x.map f = some true) (e2 : x.map g = some (PySem.W.openGood q loose)) (e3 : x.map h = some d) : x.map (fun s => (f s, g s, h s)) = some (true, PySem.W.openGood q loose, d) := by
  cases x with
  | none => cases e1
  | some s =>
    injection e1 with e1
    injection e2 with e2
    injection e3 with e3
    rw [← e1, ← e2, ← e3]
    rfl
theorem Nv.split2 {α β γ : Type} {x : Option α} {f : α → β} {g : α → γ} {b : β} {c : γ} (e1 : x.map f = some b) (e2 : x.map g = some c) : x.map (fun s => (f s, g s)) = some (b, c) := by
  cases x with
  | none => cases e1
  | some s =>
    injection e1 with e1
    injection e2 with e2
    rw [← e1, ← e2]
    rfl
theorem Nv.split21 {α β γ δ : Type} {x : Option α} {f : α → β} {g : α → γ} {h : α → δ} {b : β} {c : γ} {d : δ} (e1 : x.map (fun s => (f s, g s)) = some (b, c)) (e2 : x.map h = some d) : x.map (fun s => (f s, g s, h s)) = some (b, c, d) := by
  cases x with
  | none => cases e1
  | some s =>
    injection e1 with e1
    injection e2 with e2
    injection e1 with e1 e3
    rw [← e1, ← e2, ← e3]
    rfl
theorem Nv.splitT {α : Type} {x : Option α} {q : PySem.Program} {g : α → PySem.Shared} (e1 : x.map (fun s => PySem.W.R.allR (PySem.W.Fast.tw3399658132070893891 q) fun d => PySem.W.Fast.tw5930804224584009831 (g s).heap d.name) = some true)
    (e2 : x.map (fun s => PySem.W.Fast.tw5244371056499926238 (g s).heap && (PySem.W.Fast.tw2578726214315757710 q (g s).heap && (!PySem.W.Fast.tw2458874890965802552 q || PySem.W.Fast.tw9649274521512697073 (g s).heap))) = some true) :
    x.map (fun s => PySem.W.Fast.tw479339242167458305 q (g s)) = some true := by
  cases x with
  | none => cases e1
  | some s =>
    injection e1 with e1
    injection e2 with e2
    dsimp only at e1 e2
    rw [Bool.and_eq_true, Bool.and_eq_true] at e2
    show some (((_ && _) && _) && _) = some true
    rw [e1, e2.1, e2.2.1, e2.2.2]
    rfl
theorem Nv.splitL {α A B : Type} (n : Nat) {x : Option α} {as : List A} {k : α → A → B} {d : List B} (e1 : x.map (fun s => (as.take n).map (k s)) = some (d.take n)) (e2 : x.map (fun s => (as.drop n).map (k s)) = some (d.drop n)) : x.map (fun s => as.map (k s)) = some d := by
  cases x with
  | none => cases e1
  | some s =>
    injection e1 with e1
    injection e2 with e2
    show some _ = some d
    rw [← List.take_append_drop n d, ← e1, ← e2, ← List.map_append, List.take_append_drop]
set_option hygiene false
local macro_rules | `(tactic| kernel_rfl) => `(tactic| (with_reducible refine Nv.split3 ?_ ?_ ?_; ((refine (?F : (fun p : Prop => Nv.Held p → p) _) ?v; (case v => (refine Nv.Held.keep ?_ ?_; (exact ⟨by kernel_rfl⟩); (intro h; exact inferInstanceAs (Nv.Held _)))); (case F => first | with_reducible exact fun _ => (PySem.Challenge.cw_neverapart_k09_whole_matches_holds._proof_36 _ _).out | with_reducible exact fun _ => (PySem.Challenge.cw_neverapart_k09_whole_matches_holds._proof_37 _ _).out | with_reducible exact fun _ => (PySem.Challenge.cw_neverapart_k09_whole_matches_holds._proof_38 _ _).out | with_reducible exact fun _ => (PySem.Challenge.cw_neverapart_k09_whole_matches_holds._proof_39 _ _).out | with_reducible exact fun _ => (PySem.Challenge.cw_neverapart_k09_whole_matches_holds._proof_40 _ _).out | with_reducible exact fun _ => (PySem.Challenge.cw_neverapart_k09_whole_matches_holds._proof_41 _ _).out | with_reducible exact fun _ => (PySem.Challenge.cw_neverapart_k09_whole_matches_holds._proof_42 _ _).out | with_reducible exact fun _ => (PySem.Challenge.cw_neverapart_k09_whole_matches_holds._proof_43 _ _).out | with_reducible exact fun _ => (PySem.Challenge.cw_neverapart_k09_whole_matches_holds._proof_44 _ _).out | with_reducible exact fun _ => (PySem.Challenge.cw_neverapart_k09_whole_matches_holds._proof_45 _ _).out | with_reducible exact fun _ => (PySem.Challenge.cw_neverapart_k09_whole_matches_holds._proof_46 _ _).out | with_reducible exact fun _ => (PySem.Challenge.cw_neverapart_k09_whole_matches_holds._proof_47 _ _).out | with_reducible exact fun _ => (PySem.Challenge.cw_neverapart_k09_whole_matches_holds._proof_48 _ _).out | with_reducible exact fun _ => (PySem.Challenge.cw_neverapart_k09_whole_matches_holds._proof_49 _ _).out | with_reducible exact fun _ => (PySem.Challenge.cw_neverapart_k09_whole_matches_holds._proof_50 _ _).out | with_reducible exact fun _ => (PySem.Challenge.cw_neverapart_k09_whole_matches_holds._proof_51 _ _).out | with_reducible exact fun _ => (PySem.Challenge.cw_neverapart_k09_whole_matches_holds._proof_52 _ _).out | with_reducible exact fun _ => (PySem.Challenge.cw_neverapart_k09_whole_matches_holds._proof_53 _ _).out | with_reducible exact fun _ => (PySem.Challenge.cw_neverapart_k09_whole_matches_holds._proof_54 _ _).out | with_reducible exact fun _ => (PySem.Challenge.cw_neverapart_k09_whole_matches_holds._proof_55 _ _).out | with_reducible exact fun _ => (PySem.Challenge.cw_neverapart_k09_whole_matches_holds._proof_56 _ _).out | with_reducible exact fun _ => (PySem.Challenge.cw_neverapart_k09_whole_matches_holds._proof_57 _ _).out | with_reducible exact fun _ => (PySem.Challenge.cw_neverapart_k09_whole_matches_holds._proof_58 _ _).out | with_reducible exact fun _ => (PySem.Challenge.cw_neverapart_k09_whole_matches_holds._proof_59 _ _).out | with_reducible exact fun _ => (PySem.Challenge.cw_neverapart_k09_whole_matches_holds._proof_60 _ _).out | with_reducible exact fun _ => (PySem.Challenge.cw_neverapart_k09_whole_matches_holds._proof_61 _ _).out | with_reducible exact fun _ => (PySem.Challenge.cw_neverapart_k09_whole_matches_holds._proof_62 _ _).out | with_reducible exact fun _ => (PySem.Challenge.cw_neverapart_k09_whole_matches_holds._proof_63 _ _).out | with_reducible exact fun _ => (PySem.Challenge.cw_neverapart_k09_whole_matches_holds._proof_64 _ _).out | with_reducible exact fun _ => (PySem.Challenge.cw_neverapart_k09_whole_matches_holds._proof_65 _ _).out | with_reducible exact fun _ => (PySem.Challenge.cw_neverapart_k09_whole_matches_holds._proof_66 _ _).out | with_reducible exact fun _ => (PySem.Challenge.cw_neverapart_k09_whole_matches_holds._proof_67 _ _).out | with_reducible exact fun _ => (PySem.Challenge.cw_neverapart_k09_whole_matches_holds._proof_68 _ _).out | with_reducible exact fun _ => (PySem.Challenge.cw_neverapart_k09_whole_matches_holds._proof_69 _ _).out | with_reducible exact fun _ => (PySem.Challenge.cw_neverapart_k09_whole_matches_holds._proof_70 _ _).out | with_reducible exact fun _ => (PySem.Challenge.cw_neverapart_k09_whole_matches_holds._proof_71 _ _).out | with_reducible exact fun _ => (PySem.Challenge.cw_neverapart_k09_whole_matches_holds._proof_72 _ _).out | with_reducible exact fun _ => (PySem.Challenge.cw_neverapart_k09_whole_matches_holds._proof_73 _ _).out | with_reducible exact fun _ => (PySem.Challenge.cw_neverapart_k09_whole_matches_holds._proof_74 _ _).out | with_reducible exact fun _ => (PySem.Challenge.cw_neverapart_k09_whole_matches_holds._proof_75 _ _).out | with_reducible exact fun _ => (PySem.Challenge.cw_neverapart_k09_whole_matches_holds._proof_76 _ _).out | with_reducible exact fun _ => (PySem.Challenge.cw_neverapart_k09_whole_matches_holds._proof_77 _ _).out | with_reducible exact fun _ => (PySem.Challenge.cw_neverapart_k09_whole_matches_holds._proof_78 _ _).out | with_reducible exact fun _ => (PySem.Challenge.cw_neverapart_k09_whole_matches_holds._proof_79 _ _).out))); (unfold HeadRun.seenQ; unfold PySem.W.Fast.tw4187177175401517315; unfold PySem.W.openGood; dsimp only; with_reducible refine Nv.split2 ?_ ?_; ((refine (?F : (fun p : Prop => Nv.Held p → p) _) ?v; (case v => (refine Nv.Held.keep ?_ ?_; (exact ⟨by kernel_rfl⟩); (intro h; exact inferInstanceAs (Nv.Held _)))); (case F => first | with_reducible exact fun _ => (PySem.Challenge.cw_neverapart_k09_whole_matches_holds._proof_36 _ _).out | with_reducible exact fun _ => (PySem.Challenge.cw_neverapart_k09_whole_matches_holds._proof_37 _ _).out | with_reducible exact fun _ => (PySem.Challenge.cw_neverapart_k09_whole_matches_holds._proof_38 _ _).out | with_reducible exact fun _ => (PySem.Challenge.cw_neverapart_k09_whole_matches_holds._proof_39 _ _).out | with_reducible exact fun _ => (PySem.Challenge.cw_neverapart_k09_whole_matches_holds._proof_40 _ _).out | with_reducible exact fun _ => (PySem.Challenge.cw_neverapart_k09_whole_matches_holds._proof_41 _ _).out | with_reducible exact fun _ => (PySem.Challenge.cw_neverapart_k09_whole_matches_holds._proof_42 _ _).out | with_reducible exact fun _ => (PySem.Challenge.cw_neverapart_k09_whole_matches_holds._proof_43 _ _).out | with_reducible exact fun _ => (PySem.Challenge.cw_neverapart_k09_whole_matches_holds._proof_44 _ _).out | with_reducible exact fun _ => (PySem.Challenge.cw_neverapart_k09_whole_matches_holds._proof_45 _ _).out | with_reducible exact fun _ => (PySem.Challenge.cw_neverapart_k09_whole_matches_holds._proof_46 _ _).out | with_reducible exact fun _ => (PySem.Challenge.cw_neverapart_k09_whole_matches_holds._proof_47 _ _).out | with_reducible exact fun _ => (PySem.Challenge.cw_neverapart_k09_whole_matches_holds._proof_48 _ _).out | with_reducible exact fun _ => (PySem.Challenge.cw_neverapart_k09_whole_matches_holds._proof_49 _ _).out | with_reducible exact fun _ => (PySem.Challenge.cw_neverapart_k09_whole_matches_holds._proof_50 _ _).out | with_reducible exact fun _ => (PySem.Challenge.cw_neverapart_k09_whole_matches_holds._proof_51 _ _).out | with_reducible exact fun _ => (PySem.Challenge.cw_neverapart_k09_whole_matches_holds._proof_52 _ _).out | with_reducible exact fun _ => (PySem.Challenge.cw_neverapart_k09_whole_matches_holds._proof_53 _ _).out | with_reducible exact fun _ => (PySem.Challenge.cw_neverapart_k09_whole_matches_holds._proof_54 _ _).out | with_reducible exact fun _ => (PySem.Challenge.cw_neverapart_k09_whole_matches_holds._proof_55 _ _).out | with_reducible exact fun _ => (PySem.Challenge.cw_neverapart_k09_whole_matches_holds._proof_56 _ _).out | with_reducible exact fun _ => (PySem.Challenge.cw_neverapart_k09_whole_matches_holds._proof_57 _ _).out | with_reducible exact fun _ => (PySem.Challenge.cw_neverapart_k09_whole_matches_holds._proof_58 _ _).out | with_reducible exact fun _ => (PySem.Challenge.cw_neverapart_k09_whole_matches_holds._proof_59 _ _).out | with_reducible exact fun _ => (PySem.Challenge.cw_neverapart_k09_whole_matches_holds._proof_60 _ _).out | with_reducible exact fun _ => (PySem.Challenge.cw_neverapart_k09_whole_matches_holds._proof_61 _ _).out | with_reducible exact fun _ => (PySem.Challenge.cw_neverapart_k09_whole_matches_holds._proof_62 _ _).out | with_reducible exact fun _ => (PySem.Challenge.cw_neverapart_k09_whole_matches_holds._proof_63 _ _).out | with_reducible exact fun _ => (PySem.Challenge.cw_neverapart_k09_whole_matches_holds._proof_64 _ _).out | with_reducible exact fun _ => (PySem.Challenge.cw_neverapart_k09_whole_matches_holds._proof_65 _ _).out | with_reducible exact fun _ => (PySem.Challenge.cw_neverapart_k09_whole_matches_holds._proof_66 _ _).out | with_reducible exact fun _ => (PySem.Challenge.cw_neverapart_k09_whole_matches_holds._proof_67 _ _).out | with_reducible exact fun _ => (PySem.Challenge.cw_neverapart_k09_whole_matches_holds._proof_68 _ _).out | with_reducible exact fun _ => (PySem.Challenge.cw_neverapart_k09_whole_matches_holds._proof_69 _ _).out | with_reducible exact fun _ => (PySem.Challenge.cw_neverapart_k09_whole_matches_holds._proof_70 _ _).out | with_reducible exact fun _ => (PySem.Challenge.cw_neverapart_k09_whole_matches_holds._proof_71 _ _).out | with_reducible exact fun _ => (PySem.Challenge.cw_neverapart_k09_whole_matches_holds._proof_72 _ _).out | with_reducible exact fun _ => (PySem.Challenge.cw_neverapart_k09_whole_matches_holds._proof_73 _ _).out | with_reducible exact fun _ => (PySem.Challenge.cw_neverapart_k09_whole_matches_holds._proof_74 _ _).out | with_reducible exact fun _ => (PySem.Challenge.cw_neverapart_k09_whole_matches_holds._proof_75 _ _).out | with_reducible exact fun _ => (PySem.Challenge.cw_neverapart_k09_whole_matches_holds._proof_76 _ _).out | with_reducible exact fun _ => (PySem.Challenge.cw_neverapart_k09_whole_matches_holds._proof_77 _ _).out | with_reducible exact fun _ => (PySem.Challenge.cw_neverapart_k09_whole_matches_holds._proof_78 _ _).out | with_reducible exact fun _ => (PySem.Challenge.cw_neverapart_k09_whole_matches_holds._proof_79 _ _).out))); with_reducible refine Nv.split21 ?_ ?_; ((refine (?F : (fun p : Prop => Nv.Held p → p) _) ?v; (case v => (refine Nv.Held.keep ?_ ?_; (exact ⟨by kernel_rfl⟩); (intro h; exact inferInstanceAs (Nv.Held _)))); (case F => first | with_reducible exact fun _ => (PySem.Challenge.cw_neverapart_k09_whole_matches_holds._proof_36 _ _).out | with_reducible exact fun _ => (PySem.Challenge.cw_neverapart_k09_whole_matches_holds._proof_37 _ _).out | with_reducible exact fun _ => (PySem.Challenge.cw_neverapart_k09_whole_matches_holds._proof_38 _ _).out | with_reducible exact fun _ => (PySem.Challenge.cw_neverapart_k09_whole_matches_holds._proof_39 _ _).out | with_reducible exact fun _ => (PySem.Challenge.cw_neverapart_k09_whole_matches_holds._proof_40 _ _).out | with_reducible exact fun _ => (PySem.Challenge.cw_neverapart_k09_whole_matches_holds._proof_41 _ _).out | with_reducible exact fun _ => (PySem.Challenge.cw_neverapart_k09_whole_matches_holds._proof_42 _ _).out | with_reducible exact fun _ => (PySem.Challenge.cw_neverapart_k09_whole_matches_holds._proof_43 _ _).out | with_reducible exact fun _ => (PySem.Challenge.cw_neverapart_k09_whole_matches_holds._proof_44 _ _).out | with_reducible exact fun _ => (PySem.Challenge.cw_neverapart_k09_whole_matches_holds._proof_45 _ _).out | with_reducible exact fun _ => (PySem.Challenge.cw_neverapart_k09_whole_matches_holds._proof_46 _ _).out | with_reducible exact fun _ => (PySem.Challenge.cw_neverapart_k09_whole_matches_holds._proof_47 _ _).out | with_reducible exact fun _ => (PySem.Challenge.cw_neverapart_k09_whole_matches_holds._proof_48 _ _).out | with_reducible exact fun _ => (PySem.Challenge.cw_neverapart_k09_whole_matches_holds._proof_49 _ _).out | with_reducible exact fun _ => (PySem.Challenge.cw_neverapart_k09_whole_matches_holds._proof_50 _ _).out | with_reducible exact fun _ => (PySem.Challenge.cw_neverapart_k09_whole_matches_holds._proof_51 _ _).out | with_reducible exact fun _ => (PySem.Challenge.cw_neverapart_k09_whole_matches_holds._proof_52 _ _).out | with_reducible exact fun _ => (PySem.Challenge.cw_neverapart_k09_whole_matches_holds._proof_53 _ _).out | with_reducible exact fun _ => (PySem.Challenge.cw_neverapart_k09_whole_matches_holds._proof_54 _ _).out | with_reducible exact fun _ => (PySem.Challenge.cw_neverapart_k09_whole_matches_holds._proof_55 _ _).out | with_reducible exact fun _ => (PySem.Challenge.cw_neverapart_k09_whole_matches_holds._proof_56 _ _).out | with_reducible exact fun _ => (PySem.Challenge.cw_neverapart_k09_whole_matches_holds._proof_57 _ _).out | with_reducible exact fun _ => (PySem.Challenge.cw_neverapart_k09_whole_matches_holds._proof_58 _ _).out | with_reducible exact fun _ => (PySem.Challenge.cw_neverapart_k09_whole_matches_holds._proof_59 _ _).out | with_reducible exact fun _ => (PySem.Challenge.cw_neverapart_k09_whole_matches_holds._proof_60 _ _).out | with_reducible exact fun _ => (PySem.Challenge.cw_neverapart_k09_whole_matches_holds._proof_61 _ _).out | with_reducible exact fun _ => (PySem.Challenge.cw_neverapart_k09_whole_matches_holds._proof_62 _ _).out | with_reducible exact fun _ => (PySem.Challenge.cw_neverapart_k09_whole_matches_holds._proof_63 _ _).out | with_reducible exact fun _ => (PySem.Challenge.cw_neverapart_k09_whole_matches_holds._proof_64 _ _).out | with_reducible exact fun _ => (PySem.Challenge.cw_neverapart_k09_whole_matches_holds._proof_65 _ _).out | with_reducible exact fun _ => (PySem.Challenge.cw_neverapart_k09_whole_matches_holds._proof_66 _ _).out | with_reducible exact fun _ => (PySem.Challenge.cw_neverapart_k09_whole_matches_holds._proof_67 _ _).out | with_reducible exact fun _ => (PySem.Challenge.cw_neverapart_k09_whole_matches_holds._proof_68 _ _).out | with_reducible exact fun _ => (PySem.Challenge.cw_neverapart_k09_whole_matches_holds._proof_69 _ _).out | with_reducible exact fun _ => (PySem.Challenge.cw_neverapart_k09_whole_matches_holds._proof_70 _ _).out | with_reducible exact fun _ => (PySem.Challenge.cw_neverapart_k09_whole_matches_holds._proof_71 _ _).out | with_reducible exact fun _ => (PySem.Challenge.cw_neverapart_k09_whole_matches_holds._proof_72 _ _).out | with_reducible exact fun _ => (PySem.Challenge.cw_neverapart_k09_whole_matches_holds._proof_73 _ _).out | with_reducible exact fun _ => (PySem.Challenge.cw_neverapart_k09_whole_matches_holds._proof_74 _ _).out | with_reducible exact fun _ => (PySem.Challenge.cw_neverapart_k09_whole_matches_holds._proof_75 _ _).out | with_reducible exact fun _ => (PySem.Challenge.cw_neverapart_k09_whole_matches_holds._proof_76 _ _).out | with_reducible exact fun _ => (PySem.Challenge.cw_neverapart_k09_whole_matches_holds._proof_77 _ _).out | with_reducible exact fun _ => (PySem.Challenge.cw_neverapart_k09_whole_matches_holds._proof_78 _ _).out | with_reducible exact fun _ => (PySem.Challenge.cw_neverapart_k09_whole_matches_holds._proof_79 _ _).out))); with_reducible refine Nv.split2 ?_ ?_; (refine Nv.splitT ?_ ?_; ((refine (?F : (fun p : Prop => Nv.Held p → p) _) ?v; (case v => (refine Nv.Held.keep ?_ ?_; (exact ⟨by kernel_rfl⟩); (intro h; exact inferInstanceAs (Nv.Held _)))); (case F => first | with_reducible exact fun _ => (PySem.Challenge.cw_neverapart_k09_whole_matches_holds._proof_36 _ _).out | with_reducible exact fun _ => (PySem.Challenge.cw_neverapart_k09_whole_matches_holds._proof_37 _ _).out | with_reducible exact fun _ => (PySem.Challenge.cw_neverapart_k09_whole_matches_holds._proof_38 _ _).out | with_reducible exact fun _ => (PySem.Challenge.cw_neverapart_k09_whole_matches_holds._proof_39 _ _).out | with_reducible exact fun _ => (PySem.Challenge.cw_neverapart_k09_whole_matches_holds._proof_40 _ _).out | with_reducible exact fun _ => (PySem.Challenge.cw_neverapart_k09_whole_matches_holds._proof_41 _ _).out | with_reducible exact fun _ => (PySem.Challenge.cw_neverapart_k09_whole_matches_holds._proof_42 _ _).out | with_reducible exact fun _ => (PySem.Challenge.cw_neverapart_k09_whole_matches_holds._proof_43 _ _).out | with_reducible exact fun _ => (PySem.Challenge.cw_neverapart_k09_whole_matches_holds._proof_44 _ _).out | with_reducible exact fun _ => (PySem.Challenge.cw_neverapart_k09_whole_matches_holds._proof_45 _ _).out | with_reducible exact fun _ => (PySem.Challenge.cw_neverapart_k09_whole_matches_holds._proof_46 _ _).out | with_reducible exact fun _ => (PySem.Challenge.cw_neverapart_k09_whole_matches_holds._proof_47 _ _).out | with_reducible exact fun _ => (PySem.Challenge.cw_neverapart_k09_whole_matches_holds._proof_48 _ _).out | with_reducible exact fun _ => (PySem.Challenge.cw_neverapart_k09_whole_matches_holds._proof_49 _ _).out | with_reducible exact fun _ => (PySem.Challenge.cw_neverapart_k09_whole_matches_holds._proof_50 _ _).out | with_reducible exact fun _ => (PySem.Challenge.cw_neverapart_k09_whole_matches_holds._proof_51 _ _).out | with_reducible exact fun _ => (PySem.Challenge.cw_neverapart_k09_whole_matches_holds._proof_52 _ _).out | with_reducible exact fun _ => (PySem.Challenge.cw_neverapart_k09_whole_matches_holds._proof_53 _ _).out | with_reducible exact fun _ => (PySem.Challenge.cw_neverapart_k09_whole_matches_holds._proof_54 _ _).out | with_reducible exact fun _ => (PySem.Challenge.cw_neverapart_k09_whole_matches_holds._proof_55 _ _).out | with_reducible exact fun _ => (PySem.Challenge.cw_neverapart_k09_whole_matches_holds._proof_56 _ _).out | with_reducible exact fun _ => (PySem.Challenge.cw_neverapart_k09_whole_matches_holds._proof_57 _ _).out | with_reducible exact fun _ => (PySem.Challenge.cw_neverapart_k09_whole_matches_holds._proof_58 _ _).out | with_reducible exact fun _ => (PySem.Challenge.cw_neverapart_k09_whole_matches_holds._proof_59 _ _).out | with_reducible exact fun _ => (PySem.Challenge.cw_neverapart_k09_whole_matches_holds._proof_60 _ _).out | with_reducible exact fun _ => (PySem.Challenge.cw_neverapart_k09_whole_matches_holds._proof_61 _ _).out | with_reducible exact fun _ => (PySem.Challenge.cw_neverapart_k09_whole_matches_holds._proof_62 _ _).out | with_reducible exact fun _ => (PySem.Challenge.cw_neverapart_k09_whole_matches_holds._proof_63 _ _).out | with_reducible exact fun _ => (PySem.Challenge.cw_neverapart_k09_whole_matches_holds._proof_64 _ _).out | with_reducible exact fun _ => (PySem.Challenge.cw_neverapart_k09_whole_matches_holds._proof_65 _ _).out | with_reducible exact fun _ => (PySem.Challenge.cw_neverapart_k09_whole_matches_holds._proof_66 _ _).out | with_reducible exact fun _ => (PySem.Challenge.cw_neverapart_k09_whole_matches_holds._proof_67 _ _).out | with_reducible exact fun _ => (PySem.Challenge.cw_neverapart_k09_whole_matches_holds._proof_68 _ _).out | with_reducible exact fun _ => (PySem.Challenge.cw_neverapart_k09_whole_matches_holds._proof_69 _ _).out | with_reducible exact fun _ => (PySem.Challenge.cw_neverapart_k09_whole_matches_holds._proof_70 _ _).out | with_reducible exact fun _ => (PySem.Challenge.cw_neverapart_k09_whole_matches_holds._proof_71 _ _).out | with_reducible exact fun _ => (PySem.Challenge.cw_neverapart_k09_whole_matches_holds._proof_72 _ _).out | with_reducible exact fun _ => (PySem.Challenge.cw_neverapart_k09_whole_matches_holds._proof_73 _ _).out | with_reducible exact fun _ => (PySem.Challenge.cw_neverapart_k09_whole_matches_holds._proof_74 _ _).out | with_reducible exact fun _ => (PySem.Challenge.cw_neverapart_k09_whole_matches_holds._proof_75 _ _).out | with_reducible exact fun _ => (PySem.Challenge.cw_neverapart_k09_whole_matches_holds._proof_76 _ _).out | with_reducible exact fun _ => (PySem.Challenge.cw_neverapart_k09_whole_matches_holds._proof_77 _ _).out | with_reducible exact fun _ => (PySem.Challenge.cw_neverapart_k09_whole_matches_holds._proof_78 _ _).out | with_reducible exact fun _ => (PySem.Challenge.cw_neverapart_k09_whole_matches_holds._proof_79 _ _).out))); ((refine (?F : (fun p : Prop => Nv.Held p → p) _) ?v; (case v => (refine Nv.Held.keep ?_ ?_; (exact ⟨by kernel_rfl⟩); (intro h; exact inferInstanceAs (Nv.Held _)))); (case F => first | with_reducible exact fun _ => (PySem.Challenge.cw_neverapart_k09_whole_matches_holds._proof_36 _ _).out | with_reducible exact fun _ => (PySem.Challenge.cw_neverapart_k09_whole_matches_holds._proof_37 _ _).out | with_reducible exact fun _ => (PySem.Challenge.cw_neverapart_k09_whole_matches_holds._proof_38 _ _).out | with_reducible exact fun _ => (PySem.Challenge.cw_neverapart_k09_whole_matches_holds._proof_39 _ _).out | with_reducible exact fun _ => (PySem.Challenge.cw_neverapart_k09_whole_matches_holds._proof_40 _ _).out | with_reducible exact fun _ => (PySem.Challenge.cw_neverapart_k09_whole_matches_holds._proof_41 _ _).out | with_reducible exact fun _ => (PySem.Challenge.cw_neverapart_k09_whole_matches_holds._proof_42 _ _).out | with_reducible exact fun _ => (PySem.Challenge.cw_neverapart_k09_whole_matches_holds._proof_43 _ _).out | with_reducible exact fun _ => (PySem.Challenge.cw_neverapart_k09_whole_matches_holds._proof_44 _ _).out | with_reducible exact fun _ => (PySem.Challenge.cw_neverapart_k09_whole_matches_holds._proof_45 _ _).out | with_reducible exact fun _ => (PySem.Challenge.cw_neverapart_k09_whole_matches_holds._proof_46 _ _).out | with_reducible exact fun _ => (PySem.Challenge.cw_neverapart_k09_whole_matches_holds._proof_47 _ _).out | with_reducible exact fun _ => (PySem.Challenge.cw_neverapart_k09_whole_matches_holds._proof_48 _ _).out | with_reducible exact fun _ => (PySem.Challenge.cw_neverapart_k09_whole_matches_holds._proof_49 _ _).out | with_reducible exact fun _ => (PySem.Challenge.cw_neverapart_k09_whole_matches_holds._proof_50 _ _).out | with_reducible exact fun _ => (PySem.Challenge.cw_neverapart_k09_whole_matches_holds._proof_51 _ _).out | with_reducible exact fun _ => (PySem.Challenge.cw_neverapart_k09_whole_matches_holds._proof_52 _ _).out | with_reducible exact fun _ => (PySem.Challenge.cw_neverapart_k09_whole_matches_holds._proof_53 _ _).out | with_reducible exact fun _ => (PySem.Challenge.cw_neverapart_k09_whole_matches_holds._proof_54 _ _).out | with_reducible exact fun _ => (PySem.Challenge.cw_neverapart_k09_whole_matches_holds._proof_55 _ _).out | with_reducible exact fun _ => (PySem.Challenge.cw_neverapart_k09_whole_matches_holds._proof_56 _ _).out | with_reducible exact fun _ => (PySem.Challenge.cw_neverapart_k09_whole_matches_holds._proof_57 _ _).out | with_reducible exact fun _ => (PySem.Challenge.cw_neverapart_k09_whole_matches_holds._proof_58 _ _).out | with_reducible exact fun _ => (PySem.Challenge.cw_neverapart_k09_whole_matches_holds._proof_59 _ _).out | with_reducible exact fun _ => (PySem.Challenge.cw_neverapart_k09_whole_matches_holds._proof_60 _ _).out | with_reducible exact fun _ => (PySem.Challenge.cw_neverapart_k09_whole_matches_holds._proof_61 _ _).out | with_reducible exact fun _ => (PySem.Challenge.cw_neverapart_k09_whole_matches_holds._proof_62 _ _).out | with_reducible exact fun _ => (PySem.Challenge.cw_neverapart_k09_whole_matches_holds._proof_63 _ _).out | with_reducible exact fun _ => (PySem.Challenge.cw_neverapart_k09_whole_matches_holds._proof_64 _ _).out | with_reducible exact fun _ => (PySem.Challenge.cw_neverapart_k09_whole_matches_holds._proof_65 _ _).out | with_reducible exact fun _ => (PySem.Challenge.cw_neverapart_k09_whole_matches_holds._proof_66 _ _).out | with_reducible exact fun _ => (PySem.Challenge.cw_neverapart_k09_whole_matches_holds._proof_67 _ _).out | with_reducible exact fun _ => (PySem.Challenge.cw_neverapart_k09_whole_matches_holds._proof_68 _ _).out | with_reducible exact fun _ => (PySem.Challenge.cw_neverapart_k09_whole_matches_holds._proof_69 _ _).out | with_reducible exact fun _ => (PySem.Challenge.cw_neverapart_k09_whole_matches_holds._proof_70 _ _).out | with_reducible exact fun _ => (PySem.Challenge.cw_neverapart_k09_whole_matches_holds._proof_71 _ _).out | with_reducible exact fun _ => (PySem.Challenge.cw_neverapart_k09_whole_matches_holds._proof_72 _ _).out | with_reducible exact fun _ => (PySem.Challenge.cw_neverapart_k09_whole_matches_holds._proof_73 _ _).out | with_reducible exact fun _ => (PySem.Challenge.cw_neverapart_k09_whole_matches_holds._proof_74 _ _).out | with_reducible exact fun _ => (PySem.Challenge.cw_neverapart_k09_whole_matches_holds._proof_75 _ _).out | with_reducible exact fun _ => (PySem.Challenge.cw_neverapart_k09_whole_matches_holds._proof_76 _ _).out | with_reducible exact fun _ => (PySem.Challenge.cw_neverapart_k09_whole_matches_holds._proof_77 _ _).out | with_reducible exact fun _ => (PySem.Challenge.cw_neverapart_k09_whole_matches_holds._proof_78 _ _).out | with_reducible exact fun _ => (PySem.Challenge.cw_neverapart_k09_whole_matches_holds._proof_79 _ _).out)))); with_reducible refine Nv.split21 ?_ ?_; ((refine (?F : (fun p : Prop => Nv.Held p → p) _) ?v; (case v => (refine Nv.Held.keep ?_ ?_; (exact ⟨by kernel_rfl⟩); (intro h; exact inferInstanceAs (Nv.Held _)))); (case F => first | with_reducible exact fun _ => (PySem.Challenge.cw_neverapart_k09_whole_matches_holds._proof_36 _ _).out | with_reducible exact fun _ => (PySem.Challenge.cw_neverapart_k09_whole_matches_holds._proof_37 _ _).out | with_reducible exact fun _ => (PySem.Challenge.cw_neverapart_k09_whole_matches_holds._proof_38 _ _).out | with_reducible exact fun _ => (PySem.Challenge.cw_neverapart_k09_whole_matches_holds._proof_39 _ _).out | with_reducible exact fun _ => (PySem.Challenge.cw_neverapart_k09_whole_matches_holds._proof_40 _ _).out | with_reducible exact fun _ => (PySem.Challenge.cw_neverapart_k09_whole_matches_holds._proof_41 _ _).out | with_reducible exact fun _ => (PySem.Challenge.cw_neverapart_k09_whole_matches_holds._proof_42 _ _).out | with_reducible exact fun _ => (PySem.Challenge.cw_neverapart_k09_whole_matches_holds._proof_43 _ _).out | with_reducible exact fun _ => (PySem.Challenge.cw_neverapart_k09_whole_matches_holds._proof_44 _ _).out | with_reducible exact fun _ => (PySem.Challenge.cw_neverapart_k09_whole_matches_holds._proof_45 _ _).out | with_reducible exact fun _ => (PySem.Challenge.cw_neverapart_k09_whole_matches_holds._proof_46 _ _).out | with_reducible exact fun _ => (PySem.Challenge.cw_neverapart_k09_whole_matches_holds._proof_47 _ _).out | with_reducible exact fun _ => (PySem.Challenge.cw_neverapart_k09_whole_matches_holds._proof_48 _ _).out | with_reducible exact fun _ => (PySem.Challenge.cw_neverapart_k09_whole_matches_holds._proof_49 _ _).out | with_reducible exact fun _ => (PySem.Challenge.cw_neverapart_k09_whole_matches_holds._proof_50 _ _).out | with_reducible exact fun _ => (PySem.Challenge.cw_neverapart_k09_whole_matches_holds._proof_51 _ _).out | with_reducible exact fun _ => (PySem.Challenge.cw_neverapart_k09_whole_matches_holds._proof_52 _ _).out | with_reducible exact fun _ => (PySem.Challenge.cw_neverapart_k09_whole_matches_holds._proof_53 _ _).out | with_reducible exact fun _ => (PySem.Challenge.cw_neverapart_k09_whole_matches_holds._proof_54 _ _).out | with_reducible exact fun _ => (PySem.Challenge.cw_neverapart_k09_whole_matches_holds._proof_55 _ _).out | with_reducible exact fun _ => (PySem.Challenge.cw_neverapart_k09_whole_matches_holds._proof_56 _ _).out | with_reducible exact fun _ => (PySem.Challenge.cw_neverapart_k09_whole_matches_holds._proof_57 _ _).out | with_reducible exact fun _ => (PySem.Challenge.cw_neverapart_k09_whole_matches_holds._proof_58 _ _).out | with_reducible exact fun _ => (PySem.Challenge.cw_neverapart_k09_whole_matches_holds._proof_59 _ _).out | with_reducible exact fun _ => (PySem.Challenge.cw_neverapart_k09_whole_matches_holds._proof_60 _ _).out | with_reducible exact fun _ => (PySem.Challenge.cw_neverapart_k09_whole_matches_holds._proof_61 _ _).out | with_reducible exact fun _ => (PySem.Challenge.cw_neverapart_k09_whole_matches_holds._proof_62 _ _).out | with_reducible exact fun _ => (PySem.Challenge.cw_neverapart_k09_whole_matches_holds._proof_63 _ _).out | with_reducible exact fun _ => (PySem.Challenge.cw_neverapart_k09_whole_matches_holds._proof_64 _ _).out | with_reducible exact fun _ => (PySem.Challenge.cw_neverapart_k09_whole_matches_holds._proof_65 _ _).out | with_reducible exact fun _ => (PySem.Challenge.cw_neverapart_k09_whole_matches_holds._proof_66 _ _).out | with_reducible exact fun _ => (PySem.Challenge.cw_neverapart_k09_whole_matches_holds._proof_67 _ _).out | with_reducible exact fun _ => (PySem.Challenge.cw_neverapart_k09_whole_matches_holds._proof_68 _ _).out | with_reducible exact fun _ => (PySem.Challenge.cw_neverapart_k09_whole_matches_holds._proof_69 _ _).out | with_reducible exact fun _ => (PySem.Challenge.cw_neverapart_k09_whole_matches_holds._proof_70 _ _).out | with_reducible exact fun _ => (PySem.Challenge.cw_neverapart_k09_whole_matches_holds._proof_71 _ _).out | with_reducible exact fun _ => (PySem.Challenge.cw_neverapart_k09_whole_matches_holds._proof_72 _ _).out | with_reducible exact fun _ => (PySem.Challenge.cw_neverapart_k09_whole_matches_holds._proof_73 _ _).out | with_reducible exact fun _ => (PySem.Challenge.cw_neverapart_k09_whole_matches_holds._proof_74 _ _).out | with_reducible exact fun _ => (PySem.Challenge.cw_neverapart_k09_whole_matches_holds._proof_75 _ _).out | with_reducible exact fun _ => (PySem.Challenge.cw_neverapart_k09_whole_matches_holds._proof_76 _ _).out | with_reducible exact fun _ => (PySem.Challenge.cw_neverapart_k09_whole_matches_holds._proof_77 _ _).out | with_reducible exact fun _ => (PySem.Challenge.cw_neverapart_k09_whole_matches_holds._proof_78 _ _).out | with_reducible exact fun _ => (PySem.Challenge.cw_neverapart_k09_whole_matches_holds._proof_79 _ _).out))); ((refine (?F : (fun p : Prop => Nv.Held p → p) _) ?v; (case v => (refine Nv.Held.keep ?_ ?_; (exact ⟨by kernel_rfl⟩); (intro h; exact inferInstanceAs (Nv.Held _)))); (case F => first | with_reducible exact fun _ => (PySem.Challenge.cw_neverapart_k09_whole_matches_holds._proof_36 _ _).out | with_reducible exact fun _ => (PySem.Challenge.cw_neverapart_k09_whole_matches_holds._proof_37 _ _).out | with_reducible exact fun _ => (PySem.Challenge.cw_neverapart_k09_whole_matches_holds._proof_38 _ _).out | with_reducible exact fun _ => (PySem.Challenge.cw_neverapart_k09_whole_matches_holds._proof_39 _ _).out | with_reducible exact fun _ => (PySem.Challenge.cw_neverapart_k09_whole_matches_holds._proof_40 _ _).out | with_reducible exact fun _ => (PySem.Challenge.cw_neverapart_k09_whole_matches_holds._proof_41 _ _).out | with_reducible exact fun _ => (PySem.Challenge.cw_neverapart_k09_whole_matches_holds._proof_42 _ _).out | with_reducible exact fun _ => (PySem.Challenge.cw_neverapart_k09_whole_matches_holds._proof_43 _ _).out | with_reducible exact fun _ => (PySem.Challenge.cw_neverapart_k09_whole_matches_holds._proof_44 _ _).out | with_reducible exact fun _ => (PySem.Challenge.cw_neverapart_k09_whole_matches_holds._proof_45 _ _).out | with_reducible exact fun _ => (PySem.Challenge.cw_neverapart_k09_whole_matches_holds._proof_46 _ _).out | with_reducible exact fun _ => (PySem.Challenge.cw_neverapart_k09_whole_matches_holds._proof_47 _ _).out | with_reducible exact fun _ => (PySem.Challenge.cw_neverapart_k09_whole_matches_holds._proof_48 _ _).out | with_reducible exact fun _ => (PySem.Challenge.cw_neverapart_k09_whole_matches_holds._proof_49 _ _).out | with_reducible exact fun _ => (PySem.Challenge.cw_neverapart_k09_whole_matches_holds._proof_50 _ _).out | with_reducible exact fun _ => (PySem.Challenge.cw_neverapart_k09_whole_matches_holds._proof_51 _ _).out | with_reducible exact fun _ => (PySem.Challenge.cw_neverapart_k09_whole_matches_holds._proof_52 _ _).out | with_reducible exact fun _ => (PySem.Challenge.cw_neverapart_k09_whole_matches_holds._proof_53 _ _).out | with_reducible exact fun _ => (PySem.Challenge.cw_neverapart_k09_whole_matches_holds._proof_54 _ _).out | with_reducible exact fun _ => (PySem.Challenge.cw_neverapart_k09_whole_matches_holds._proof_55 _ _).out | with_reducible exact fun _ => (PySem.Challenge.cw_neverapart_k09_whole_matches_holds._proof_56 _ _).out | with_reducible exact fun _ => (PySem.Challenge.cw_neverapart_k09_whole_matches_holds._proof_57 _ _).out | with_reducible exact fun _ => (PySem.Challenge.cw_neverapart_k09_whole_matches_holds._proof_58 _ _).out | with_reducible exact fun _ => (PySem.Challenge.cw_neverapart_k09_whole_matches_holds._proof_59 _ _).out | with_reducible exact fun _ => (PySem.Challenge.cw_neverapart_k09_whole_matches_holds._proof_60 _ _).out | with_reducible exact fun _ => (PySem.Challenge.cw_neverapart_k09_whole_matches_holds._proof_61 _ _).out | with_reducible exact fun _ => (PySem.Challenge.cw_neverapart_k09_whole_matches_holds._proof_62 _ _).out | with_reducible exact fun _ => (PySem.Challenge.cw_neverapart_k09_whole_matches_holds._proof_63 _ _).out | with_reducible exact fun _ => (PySem.Challenge.cw_neverapart_k09_whole_matches_holds._proof_64 _ _).out | with_reducible exact fun _ => (PySem.Challenge.cw_neverapart_k09_whole_matches_holds._proof_65 _ _).out | with_reducible exact fun _ => (PySem.Challenge.cw_neverapart_k09_whole_matches_holds._proof_66 _ _).out | with_reducible exact fun _ => (PySem.Challenge.cw_neverapart_k09_whole_matches_holds._proof_67 _ _).out | with_reducible exact fun _ => (PySem.Challenge.cw_neverapart_k09_whole_matches_holds._proof_68 _ _).out | with_reducible exact fun _ => (PySem.Challenge.cw_neverapart_k09_whole_matches_holds._proof_69 _ _).out | with_reducible exact fun _ => (PySem.Challenge.cw_neverapart_k09_whole_matches_holds._proof_70 _ _).out | with_reducible exact fun _ => (PySem.Challenge.cw_neverapart_k09_whole_matches_holds._proof_71 _ _).out | with_reducible exact fun _ => (PySem.Challenge.cw_neverapart_k09_whole_matches_holds._proof_72 _ _).out | with_reducible exact fun _ => (PySem.Challenge.cw_neverapart_k09_whole_matches_holds._proof_73 _ _).out | with_reducible exact fun _ => (PySem.Challenge.cw_neverapart_k09_whole_matches_holds._proof_74 _ _).out | with_reducible exact fun _ => (PySem.Challenge.cw_neverapart_k09_whole_matches_holds._proof_75 _ _).out | with_reducible exact fun _ => (PySem.Challenge.cw_neverapart_k09_whole_matches_holds._proof_76 _ _).out | with_reducible exact fun _ => (PySem.Challenge.cw_neverapart_k09_whole_matches_holds._proof_77 _ _).out | with_reducible exact fun _ => (PySem.Challenge.cw_neverapart_k09_whole_matches_holds._proof_78 _ _).out | with_reducible exact fun _ => (PySem.Challenge.cw_neverapart_k09_whole_matches_holds._proof_79 _ _).out)))); ((with_reducible refine Nv.splitL 60 ?_ ?_); (refine (?F : (fun p : Prop => Nv.Held p → p) _) ?v; (case v => (refine Nv.Held.keep ?_ ?_; (exact ⟨by kernel_rfl⟩); (intro h; exact inferInstanceAs (Nv.Held _)))); (case F => first | with_reducible exact fun _ => (PySem.Challenge.cw_neverapart_k09_whole_matches_holds._proof_36 _ _).out | with_reducible exact fun _ => (PySem.Challenge.cw_neverapart_k09_whole_matches_holds._proof_37 _ _).out | with_reducible exact fun _ => (PySem.Challenge.cw_neverapart_k09_whole_matches_holds._proof_38 _ _).out | with_reducible exact fun _ => (PySem.Challenge.cw_neverapart_k09_whole_matches_holds._proof_39 _ _).out | with_reducible exact fun _ => (PySem.Challenge.cw_neverapart_k09_whole_matches_holds._proof_40 _ _).out | with_reducible exact fun _ => (PySem.Challenge.cw_neverapart_k09_whole_matches_holds._proof_41 _ _).out | with_reducible exact fun _ => (PySem.Challenge.cw_neverapart_k09_whole_matches_holds._proof_42 _ _).out | with_reducible exact fun _ => (PySem.Challenge.cw_neverapart_k09_whole_matches_holds._proof_43 _ _).out | with_reducible exact fun _ => (PySem.Challenge.cw_neverapart_k09_whole_matches_holds._proof_44 _ _).out | with_reducible exact fun _ => (PySem.Challenge.cw_neverapart_k09_whole_matches_holds._proof_45 _ _).out | with_reducible exact fun _ => (PySem.Challenge.cw_neverapart_k09_whole_matches_holds._proof_46 _ _).out | with_reducible exact fun _ => (PySem.Challenge.cw_neverapart_k09_whole_matches_holds._proof_47 _ _).out | with_reducible exact fun _ => (PySem.Challenge.cw_neverapart_k09_whole_matches_holds._proof_48 _ _).out | with_reducible exact fun _ => (PySem.Challenge.cw_neverapart_k09_whole_matches_holds._proof_49 _ _).out | with_reducible exact fun _ => (PySem.Challenge.cw_neverapart_k09_whole_matches_holds._proof_50 _ _).out | with_reducible exact fun _ => (PySem.Challenge.cw_neverapart_k09_whole_matches_holds._proof_51 _ _).out | with_reducible exact fun _ => (PySem.Challenge.cw_neverapart_k09_whole_matches_holds._proof_52 _ _).out | with_reducible exact fun _ => (PySem.Challenge.cw_neverapart_k09_whole_matches_holds._proof_53 _ _).out | with_reducible exact fun _ => (PySem.Challenge.cw_neverapart_k09_whole_matches_holds._proof_54 _ _).out | with_reducible exact fun _ => (PySem.Challenge.cw_neverapart_k09_whole_matches_holds._proof_55 _ _).out | with_reducible exact fun _ => (PySem.Challenge.cw_neverapart_k09_whole_matches_holds._proof_56 _ _).out | with_reducible exact fun _ => (PySem.Challenge.cw_neverapart_k09_whole_matches_holds._proof_57 _ _).out | with_reducible exact fun _ => (PySem.Challenge.cw_neverapart_k09_whole_matches_holds._proof_58 _ _).out | with_reducible exact fun _ => (PySem.Challenge.cw_neverapart_k09_whole_matches_holds._proof_59 _ _).out | with_reducible exact fun _ => (PySem.Challenge.cw_neverapart_k09_whole_matches_holds._proof_60 _ _).out | with_reducible exact fun _ => (PySem.Challenge.cw_neverapart_k09_whole_matches_holds._proof_61 _ _).out | with_reducible exact fun _ => (PySem.Challenge.cw_neverapart_k09_whole_matches_holds._proof_62 _ _).out | with_reducible exact fun _ => (PySem.Challenge.cw_neverapart_k09_whole_matches_holds._proof_63 _ _).out | with_reducible exact fun _ => (PySem.Challenge.cw_neverapart_k09_whole_matches_holds._proof_64 _ _).out | with_reducible exact fun _ => (PySem.Challenge.cw_neverapart_k09_whole_matches_holds._proof_65 _ _).out | with_reducible exact fun _ => (PySem.Challenge.cw_neverapart_k09_whole_matches_holds._proof_66 _ _).out | with_reducible exact fun _ => (PySem.Challenge.cw_neverapart_k09_whole_matches_holds._proof_67 _ _).out | with_reducible exact fun _ => (PySem.Challenge.cw_neverapart_k09_whole_matches_holds._proof_68 _ _).out | with_reducible exact fun _ => (PySem.Challenge.cw_neverapart_k09_whole_matches_holds._proof_69 _ _).out | with_reducible exact fun _ => (PySem.Challenge.cw_neverapart_k09_whole_matches_holds._proof_70 _ _).out | with_reducible exact fun _ => (PySem.Challenge.cw_neverapart_k09_whole_matches_holds._proof_71 _ _).out | with_reducible exact fun _ => (PySem.Challenge.cw_neverapart_k09_whole_matches_holds._proof_72 _ _).out | with_reducible exact fun _ => (PySem.Challenge.cw_neverapart_k09_whole_matches_holds._proof_73 _ _).out | with_reducible exact fun _ => (PySem.Challenge.cw_neverapart_k09_whole_matches_holds._proof_74 _ _).out | with_reducible exact fun _ => (PySem.Challenge.cw_neverapart_k09_whole_matches_holds._proof_75 _ _).out | with_reducible exact fun _ => (PySem.Challenge.cw_neverapart_k09_whole_matches_holds._proof_76 _ _).out | with_reducible exact fun _ => (PySem.Challenge.cw_neverapart_k09_whole_matches_holds._proof_77 _ _).out | with_reducible exact fun _ => (PySem.Challenge.cw_neverapart_k09_whole_matches_holds._proof_78 _ _).out | with_reducible exact fun _ => (PySem.Challenge.cw_neverapart_k09_whole_matches_holds._proof_79 _ _).out)); (with_reducible refine Nv.splitL 110 ?_ ?_); (refine (?F : (fun p : Prop => Nv.Held p → p) _) ?v; (case v => (refine Nv.Held.keep ?_ ?_; (exact ⟨by kernel_rfl⟩); (intro h; exact inferInstanceAs (Nv.Held _)))); (case F => first | with_reducible exact fun _ => (PySem.Challenge.cw_neverapart_k09_whole_matches_holds._proof_36 _ _).out | with_reducible exact fun _ => (PySem.Challenge.cw_neverapart_k09_whole_matches_holds._proof_37 _ _).out | with_reducible exact fun _ => (PySem.Challenge.cw_neverapart_k09_whole_matches_holds._proof_38 _ _).out | with_reducible exact fun _ => (PySem.Challenge.cw_neverapart_k09_whole_matches_holds._proof_39 _ _).out | with_reducible exact fun _ => (PySem.Challenge.cw_neverapart_k09_whole_matches_holds._proof_40 _ _).out | with_reducible exact fun _ => (PySem.Challenge.cw_neverapart_k09_whole_matches_holds._proof_41 _ _).out | with_reducible exact fun _ => (PySem.Challenge.cw_neverapart_k09_whole_matches_holds._proof_42 _ _).out | with_reducible exact fun _ => (PySem.Challenge.cw_neverapart_k09_whole_matches_holds._proof_43 _ _).out | with_reducible exact fun _ => (PySem.Challenge.cw_neverapart_k09_whole_matches_holds._proof_44 _ _).out | with_reducible exact fun _ => (PySem.Challenge.cw_neverapart_k09_whole_matches_holds._proof_45 _ _).out | with_reducible exact fun _ => (PySem.Challenge.cw_neverapart_k09_whole_matches_holds._proof_46 _ _).out | with_reducible exact fun _ => (PySem.Challenge.cw_neverapart_k09_whole_matches_holds._proof_47 _ _).out | with_reducible exact fun _ => (PySem.Challenge.cw_neverapart_k09_whole_matches_holds._proof_48 _ _).out | with_reducible exact fun _ => (PySem.Challenge.cw_neverapart_k09_whole_matches_holds._proof_49 _ _).out | with_reducible exact fun _ => (PySem.Challenge.cw_neverapart_k09_whole_matches_holds._proof_50 _ _).out | with_reducible exact fun _ => (PySem.Challenge.cw_neverapart_k09_whole_matches_holds._proof_51 _ _).out | with_reducible exact fun _ => (PySem.Challenge.cw_neverapart_k09_whole_matches_holds._proof_52 _ _).out | with_reducible exact fun _ => (PySem.Challenge.cw_neverapart_k09_whole_matches_holds._proof_53 _ _).out | with_reducible exact fun _ => (PySem.Challenge.cw_neverapart_k09_whole_matches_holds._proof_54 _ _).out | with_reducible exact fun _ => (PySem.Challenge.cw_neverapart_k09_whole_matches_holds._proof_55 _ _).out | with_reducible exact fun _ => (PySem.Challenge.cw_neverapart_k09_whole_matches_holds._proof_56 _ _).out | with_reducible exact fun _ => (PySem.Challenge.cw_neverapart_k09_whole_matches_holds._proof_57 _ _).out | with_reducible exact fun _ => (PySem.Challenge.cw_neverapart_k09_whole_matches_holds._proof_58 _ _).out | with_reducible exact fun _ => (PySem.Challenge.cw_neverapart_k09_whole_matches_holds._proof_59 _ _).out | with_reducible exact fun _ => (PySem.Challenge.cw_neverapart_k09_whole_matches_holds._proof_60 _ _).out | with_reducible exact fun _ => (PySem.Challenge.cw_neverapart_k09_whole_matches_holds._proof_61 _ _).out | with_reducible exact fun _ => (PySem.Challenge.cw_neverapart_k09_whole_matches_holds._proof_62 _ _).out | with_reducible exact fun _ => (PySem.Challenge.cw_neverapart_k09_whole_matches_holds._proof_63 _ _).out | with_reducible exact fun _ => (PySem.Challenge.cw_neverapart_k09_whole_matches_holds._proof_64 _ _).out | with_reducible exact fun _ => (PySem.Challenge.cw_neverapart_k09_whole_matches_holds._proof_65 _ _).out | with_reducible exact fun _ => (PySem.Challenge.cw_neverapart_k09_whole_matches_holds._proof_66 _ _).out | with_reducible exact fun _ => (PySem.Challenge.cw_neverapart_k09_whole_matches_holds._proof_67 _ _).out | with_reducible exact fun _ => (PySem.Challenge.cw_neverapart_k09_whole_matches_holds._proof_68 _ _).out | with_reducible exact fun _ => (PySem.Challenge.cw_neverapart_k09_whole_matches_holds._proof_69 _ _).out | with_reducible exact fun _ => (PySem.Challenge.cw_neverapart_k09_whole_matches_holds._proof_70 _ _).out | with_reducible exact fun _ => (PySem.Challenge.cw_neverapart_k09_whole_matches_holds._proof_71 _ _).out | with_reducible exact fun _ => (PySem.Challenge.cw_neverapart_k09_whole_matches_holds._proof_72 _ _).out | with_reducible exact fun _ => (PySem.Challenge.cw_neverapart_k09_whole_matches_holds._proof_73 _ _).out | with_reducible exact fun _ => (PySem.Challenge.cw_neverapart_k09_whole_matches_holds._proof_74 _ _).out | with_reducible exact fun _ => (PySem.Challenge.cw_neverapart_k09_whole_matches_holds._proof_75 _ _).out | with_reducible exact fun _ => (PySem.Challenge.cw_neverapart_k09_whole_matches_holds._proof_76 _ _).out | with_reducible exact fun _ => (PySem.Challenge.cw_neverapart_k09_whole_matches_holds._proof_77 _ _).out | with_reducible exact fun _ => (PySem.Challenge.cw_neverapart_k09_whole_matches_holds._proof_78 _ _).out | with_reducible exact fun _ => (PySem.Challenge.cw_neverapart_k09_whole_matches_holds._proof_79 _ _).out)); (refine (?F : (fun p : Prop => Nv.Held p → p) _) ?v; (case v => (refine Nv.Held.keep ?_ ?_; (exact ⟨by kernel_rfl⟩); (intro h; exact inferInstanceAs (Nv.Held _)))); (case F => first | with_reducible exact fun _ => (PySem.Challenge.cw_neverapart_k09_whole_matches_holds._proof_36 _ _).out | with_reducible exact fun _ => (PySem.Challenge.cw_neverapart_k09_whole_matches_holds._proof_37 _ _).out | with_reducible exact fun _ => (PySem.Challenge.cw_neverapart_k09_whole_matches_holds._proof_38 _ _).out | with_reducible exact fun _ => (PySem.Challenge.cw_neverapart_k09_whole_matches_holds._proof_39 _ _).out | with_reducible exact fun _ => (PySem.Challenge.cw_neverapart_k09_whole_matches_holds._proof_40 _ _).out | with_reducible exact fun _ => (PySem.Challenge.cw_neverapart_k09_whole_matches_holds._proof_41 _ _).out | with_reducible exact fun _ => (PySem.Challenge.cw_neverapart_k09_whole_matches_holds._proof_42 _ _).out | with_reducible exact fun _ => (PySem.Challenge.cw_neverapart_k09_whole_matches_holds._proof_43 _ _).out | with_reducible exact fun _ => (PySem.Challenge.cw_neverapart_k09_whole_matches_holds._proof_44 _ _).out | with_reducible exact fun _ => (PySem.Challenge.cw_neverapart_k09_whole_matches_holds._proof_45 _ _).out | with_reducible exact fun _ => (PySem.Challenge.cw_neverapart_k09_whole_matches_holds._proof_46 _ _).out | with_reducible exact fun _ => (PySem.Challenge.cw_neverapart_k09_whole_matches_holds._proof_47 _ _).out | with_reducible exact fun _ => (PySem.Challenge.cw_neverapart_k09_whole_matches_holds._proof_48 _ _).out | with_reducible exact fun _ => (PySem.Challenge.cw_neverapart_k09_whole_matches_holds._proof_49 _ _).out | with_reducible exact fun _ => (PySem.Challenge.cw_neverapart_k09_whole_matches_holds._proof_50 _ _).out | with_reducible exact fun _ => (PySem.Challenge.cw_neverapart_k09_whole_matches_holds._proof_51 _ _).out | with_reducible exact fun _ => (PySem.Challenge.cw_neverapart_k09_whole_matches_holds._proof_52 _ _).out | with_reducible exact fun _ => (PySem.Challenge.cw_neverapart_k09_whole_matches_holds._proof_53 _ _).out | with_reducible exact fun _ => (PySem.Challenge.cw_neverapart_k09_whole_matches_holds._proof_54 _ _).out | with_reducible exact fun _ => (PySem.Challenge.cw_neverapart_k09_whole_matches_holds._proof_55 _ _).out | with_reducible exact fun _ => (PySem.Challenge.cw_neverapart_k09_whole_matches_holds._proof_56 _ _).out | with_reducible exact fun _ => (PySem.Challenge.cw_neverapart_k09_whole_matches_holds._proof_57 _ _).out | with_reducible exact fun _ => (PySem.Challenge.cw_neverapart_k09_whole_matches_holds._proof_58 _ _).out | with_reducible exact fun _ => (PySem.Challenge.cw_neverapart_k09_whole_matches_holds._proof_59 _ _).out | with_reducible exact fun _ => (PySem.Challenge.cw_neverapart_k09_whole_matches_holds._proof_60 _ _).out | with_reducible exact fun _ => (PySem.Challenge.cw_neverapart_k09_whole_matches_holds._proof_61 _ _).out | with_reducible exact fun _ => (PySem.Challenge.cw_neverapart_k09_whole_matches_holds._proof_62 _ _).out | with_reducible exact fun _ => (PySem.Challenge.cw_neverapart_k09_whole_matches_holds._proof_63 _ _).out | with_reducible exact fun _ => (PySem.Challenge.cw_neverapart_k09_whole_matches_holds._proof_64 _ _).out | with_reducible exact fun _ => (PySem.Challenge.cw_neverapart_k09_whole_matches_holds._proof_65 _ _).out | with_reducible exact fun _ => (PySem.Challenge.cw_neverapart_k09_whole_matches_holds._proof_66 _ _).out | with_reducible exact fun _ => (PySem.Challenge.cw_neverapart_k09_whole_matches_holds._proof_67 _ _).out | with_reducible exact fun _ => (PySem.Challenge.cw_neverapart_k09_whole_matches_holds._proof_68 _ _).out | with_reducible exact fun _ => (PySem.Challenge.cw_neverapart_k09_whole_matches_holds._proof_69 _ _).out | with_reducible exact fun _ => (PySem.Challenge.cw_neverapart_k09_whole_matches_holds._proof_70 _ _).out | with_reducible exact fun _ => (PySem.Challenge.cw_neverapart_k09_whole_matches_holds._proof_71 _ _).out | with_reducible exact fun _ => (PySem.Challenge.cw_neverapart_k09_whole_matches_holds._proof_72 _ _).out | with_reducible exact fun _ => (PySem.Challenge.cw_neverapart_k09_whole_matches_holds._proof_73 _ _).out | with_reducible exact fun _ => (PySem.Challenge.cw_neverapart_k09_whole_matches_holds._proof_74 _ _).out | with_reducible exact fun _ => (PySem.Challenge.cw_neverapart_k09_whole_matches_holds._proof_75 _ _).out | with_reducible exact fun _ => (PySem.Challenge.cw_neverapart_k09_whole_matches_holds._proof_76 _ _).out | with_reducible exact fun _ => (PySem.Challenge.cw_neverapart_k09_whole_matches_holds._proof_77 _ _).out | with_reducible exact fun _ => (PySem.Challenge.cw_neverapart_k09_whole_matches_holds._proof_78 _ _).out | with_reducible exact fun _ => (PySem.Challenge.cw_neverapart_k09_whole_matches_holds._proof_79 _ _).out)))))
set_option hygiene true
open PySem PySem.W PyProof.Rows
set_option maxRecDepth 100000 in
set_option maxHeartbeats 0 in
theorem PySem.Challenge.cw_neverapart_k09_whole_matches_holds : PySem.Challenge.rw_neverapart_k09_whole_matches.Holds := by
  w_on; o_law; k_headL; (case hw => w_witness2)
  k_fill
  refine Nv.walkG (l := PySem.Challenge.rw_neverapart_k09_whole_matches) (k := 11) (sp := Nv.spLaw) (x := "_law_script") rfl rfl ⟨rfl, by decide, by decide⟩ (by decide +kernel) (fun w h Y => PySem.W.kIn_of Y) ?F (fun K H a ns hl hS => ⟨a, ns, rfl, hS, hl, fun _ => rfl⟩)
  case F =>
    intro w mg fa h KX G hmg
    obtain ⟨CQuestion, TQuestion⟩ := (by
      refine' Nv.question_at KX ?g ?pg ?hd ?po ?sa ?mk ?kc ?cc ?gt ?tk ?mo ?ne ?ty ?kc1 ?km ?kn ?n0 ?n1 ?n2 ?aI ?iI ?lI ?cI ?kI ?t ?aq0 ?sq0 ?tq0 ?rq0 ?lq0 ?cq0 ?kq0 ?aq1 ?sq1 ?tq1 ?rq1 ?lq1 ?cq1 ?kq1 ?aq2 ?sq2 ?tq2 ?rq2 ?lq2 ?cq2 ?kq2
      (case g => k_is)
      (case pg => k_is)
      (case hd => k_is)
      (case po => k_is)
      (case sa => k_is)
      (case mk => k_is)
      (case kc => k_is)
      (case cc => k_is)
      (case gt => k_is)
      (case tk => k_is)
      (case mo => k_is)
      (case ne => k_is)
      (case ty => k_is)
      (case kc1 => k_is)
      (case km => exact rfl)
      (case kn => exact rfl)
      (case n0 => k_is)
      (case n1 => k_is)
      (case n2 => k_is)
      (case aI => k_is)
      (case iI => k_is)
      (case lI => k_is)
      (case cI => k_is)
      (case kI => k_is)
      (case t => k_is)
      (case aq0 => k_is)
      (case sq0 => k_is)
      (case tq0 => k_is)
      (case rq0 => k_is)
      (case lq0 => k_is)
      (case cq0 => k_is)
      (case kq0 => k_is)
      (case aq1 => k_is)
      (case sq1 => k_is)
      (case tq1 => k_is)
      (case rq1 => k_is)
      (case lq1 => k_is)
      (case cq1 => k_is)
      (case kq1 => k_is)
      (case aq2 => k_is)
      (case sq2 => k_is)
      (case tq2 => k_is)
      (case rq2 => k_is)
      (case lq2 => k_is)
      (case cq2 => k_is)
      (case kq2 => k_is)
      )
    obtain ⟨CStep, TStep⟩ := (by
      refine' Nv.step_at KX ?g ?pg ?hd ?po ?sa ?mk ?kc ?n0 ?n1 ?n2 ?n3 ?n4 ?n5 ?n6 ?aI ?iI ?lI ?cI ?kI ?am0 ?im0 ?lm0 ?cm0 ?km0
      (case g => k_is)
      (case pg => k_is)
      (case hd => k_is)
      (case po => k_is)
      (case sa => k_is)
      (case mk => k_is)
      (case kc => k_is)
      (case n0 => k_is)
      (case n1 => k_is)
      (case n2 => k_is)
      (case n3 => k_is)
      (case n4 => k_is)
      (case n5 => k_is)
      (case n6 => k_is)
      (case aI => k_is)
      (case iI => k_is)
      (case lI => k_is)
      (case cI => k_is)
      (case kI => k_is)
      (case am0 => k_is)
      (case im0 => k_is)
      (case lm0 => k_is)
      (case cm0 => k_is)
      (case km0 => k_is)
      )
    obtain ⟨CPlan, TPlan⟩ := (by
      refine' Nv.plan_at KX ?g ?pg ?hd ?po ?sa ?mk ?kc ?n0 ?n1 ?n2 ?aI ?iI ?lI ?cI ?kI ?am0 ?im0 ?lm0 ?cm0 ?km0
      (case g => k_is)
      (case pg => k_is)
      (case hd => k_is)
      (case po => k_is)
      (case sa => k_is)
      (case mk => k_is)
      (case kc => k_is)
      (case n0 => k_is)
      (case n1 => k_is)
      (case n2 => k_is)
      (case aI => k_is)
      (case iI => k_is)
      (case lI => k_is)
      (case cI => k_is)
      (case kI => k_is)
      (case am0 => k_is)
      (case im0 => k_is)
      (case lm0 => k_is)
      (case cm0 => k_is)
      (case km0 => k_is)
      )
    have d_isName := (by
      refine' Nv.def_at KX (x := "is_name") (st := Nv.sIsName) ?g ?l ?c ?k
      (case g => k_is)
      (case l => k_is)
      (case c => k_is)
      (case k => k_is)
      )
    have d_isVar := (by
      refine' Nv.def_at KX (x := "is_variable") (st := Nv.sIsVar) ?g ?l ?c ?k
      (case g => k_is)
      (case l => k_is)
      (case c => k_is)
      (case k => k_is)
      )
    have d_isTerm := (by
      refine' Nv.def_at KX (x := "is_term") (st := Nv.sIsTerm) ?g ?l ?c ?k
      (case g => k_is)
      (case l => k_is)
      (case c => k_is)
      (case k => k_is)
      )
    have d_isFact := (by
      refine' Nv.def_at KX (x := "is_fact") (st := Nv.sIsFact) ?g ?l ?c ?k
      (case g => k_is)
      (case l => k_is)
      (case c => k_is)
      (case k => k_is)
      )
    have d_isPattern := (by
      refine' Nv.def_at KX (x := "is_pattern") (st := Nv.sIsPattern) ?g ?l ?c ?k
      (case g => k_is)
      (case l => k_is)
      (case c => k_is)
      (case k => k_is)
      )
    have d_isStore := (by
      refine' Nv.def_at KX (x := "is_store") (st := Nv.sIsStore) ?g ?l ?c ?k
      (case g => k_is)
      (case l => k_is)
      (case c => k_is)
      (case k => k_is)
      )
    have d_isPatterns := (by
      refine' Nv.def_at KX (x := "is_patterns") (st := Nv.sIsPatterns) ?g ?l ?c ?k
      (case g => k_is)
      (case l => k_is)
      (case c => k_is)
      (case k => k_is)
      )
    have d_isPair := (by
      refine' Nv.def_at KX (x := "is_pair") (st := Nv.sIsPair) ?g ?l ?c ?k
      (case g => k_is)
      (case l => k_is)
      (case c => k_is)
      (case k => k_is)
      )
    have d_isPairs := (by
      refine' Nv.def_at KX (x := "is_pairs") (st := Nv.sIsPairs) ?g ?l ?c ?k
      (case g => k_is)
      (case l => k_is)
      (case c => k_is)
      (case k => k_is)
      )
    have d_kindOf := (by
      refine' Nv.def_at KX (x := "kind_of") (st := Nv.sKindOf) ?g ?l ?c ?k
      (case g => k_is)
      (case l => k_is)
      (case c => k_is)
      (case k => k_is)
      )
    have d_termsOf := (by
      refine' Nv.def_at KX (x := "terms_of") (st := Nv.sTermsOf) ?g ?l ?c ?k
      (case g => k_is)
      (case l => k_is)
      (case c => k_is)
      (case k => k_is)
      )
    have d_sides := (by
      refine' Nv.def_at KX (x := "sides_of") (st := Nv.sSides) ?g ?l ?c ?k
      (case g => k_is)
      (case l => k_is)
      (case c => k_is)
      (case k => k_is)
      )
    have d_varsAmong := (by
      refine' Nv.def_at KX (x := "variables_among") (st := Nv.sVarsAmong) ?g ?l ?c ?k
      (case g => k_is)
      (case l => k_is)
      (case c => k_is)
      (case k => k_is)
      )
    have d_namesAmong := (by
      refine' Nv.def_at KX (x := "names_among") (st := Nv.sNamesAmong) ?g ?l ?c ?k
      (case g => k_is)
      (case l => k_is)
      (case c => k_is)
      (case k => k_is)
      )
    have d_varsOf := (by
      refine' Nv.def_at KX (x := "variables_of") (st := Nv.sVarsOf) ?g ?l ?c ?k
      (case g => k_is)
      (case l => k_is)
      (case c => k_is)
      (case k => k_is)
      )
    have d_hasMore := (by
      refine' Nv.def_at KX (x := "has_more") (st := Nv.sHasMore) ?g ?l ?c ?k
      (case g => k_is)
      (case l => k_is)
      (case c => k_is)
      (case k => k_is)
      )
    have d_byKind := (by
      refine' Nv.def_at KX (x := "by_kind") (st := Nv.sByKind) ?g ?l ?c ?k
      (case g => k_is)
      (case l => k_is)
      (case c => k_is)
      (case k => k_is)
      )
    have d_namesIn := (by
      refine' Nv.def_at KX (x := "names_in") (st := Nv.sNamesIn) ?g ?l ?c ?k
      (case g => k_is)
      (case l => k_is)
      (case c => k_is)
      (case k => k_is)
      )
    have d_knows := (by
      refine' Nv.def_at KX (x := "_knows") (st := Nv.sKnows) ?g ?l ?c ?k
      (case g => k_is)
      (case l => k_is)
      (case c => k_is)
      (case k => k_is)
      )
    have d_placesOf := (by
      refine' Nv.def_at KX (x := "_places_of_pairs") (st := Nv.sPlacesOfPairs) ?g ?l ?c ?k
      (case g => k_is)
      (case l => k_is)
      (case c => k_is)
      (case k => k_is)
      )
    have d_keptApart := (by
      refine' Nv.def_at KX (x := "_kept_apart") (st := Nv.sKeptApart) ?g ?l ?c ?k
      (case g => k_is)
      (case l => k_is)
      (case c => k_is)
      (case k => k_is)
      )
    have d_met := (by
      refine' Nv.def_at KX (x := "met") (st := Nv.sMet) ?g ?l ?c ?k
      (case g => k_is)
      (case l => k_is)
      (case c => k_is)
      (case k => k_is)
      )
    have d_needStore := (by
      refine' Nv.def_at KX (x := "need_store") (st := Nv.sNeedStore) ?g ?l ?c ?k
      (case g => k_is)
      (case l => k_is)
      (case c => k_is)
      (case k => k_is)
      )
    have d_needQ := (by
      refine' Nv.def_at KX (x := "need_question") (st := Nv.sNeedQuestion) ?g ?l ?c ?k
      (case g => k_is)
      (case l => k_is)
      (case c => k_is)
      (case k => k_is)
      )
    have d_varsQ := (by
      refine' Nv.def_at KX (x := "variables") (st := Nv.sVarsQ) ?g ?l ?c ?k
      (case g => k_is)
      (case l => k_is)
      (case c => k_is)
      (case k => k_is)
      )
    have d_matches := (by
      refine' Nv.def_at KX (x := "matches") (st := Nv.sMatches) ?g ?l ?c ?k
      (case g => k_is)
      (case l => k_is)
      (case c => k_is)
      (case k => k_is)
      )
    have d_count := (by
      refine' Nv.def_at KX (x := "count_matches") (st := Nv.sCount) ?g ?l ?c ?k
      (case g => k_is)
      (case l => k_is)
      (case c => k_is)
      (case k => k_is)
      )
    have d_purse := (by
      refine' Nv.def_at KX (x := "_law_purse") (st := Nv.sPurse) ?g ?l ?c ?k
      (case g => k_is)
      (case l => k_is)
      (case c => k_is)
      (case k => k_is)
      )
    have d_mixed := (by
      refine' Nv.def_at KX (x := "_law_mixed") (st := Nv.sMixed) ?g ?l ?c ?k
      (case g => k_is)
      (case l => k_is)
      (case c => k_is)
      (case k => k_is)
      )
    have d_draw := (by
      refine' Nv.def_at KX (x := "_law_draw") (st := Nv.sDraw) ?g ?l ?c ?k
      (case g => k_is)
      (case l => k_is)
      (case c => k_is)
      (case k => k_is)
      )
    have d_purses := (by
      refine' Nv.def_at KX (x := "_law_purses") (st := Nv.sPurses) ?g ?l ?c ?k
      (case g => k_is)
      (case l => k_is)
      (case c => k_is)
      (case k => k_is)
      )
    have d_oneOf := (by
      refine' Nv.def_at KX (x := "_law_one_of") (st := Nv.sOneOf) ?g ?l ?c ?k
      (case g => k_is)
      (case l => k_is)
      (case c => k_is)
      (case k => k_is)
      )
    have d_shuffled := (by
      refine' Nv.def_at KX (x := "_law_shuffled") (st := Nv.sShuffled) ?g ?l ?c ?k
      (case g => k_is)
      (case l => k_is)
      (case c => k_is)
      (case k => k_is)
      )
    have d_names := (by
      refine' Nv.def_at KX (x := "_law_names") (st := Nv.sNames) ?g ?l ?c ?k
      (case g => k_is)
      (case l => k_is)
      (case c => k_is)
      (case k => k_is)
      )
    have d_kinds := (by
      refine' Nv.def_at KX (x := "_law_kinds") (st := Nv.sKinds) ?g ?l ?c ?k
      (case g => k_is)
      (case l => k_is)
      (case c => k_is)
      (case k => k_is)
      )
    have d_fact := (by
      refine' Nv.def_at KX (x := "_law_fact") (st := Nv.sFact) ?g ?l ?c ?k
      (case g => k_is)
      (case l => k_is)
      (case c => k_is)
      (case k => k_is)
      )
    have d_store := (by
      refine' Nv.def_at KX (x := "_law_store") (st := Nv.sStore) ?g ?l ?c ?k
      (case g => k_is)
      (case l => k_is)
      (case c => k_is)
      (case k => k_is)
      )
    have d_pattern := (by
      refine' Nv.def_at KX (x := "_law_pattern") (st := Nv.sPattern) ?g ?l ?c ?k
      (case g => k_is)
      (case l => k_is)
      (case c => k_is)
      (case k => k_is)
      )
    have d_told := (by
      refine' Nv.def_at KX (x := "_law_told") (st := Nv.sTold) ?g ?l ?c ?k
      (case g => k_is)
      (case l => k_is)
      (case c => k_is)
      (case k => k_is)
      )
    have d_variables := (by
      refine' Nv.def_at KX (x := "_law_variables") (st := Nv.sVariables) ?g ?l ?c ?k
      (case g => k_is)
      (case l => k_is)
      (case c => k_is)
      (case k => k_is)
      )
    have d_pairs := (by
      refine' Nv.def_at KX (x := "_law_pairs") (st := Nv.sPairs) ?g ?l ?c ?k
      (case g => k_is)
      (case l => k_is)
      (case c => k_is)
      (case k => k_is)
      )
    have d_lfilled := (by
      refine' Nv.def_at KX (x := "_law_filled") (st := Nv.sLFilled) ?g ?l ?c ?k
      (case g => k_is)
      (case l => k_is)
      (case c => k_is)
      (case k => k_is)
      )
    have d_lets := (by
      refine' Nv.def_at KX (x := "_law_lets") (st := Nv.sLets) ?g ?l ?c ?k
      (case g => k_is)
      (case l => k_is)
      (case c => k_is)
      (case k => k_is)
      )
    have d_lawQ := (by
      refine' Nv.def_at KX (x := "_law_question") (st := Nv.sLawQ) ?g ?l ?c ?k
      (case g => k_is)
      (case l => k_is)
      (case c => k_is)
      (case k => k_is)
      )
    have d_fed := (by
      refine' Nv.def_at KX (x := "_law_fed_store") (st := Nv.sFed) ?g ?l ?c ?k
      (case g => k_is)
      (case l => k_is)
      (case c => k_is)
      (case k => k_is)
      )
    have d_ways := (by
      refine' Nv.def_at KX (x := "_law_ways") (st := Nv.sWays) ?g ?l ?c ?k
      (case g => k_is)
      (case l => k_is)
      (case c => k_is)
      (case k => k_is)
      )
    have d_due := (by
      refine' Nv.def_at KX (x := "_law_due") (st := Nv.sDue) ?g ?l ?c ?k
      (case g => k_is)
      (case l => k_is)
      (case c => k_is)
      (case k => k_is)
      )
    have d_typed := (by
      refine' Nv.def_at KX (x := "_law_typed_right") (st := Nv.sTyped) ?g ?l ?c ?k
      (case g => k_is)
      (case l => k_is)
      (case c => k_is)
      (case k => k_is)
      )
    have d_law := (by
      refine' Nv.def_at KX (x := "law") (st := Nv.sLaw) ?g ?l ?c ?k
      (case g => k_is)
      (case l => k_is)
      (case c => k_is)
      (case k => k_is)
      )
    exact Nv.law_at KX G hmg TQuestion TStep TPlan (by k_is) (by k_is) (by k_is) (by k_is) (by k_is) (by k_is) (by k_is) (by k_is) (by k_is) (by k_is) (by k_is) (by k_is) (by k_is) (by k_is) (by k_is) (by k_is) (by k_is) (by k_is) d_isName d_isVar d_isTerm d_isFact d_isPattern d_isStore d_isPatterns d_isPair d_isPairs d_kindOf d_termsOf d_sides d_varsAmong d_namesAmong d_varsOf d_hasMore d_byKind d_namesIn d_knows d_placesOf d_keptApart d_met d_needStore d_needQ d_varsQ d_matches d_count d_purse d_mixed d_draw d_purses d_oneOf d_shuffled d_names d_kinds d_fact d_store d_pattern d_told d_variables d_pairs d_lfilled d_lets d_lawQ d_fed d_ways d_due d_typed d_law
