import PyProof.Rows.All
import Wide.All
import OpenK.AllK
import Wide.FinOn
import HandS.ForMost
import HandS.Wide
import HandS.More
import HandS.Conv
import HandS.Flow
import HandS.WideBits
import HandS.Defaults
import HandS.Property
import HandS.IsInst
import HandS.Walk
import KE.KStrOpen
import HandS.Strs
import HandS.OwnEq
import HandS.TupSets
import HandS.DictTup
import HandS.SetKeys
import PyProof.DictMoreH
import HandS.Deep
import HandS.TupAny
import HandS.Zip
import HandS.MakeKw
import HandS.MakeKwOnly
import KE.SortData
import HandS.SetBool
import PyProof.Rows.SortShellAny
import KE.KDictZip
import HandS.NoneIn
import PyProof.P3Eq
import PySem.Challenge.RW_neverapart_k12_matching_by_name
set_option Elab.async false
set_option linter.all false
set_option maxRecDepth 100000
set_option maxHeartbeats 8000000
set_option maxHeartbeats 4000000
namespace Nv
open PySem PySem.Spec PyProof.Rows L2
def top (i : Nat) : Stmt := PySem.Challenge.pw_neverapart_k12_matching_by_name.main.body.getD i (.Pass ⟨0, 0, 0, 0⟩)
abbrev sIsName : Stmt := top 3
abbrev sIsVar : Stmt := top 4
abbrev sIsTerm : Stmt := top 5
abbrev sIsFact : Stmt := top 6
abbrev sIsPattern : Stmt := top 7
abbrev sIsStore : Stmt := top 8
abbrev sIsPatterns : Stmt := top 9
abbrev sIsPair : Stmt := top 10
abbrev sIsPairs : Stmt := top 11
abbrev sKindOf : Stmt := top 12
abbrev sTermsOf : Stmt := top 13
abbrev sSides : Stmt := top 14
abbrev sVarsAmong : Stmt := top 15
abbrev sNamesAmong : Stmt := top 16
abbrev sVarsOf : Stmt := top 17
abbrev sHasMore : Stmt := top 18
abbrev sFilled : Stmt := top 19
abbrev cStep : Stmt := top 21
abbrev cPlan : Stmt := top 22
abbrev sByKind : Stmt := top 23
abbrev sNamesIn : Stmt := top 24
abbrev sMet : Stmt := top 25
abbrev sMetNumbers : Stmt := top 26
abbrev sKnows : Stmt := top 27
abbrev sPlacesOfPairs : Stmt := top 28
abbrev sKeptApart : Stmt := top 29
abbrev cRule : Stmt := top 39
abbrev cBook : Stmt := top 40
abbrev cQuestion : Stmt := top 41
abbrev sHasDouble : Stmt := top 42
abbrev sPlace : Stmt := top 43
abbrev sNeedFact : Stmt := top 45
abbrev sNeedStore : Stmt := top 46
abbrev sNeedQuestion : Stmt := top 47
abbrev sVarsQ : Stmt := top 49
abbrev sMatches : Stmt := top 50
abbrev sCount : Stmt := top 51
abbrev sMatchesWith : Stmt := top 52
abbrev sPartials : Stmt := top 53
abbrev sBestOrder : Stmt := top 54
abbrev sChosen : Stmt := top 55
abbrev sSumAlong : Stmt := top 56
abbrev sStands : Stmt := top 57
abbrev sPurse : Stmt := top 59
abbrev sMixed : Stmt := top 60
abbrev sDraw : Stmt := top 61
abbrev sPurses : Stmt := top 62
abbrev sOneOf : Stmt := top 63
abbrev sParts : Stmt := top 64
abbrev sBags : Stmt := top 65
abbrev sMadeRight : Stmt := top 66
abbrev sLaw : Stmt := top 67
abbrev cNever : Stmt := top 31
abbrev cIF : Stmt := top 32
abbrev cIS : Stmt := top 33
abbrev cIR : Stmt := top 34
abbrev cIB : Stmt := top 35
abbrev cIQ : Stmt := top 36
abbrev cUN : Stmt := top 37
end Nv
set_option maxHeartbeats 4000000
namespace Nv
open PySem PySem.Spec PyProof.Rows L2
/-- all that was tracked is as it was, but the object at a -/
def Sb (a : Addr) (H H' : Hp) : Prop := ∀ b o, b ≠ a → H b = some o → H' b = some o
section
variable {a : Addr} {H H1 H2 : Hp}
theorem Sb.refl (a : Addr) (H : Hp) : Sb a H H := fun _ _ _ e => e
theorem Sb.trans (x : Sb a H H1) (y : Sb a H1 H2) : Sb a H H2 := fun b o n e => y b o n (x b o n e)
theorem Sb.of (x : Same H H1) : Sb a H H1 := fun b o _ e => x b o e
theorem Sb.then (x : Sb a H H1) (y : Same H1 H2) : Sb a H H2 := x.trans (Sb.of y)
theorem Sb.upd {o : HO} : Sb a H (upd H a o) := fun b u n e => by
  rw [upd_ne n]
  exact e
theorem Sb.new {p : Addr} {o : HO} (h : H p = none) : Sb a H (L2.upd H p o) := fun b u n e => by
  rw [upd_ne (ne_of_none e h)]
  exact e
theorem Sb.put {p : Addr} {o : HO} (x : Sb a H H1) (h : H p = none) : Sb a H (L2.upd H1 p o) := fun b u n e => by
  rw [upd_ne (ne_of_none e h)]
  exact x b u n e
theorem same_new {p : Addr} {o : HO} (h : H p = none) : Same H (L2.upd H p o) := fun b u e => by
  rw [upd_ne (ne_of_none e h)]
  exact e
theorem same_put {p : Addr} {o : HO} (x : Same H H1) (h : H p = none) : Same H (L2.upd H1 p o) := fun b u e => by
  rw [upd_ne (ne_of_none e h)]
  exact x b u e
theorem Sb.seq {K : PySem.W.Frag} {b : Addr} {xs : List V} (x : Sb a H H1) (n : b ≠ a) (h : SqL K H b xs) : SqL K H1 b xs := by
  rcases h with (h | ⟨o, h⟩) | h
  · exact .inl (.inl (x _ _ n h))
  · exact .inl (.inr ⟨o, x _ _ n h⟩)
  · exact .inr h
end
/-- a purse at a: n draws at least are still to be had from it -/
structure Pu (H : Hp) (a : Addr) (n : Nat) : Prop where
  ex : ∃ s d t k : Int, H a = some (.lst [.int s, .int d, .int t, .int k]) ∧ 0 ≤ s ∧ 0 ≤ d ∧ d < 2147483629 ∧ 0 ≤ t ∧ t + n ≤ 1099511627776 ∧ 0 ≤ k ∧ k ≤ 100
section
variable {a : Addr} {H H1 H2 : Hp} {n m : Nat}
theorem Pu.le (p : Pu H a n) (h : m ≤ n) : Pu H a m := by
  obtain ⟨s, d, t, k, e, h1, h2, h3, h4, h5, h6, h7⟩ := p.ex
  exact ⟨s, d, t, k, e, h1, h2, h3, h4, by omega, h6, h7⟩
theorem Pu.some (p : Pu H a n) : ∃ o, H a = some o := by
  obtain ⟨s, d, t, k, e, _⟩ := p.ex
  exact ⟨_, e⟩
theorem Pu.ne (p : Pu H a n) {q : Addr} (h : H q = none) : q ≠ a := fun z => by
  obtain ⟨o, e⟩ := p.some
  rw [z, e] at h
  cases h
theorem Pu.same (p : Pu H a n) (x : Same H H1) : Pu H1 a n := by
  obtain ⟨s, d, t, k, e, h1, h2, h3, h4, h5, h6, h7⟩ := p.ex
  exact ⟨s, d, t, k, x _ _ e, h1, h2, h3, h4, h5, h6, h7⟩
theorem Pu.put (p : Pu H a n) {q : Addr} {o : HO} (h : q ≠ a) : Pu (upd H q o) a n := by
  obtain ⟨s, d, t, k, e, h1, h2, h3, h4, h5, h6, h7⟩ := p.ex
  exact ⟨s, d, t, k, by rw [upd_ne (Ne.symm h)]; exact e, h1, h2, h3, h4, h5, h6, h7⟩
theorem Sb.free (x : Sb a H H1) (p : Pu H1 a n) {q : Addr} (h : H1 q = none) : H q = none := by
  have hn := p.ne h
  cases e : H q with
  | none => rfl
  | some o =>
    rw [x _ _ hn e] at h
    cases h
end
section
variable {P : Program} {w : World} {K : PySem.W.Frag} {mg : Str → Option Value} {base : Heap}
/-- _law_mixed(seed, turn, at) -/
def spMixed : Sp := fun vs H Q _ => ∃ d t k : Int, vs = [.int d, .int t, .int k] ∧ (0 ≤ d ∧ d < 2147483629) ∧ (0 ≤ t ∧ t ≤ 1099511627776) ∧ (0 ≤ k ∧ k ≤ 100) ∧ ∀ r : Int, 0 ≤ r → Q (.int r) H
theorem scMixed : FnScope ["_law_seed", "_law_turn", "_law_at", "_law_mixed_here"] ["_law_seed", "_law_turn", "_law_at"] (defScope sMixed) := ⟨rfl, rfl, rfl, by decide +kernel, rfl, by decide +kernel, by decide +kernel⟩
theorem ok_mixed {f : Addr} {fd : FuncData} (F : Fun K "_law_mixed" "_law_mixed" sMixed f fd) : FnOk P w K mg base CX0 1 f fd ["_law_seed", "_law_turn", "_law_at"] spMixed := by
  refine F.ok scMixed (fun vs H Q E h => ?_) (fun cdv A outer s H vs Q E hr h => ?_)
  · obtain ⟨d, t, k, rfl, _⟩ := h
    rfl
  · obtain ⟨d, t, k, rfl, hd, ht, hk, q⟩ := h
    refine ⟨_, pss_cons (ps_set (i := 3) scMixed.nd rfl (Or.inl rfl) (pe_op op_add (pe_op op_mul (pv 0) pe_int) (pe_op op_mul (pe_op op_mul pe_int (pv 1)) (pv 1))))
      (pss_cons (ps_set (i := 3) scMixed.nd rfl (Or.inl rfl) (pe_op op_mod (pe_op op_add (pe_op op_add (pv 3) (pe_op op_mul pe_int (pv 2))) (pv 1)) pe_int))
      (pss_cons (ps_set (i := 3) scMixed.nd rfl (Or.inl rfl) (pe_op op_mod (pe_op op_add (pe_op op_mul (pv 3) (pv 3)) pe_int) pe_int))
      (pss_one (ps_ret (pe_op op_mod (pe_op op_mul (pv 3) pe_int) pe_int))))), ?_⟩
    refine ⟨_, rfl, _, _, rfl, rfl, .inl ⟨by omega, by omega⟩, _, rfl, _, _, rfl, rfl, .inl ⟨by omega, by omega⟩, _, rfl, _, _, rfl, rfl, .inr ⟨by omega, by omega⟩, _, _, rfl, rfl, ?_⟩
    generalize d * 69069 + 104729 * t * t = z
    refine ⟨_, rfl, _, rfl, _, _, rfl, rfl, .inl ⟨by omega, by omega⟩, _, _, rfl, rfl, _, rfl, _, _, rfl, rfl, _, _, rfl, rfl, (by show (0 : Int) < 2147483647; decide), ?_⟩
    have h1 := Int.emod_nonneg (z + 7919 * k + t) (by decide : (2147483647 : Int) ≠ 0)
    have h2 := Int.emod_lt_of_pos (z + 7919 * k + t) (by decide : (0 : Int) < 2147483647)
    generalize (z + 7919 * k + t) % 2147483647 = z2 at h1 h2 ⊢
    refine ⟨_, rfl, _, rfl, _, _, rfl, rfl, .inl ⟨by omega, by omega⟩, _, _, rfl, rfl, _, _, rfl, rfl, (by show (0 : Int) < 2147483629; decide), ?_⟩
    have h3 := Int.emod_nonneg (z2 * z2 + 40503) (by decide : (2147483629 : Int) ≠ 0)
    have h4 := Int.emod_lt_of_pos (z2 * z2 + 40503) (by decide : (0 : Int) < 2147483629)
    generalize (z2 * z2 + 40503) % 2147483629 = z3 at h3 h4 ⊢
    refine ⟨_, rfl, _, _, rfl, rfl, .inl ⟨by omega, by omega⟩, _, _, rfl, rfl, (by show (0 : Int) < 2147483587; decide), ?_⟩
    exact q _ (Int.emod_nonneg _ (by decide))
/-- _law_draw(purse, many) -/
def spDraw : Sp := fun vs H Q _ => ∃ (a : Addr) (n : Nat) (m : Int), vs = [.ref a, .int m] ∧ Pu H a (n + 1) ∧ (1 ≤ m ∧ m < 134217728) ∧ ∀ (r : Int) (H' : Hp), 0 ≤ r → r < m → Pu H' a n → Sb a H H' → Q (.int r) H'
theorem scDraw : FnScope ["_law_purse_here", "_law_many", "_law_drawn", "_law_found", "_law_piece"] ["_law_purse_here", "_law_many"] (defScope sDraw) := ⟨rfl, rfl, rfl, by decide +kernel, rfl, by decide +kernel, by decide +kernel⟩
theorem bits27 {m : Int} (h0 : 1 ≤ m) (h : m < 134217728) : 1 + ((Builtin.Int.intBits m : Nat) : Int) / 28 = 1 := by
  have z : Builtin.Int.intBits m ≤ 27 := PyProof.Rows.intBits_le (by
    have e : (2 : Nat) ^ 27 = 134217728 := by decide
    omega)
  omega
theorem ok_draw {f fM : Addr} {fd fdM : FuncData} (F : Fun K "_law_draw" "_law_draw" sDraw f fd) (FM : Fun K "_law_mixed" "_law_mixed" sMixed fM fdM) (gM : mg "_law_mixed" = some (.ref fM)) (bM : Binds K fdM ["_law_seed", "_law_turn", "_law_at"] []) (rg : mg "range" = none) :
    FnOk P w K mg base CX0 2 f fd ["_law_purse_here", "_law_many"] spDraw := by
  have GM : FnOk P w K mg base CX0 1 fM fdM ["_law_seed", "_law_turn", "_law_at"] spMixed := ok_mixed FM
  refine F.ok scDraw (fun vs H Q E h => ?_) (fun cdv A outer s H vs Q E hr h => ?_)
  · obtain ⟨a, n, m, rfl, _⟩ := h
    rfl
  · obtain ⟨a, n, m, rfl, pu, hm, q⟩ := h
    obtain ⟨s, d, t, k, e, h1, h2, h3, h4, h5, h6, h7⟩ := pu.ex
    refine ⟨_, pss_cons (ps_if (pt_cmpR op_gt (pe_ix ix_list (pv 0) pe_int (fun _ _ => rfl)) pe_int (nomark _))
        (pss_cons (ps_set (i := 2) scDraw.nd rfl (Or.inl rfl) (pe_op op_mod (pe_ix ix_list (pv 0) pe_int (fun _ _ => rfl)) (pv 1)))
        (pss_cons (ps_asg (pe_op op_fdiv (pe_ix ix_list (pv 0) pe_int (fun _ _ => rfl)) (pv 1)) (pg_sub (pv 0) pe_int set_list))
        (pss_one (ps_ret (pv 2))))) pss_nil)
      (pss_cons (ps_set (i := 3) scDraw.nd rfl (Or.inl rfl) pe_int)
      (pss_cons (ps_for PassesOwn.never rfl (pi_range1 (by rfl) rg (pa_cons (pe_op op_add pe_int (pe_op op_fdiv (pe_bits (pv 1)) pe_int)) pa_nil)) (pg_name (i := 4) scDraw.nd rfl (Or.inl rfl))
        (pss_cons (ps_asg (pe_op op_add (pe_ix ix_list (pv 0) pe_int (fun _ _ => rfl)) pe_int) (pg_sub (pv 0) pe_int set_list))
        (pss_one (ps_set (i := 3) scDraw.nd rfl (Or.inl rfl) (pe_op op_add (pe_op op_mul (pv 3) pe_int)
          (by exact (pe_call GM hr (by rfl) gM FM.kp bM .nil pass0 (pa_cons (pe_ix ix_list (pv 0) pe_int (fun _ _ => rfl)) (pa_cons (pe_ix ix_list (pv 0) pe_int (fun _ _ => rfl)) (pa_cons (pe_ix ix_list (pv 0) pe_int (fun _ _ => rfl)) pa_nil)))))))))) 
      (pss_one (ps_ret (pe_op op_mod (pv 3) (pv 1)))))), ?_⟩
    refine ⟨_, rfl, a, _, _, _, rfl, rfl, SqL.of e, atI_nat (j := 0) rfl, _, _, rfl, rfl, _, rfl, ?_⟩
    refine ite2 (fun hc => ?_) (fun hc => ?_)
    · refine ⟨_, rfl, a, _, _, _, rfl, rfl, SqL.of e, atI_nat (j := 0) rfl, _, rfl, _, _, rfl, rfl, (by show (0 : Int) < m; omega), ?_⟩
      refine ⟨_, rfl, a, _, _, _, rfl, rfl, SqL.of e, atI_nat (j := 0) rfl, _, rfl, _, _, rfl, rfl, ⟨by omega, by omega⟩, ?_⟩
      refine ⟨_, rfl, a, _, _, 0, rfl, rfl, e, rfl, _, rfl, ?_⟩
      exact q _ _ (Int.emod_nonneg _ (by omega)) (Int.emod_lt_of_pos _ (by omega)) ⟨_, _, _, _, upd_same, Int.ediv_nonneg h1 (by omega), h2, h3, h4, by omega, h6, h7⟩ Sb.upd
    · refine ⟨_, rfl, _, rfl, _, _, rfl, rfl, ⟨by decide, by decide⟩, _, _, rfl, rfl, 1, congrArg (fun z => [V.int z]) (bits27 hm.1 hm.2), by decide, by decide, ?_⟩
      refine for_range (lo := 0) (n := 1) (fun i σ H' => (i = 0 ∧ H' = H ∧ σ = [some (.ref a), some (.int m), none, some (.int 0), none]) ∨ (i = 1 ∧ ∃ r : Int, ∃ o4, 0 ≤ r ∧ σ = [some (.ref a), some (.int m), none, some (.int r), o4] ∧ Pu H' a n ∧ Sb a H H')) (.inl ⟨rfl, rfl, rfl⟩) ?_ ?_
      · rintro i σ H' hi (⟨rfl, rfl, rfl⟩ | ⟨rfl, _⟩)
        · refine ⟨_, rfl, a, _, _, _, rfl, rfl, SqL.of e, atI_nat (j := 2) rfl, _, _, rfl, rfl, _, rfl, a, _, _, 2, rfl, rfl, e, rfl, ?_⟩
          generalize hH : upd H' a (.lst ([V.int s, .int d, .int t, .int k].set 2 (.int (t + 1)))) = G
          have eG : G a = some (.lst [V.int s, .int d, .int (t + 1), .int k]) := by rw [← hH]; exact upd_same
          have sG : Sb a H' G := by rw [← hH]; exact Sb.upd
          refine ⟨_, rfl, _, _, rfl, rfl, .inr ⟨by decide, by decide⟩, ?_⟩
          refine ⟨_, rfl, a, _, _, _, rfl, rfl, SqL.of eG, atI_nat (j := 1) rfl, _, rfl, a, _, _, _, rfl, rfl, SqL.of eG, atI_nat (j := 2) rfl, _, rfl, a, _, _, _, rfl, rfl, SqL.of eG, atI_nat (j := 3) rfl, ?_⟩
          refine ⟨d, t + 1, k, rfl, ⟨h2, h3⟩, ⟨by omega, by omega⟩, ⟨h6, h7⟩, fun r hr0 => ?_⟩
          refine ⟨_, _, rfl, rfl, .inr ⟨rfl, _, _, ?_, rfl, ⟨_, _, _, _, eG, h1, h2, h3, by omega, by omega, h6, h7⟩, sG⟩⟩
          omega
        · exact absurd hi (by decide)
      · rintro σ H' (⟨h, _⟩ | ⟨_, r, o4, hr0, rfl, pu', sb⟩)
        · cases h
        · refine ⟨_, rfl, _, rfl, _, _, rfl, rfl, (by show (0 : Int) < m; omega), ?_⟩
          exact q _ _ (Int.emod_nonneg _ (by omega)) (Int.emod_lt_of_pos _ (by omega)) pu' sb
end
end Nv
set_option maxHeartbeats 4000000
namespace Nv
open PySem PySem.Spec PyProof.Rows L2
/-- the built-ins that the text calls are the built-ins still -/
structure Bl (mg : Str → Option Value) : Prop where
  rg : mg "range" = none
  len : mg "len" = none
  sum : mg "sum" = none
  max : mg "max" = none
  min : mg "min" = none
  int : mg "int" = none
  tup : mg "tuple" = none
theorem bootSum : bootBuiltins "sum" = some (.builtin "sum") := by decide +kernel
theorem bootMax : bootBuiltins "max" = some (.builtin "max") := by decide +kernel
theorem bootMin : bootBuiltins "min" = some (.builtin "min") := by decide +kernel
/-- ** of ints of any size -/
def CPowW (i j : Int) : Prop := 0 ≤ j ∧ (Builtin.Int.intBits i : Int) * j ≤ 2 ^ 27
theorem op_powW {X : Cx} : OpR X (binaryOp .Pow) (rI CPowW fun i j => .int (i ^ j.toNat)) := opI fun _ _ _ _ _ _ _ hc q => pow_int hc.1 hc.2 q
section
variable {P : Program} {w : World} {K : PySem.W.Frag} {mg : Str → Option Value} {base : Heap}
/-- _law_one_of(purse, some) -/
def spOneOf (K : PySem.W.Frag) : Sp := fun vs H Q _ => ∃ (a b : Addr) (n : Nat) (xs : List V), vs = [.ref a, .ref b] ∧ Pu H a (n + 1) ∧ SqL K H b xs ∧ b ≠ a ∧ (1 ≤ xs.length ∧ xs.length ≤ 1000) ∧
  ∀ (v : V) (H' : Hp), v ∈ xs → Pu H' a n → Sb a H H' → Q v H'
theorem scOneOf : FnScope ["_law_purse_here", "_law_some"] ["_law_purse_here", "_law_some"] (defScope sOneOf) := ⟨rfl, rfl, rfl, by decide +kernel, rfl, by decide +kernel, by decide +kernel⟩
theorem ok_oneOf {f fD : Addr} {fd fdD : FuncData} (F : Fun K "_law_one_of" "_law_one_of" sOneOf f fd) (GD : FnOk P w K mg base CX0 2 fD fdD ["_law_purse_here", "_law_many"] spDraw) (kD : PySem.W.keepIn K (.ref fD) = true) (gD : mg "_law_draw" = some (.ref fD)) (bD : Binds K fdD ["_law_purse_here", "_law_many"] []) (B : Bl mg) :
    FnOk P w K mg base CX0 3 f fd ["_law_purse_here", "_law_some"] (spOneOf K) := by
  refine F.ok scOneOf (fun vs H Q E h => ?_) (fun cdv A outer s H vs Q E hr h => ?_)
  · obtain ⟨a, b, n, xs, rfl, _⟩ := h
    rfl
  · obtain ⟨a, b, n, xs, rfl, pu, hb, hn, hl, q⟩ := h
    refine ⟨_, pss_one (ps_ret (pe_ix ix_list (pv 1) (by exact (pe_call GD hr (by rfl) gD kD bD .nil pass0 (pa_cons (pv 0) (pa_cons (pe_callB call_len_seq (by rfl) B.len PySem.boot_len (pa_cons (pv 1) pa_nil)) pa_nil)))) (fun _ _ => rfl))), ?_⟩
    refine ⟨_, rfl, _, rfl, _, rfl, b, xs, rfl, .inl hb, ?_⟩
    refine ⟨a, n, _, rfl, pu, ⟨by omega, by omega⟩, fun r H' h0 h1 pu' sb => ?_⟩
    obtain ⟨j, rfl⟩ : ∃ j : Nat, r = (j : Int) := ⟨r.toNat, by omega⟩
    have hj : j < xs.length := by omega
    refine ⟨b, xs, _, xs[j], rfl, rfl, sb.seq hn hb, atI_nat (List.getElem?_eq_getElem hj), ?_⟩
    exact q _ _ (List.getElem_mem hj) pu' sb
theorem perm_ins {α : Type} {ys zs : List α} {x : α} (j : Nat) (h : ys.Perm zs) : (ys.take j ++ [x] ++ ys.drop j).Perm (zs ++ [x]) := by
  have e : (ys.take j ++ [x] ++ ys.drop j).Perm (x :: ys) := by
    rw [List.append_assoc]
    refine (List.perm_append_comm).trans ?_
    show (x :: (ys.drop j ++ ys.take j)).Perm _
    refine List.Perm.cons _ ((List.perm_append_comm).trans ?_)
    rw [List.take_append_drop]
  refine e.trans ((List.Perm.cons _ h).trans ?_)
  exact (List.perm_append_comm (l₁ := [x]) (l₂ := zs))
/-- _law_purse(script, at) -/
def spPurse (K : PySem.W.Frag) : Sp := fun vs H Q _ => ∃ (a : Addr) (xs : List Int) (k : Nat), vs = [.ref a, .int (k : Int)] ∧ SqL K H a (xs.map V.int) ∧ k ≤ 100 ∧
  ∀ (p : Addr) (H' : Hp), H p = none → Pu H' p 1099511627776 → Same H H' → Q (.ref p) H'
theorem scPurse : FnScope ["_law_script", "_law_at", "_law_seed"] ["_law_script", "_law_at"] (defScope sPurse) := ⟨rfl, rfl, rfl, by decide +kernel, rfl, by decide +kernel, by decide +kernel⟩
theorem ok_purse {f : Addr} {fd : FuncData} (F : Fun K "_law_purse" "_law_purse" sPurse f fd) (B : Bl mg) : FnOk P w K mg base CX0 1 f fd ["_law_script", "_law_at"] (spPurse K) := by
  refine F.ok scPurse (fun vs H Q E h => ?_) (fun cdv A outer s H vs Q E hr h => ?_)
  · obtain ⟨a, xs, k, rfl, _⟩ := h
    rfl
  · obtain ⟨a, xs, k, rfl, ha, hk, q⟩ := h
    refine ⟨_, pss_cons (ps_set (i := 2) scPurse.nd rfl (Or.inl rfl) (pe_callB (cr_sum rfl) (by rfl) B.sum bootSum (pa_cons (pe_slice sl_list (pv 0) (po_some (pv 1)) (po_some (pe_op op_add (pv 1) pe_int))) pa_nil)))
      (pss_one (ps_ret (pe_lst (pa_cons (pe_op op_mod (pe_callB (call_max2 rfl) (by rfl) B.max bootMax (pa_cons (pe_op op_sub (pv 2) (pe_op op_pow pe_int pe_int)) (pa_cons pe_int pa_nil))) (pe_op op_powW (pe_op op_pow pe_int pe_int) pe_int))
        (pa_cons (pe_op op_mod (pv 2) pe_int) (pa_cons pe_int (pa_cons (pv 1) pa_nil))))))), ?_⟩
    refine ⟨_, rfl, _, rfl, _, rfl, _, rfl, _, _, rfl, rfl, _, rfl, a, _, rfl, ha, fun p np => ?_⟩
    have hc : cutV (xs.map V.int) (some (k : Int)) (some ((k : Int) + 1)) = ((xs.drop (HT.sIx xs.length 0 (some (k : Int)))).take (HT.sIx xs.length xs.length (some ((k : Int) + 1)) - HT.sIx xs.length 0 (some (k : Int)))).map V.int := by
      unfold cutV
      rw [List.length_map, List.map_take, List.map_drop]
    refine ⟨p, _, rfl, SqL.of (by rw [upd_same, hc]), ?_⟩
    generalize hz : (((xs.drop (HT.sIx xs.length 0 (some (k : Int)))).take (HT.sIx xs.length xs.length (some ((k : Int) + 1)) - HT.sIx xs.length 0 (some (k : Int))))).sum = z
    have s1 : Same H (upd H p (.lst (cutV (xs.map V.int) (some (k : Int)) (some ((k : Int) + 1))))) := same_new np
    generalize upd H p (.lst (cutV (xs.map V.int) (some (k : Int)) (some ((k : Int) + 1)))) = H1 at s1 ⊢
    refine ⟨_, rfl, _, _, rfl, rfl, ⟨by decide, by decide, by decide⟩, _, _, rfl, rfl, _, _, rfl, _, _, rfl, rfl, ⟨by decide, by decide, by decide⟩, _, _, rfl, rfl, ⟨by decide, by decide +kernel⟩, _, _, rfl, rfl, (by show (0 : Int) < _; decide +kernel), ?_⟩
    refine ⟨_, rfl, _, _, rfl, rfl, (by show (0 : Int) < 2147483629; decide), _, rfl, (by show 4 ≤ sizeLine; decide), fun p2 np2 => ?_⟩
    have s2 := s1.free np2
    refine q p2 _ s2 ⟨_, _, _, _, upd_same, Int.emod_nonneg _ (by decide +kernel), Int.emod_nonneg _ (by decide), Int.emod_lt_of_pos _ (by decide), by omega, by omega, by omega, by omega⟩ (same_put s1 s2)
end
end Nv
set_option maxHeartbeats 4000000
namespace Nv
open PySem PySem.Spec PyProof.Rows L2
/-- a name, a variable, a term -/
def IsNm (z : Str) : Prop := 1 ≤ z.length ∧ z.length ≤ 10 ∧ ∀ c ∈ z.cps.toList, 97 ≤ c ∧ c ≤ 122
def IsVr (z : Str) : Prop := 1 ≤ z.length ∧ z.length ≤ 3 ∧ ∀ c ∈ z.cps.toList, 65 ≤ c ∧ c ≤ 90
instance (z : Str) : Decidable (IsNm z) := by unfold IsNm; exact inferInstance
instance (z : Str) : Decidable (IsVr z) := by unfold IsVr; exact inferInstance
theorem flat_strs (xs : List Str) : (xs.map V.str).all flatV = true := by
  rw [List.all_eq_true]
  intro x hx
  obtain ⟨z, _, rfl⟩ := List.mem_map.mp hx
  rfl
theorem inV_strs (z : Str) (xs : List Str) : inV (.str z) (xs.map V.str) = decide (z ∈ xs) := by
  unfold inV
  rw [List.any_map]
  by_cases h : z ∈ xs
  · rw [decide_eq_true h, List.any_eq_true]
    exact ⟨z, h, by show (z == z) = true; exact beq_self_eq_true z⟩
  · rw [decide_eq_false h, List.any_eq_false]
    intro y hy
    show ¬ (y == z) = true
    intro e
    exact h (by rw [← eq_of_beq e]; exact hy)
theorem lett : ∀ j : Nat, j < 26 → atI (("abcdefghijklmnopqrstuvwxyz" : Str).cps.toList) (j : Int) = some (97 + j) := by decide +kernel
theorem perm_map_inv {α β : Type} {f : α → β} (hf : ∀ x y, f x = f y → x = y) {ws : List β} {xs : List α} (h : ws.Perm (xs.map f)) : ∃ us : List α, ws = us.map f ∧ us.Perm xs := by
  generalize hz : xs.map f = zs at h
  induction h generalizing xs with
  | nil =>
    cases xs with
    | nil => exact ⟨[], rfl, .nil⟩
    | cons x xs => cases hz
  | cons y h ih =>
    cases xs with
    | nil => cases hz
    | cons x xs =>
      injection hz with h1 h2
      obtain ⟨us, e, p⟩ := ih h2
      exact ⟨x :: us, by rw [e, ← h1] <;> rfl, .cons _ p⟩
  | swap x y l =>
    match xs, hz with
    | x1 :: x2 :: xs, hz =>
      injection hz with h1 h2
      injection h2 with h2 h3
      exact ⟨x2 :: x1 :: xs, by rw [← h1, ← h2, ← h3] <;> rfl, .swap _ _ _⟩
  | trans h1 h2 ih1 ih2 =>
    obtain ⟨us, e, p⟩ := ih2 hz
    obtain ⟨vs, e2, p2⟩ := ih1 e.symm
    exact ⟨vs, e2, p2.trans p⟩
theorem str_len_add (x y : Str) : (x ++ y).length = x.length + y.length := by
  show (x.cps ++ y.cps).size = _
  rw [Array.size_append] <;> rfl
theorem str_cps_add (x y : Str) : (x ++ y).cps.toList = x.cps.toList ++ y.cps.toList := by
  show (x.cps ++ y.cps).toList = _
  simp
section
variable {P : Program} {w : World} {K : PySem.W.Frag} {mg : Str → Option Value} {base : Heap}
/-- _law_purses(script, few) -/
def spPurses (K : PySem.W.Frag) : Sp := fun vs H Q _ => ∃ (a : Addr) (xs : List Int) (few : Nat), vs = [.ref a, .int (few : Int)] ∧ SqL K H a (xs.map V.int) ∧ xs.length ≤ 1000 ∧ few ≤ 100 ∧
  ∀ (p : Addr) (bs : List Addr) (H' : Hp), bs.Nodup → bs.length ≤ 100 → (∀ b ∈ bs, Pu H' b 1099511627776 ∧ H b = none) → H p = none → H' p = some (.lst (bs.map V.ref)) → Same H H' → Q (.ref p) H'
theorem scPurses : FnScope ["_law_script", "_law_few", "_law_at"] ["_law_script", "_law_few"] (defScope sPurses) := ⟨rfl, rfl, rfl, by decide +kernel, rfl, by decide +kernel, by decide +kernel⟩
theorem ok_purses {f fP : Addr} {fd fdP : FuncData} (F : Fun K "_law_purses" "_law_purses" sPurses f fd) (GP : FnOk P w K mg base CX0 1 fP fdP ["_law_script", "_law_at"] (spPurse K)) (kP : PySem.W.keepIn K (.ref fP) = true) (gP : mg "_law_purse" = some (.ref fP)) (bP : Binds K fdP ["_law_script", "_law_at"] []) (B : Bl mg) :
    FnOk P w K mg base CX0 2 f fd ["_law_script", "_law_few"] (spPurses K) := by
  refine F.ok scPurses (fun vs H Q E h => ?_) (fun cdv A outer s H vs Q E hr h => ?_)
  · obtain ⟨a, xs, few, rfl, _⟩ := h
    rfl
  · obtain ⟨a, xs, few, rfl, ha, hx, hf, q⟩ := h
    refine ⟨_, pss_one (ps_ret (by exact (pe_lc (own := [("_law_at", 2)]) (g := gName 2) (tt := tYes) rfl scPurses.nd
      (pi_range1 (by rfl) B.rg (pa_cons (pe_callB (call_max2 rfl) (by rfl) B.max bootMax (pa_cons pe_int (pa_cons (pe_callB (call_min2 rfl) (by rfl) B.min bootMin (pa_cons (pv 1) (pa_cons (pe_callB call_len_seq (by rfl) B.len PySem.boot_len (pa_cons (pv 0) pa_nil)) pa_nil))) pa_nil))) pa_nil))
      (blkOk_by (own := [("_law_at", 2)]) (N := ["_law_script", "_law_few", "_law_at"]) (sc := defScope sPurses) (by decide +kernel))
      (fun _ _ _ _ _ => pg_name (i := 2) scPurses.nd rfl (Or.inl rfl)) (fun _ _ _ _ _ => pts_nil)
      (fun _ _ _ _ _ => by exact (pe_call GP hr (by rfl) gP kP bP .nil pass0 (pa_cons (pv 0) (pa_cons (pv 2) pa_nil))))))), ?_⟩
    refine ⟨_, rfl, _, rfl, a, _, rfl, .inl ha, _, _, rfl, _, _, rfl, ?_⟩
    rw [List.length_map]
    generalize hM : (if (if (xs.length : Int) < (few : Int) then (xs.length : Int) else (few : Int)) > 1 then (if (xs.length : Int) < (few : Int) then (xs.length : Int) else (few : Int)) else 1) = M
    have hM0 : 0 ≤ M ∧ M ≤ 100 := by
      rw [← hM]
      split <;> split <;> omega
    refine ⟨M, rfl, by omega, by omega, fun D nD => ?_⟩
    refine lc_range (lo := 0) (n := M.toNat) (fun i H' => ∃ bs : List Addr, bs.length = i ∧ bs.Nodup ∧ (∀ b ∈ bs, Pu H' b 1099511627776 ∧ H b = none ∧ b ≠ D) ∧ H' D = some (.lst (bs.map V.ref)) ∧ Same H H') ⟨[], rfl, List.nodup_nil, (fun b hb => nomatch hb), upd_same, same_new nD⟩ ?_ ?_
    · rintro i H1 hi ⟨bs, hl, hnd, hb, e, sm⟩
      refine ⟨rfl, ?_⟩
      refine ⟨_, rfl, _, rfl, a, xs, i, (by rw [Int.zero_add]; rfl), sm.seq ha, by omega, fun p H2 np pu s2 => ?_⟩
      have e2 := s2 _ _ e
      have npH : H p = none := sm.free np
      have hpD : p ≠ D := fun z => by
        rw [z, e] at np
        cases np
      refine ⟨_, e2, by rw [List.length_map]; exact small1000 (by omega), bs ++ [p], by rw [List.length_append, hl] <;> rfl, ?_, ?_, by rw [upd_same, List.map_append] <;> rfl, ?_⟩
      · rw [List.nodup_append]
        refine ⟨hnd, by simp, fun x hx y hy => ?_⟩
        obtain rfl := List.mem_singleton.mp hy
        intro z
        subst z
        obtain ⟨o, eo⟩ := (hb _ hx).1.some
        rw [eo] at np
        cases np
      · intro b hbm
        rcases List.mem_append.mp hbm with hx | hx
        · obtain ⟨h1, h2, h3⟩ := hb b hx
          exact ⟨(h1.same s2).put (Ne.symm h3), h2, h3⟩
        · obtain rfl := List.mem_singleton.mp hx
          exact ⟨pu.put (Ne.symm hpD), npH, hpD⟩
      · exact same_put (sm.trans s2) nD
    · rintro H1 ⟨bs, hl, hnd, hb, e, sm⟩
      exact q D bs H1 hnd (by omega) (fun b hbm => ⟨(hb b hbm).1, (hb b hbm).2.1⟩) nD e sm
def fixed6 : List Str := ["a", "b", "x", "xx", "ann", "abcdefghij"]
theorem fixed6_nm : ∀ z ∈ fixed6, IsNm z := by decide +kernel
theorem fixed6_nd : fixed6.Nodup := by decide +kernel
end
end Nv
set_option maxHeartbeats 4000000
namespace Nv
open PySem PySem.Spec PyProof.Rows L2
def up1 (c : Nat) : Nat := if 97 ≤ c ∧ c ≤ 122 then c - 32 else c
theorem upper_list : ∀ l : List Nat, (∀ c ∈ l, c < 128) → Txt.upper ⟨l.toArray⟩ = ⟨(l.map up1).toArray⟩
  | [], _ => rfl
  | c :: l, h => by
    have e : (⟨(c :: l).toArray⟩ : Str) = (⟨#[c]⟩ : Str) ++ (⟨l.toArray⟩ : Str) := by
      show Str.mk _ = Str.mk _
      simp
    rw [e, PySem.W.KOpn.upper_app, PySem.W.KOpn.upper_one (h c List.mem_cons_self), upper_list l fun x hx => h x (List.mem_cons_of_mem _ hx)]
    show Str.mk _ = Str.mk _
    simp [up1]
theorem str_eta (z : Str) : z = ⟨z.cps.toList.toArray⟩ := by
  cases z
  simp
theorem upper_vr {z : Str} (h : IsVr z) : Txt.upper z = z := by
  rw [str_eta z, upper_list _ fun c hc => by have := h.2.2 c hc; omega]
  refine congrArg Str.mk (congrArg List.toArray ?_)
  refine (List.map_congr_left fun c hc => ?_).trans (List.map_id _)
  have := h.2.2 c hc
  unfold up1
  rw [if_neg (by omega)]
  rfl
theorem upper_nm {z : Str} (h : IsNm z) : Txt.upper z ≠ z := by
  intro e
  rw [str_eta z, upper_list _ fun c hc => by have := h.2.2 c hc; omega] at e
  have e2 : (z.cps.toList.map up1) = z.cps.toList := by
    have e3 := congrArg (fun s : Str => s.cps.toList) e
    simpa using e3
  have hl : z.cps.toList.length = z.length := by simp [Str.length]
  match hz : z.cps.toList with
  | [] =>
    rw [hz] at hl
    have := h.1
    simp at hl
    omega
  | c :: l =>
    rw [hz] at e2
    injection e2 with h1 h2
    have h3 := h.2.2 c (by rw [hz]; exact List.mem_cons_self)
    unfold up1 at h1
    rw [if_pos h3] at h1
    omega
end Nv
set_option maxHeartbeats 4000000
namespace Nv
open PySem PySem.Spec PyProof.Rows L2
/-- a word of a kind -/
def IsWd (w : Str) : Prop := IsNm w ∧ w ≠ "never"
instance (w : Str) : Decidable (IsWd w) := inferInstanceAs (Decidable (_ ∧ _))
/-- a kind: a tuple of a word and a number -/
def Kd (H : Hp) (v : V) : Prop := ∃ (t : Addr) (w : Str) (m : Nat), v = .ref t ∧ H t = some (.tup [.str w, .int (m : Int)]) ∧ IsWd w ∧ m ≤ 3
section
variable {a : Addr} {H H1 H2 : Hp} {n m : Nat} {v : V}
theorem Kd.same (k : Kd H v) (s : Same H H1) : Kd H1 v := by
  obtain ⟨t, w, m, rfl, e, h⟩ := k
  exact ⟨t, w, m, rfl, s _ _ e, h⟩
theorem Kd.ne (k : Kd H v) (pu : Pu H a n) : v ≠ .ref a := by
  obtain ⟨t, w, m, rfl, e, h⟩ := k
  obtain ⟨s, d, tt, kk, e2, _⟩ := pu.ex
  intro z
  cases z
  rw [e] at e2
  cases e2
theorem Kd.sb (k : Kd H v) (pu : Pu H a n) (s : Sb a H H1) : Kd H1 v := by
  have hn := k.ne pu
  obtain ⟨t, w, m, rfl, e, h⟩ := k
  exact ⟨t, w, m, rfl, s _ _ (fun z => hn (by rw [z])) e, h⟩
theorem kd_new {G : Hp} {t : Addr} {w : Str} {m : Nat} (sb : Same H G) (nt : G t = none) (hw : IsWd w) (hm : m ≤ 3) :
    Same H (upd G t (.tup [.str w, .int (m : Int)])) ∧ Same G (upd G t (.tup [.str w, .int (m : Int)])) ∧ Kd (upd G t (.tup [.str w, .int (m : Int)])) (.ref t) :=
  ⟨same_put sb (sb.free nt), same_new nt, t, w, m, rfl, upd_same, hw, hm⟩
end
section
variable {P : Program} {w : World} {K : PySem.W.Frag} {mg : Str → Option Value} {base : Heap}
end
end Nv
set_option maxHeartbeats 4000000
namespace Nv
open PySem PySem.Spec PyProof.Rows L2
theorem big1000 : (1000 : Nat) ≤ sizeLine := by decide
/-- a list of tuples of texts, as they stand in the heap -/
inductive PaL (H : Hp) : List V → List (List Str) → Prop
  | nil : PaL H [] []
  | cons {t : Addr} {p : List Str} {vs : List V} {ps : List (List Str)} (e : H t = some (.tup (p.map V.str))) (h : PaL H vs ps) : PaL H (.ref t :: vs) (p :: ps)
section
variable {a : Addr} {H H1 H2 : Hp} {n m : Nat} {vs us : List V} {ps qs : List (List Str)}
theorem PaL.same (h : PaL H vs ps) (s : Same H H1) : PaL H1 vs ps := by
  induction h with
  | nil => exact .nil
  | cons e _ ih => exact .cons (s _ _ e) ih
theorem tup_ne {t : Addr} {xs : List V} (pu : Pu H a n) (e : H t = some (.tup xs)) : t ≠ a := fun z => by
  obtain ⟨s, d, tt, kk, e2, _⟩ := pu.ex
  rw [z, e2] at e
  cases e
theorem PaL.sb (h : PaL H vs ps) (pu : Pu H a n) (s : Sb a H H1) : PaL H1 vs ps := by
  induction h with
  | nil => exact .nil
  | cons e _ ih => exact .cons (s _ _ (tup_ne pu e) e) ih
theorem PaL.len (h : PaL H vs ps) : vs.length = ps.length := by
  induction h with
  | nil => rfl
  | cons e _ ih => simp [ih]
theorem PaL.app (h : PaL H vs ps) (h2 : PaL H us qs) : PaL H (vs ++ us) (ps ++ qs) := by
  induction h with
  | nil => exact h2
  | cons e _ ih => exact .cons e ih
theorem PaL.at_ (h : PaL H vs ps) {i : Nat} {v : V} (hi : vs[i]? = some v) : ∃ (t : Addr) (p : List Str), v = .ref t ∧ ps[i]? = some p ∧ H t = some (.tup (p.map V.str)) := by
  induction h generalizing i with
  | nil => cases i <;> cases hi
  | cons e _ ih =>
    cases i with
    | zero =>
      cases hi
      exact ⟨_, _, rfl, rfl, e⟩
    | succ i => exact ih hi
end
/-- a pattern's parts -/
def PatOk (p : List Str) : Prop := ∃ (w : Str) (ts : List Str), p = w :: ts ∧ IsNm w ∧ ts.length ≤ 3 ∧ ∀ x ∈ ts, IsVr x ∨ IsNm x
section
variable {P : Program} {w : World} {K : PySem.W.Frag} {mg : Str → Option Value} {base : Heap}
def four : List Str := ["X", "Y", "Z", "XYZ"]
theorem four_vr : ∀ z ∈ four, IsVr z := by decide +kernel
/-- its variables are among these four -/
def Few (p : List Str) : Prop := ∀ y ∈ p.tail, IsVr y → y ∈ four
theorem vr_nm {z : Str} (h : IsVr z) (k : IsNm z) : False := by
  have l := h.1
  have e : z.cps.toList.length = z.length := by simp [Str.length]
  match hz : z.cps.toList with
  | [] =>
    rw [hz] at e
    simp at e
    omega
  | c :: cs =>
    have a := h.2.2 c (by rw [hz]; exact List.mem_cons_self)
    have b := k.2.2 c (by rw [hz]; exact List.mem_cons_self)
    omega
end
end Nv
set_option maxHeartbeats 4000000
namespace Nv
open PySem PySem.Spec PyProof.Rows L2
/-- the variables among terms, in the order in which they first stand there -/
def vst (acc : List Str) (x : Str) : List Str := if IsVr x ∧ x ∉ acc then acc ++ [x] else acc
def varsIn (ts : List Str) : List Str := ts.foldl vst []
def tails (ps : List (List Str)) : List Str := (ps.map List.tail).flatten
theorem vst_len (acc : List Str) (x : Str) : (vst acc x).length ≤ acc.length + 1 := by
  unfold vst
  split
  · rw [List.length_append] <;> exact Nat.le_refl _
  · omega
theorem fold_len : ∀ (ts acc : List Str), (ts.foldl vst acc).length ≤ acc.length + ts.length
  | [], acc => Nat.le_refl _
  | x :: ts, acc => by
    have h1 := fold_len ts (vst acc x)
    have h2 := vst_len acc x
    show (ts.foldl vst (vst acc x)).length ≤ acc.length + (ts.length + 1)
    omega
theorem fold_mem : ∀ (ts acc : List Str) (y : Str), y ∈ ts.foldl vst acc ↔ y ∈ acc ∨ (y ∈ ts ∧ IsVr y)
  | [], acc, y => by simp
  | x :: ts, acc, y => by
    show y ∈ ts.foldl vst (vst acc x) ↔ _
    rw [fold_mem ts (vst acc x) y]
    unfold vst
    by_cases h : IsVr x ∧ x ∉ acc
    · rw [if_pos h]
      constructor
      · rintro (h1 | h1)
        · rcases List.mem_append.mp h1 with h2 | h2
          · exact .inl h2
          · rw [List.mem_singleton.mp h2]
            exact .inr ⟨List.mem_cons_self, h.1⟩
        · exact .inr ⟨List.mem_cons_of_mem _ h1.1, h1.2⟩
      · rintro (h1 | ⟨h1, h2⟩)
        · exact .inl (List.mem_append_left _ h1)
        · rcases List.mem_cons.mp h1 with rfl | h1
          · exact .inl (List.mem_append_right _ (List.mem_singleton.mpr rfl))
          · exact .inr ⟨h1, h2⟩
    · rw [if_neg h]
      constructor
      · rintro (h1 | h1)
        · exact .inl h1
        · exact .inr ⟨List.mem_cons_of_mem _ h1.1, h1.2⟩
      · rintro (h1 | ⟨h1, h2⟩)
        · exact .inl h1
        · rcases List.mem_cons.mp h1 with rfl | h1
          · refine .inl ?_
            by_cases hm : y ∈ acc
            · exact hm
            · exact absurd ⟨h2, hm⟩ h
          · exact .inr ⟨h1, h2⟩
theorem varsIn_mem {ts : List Str} {y : Str} : y ∈ varsIn ts ↔ y ∈ ts ∧ IsVr y := by
  unfold varsIn
  rw [fold_mem]
  simp
theorem fold_nd : ∀ (ts acc : List Str), acc.Nodup → (ts.foldl vst acc).Nodup
  | [], acc, h => h
  | x :: ts, acc, h => by
    show (ts.foldl vst (vst acc x)).Nodup
    refine fold_nd ts _ ?_
    unfold vst
    split
    · rename_i hx
      rw [List.nodup_append]
      refine ⟨h, by simp, fun a ha b hb e => ?_⟩
      rw [List.mem_singleton.mp hb] at e
      exact hx.2 (e ▸ ha)
    · exact h
theorem varsIn_nd (ts : List Str) : (varsIn ts).Nodup := fold_nd ts [] List.nodup_nil
theorem varsIn_len (ts : List Str) : (varsIn ts).length ≤ ts.length := by
  have := fold_len ts []
  simpa [varsIn] using this
theorem tails_take {ps : List (List Str)} {i : Nat} {p : List Str} (h : ps[i]? = some p) : tails (ps.take (i + 1)) = tails (ps.take i) ++ p.tail := by
  unfold tails
  rw [List.take_add_one, h, List.map_append, List.flatten_append]
  simp
theorem tails_len {ps : List (List Str)} (h : ∀ x ∈ ps, PatOk x) : (tails ps).length ≤ 3 * ps.length := by
  induction ps with
  | nil => simp [tails]
  | cons p ps ih =>
    obtain ⟨w, ts, rfl, _, h3, _⟩ := h p List.mem_cons_self
    have h2 := ih fun x hx => h x (List.mem_cons_of_mem _ hx)
    have e : tails ((w :: ts) :: ps) = ts ++ tails ps := by simp [tails]
    rw [e, List.length_append, List.length_cons]
    omega
theorem nm_not_vr {z : Str} (h : IsNm z) : ¬ IsVr z := fun v => upper_nm h (upper_vr v)
theorem cut1 (w : Str) (ts : List Str) : cutV ((w :: ts).map V.str) (some 1) none = ts.map V.str := by
  unfold cutV
  have e : HT.sIx ((w :: ts).map V.str).length 0 (some (1 : Int)) = 1 := by
    have := HT.sIx_nat ((w :: ts).map V.str).length 0 1
    rw [show ((1 : Nat) : Int) = 1 by rfl] at this
    rw [this, List.length_map, List.length_cons]
    omega
  rw [e, HT.sIx_none, List.length_map, List.length_cons]
  show (ts.map V.str).take (ts.length + 1 - 1) = _
  rw [Nat.add_sub_cancel, List.take_of_length_le (by rw [List.length_map]; exact Nat.le_refl _)]
section
variable {P : Program} {w : World} {K : PySem.W.Frag} {mg : Str → Option Value} {base : Heap}
end
end Nv
set_option maxHeartbeats 4000000
namespace Nv
open PySem PySem.Spec PyProof.Rows L2
theorem layAll : ∀ {ds : List PyData}, (∀ d ∈ ds, d.canLay0 = true ∧ d.depth ≤ 50) → PyData.canLayAll0 ds = true ∧ PyData.depthAll ds ≤ 50
  | [], _ => ⟨by simp [PyData.canLayAll0], by simp [PyData.depthAll]⟩
  | d :: ds, h => by
    obtain ⟨h1, h2⟩ := h d List.mem_cons_self
    obtain ⟨h3, h4⟩ := layAll (ds := ds) fun x hx => h x (List.mem_cons_of_mem _ hx)
    refine ⟨by simp [PyData.canLayAll0, h1, h3], ?_⟩
    simp only [PyData.depthAll]
    omega
/-- data that can be laid, of a depth of at most n -/
def Lay (n : Nat) (d : PyData) : Prop := d.canLay0 = true ∧ d.depth ≤ n
/-- signs of ASCII alone -/
def Asc (z : Str) : Prop := ∀ c ∈ z.cps.toList, c < 128
theorem IsNm.asc {z : Str} (h : IsNm z) : Asc z := fun c hc => by
  have := h.2.2 c hc
  omega
theorem IsVr.asc {z : Str} (h : IsVr z) : Asc z := fun c hc => by
  have := h.2.2 c hc
  omega
theorem PatOk.asc {p : List Str} (h : PatOk p) : ∀ x ∈ p, Asc x := by
  obtain ⟨w, ts, rfl, hw, _, ht⟩ := h
  intro x hx
  rcases List.mem_cons.mp hx with rfl | hx
  · exact hw.asc
  · rcases ht x hx with h | h
    · exact h.asc
    · exact h.asc
theorem Asc.ok {z : Str} (h : Asc z) : PyData.strOk z = true := by
  unfold PyData.strOk
  rw [Array.all_eq_true']
  intro c hc
  have := h c (by simpa using hc)
  simp
  omega
theorem lay_str {x : Str} (h : Asc x) : Lay 0 (.str x) := ⟨by simp [PyData.canLay0, h.ok], by simp [PyData.depth]⟩
theorem lay_non : Lay 0 .none := ⟨by simp [PyData.canLay0], by simp [PyData.depth]⟩
theorem Lay.le {n m : Nat} {d : PyData} (h : Lay n d) (l : n ≤ m) : Lay m d := ⟨h.1, Nat.le_trans h.2 l⟩
theorem lay_all {n : Nat} : ∀ {ds : List PyData}, (∀ d ∈ ds, Lay n d) → PyData.canLayAll0 ds = true ∧ PyData.depthAll ds ≤ n
  | [], _ => ⟨by simp [PyData.canLayAll0], by simp [PyData.depthAll]⟩
  | d :: ds, h => by
    obtain ⟨h1, h2⟩ := h d List.mem_cons_self
    obtain ⟨h3, h4⟩ := lay_all (ds := ds) fun x hx => h x (List.mem_cons_of_mem _ hx)
    refine ⟨by simp [PyData.canLayAll0, h1, h3], ?_⟩
    simp only [PyData.depthAll]
    omega
theorem lay_list {n : Nat} {ds : List PyData} (h : ∀ d ∈ ds, Lay n d) : Lay (n + 1) (.list ds) := by
  obtain ⟨h1, h2⟩ := lay_all h
  refine ⟨by simpa [PyData.canLay0] using h1, ?_⟩
  simp only [PyData.depth]
  omega
theorem lay_tup {n : Nat} {ds : List PyData} (h : ∀ d ∈ ds, Lay n d) : Lay (n + 1) (.tuple ds) := by
  obtain ⟨h1, h2⟩ := lay_all h
  refine ⟨by simpa [PyData.canLay0] using h1, ?_⟩
  simp only [PyData.depth]
  omega
theorem Lay.shaped {n : Nat} {d : PyData} (h : Lay n d) (hn : n ≤ 50) : SeqAt.shaped d = true := by
  refine Bool.and_eq_true_iff.mpr ⟨h.1, decide_eq_true ?_⟩
  have := h.2
  omega
/-- a tuple of texts, a list of such, a list of texts, as data -/
def dT (p : List Str) : PyData := .tuple (p.map PyData.str)
def dL (ps : List (List Str)) : PyData := .list (ps.map dT)
def dS (xs : List Str) : PyData := .list (xs.map PyData.str)
theorem lay_dT {p : List Str} (h : ∀ x ∈ p, Asc x) : Lay 1 (dT p) := lay_tup fun d hd => by
  obtain ⟨x, hx, rfl⟩ := List.mem_map.mp hd
  exact lay_str (h x hx)
theorem lay_dL {ps : List (List Str)} (h : ∀ p ∈ ps, ∀ x ∈ p, Asc x) : Lay 2 (dL ps) := lay_list fun d hd => by
  obtain ⟨x, hx, rfl⟩ := List.mem_map.mp hd
  exact lay_dT (h x hx)
theorem lay_dS {xs : List Str} (h : ∀ x ∈ xs, Asc x) : Lay 1 (dS xs) := lay_list fun d hd => by
  obtain ⟨x, hx, rfl⟩ := List.mem_map.mp hd
  exact lay_str (h x hx)
theorem dp_strs {K : PySem.W.Frag} {H : Hp} : ∀ xs : List Str, DpAll K H (xs.map V.str) (xs.map PyData.str)
  | [] => .nil
  | x :: xs => .cons (.str x) (dp_strs xs)
theorem dp_T {K : PySem.W.Frag} {H : Hp} {t : Addr} {p : List Str} (e : H t = some (.tup (p.map V.str))) : Dp K H (.ref t) (dT p) := .tup (SqT.of e) (dp_strs p)
theorem dp_S {K : PySem.W.Frag} {H : Hp} {t : Addr} {p : List Str} (e : SqL K H t (p.map V.str)) : Dp K H (.ref t) (dS p) := .lst e (dp_strs p)
theorem PaL.dp {K : PySem.W.Frag} {H : Hp} {vs : List V} {ps : List (List Str)} (h : PaL H vs ps) : DpAll K H vs (ps.map dT) := by
  induction h with
  | nil => exact .nil
  | cons e _ ih => exact .cons (dp_T e) ih
theorem dp_L {K : PySem.W.Frag} {H : Hp} {t : Addr} {vs : List V} {ps : List (List Str)} (e : SqL K H t vs) (h : PaL H vs ps) : Dp K H (.ref t) (dL ps) := .lst e h.dp
theorem eqv_strs : ∀ xs ys : List Str, PyData.eqvAll (xs.map PyData.str) (ys.map PyData.str) = decide (xs = ys)
  | [], [] => by simp [PyData.eqvAll]
  | [], y :: ys => by simp [PyData.eqvAll]
  | x :: xs, [] => by simp [PyData.eqvAll]
  | x :: xs, y :: ys => by
    rw [List.map_cons, List.map_cons, PyData.eqvAll, eqv_strs xs ys, PyData.eqv]
    by_cases h : x = y
    · subst h
      simp
    · have : (x == y) = false := by simpa using h
      simp [this, h]
theorem eqv_T (p q : List Str) : PyData.eqv (dT p) (dT q) = decide (p = q) := by
  unfold dT
  rw [PyData.eqv, eqv_strs]
theorem eqv_S (p q : List Str) : PyData.eqv (dS p) (dS q) = decide (p = q) := by
  unfold dS
  rw [PyData.eqv, eqv_strs]
theorem eqv_Ts : ∀ ps qs : List (List Str), PyData.eqvAll (ps.map dT) (qs.map dT) = decide (ps = qs)
  | [], [] => by simp [PyData.eqvAll]
  | [], y :: ys => by simp [PyData.eqvAll]
  | x :: xs, [] => by simp [PyData.eqvAll]
  | x :: xs, y :: ys => by
    rw [List.map_cons, List.map_cons, PyData.eqvAll, eqv_Ts xs ys, eqv_T]
    by_cases h : x = y
    · subst h
      simp
    · simp [h]
theorem eqv_L (ps qs : List (List Str)) : PyData.eqv (dL ps) (dL qs) = decide (ps = qs) := by
  unfold dL
  rw [PyData.eqv, eqv_Ts]
end Nv
set_option maxHeartbeats 4000000
namespace Nv
open PySem PySem.Spec PyProof.Rows L2
/-- the built-ins that the program's text calls -/
structure Bp (mg : Str → Option Value) : Prop where
  isi : mg "isinstance" = none
  str : mg "str" = none
  tup : mg "tuple" = none
  lst : mg "list" = none
  set : mg "set" = none
  len : mg "len" = none
  all : mg "all" = none
  any : mg "any" = none
theorem bootIsi : bootBuiltins "isinstance" = some (.builtin "isinstance") := by decide +kernel
theorem bootAll : bootBuiltins "all" = some (.builtin "all") := by decide +kernel
theorem bootAny : bootBuiltins "any" = some (.builtin "any") := by decide +kernel
theorem lt_one (c d : Nat) : (([c] : List Nat) < [d]) ↔ c < d := by
  constructor
  · intro h
    cases h with
    | rel h => exact h
    | cons h => cases h
  · intro h
    exact .rel h
theorem take_one {α : Type} {l : List α} {i : Nat} {x : α} (h : l[i]? = some x) : l.take (i + 1) = l.take i ++ [x] := by
  rw [List.take_add_one, h] <;> rfl
section
variable {P : Program} {w : World} {K : PySem.W.Frag} {mg : Str → Option Value} {base : Heap}
/-- a test of any value that may only hold of a text -/
def spTxt (K : PySem.W.Frag) (p : Str → Bool) : Sp := fun vs H Q _ => ∃ v : V, vs = [v] ∧ ((∃ z : Str, v = .str z ∧ z.length ≤ sizeLine ∧ ∀ H', Same H H' → Q (.bl (p z)) H') ∨
  (∃ t : Value, TyX K H v t ∧ PySem.W.kitOne K t (.type "str") = some false ∧ ∀ H', Same H H' → Q (.bl false) H'))
theorem spTxt.yes {p : Str → Bool} {z : Str} {H : Hp} {Q : VK} {E : XK} (hz : z.length ≤ 1000) (q : ∀ H', Same H H' → Q (.bl (p z)) H') : spTxt K p [.str z] H Q E :=
  ⟨_, rfl, .inl ⟨z, rfl, Nat.le_trans hz big1000, q⟩⟩
theorem scIsName : FnScope ["value", "sign"] ["value"] (defScope sIsName) := ⟨rfl, rfl, rfl, by decide +kernel, rfl, by decide +kernel, by decide +kernel⟩
theorem ok_isName {f : Addr} {fd : FuncData} (F : Fun K "is_name" "is_name" sIsName f fd) (B : Bp mg) : FnOk P w K mg base CX0 1 f fd ["value"] (spTxt K fun z => decide (IsNm z)) := by
  refine F.ok scIsName (fun vs H Q E h => ?_) (fun cdv A outer s H vs Q E hr h => ?_)
  · obtain ⟨v, rfl, _⟩ := h
    rfl
  · obtain ⟨v, rfl, h⟩ := h
    refine ⟨_, pss_one (ps_ret (pe_and (pe_callB call_isi (by rfl) B.isi bootIsi (pa_cons (pv 0) (pa_cons (pe_bltn (v := V.ty "str") (by rfl) B.str PyProof.Rows.boot_str rfl) pa_nil)))
      (pe_and (pe_chain op_le op_le pe_int (pe_callB call_len_str (by rfl) B.len PySem.boot_len (pa_cons (pv 0) pa_nil)) pe_int)
      (pe_one (pe_callB (cr_all rfl) (by rfl) B.all bootAll (pa_cons (by exact (pe_lc (own := [("sign", 1)]) (g := gName 1) (tt := tYes) rfl scIsName.nd (pi_str (pv 0))
        (blkOk_by (own := [("sign", 1)]) (N := ["value", "sign"]) (sc := defScope sIsName) (by decide +kernel))
        (fun _ _ _ _ _ => pg_name (i := 1) scIsName.nd rfl (Or.inl rfl)) (fun _ _ _ _ _ => pts_nil)
        (fun _ _ _ _ _ => by exact (pe_chain op_le_str op_le_str pe_str (pv 1) pe_str)))) pa_nil)))))), ?_⟩
    rcases h with ⟨z, rfl, hz, q⟩ | ⟨t, ht, hk, q⟩
    · have q : ∀ H', Same H H' → Q (.bl (decide (IsNm z))) H' := q
      refine ⟨_, rfl, _, _, _, _, true, rfl, .ty _, .base (.str _), kit_ty (by decide +kernel), true, rfl, iteT ?_⟩
      refine ⟨_, rfl, z, rfl, hz, _, _, rfl, rfl, _, rfl, ?_⟩
      by_cases h1 : (1 : Int) ≤ (z.length : Int)
      · rw [decide_eq_true h1]
        refine iteT ⟨_, _, rfl, rfl, ?_⟩
        refine ⟨decide ((z.length : Int) ≤ 10), rfl, ?_⟩
        by_cases h2 : (z.length : Int) ≤ 10
        · rw [decide_eq_true h2]
          refine iteT ?_
          refine ⟨_, rfl, z, rfl, fun D nD => ?_⟩
          refine lc_it walk_str (fun i H' => Same H H' ∧ H' D = some (.lst ((z.cps.toList.take i).map fun c => V.bl (decide (97 ≤ c ∧ c ≤ 122))))) ⟨same_new nD, upd_same⟩ (fun _ _ _ _ => trivial) ?_ ?_
          · rintro i x H1 H2 hi ⟨sm, e⟩ ⟨rfl, c, hc, rfl⟩
            have hc2 : z.cps.toList[i]? = some c := by simpa using hc
            refine ⟨rfl, ?_⟩
            have hil : i ≤ 10 := by
              have : z.cps.size = z.length := rfl
              omega
            refine ⟨_, rfl, _, _, rfl, rfl, _, rfl, ?_⟩
            have e1 : (!decide (([c] : List Nat) < [97])) = decide (97 ≤ c) := by
              by_cases h : c < 97
              · rw [decide_eq_true ((lt_one _ _).mpr h), decide_eq_false (by omega)] <;> rfl
              · rw [decide_eq_false (fun y => h ((lt_one _ _).mp y)), decide_eq_true (by omega)] <;> rfl
            have e2 : (!decide (([122] : List Nat) < [c])) = decide (c ≤ 122) := by
              by_cases h : 122 < c
              · rw [decide_eq_true ((lt_one _ _).mpr h), decide_eq_false (by omega)] <;> rfl
              · rw [decide_eq_false (fun y => h ((lt_one _ _).mp y)), decide_eq_true (by omega)] <;> rfl
            have put : ∀ b : Bool, b = decide (97 ≤ c ∧ c ≤ 122) → ∃ acc, H2 D = some (.lst acc) ∧ acc.length < sizeLine ∧ (Same H (upd H2 D (.lst (acc ++ [V.bl b]))) ∧ upd H2 D (.lst (acc ++ [V.bl b])) D = some (.lst ((z.cps.toList.take (i + 1)).map fun c => V.bl (decide (97 ≤ c ∧ c ≤ 122))))) := fun b hb => by
              refine ⟨_, e, ?_, same_put sm nD, ?_⟩
              · rw [List.length_map, List.length_take]
                exact Nat.lt_of_le_of_lt (by omega : _ ≤ 10) (by decide)
              · rw [upd_same, take_one hc2, List.map_append, hb] <;> rfl
            show if (!decide (([c] : List Nat) < [97])) = true then _ else _
            rw [e1]
            by_cases h3 : 97 ≤ c
            · rw [decide_eq_true h3]
              refine iteT ⟨_, _, rfl, rfl, ?_⟩
              refine put _ (e2.trans ?_)
              simp [h3]
            · rw [decide_eq_false h3]
              refine iteF (put _ ?_)
              simp [h3]
          · rintro H1 ⟨sm, e⟩
            have ht : z.cps.toList.take z.cps.size = z.cps.toList := List.take_of_length_le (by simp)
            rw [ht] at e
            refine ⟨D, z.cps.toList.map fun c => decide (97 ≤ c ∧ c ≤ 122), rfl, SqL.of (by rw [e, List.map_map] <;> rfl), ?_⟩
            have hb : (z.cps.toList.map fun c => decide (97 ≤ c ∧ c ≤ 122)).all id = decide (IsNm z) := by
              rw [List.all_map]
              by_cases hn : IsNm z
              · rw [decide_eq_true hn, List.all_eq_true]
                intro c hc
                exact decide_eq_true (hn.2.2 c hc)
              · rw [decide_eq_false hn, ← Bool.not_eq_true]
                intro y
                refine hn ⟨by omega, by omega, fun c hc => ?_⟩
                exact of_decide_eq_true (List.all_eq_true.mp y c hc)
            rw [hb]
            exact q _ sm
        · rw [decide_eq_false h2]
          refine iteF ?_
          have := q H (Same.refl H)
          rw [decide_eq_false (fun h : IsNm z => h2 (by have := h.2.1; omega))] at this
          exact this
      · rw [decide_eq_false h1]
        refine iteF ⟨false, rfl, iteF ?_⟩
        have := q H (Same.refl H)
        rw [decide_eq_false (fun h : IsNm z => h1 (by have := h.1; omega))] at this
        exact this
    · refine ⟨_, rfl, _, _, _, _, false, rfl, .ty _, ht, hk, false, rfl, iteF ?_⟩
      exact q H (Same.refl H)
end
end Nv
set_option maxHeartbeats 4000000
namespace Nv
open PySem PySem.Spec PyProof.Rows L2
section
variable {P : Program} {w : World} {K : PySem.W.Frag} {mg : Str → Option Value} {base : Heap}
theorem scIsVar : FnScope ["value", "sign"] ["value"] (defScope sIsVar) := ⟨rfl, rfl, rfl, by decide +kernel, rfl, by decide +kernel, by decide +kernel⟩
theorem ok_isVar {f : Addr} {fd : FuncData} (F : Fun K "is_variable" "is_variable" sIsVar f fd) (B : Bp mg) : FnOk P w K mg base CX0 1 f fd ["value"] (spTxt K fun z => decide (IsVr z)) := by
  refine F.ok scIsVar (fun vs H Q E h => ?_) (fun cdv A outer s H vs Q E hr h => ?_)
  · obtain ⟨v, rfl, _⟩ := h
    rfl
  · obtain ⟨v, rfl, h⟩ := h
    refine ⟨_, pss_one (ps_ret (pe_and (pe_callB call_isi (by rfl) B.isi bootIsi (pa_cons (pv 0) (pa_cons (pe_bltn (v := V.ty "str") (by rfl) B.str PyProof.Rows.boot_str rfl) pa_nil)))
      (pe_and (pe_chain op_le op_le pe_int (pe_callB call_len_str (by rfl) B.len PySem.boot_len (pa_cons (pv 0) pa_nil)) pe_int)
      (pe_one (pe_callB (cr_all rfl) (by rfl) B.all bootAll (pa_cons (by exact (pe_lc (own := [("sign", 1)]) (g := gName 1) (tt := tYes) rfl scIsVar.nd (pi_str (pv 0))
        (blkOk_by (own := [("sign", 1)]) (N := ["value", "sign"]) (sc := defScope sIsVar) (by decide +kernel))
        (fun _ _ _ _ _ => pg_name (i := 1) scIsVar.nd rfl (Or.inl rfl)) (fun _ _ _ _ _ => pts_nil)
        (fun _ _ _ _ _ => by exact (pe_chain op_le_str op_le_str pe_str (pv 1) pe_str)))) pa_nil)))))), ?_⟩
    rcases h with ⟨z, rfl, hz, q⟩ | ⟨t, ht, hk, q⟩
    · have q : ∀ H', Same H H' → Q (.bl (decide (IsVr z))) H' := q
      refine ⟨_, rfl, _, _, _, _, true, rfl, .ty _, .base (.str _), kit_ty (by decide +kernel), true, rfl, iteT ?_⟩
      refine ⟨_, rfl, z, rfl, hz, _, _, rfl, rfl, _, rfl, ?_⟩
      by_cases h1 : (1 : Int) ≤ (z.length : Int)
      · rw [decide_eq_true h1]
        refine iteT ⟨_, _, rfl, rfl, ?_⟩
        refine ⟨decide ((z.length : Int) ≤ 3), rfl, ?_⟩
        by_cases h2 : (z.length : Int) ≤ 3
        · rw [decide_eq_true h2]
          refine iteT ?_
          refine ⟨_, rfl, z, rfl, fun D nD => ?_⟩
          refine lc_it walk_str (fun i H' => Same H H' ∧ H' D = some (.lst ((z.cps.toList.take i).map fun c => V.bl (decide (65 ≤ c ∧ c ≤ 90))))) ⟨same_new nD, upd_same⟩ (fun _ _ _ _ => trivial) ?_ ?_
          · rintro i x H1 H2 hi ⟨sm, e⟩ ⟨rfl, c, hc, rfl⟩
            have hc2 : z.cps.toList[i]? = some c := by simpa using hc
            refine ⟨rfl, ?_⟩
            have hil : i ≤ 3 := by
              have : z.cps.size = z.length := rfl
              omega
            refine ⟨_, rfl, _, _, rfl, rfl, _, rfl, ?_⟩
            have e1 : (!decide (([c] : List Nat) < [65])) = decide (65 ≤ c) := by
              by_cases h : c < 65
              · rw [decide_eq_true ((lt_one _ _).mpr h), decide_eq_false (by omega)] <;> rfl
              · rw [decide_eq_false (fun y => h ((lt_one _ _).mp y)), decide_eq_true (by omega)] <;> rfl
            have e2 : (!decide (([90] : List Nat) < [c])) = decide (c ≤ 90) := by
              by_cases h : 90 < c
              · rw [decide_eq_true ((lt_one _ _).mpr h), decide_eq_false (by omega)] <;> rfl
              · rw [decide_eq_false (fun y => h ((lt_one _ _).mp y)), decide_eq_true (by omega)] <;> rfl
            have put : ∀ b : Bool, b = decide (65 ≤ c ∧ c ≤ 90) → ∃ acc, H2 D = some (.lst acc) ∧ acc.length < sizeLine ∧ (Same H (upd H2 D (.lst (acc ++ [V.bl b]))) ∧ upd H2 D (.lst (acc ++ [V.bl b])) D = some (.lst ((z.cps.toList.take (i + 1)).map fun c => V.bl (decide (65 ≤ c ∧ c ≤ 90))))) := fun b hb => by
              refine ⟨_, e, ?_, same_put sm nD, ?_⟩
              · rw [List.length_map, List.length_take]
                exact Nat.lt_of_le_of_lt (by omega : _ ≤ 3) (by decide)
              · rw [upd_same, take_one hc2, List.map_append, hb] <;> rfl
            show if (!decide (([c] : List Nat) < [65])) = true then _ else _
            rw [e1]
            by_cases h3 : 65 ≤ c
            · rw [decide_eq_true h3]
              refine iteT ⟨_, _, rfl, rfl, ?_⟩
              refine put _ (e2.trans ?_)
              simp [h3]
            · rw [decide_eq_false h3]
              refine iteF (put _ ?_)
              simp [h3]
          · rintro H1 ⟨sm, e⟩
            have ht : z.cps.toList.take z.cps.size = z.cps.toList := List.take_of_length_le (by simp)
            rw [ht] at e
            refine ⟨D, z.cps.toList.map fun c => decide (65 ≤ c ∧ c ≤ 90), rfl, SqL.of (by rw [e, List.map_map] <;> rfl), ?_⟩
            have hb : (z.cps.toList.map fun c => decide (65 ≤ c ∧ c ≤ 90)).all id = decide (IsVr z) := by
              rw [List.all_map]
              by_cases hn : IsVr z
              · rw [decide_eq_true hn, List.all_eq_true]
                intro c hc
                exact decide_eq_true (hn.2.2 c hc)
              · rw [decide_eq_false hn, ← Bool.not_eq_true]
                intro y
                refine hn ⟨by omega, by omega, fun c hc => ?_⟩
                exact of_decide_eq_true (List.all_eq_true.mp y c hc)
            rw [hb]
            exact q _ sm
        · rw [decide_eq_false h2]
          refine iteF ?_
          have := q H (Same.refl H)
          rw [decide_eq_false (fun h : IsVr z => h2 (by have := h.2.1; omega))] at this
          exact this
      · rw [decide_eq_false h1]
        refine iteF ⟨false, rfl, iteF ?_⟩
        have := q H (Same.refl H)
        rw [decide_eq_false (fun h : IsVr z => h1 (by have := h.1; omega))] at this
        exact this
    · refine ⟨_, rfl, _, _, _, _, false, rfl, .ty _, ht, hk, false, rfl, iteF ?_⟩
      exact q H (Same.refl H)
def IsTm (z : Str) : Prop := IsNm z ∨ IsVr z
instance (z : Str) : Decidable (IsTm z) := by unfold IsTm; exact inferInstance
theorem scIsTerm : FnScope ["value"] ["value"] (defScope sIsTerm) := ⟨rfl, rfl, rfl, by decide +kernel, rfl, by decide +kernel, by decide +kernel⟩
theorem spTxt.again {p q : Str → Bool} {v : V} {H : Hp} {Q Q2 : VK} {E E2 : XK} (h : spTxt K p [v] H Q E) (hq : ∀ b H', Same H H' → ((∃ z, v = .str z ∧ b = p z ∧ (∀ H2, Same H H2 → Q (.bl (p z)) H2)) ∨ (b = false ∧ ∀ H2, Same H H2 → Q (.bl false) H2)) → Q2 (.bl b) H') : spTxt K p [v] H Q2 E2 := by
  obtain ⟨v', e, h⟩ := h
  obtain rfl : v = v' := by injection e
  rcases h with ⟨z, rfl, hz, q⟩ | ⟨t, ht, hk, q⟩
  · exact ⟨_, rfl, .inl ⟨z, rfl, hz, fun H' s => hq _ H' s (.inl ⟨z, rfl, rfl, q⟩)⟩⟩
  · exact ⟨_, rfl, .inr ⟨t, ht, hk, fun H' s => hq _ H' s (.inr ⟨rfl, q⟩)⟩⟩
/-- a value, a text or none -/
def Tv (K : PySem.W.Frag) (H : Hp) (v : V) : Option Str → Prop
  | some z => v = .str z ∧ z.length ≤ sizeLine
  | none => ∃ t : Value, TyX K H v t ∧ PySem.W.kitOne K t (.type "str") = some false
theorem tyx_same {H H' : Hp} {v : V} {t : Value} (s : Same H H') (h : TyX K H v t) : TyX K H' v t := by
  cases h with
  | base b =>
    cases b with
    | non => exact .base .non
    | bl y => exact .base (.bl y)
    | int i => exact .base (.int i)
    | str y => exact .base (.str y)
    | flt y => exact .base (.flt y)
    | lst e => exact .base (.lst (s _ _ e))
    | frz e => exact .base (.frz (s _ _ e))
    | tup e => exact .base (.tup (s _ _ e))
    | dK e => exact .base (.dK (s _ _ e))
    | dT e => exact .base (.dT (s _ _ e))
    | ins e cl ha hn htk hm => exact .base (.ins (s _ _ e) cl ha hn htk hm)
  | byt b => exact .byt b
  | set e => exact .set (s _ _ e)
  | kList e c => exact .kList e c
  | kTuple e c => exact .kTuple e c
  | kDict e c => exact .kDict e c
  | fTuple e => exact .fTuple (s _ _ e)
  | fDict e => exact .fDict (s _ _ e)
theorem Tv.same {H H' : Hp} {v : V} : ∀ {o : Option Str}, Tv K H v o → Same H H' → Tv K H' v o
  | some z, h, _ => h
  | none, ⟨t, h, k⟩, s => ⟨t, tyx_same s h, k⟩
theorem spTxt.of {p : Str → Bool} {v : V} {H : Hp} {Q : VK} {E : XK} : ∀ {o : Option Str}, Tv K H v o → (∀ H', Same H H' → Q (.bl (o.any p)) H') → spTxt K p [v] H Q E
  | some z, ⟨e, hz⟩, q => ⟨_, rfl, .inl ⟨z, e, hz, q⟩⟩
  | none, ⟨t, ht, hk⟩, q => ⟨_, rfl, .inr ⟨t, ht, hk, q⟩⟩
theorem ok_isTerm {f fN fV : Addr} {fd fdN fdV : FuncData} (F : Fun K "is_term" "is_term" sIsTerm f fd)
    (GN : FnOk P w K mg base CX0 1 fN fdN ["value"] (spTxt K fun z => decide (IsNm z))) (kN : PySem.W.keepIn K (.ref fN) = true) (gN : mg "is_name" = some (.ref fN)) (bN : Binds K fdN ["value"] [])
    (GV : FnOk P w K mg base CX0 1 fV fdV ["value"] (spTxt K fun z => decide (IsVr z))) (kV : PySem.W.keepIn K (.ref fV) = true) (gV : mg "is_variable" = some (.ref fV)) (bV : Binds K fdV ["value"] []) :
    FnOk P w K mg base CX0 2 f fd ["value"] (spTxt K fun z => decide (IsTm z)) := by
  refine F.ok scIsTerm (fun vs H Q E h => ?_) (fun cdv A outer s H vs Q E hr h => ?_)
  · obtain ⟨v, rfl, _⟩ := h
    rfl
  · obtain ⟨v, rfl, h⟩ := h
    refine ⟨_, pss_one (ps_ret (pe_or (by exact (pe_call GN hr (by rfl) gN kN bN .nil pass0 (pa_cons (pv 0) pa_nil))) (pe_one (by exact (pe_call GV hr (by rfl) gV kV bV .nil pass0 (pa_cons (pv 0) pa_nil)))))), ?_⟩
    refine ⟨_, rfl, ?_⟩
    rcases h with ⟨z, rfl, hz, q⟩ | ⟨t, ht, hk, q⟩
    · have q : ∀ H', Same H H' → Q (.bl (decide (IsTm z))) H' := q
      refine ⟨_, rfl, .inl ⟨z, rfl, hz, fun H1 s1 => ⟨decide (IsNm z), rfl, ?_⟩⟩⟩
      by_cases h1 : IsNm z
      · rw [decide_eq_true h1]
        refine iteT ?_
        have := q H1 s1
        rw [show decide (IsTm z) = true from decide_eq_true (Or.inl h1)] at this
        exact this
      · rw [decide_eq_false h1]
        refine iteF ⟨_, rfl, _, rfl, .inl ⟨z, rfl, hz, fun H2 s2 => ?_⟩⟩
        have := q H2 (s1.trans s2)
        have e : decide (IsTm z) = decide (IsVr z) := decide_eq_decide.mpr ⟨fun h => h.resolve_left h1, .inr⟩
        rw [e] at this
        exact this
    · refine ⟨_, rfl, .inr ⟨t, ht, hk, fun H1 s1 => ⟨false, rfl, iteF ?_⟩⟩⟩
      refine ⟨_, rfl, _, rfl, .inr ⟨t, tyx_same s1 ht, hk, fun H2 s2 => q H2 (s1.trans s2)⟩⟩
end
end Nv
set_option maxHeartbeats 4000000
namespace Nv
open PySem PySem.Spec PyProof.Rows L2
/-- item by item -/
inductive All2 {α β : Type} (R : α → β → Prop) : List α → List β → Prop
  | nil : All2 R [] []
  | cons {x : α} {y : β} {xs : List α} {ys : List β} (h : R x y) (t : All2 R xs ys) : All2 R (x :: xs) (y :: ys)
section
variable {α β : Type} {R S : α → β → Prop} {xs : List α} {ys : List β}
theorem All2.len (h : All2 R xs ys) : xs.length = ys.length := by
  induction h with
  | nil => rfl
  | cons _ _ ih => simp [ih]
theorem All2.imp (h : All2 R xs ys) (i : ∀ x y, R x y → S x y) : All2 S xs ys := by
  induction h with
  | nil => exact .nil
  | cons h _ ih => exact .cons (i _ _ h) ih
theorem All2.at_ (h : All2 R xs ys) {i : Nat} {x : α} (hi : xs[i]? = some x) : ∃ y, ys[i]? = some y ∧ R x y := by
  induction h generalizing i with
  | nil => cases i <;> cases hi
  | cons h _ ih =>
    cases i with
    | zero =>
      cases hi
      exact ⟨_, rfl, h⟩
    | succ i => exact ih hi
end
/-- a value that may be a pattern: its parts, where it is a tuple -/
def Tp (K : PySem.W.Frag) (H : Hp) (v : V) : Option (List (Option Str)) → Prop
  | some os => ∃ (t : Addr) (xs : List V), v = .ref t ∧ H t = some (.tup xs) ∧ All2 (Tv K H) xs os ∧ os.length ≤ 1000
  | none => ∃ t : Value, TyX K H v t ∧ PySem.W.kitOne K t (.type "tuple") = some false
theorem Tp.same {K : PySem.W.Frag} {H H' : Hp} {v : V} : ∀ {o : Option (List (Option Str))}, Tp K H v o → Same H H' → Tp K H' v o
  | some os, ⟨t, xs, e, h, a, l⟩, s => ⟨t, xs, e, s _ _ h, a.imp fun _ _ z => z.same s, l⟩
  | none, ⟨t, h, k⟩, s => ⟨t, tyx_same s h, k⟩
theorem tp_strs {K : PySem.W.Frag} {H : Hp} {t : Addr} {p : List Str} (e : H t = some (.tup (p.map V.str))) (hp : ∀ x ∈ p, x.length ≤ 1000) (hl : p.length ≤ 1000) : Tp K H (.ref t) (some (p.map some)) := by
  refine ⟨t, _, rfl, e, ?_, by rw [List.length_map]; exact hl⟩
  clear e hl
  induction p with
  | nil => exact .nil
  | cons x p ih => exact .cons ⟨rfl, Nat.le_trans (hp x List.mem_cons_self) big1000⟩ (ih fun y hy => hp y (List.mem_cons_of_mem _ hy))
def nmO (o : Option Str) : Bool := o.any fun z => decide (IsNm z)
def tmO (o : Option Str) : Bool := o.any fun z => decide (IsTm z)
def vrO (o : Option Str) : Bool := o.any fun z => decide (IsVr z)
def patB : Option (List (Option Str)) → Bool
  | some (o :: os) => decide (os.length ≤ 3) && (nmO o && os.all tmO)
  | _ => false
section
variable {P : Program} {w : World} {K : PySem.W.Frag} {mg : Str → Option Value} {base : Heap}
def spIsPattern (K : PySem.W.Frag) : Sp := fun vs H Q _ => ∃ (v : V) (o : Option (List (Option Str))), vs = [v] ∧ Tp K H v o ∧ ∀ H', Same H H' → Q (.bl (patB o)) H'
theorem scIsPattern : FnScope ["value", "part"] ["value"] (defScope sIsPattern) := ⟨rfl, rfl, rfl, by decide +kernel, rfl, by decide +kernel, by decide +kernel⟩
theorem tyx_tup {H : Hp} {t : Addr} {xs : List V} (e : H t = some (.tup xs)) : TyX K H (.ref t) (.type "tuple") := .base (.tup e)
theorem tyx_lst {H : Hp} {t : Addr} {xs : List V} (e : H t = some (.lst xs)) : TyX K H (.ref t) (.type "list") := .base (.lst e)
theorem cut_one (xs : List V) : cutV xs (some 1) none = xs.drop 1 := by
  unfold cutV
  have e : HT.sIx xs.length 0 (some (1 : Int)) = min 1 xs.length := HT.sIx_nat xs.length 0 1
  rw [e, HT.sIx_none]
  cases xs with
  | nil => rfl
  | cons x xs =>
    rw [List.length_cons, Nat.min_eq_left (by omega), Nat.add_sub_cancel, List.drop_succ_cons, List.drop_zero, List.take_of_length_le (Nat.le_refl _)]
theorem ok_isPattern {f fN fT : Addr} {fd fdN fdT : FuncData} (F : Fun K "is_pattern" "is_pattern" sIsPattern f fd) (B : Bp mg)
    (GN : FnOk P w K mg base CX0 1 fN fdN ["value"] (spTxt K fun z => decide (IsNm z))) (kN : PySem.W.keepIn K (.ref fN) = true) (gN : mg "is_name" = some (.ref fN)) (bN : Binds K fdN ["value"] [])
    (GT : FnOk P w K mg base CX0 2 fT fdT ["value"] (spTxt K fun z => decide (IsTm z))) (kT : PySem.W.keepIn K (.ref fT) = true) (gT : mg "is_term" = some (.ref fT)) (bT : Binds K fdT ["value"] []) :
    FnOk P w K mg base CX0 3 f fd ["value"] (spIsPattern K) := by
  refine F.ok scIsPattern (fun vs H Q E h => ?_) (fun cdv A outer s H vs Q E hr h => ?_)
  · obtain ⟨v, o, rfl, _⟩ := h
    rfl
  · obtain ⟨v, o, rfl, h, q⟩ := h
    have hr1 : Room 1 _ := hr.mono (by decide)
    refine ⟨_, pss_cons (ps_if (PW.pt (pw_or (pt_not (pt_val (pe_callB call_isi (by rfl) B.isi bootIsi (pa_cons (pv 0) (pa_cons (pe_bltn (v := V.ty "tuple") (by rfl) B.tup PyProof.Rows.boot_tuple rfl) pa_nil)))))
        (pw_or1 (pt_not (pt_chain op_le op_le pe_int (pe_callB call_len_seq (by rfl) B.len PySem.boot_len (pa_cons (pv 0) pa_nil)) pe_int))))) (pss_one (ps_ret pe_bl)) pss_nil)
      (pss_one (ps_ret (pe_and (by exact (pe_call GN hr1 (by rfl) gN kN bN .nil pass0 (pa_cons (pe_ix ix_tup (pv 0) pe_int (fun _ _ => rfl)) pa_nil)))
        (pe_one (pe_callB (cr_all rfl) (by rfl) B.all bootAll (pa_cons (by exact (pe_lc (own := [("part", 1)]) (g := gName 1) (tt := tYes) rfl scIsPattern.nd (pi_tup (pe_slice sl_tup (pv 0) (po_some pe_int) po_none))
          (blkOk_by (own := [("part", 1)]) (N := ["value", "part"]) (sc := defScope sIsPattern) (by decide +kernel))
          (fun _ _ _ _ _ => pg_name (i := 1) scIsPattern.nd rfl (Or.inl rfl)) (fun _ _ _ _ _ => pts_nil)
          (fun _ _ _ _ _ => by exact (pe_call GT hr (by rfl) gT kT bT .nil pass0 (pa_cons (pv 1) pa_nil))))) pa_nil)))))), ?_⟩
    cases o with
    | none =>
      obtain ⟨t, ht, hk⟩ := h
      refine ⟨_, rfl, _, _, _, _, false, rfl, .ty _, ht, hk, false, rfl, iteT (iteT ?_)⟩
      exact q H (Same.refl H)
    | some os =>
      obtain ⟨t, xs, rfl, e, ha, hl⟩ := h
      have hxl := ha.len
      refine ⟨_, rfl, _, _, _, _, true, rfl, .ty _, tyx_tup e, kit_ty (by decide +kernel), true, rfl, iteF ?_⟩
      refine ⟨_, rfl, t, xs, rfl, .inr (SqT.of e), _, _, rfl, rfl, _, rfl, ?_⟩
      cases ha with
      | nil =>
        refine iteF ⟨false, rfl, iteT ?_⟩
        exact q H (Same.refl H)
      | @cons x o1 xs1 os1 h1 ht =>
        have e1 : decide ((1 : Int) ≤ ((x :: xs1).length : Int)) = true := decide_eq_true (by rw [List.length_cons]; omega)
        show if decide ((1 : Int) ≤ ((x :: xs1).length : Int)) = true then _ else _
        rw [e1]
        refine iteT ⟨_, _, rfl, rfl, ?_⟩
        refine ⟨decide (((x :: xs1).length : Int) ≤ 4), rfl, ?_⟩
        by_cases h4 : os1.length ≤ 3
        · have e4 : decide (((x :: xs1).length : Int) ≤ 4) = true := decide_eq_true (by rw [List.length_cons] at *; rw [List.length_cons] at hxl; omega)
          rw [e4]
          refine iteF ?_
          have q : ∀ H', Same H H' → Q (.bl (nmO o1 && os1.all tmO)) H' := fun H' s => by
            have := q H' s
            simp only [patB, decide_eq_true h4, Bool.true_and] at this
            exact this
          refine ⟨_, rfl, t, _, _, x, rfl, rfl, SqT.of e, atI_nat (j := 0) rfl, ?_⟩
          dsimp only [tNil]
          refine spTxt.of h1 fun H1 s1 => ?_
          refine ⟨nmO o1, rfl, ?_⟩
          cases hn : nmO o1 with
          | false =>
            refine iteF ?_
            have := q H1 s1
            rw [hn] at this
            exact this
          | true =>
            rw [hn] at q
            refine iteT ?_
            refine ⟨_, rfl, 1, rfl, t, _, rfl, SqT.of (s1 _ _ e), ?_, fun t2 nt2 => ?_⟩
            · rintro ⟨h, _⟩
              have := HT.sIx_nat (x :: xs1).length 0 1
              rw [show ((1 : Nat) : Int) = 1 by rfl] at this
              rw [this, List.length_cons] at h
              omega
            · rw [cut_one, List.drop_succ_cons, List.drop_zero]
              have s2 : Same H (upd H1 t2 (.tup xs1)) := same_put s1 (s1.free nt2)
              have e2 : upd H1 t2 (.tup xs1) t2 = some (.tup xs1) := upd_same
              generalize upd H1 t2 (.tup xs1) = G at s2 e2 ⊢
              refine ⟨t2, rfl, ⟨_, SqT.of e2⟩, fun D nD => ?_⟩
              refine lc_tup (K := K) (a := t2) (xs := xs1) (fun i H' => Same G H' ∧ H' D = some (.lst ((os1.take i).map fun o => V.bl (tmO o)))) ⟨same_new nD, upd_same⟩ (fun i H' _ y => SqT.of (y.1 _ _ e2)) ?_ ?_
              · rintro i y H3 hi ⟨s3, e3⟩
                obtain ⟨o2, ho2, hy⟩ := ht.at_ hi
                refine ⟨rfl, ?_⟩
                refine ⟨_, rfl, ?_⟩
                dsimp only [tNil]
                refine spTxt.of (hy.same (s2.trans s3)) fun H4 s4 => ?_
                refine ⟨_, s4 _ _ e3, ?_, same_put (s3.trans s4) nD, ?_⟩
                · rw [List.length_map, List.length_take]
                  exact Nat.lt_of_le_of_lt (by omega : _ ≤ 3) (by decide)
                · rw [upd_same, take_one ho2, List.map_append] <;> rfl
              · rintro H3 ⟨s3, e3⟩
                have hlen := ht.len
                rw [hlen, List.take_length] at e3
                refine ⟨D, os1.map tmO, rfl, SqL.of (by rw [e3, List.map_map] <;> rfl), ?_⟩
                have := q H3 (s2.trans s3)
                rw [Bool.true_and] at this
                rw [List.all_map]
                exact this
        · have e4 : decide (((x :: xs1).length : Int) ≤ 4) = false := decide_eq_false (by rw [List.length_cons] at *; rw [List.length_cons] at hxl; omega)
          rw [e4]
          refine iteT ?_
          have := q H (Same.refl H)
          simp only [patB, decide_eq_false h4, Bool.false_and] at this
          exact this
end
end Nv
set_option maxHeartbeats 4000000
namespace Nv
open PySem PySem.Spec PyProof.Rows L2
/-- a value that may be a list of tuples: what stands in it, where it is a list -/
def Tps (K : PySem.W.Frag) (H : Hp) (v : V) : Option (List (Option (List (Option Str)))) → Prop
  | some ls => ∃ (a : Addr) (xs : List V), v = .ref a ∧ H a = some (.lst xs) ∧ All2 (Tp K H) xs ls ∧ ls.length ≤ 1000
  | none => ∃ t : Value, TyX K H v t ∧ PySem.W.kitOne K t (.type "list") = some false
theorem Tps.same {K : PySem.W.Frag} {H H' : Hp} {v : V} : ∀ {o : Option (List (Option (List (Option Str))))}, Tps K H v o → Same H H' → Tps K H' v o
  | some os, ⟨t, xs, e, h, a, l⟩, s => ⟨t, xs, e, s _ _ h, a.imp fun _ _ z => z.same s, l⟩
  | none, ⟨t, h, k⟩, s => ⟨t, tyx_same s h, k⟩
theorem PaL.tps {K : PySem.W.Frag} {H : Hp} {vs : List V} {ps : List (List Str)} (h : PaL H vs ps) (hp : ∀ p ∈ ps, p.length ≤ 1000 ∧ ∀ x ∈ p, x.length ≤ 1000) : All2 (Tp K H) vs (ps.map fun p => some (p.map some)) := by
  induction h with
  | nil => exact .nil
  | cons e _ ih =>
    obtain ⟨h1, h2⟩ := hp _ List.mem_cons_self
    exact .cons (tp_strs e h2 h1) (ih fun p hq => hp p (List.mem_cons_of_mem _ hq))
def prB : Option (List (Option Str)) → Bool
  | some [o1, o2] => tmO o1 && (tmO o2 && (decide (o1 ≠ o2) && (vrO o1 || vrO o2)))
  | _ => false
def listB (p : Option (List (Option Str)) → Bool) (o : Option (List (Option (List (Option Str))))) : Bool := o.any fun ls => ls.all p
section
variable {P : Program} {w : World} {K : PySem.W.Frag} {mg : Str → Option Value} {base : Heap}
def spTup (K : PySem.W.Frag) (p : Option (List (Option Str)) → Bool) : Sp := fun vs H Q _ => ∃ (v : V) (o : Option (List (Option Str))), vs = [v] ∧ Tp K H v o ∧ ∀ H', Same H H' → Q (.bl (p o)) H'
def spLst (K : PySem.W.Frag) (p : Option (List (Option Str)) → Bool) : Sp := fun vs H Q _ => ∃ (v : V) (o : Option (List (Option (List (Option Str))))), vs = [v] ∧ Tps K H v o ∧ ∀ H', Same H H' → Q (.bl (listB p o)) H'
theorem scIsPatterns : FnScope ["value", "part"] ["value"] (defScope sIsPatterns) := ⟨rfl, rfl, rfl, by decide +kernel, rfl, by decide +kernel, by decide +kernel⟩
theorem ok_isPatterns {f fN : Addr} {fd fdN : FuncData} {p : Option (List (Option Str)) → Bool} (F : Fun K "is_patterns" "is_patterns" sIsPatterns f fd) (B : Bp mg)
    (GN : FnOk P w K mg base CX0 3 fN fdN ["value"] (spTup K p)) (kN : PySem.W.keepIn K (.ref fN) = true) (gN : mg "is_pattern" = some (.ref fN)) (bN : Binds K fdN ["value"] []) :
    FnOk P w K mg base CX0 4 f fd ["value"] (spLst K p) := by
  refine F.ok scIsPatterns (fun vs H Q E h => ?_) (fun cdv A outer s H vs Q E hr h => ?_)
  · obtain ⟨v, o, rfl, _⟩ := h
    rfl
  · obtain ⟨v, o, rfl, h, q⟩ := h
    refine ⟨_, pss_one (ps_ret (pe_and (pe_callB call_isi (by rfl) B.isi bootIsi (pa_cons (pv 0) (pa_cons (pe_bltn (v := V.ty "list") (by rfl) B.lst PyProof.Rows.boot_list rfl) pa_nil)))
      (pe_one (pe_callB (cr_all rfl) (by rfl) B.all bootAll (pa_cons (by exact (pe_lc (own := [("part", 1)]) (g := gName 1) (tt := tYes) rfl scIsPatterns.nd (pi_list (pv 0))
          (blkOk_by (own := [("part", 1)]) (N := ["value", "part"]) (sc := defScope sIsPatterns) (by decide +kernel))
          (fun _ _ _ _ _ => pg_name (i := 1) scIsPatterns.nd rfl (Or.inl rfl)) (fun _ _ _ _ _ => pts_nil)
          (fun _ _ _ _ _ => by exact (pe_call GN hr (by rfl) gN kN bN .nil pass0 (pa_cons (pv 1) pa_nil))))) pa_nil))))), ?_⟩
    cases o with
    | none =>
      obtain ⟨t, ht, hk⟩ := h
      refine ⟨_, rfl, _, _, _, _, false, rfl, .ty _, ht, hk, false, rfl, iteF ?_⟩
      exact q H (Same.refl H)
    | some ls =>
      obtain ⟨a, xs, rfl, e, ha, hl⟩ := h
      have hxl := ha.len
      refine ⟨_, rfl, _, _, _, _, true, rfl, .ty _, tyx_lst e, kit_ty (by decide +kernel), true, rfl, iteT ?_⟩
      refine ⟨_, rfl, a, rfl, ⟨_, SqL.of e⟩, fun D nD => ?_⟩
      refine lc_list (K := K) (a := a) (xs := xs) (fun i H' => Same H H' ∧ H' D = some (.lst ((ls.take i).map fun o => V.bl (p o)))) ⟨same_new nD, upd_same⟩ (fun i H' _ y => SqL.of (y.1 _ _ e)) ?_ ?_
      · rintro i y H3 hi ⟨s3, e3⟩
        obtain ⟨o2, ho2, hy⟩ := ha.at_ hi
        refine ⟨rfl, _, rfl, y, o2, rfl, hy.same s3, fun H4 s4 => ?_⟩
        refine ⟨_, s4 _ _ e3, ?_, same_put (s3.trans s4) nD, ?_⟩
        · rw [List.length_map, List.length_take]
          exact Nat.lt_of_le_of_lt (by omega : _ ≤ 1000) (by decide)
        · rw [upd_same, take_one ho2, List.map_append] <;> rfl
      · rintro H3 ⟨s3, e3⟩
        rw [hxl, List.take_length] at e3
        refine ⟨D, ls.map p, rfl, SqL.of (by rw [e3, List.map_map] <;> rfl), ?_⟩
        rw [List.all_map]
        exact q H3 s3
theorem scIsPairs : FnScope ["value", "part"] ["value"] (defScope sIsPairs) := ⟨rfl, rfl, rfl, by decide +kernel, rfl, by decide +kernel, by decide +kernel⟩
theorem ok_isPairs {f fN : Addr} {fd fdN : FuncData} {p : Option (List (Option Str)) → Bool} (F : Fun K "is_pairs" "is_pairs" sIsPairs f fd) (B : Bp mg)
    (GN : FnOk P w K mg base CX0 3 fN fdN ["value"] (spTup K p)) (kN : PySem.W.keepIn K (.ref fN) = true) (gN : mg "is_pair" = some (.ref fN)) (bN : Binds K fdN ["value"] []) :
    FnOk P w K mg base CX0 4 f fd ["value"] (spLst K p) := by
  refine F.ok scIsPairs (fun vs H Q E h => ?_) (fun cdv A outer s H vs Q E hr h => ?_)
  · obtain ⟨v, o, rfl, _⟩ := h
    rfl
  · obtain ⟨v, o, rfl, h, q⟩ := h
    refine ⟨_, pss_one (ps_ret (pe_and (pe_callB call_isi (by rfl) B.isi bootIsi (pa_cons (pv 0) (pa_cons (pe_bltn (v := V.ty "list") (by rfl) B.lst PyProof.Rows.boot_list rfl) pa_nil)))
      (pe_one (pe_callB (cr_all rfl) (by rfl) B.all bootAll (pa_cons (by exact (pe_lc (own := [("part", 1)]) (g := gName 1) (tt := tYes) rfl scIsPairs.nd (pi_list (pv 0))
          (blkOk_by (own := [("part", 1)]) (N := ["value", "part"]) (sc := defScope sIsPairs) (by decide +kernel))
          (fun _ _ _ _ _ => pg_name (i := 1) scIsPairs.nd rfl (Or.inl rfl)) (fun _ _ _ _ _ => pts_nil)
          (fun _ _ _ _ _ => by exact (pe_call GN hr (by rfl) gN kN bN .nil pass0 (pa_cons (pv 1) pa_nil))))) pa_nil))))), ?_⟩
    cases o with
    | none =>
      obtain ⟨t, ht, hk⟩ := h
      refine ⟨_, rfl, _, _, _, _, false, rfl, .ty _, ht, hk, false, rfl, iteF ?_⟩
      exact q H (Same.refl H)
    | some ls =>
      obtain ⟨a, xs, rfl, e, ha, hl⟩ := h
      have hxl := ha.len
      refine ⟨_, rfl, _, _, _, _, true, rfl, .ty _, tyx_lst e, kit_ty (by decide +kernel), true, rfl, iteT ?_⟩
      refine ⟨_, rfl, a, rfl, ⟨_, SqL.of e⟩, fun D nD => ?_⟩
      refine lc_list (K := K) (a := a) (xs := xs) (fun i H' => Same H H' ∧ H' D = some (.lst ((ls.take i).map fun o => V.bl (p o)))) ⟨same_new nD, upd_same⟩ (fun i H' _ y => SqL.of (y.1 _ _ e)) ?_ ?_
      · rintro i y H3 hi ⟨s3, e3⟩
        obtain ⟨o2, ho2, hy⟩ := ha.at_ hi
        refine ⟨rfl, _, rfl, y, o2, rfl, hy.same s3, fun H4 s4 => ?_⟩
        refine ⟨_, s4 _ _ e3, ?_, same_put (s3.trans s4) nD, ?_⟩
        · rw [List.length_map, List.length_take]
          exact Nat.lt_of_le_of_lt (by omega : _ ≤ 1000) (by decide)
        · rw [upd_same, take_one ho2, List.map_append] <;> rfl
      · rintro H3 ⟨s3, e3⟩
        rw [hxl, List.take_length] at e3
        refine ⟨D, ls.map p, rfl, SqL.of (by rw [e3, List.map_map] <;> rfl), ?_⟩
        rw [List.all_map]
        exact q H3 s3
theorem scIsPair : FnScope ["value", "part"] ["value"] (defScope sIsPair) := ⟨rfl, rfl, rfl, by decide +kernel, rfl, by decide +kernel, by decide +kernel⟩
theorem tm_some {o : Option Str} (h : tmO o = true) : ∃ z, o = some z := by
  cases o with
  | none => cases h
  | some z => exact ⟨z, rfl⟩
theorem ok_isPair {f fT fV : Addr} {fd fdT fdV : FuncData} (F : Fun K "is_pair" "is_pair" sIsPair f fd) (B : Bp mg)
    (GT : FnOk P w K mg base CX0 2 fT fdT ["value"] (spTxt K fun z => decide (IsTm z))) (kT : PySem.W.keepIn K (.ref fT) = true) (gT : mg "is_term" = some (.ref fT)) (bT : Binds K fdT ["value"] [])
    (GV : FnOk P w K mg base CX0 1 fV fdV ["value"] (spTxt K fun z => decide (IsVr z))) (kV : PySem.W.keepIn K (.ref fV) = true) (gV : mg "is_variable" = some (.ref fV)) (bV : Binds K fdV ["value"] []) :
    FnOk P w K mg base CX0 3 f fd ["value"] (spTup K prB) := by
  refine F.ok scIsPair (fun vs H Q E h => ?_) (fun cdv A outer s H vs Q E hr h => ?_)
  · obtain ⟨v, o, rfl, _⟩ := h
    rfl
  · obtain ⟨v, o, rfl, h, q⟩ := h
    have hr1 : Room 1 _ := hr.mono (by decide)
    refine ⟨_, pss_cons (ps_if (PW.pt (pw_or (pt_not (pt_val (pe_callB call_isi (by rfl) B.isi bootIsi (pa_cons (pv 0) (pa_cons (pe_bltn (v := V.ty "tuple") (by rfl) B.tup PyProof.Rows.boot_tuple rfl) pa_nil)))))
        (pw_or (pt_cmpR op_ne (pe_callB call_len_seq (by rfl) B.len PySem.boot_len (pa_cons (pv 0) pa_nil)) pe_int (nomark _))
        (pw_or1 (pt_not (pt_val (pe_callB (cr_all rfl) (by rfl) B.all bootAll (pa_cons (by exact (pe_lc (own := [("part", 1)]) (g := gName 1) (tt := tYes) rfl scIsPair.nd (pi_tup (pv 0))
          (blkOk_by (own := [("part", 1)]) (N := ["value", "part"]) (sc := defScope sIsPair) (by decide +kernel))
          (fun _ _ _ _ _ => pg_name (i := 1) scIsPair.nd rfl (Or.inl rfl)) (fun _ _ _ _ _ => pts_nil)
          (fun _ _ _ _ _ => by exact (pe_call GT hr (by rfl) gT kT bT .nil pass0 (pa_cons (pv 1) pa_nil))))) pa_nil)))))))) (pss_one (ps_ret pe_bl)) pss_nil)
      (pss_one (ps_ret (pe_and (pe_cmpR op_ne (pe_ix ix_tup (pv 0) pe_int (fun _ _ => rfl)) (pe_ix ix_tup (pv 0) pe_int (fun _ _ => rfl)) (nomark _))
        (pe_one (pe_callB (cr_any rfl) (by rfl) B.any bootAny (pa_cons (by exact (pe_lc (own := [("part", 1)]) (g := gName 1) (tt := tYes) rfl scIsPair.nd (pi_tup (pv 0))
          (blkOk_by (own := [("part", 1)]) (N := ["value", "part"]) (sc := defScope sIsPair) (by decide +kernel))
          (fun _ _ _ _ _ => pg_name (i := 1) scIsPair.nd rfl (Or.inl rfl)) (fun _ _ _ _ _ => pts_nil)
          (fun _ _ _ _ _ => by exact (pe_call GV hr1 (by rfl) gV kV bV .nil pass0 (pa_cons (pv 1) pa_nil))))) pa_nil)))))), ?_⟩
    cases o with
    | none =>
      obtain ⟨t, ht, hk⟩ := h
      refine ⟨_, rfl, _, _, _, _, false, rfl, .ty _, ht, hk, false, rfl, iteT (iteT ?_)⟩
      exact q H (Same.refl H)
    | some os =>
      obtain ⟨t, xs, rfl, e, ha, hl⟩ := h
      have hxl := ha.len
      refine ⟨_, rfl, _, _, _, _, true, rfl, .ty _, tyx_tup e, kit_ty (by decide +kernel), true, rfl, iteF ?_⟩
      refine ⟨_, rfl, t, xs, rfl, .inr (SqT.of e), rfl, _, rfl, ?_⟩
      by_cases h2 : os.length = 2
      · obtain ⟨o1, o2, rfl⟩ : ∃ o1 o2, os = [o1, o2] := by
          match os, h2 with
          | [o1, o2], _ => exact ⟨o1, o2, rfl⟩
        have hx2 : V.int (xs.length : Int) = V.int 2 := by
          rw [hxl] <;> rfl
        rw [decide_eq_true hx2]
        refine iteF ?_
        refine ⟨_, rfl, t, rfl, ⟨_, SqT.of e⟩, fun D nD => ?_⟩
        refine lc_tup (K := K) (a := t) (xs := xs) (fun i H' => Same H H' ∧ H' D = some (.lst (([o1, o2].take i).map fun o => V.bl (tmO o)))) ⟨same_new nD, upd_same⟩ (fun i H' _ y => SqT.of (y.1 _ _ e)) ?_ ?_
        · rintro i y H3 hi ⟨s3, e3⟩
          obtain ⟨o, ho, hy⟩ := ha.at_ hi
          refine ⟨rfl, _, rfl, ?_⟩
          dsimp only [tNil]
          refine spTxt.of (hy.same s3) fun H4 s4 => ?_
          refine ⟨_, s4 _ _ e3, ?_, same_put (s3.trans s4) nD, ?_⟩
          · rw [List.length_map, List.length_take]
            exact Nat.lt_of_le_of_lt (Nat.min_le_right _ _) (by show 2 < sizeLine; decide)
          · rw [upd_same, take_one ho, List.map_append] <;> rfl
        · rintro H3 ⟨s3, e3⟩
          rw [hxl, List.take_length] at e3
          refine ⟨D, [o1, o2].map tmO, rfl, SqL.of (by rw [e3] <;> rfl), _, rfl, ?_⟩
          have hq := q H3 s3
          cases h1 : tmO o1 with
          | false =>
            have e5 : ([o1, o2].map tmO).all id = false := by simp [h1]
            rw [e5]
            refine iteT ?_
            simp only [prB, h1, Bool.false_and] at hq
            exact hq
          | true =>
            cases h3 : tmO o2 with
            | false =>
              have e5 : ([o1, o2].map tmO).all id = false := by simp [h3]
              rw [e5]
              refine iteT ?_
              simp only [prB, h1, h3, Bool.false_and, Bool.true_and] at hq
              exact hq
            | true =>
              have e5 : ([o1, o2].map tmO).all id = true := by simp [h1, h3]
              rw [e5]
              refine iteF ?_
              obtain ⟨z1, rfl⟩ := tm_some h1
              obtain ⟨z2, rfl⟩ := tm_some h3
              have q : ∀ H', Same H H' → Q (.bl (decide (some z1 ≠ some z2) && (vrO (some z1) || vrO (some z2)))) H' := fun H' s => by
                have := q H' s
                simp only [prB, h1, h3, Bool.true_and] at this
                exact this
              obtain ⟨x1, x2, rfl⟩ : ∃ x1 x2, xs = [x1, x2] := by
                match xs, hxl with
                | [x1, x2], _ => exact ⟨x1, x2, rfl⟩
              have g1 : x1 = V.str z1 := by
                obtain ⟨o, ho, hy⟩ := ha.at_ (i := 0) rfl
                cases ho
                exact hy.1
              have g2 : x2 = V.str z2 := by
                obtain ⟨o, ho, hy⟩ := ha.at_ (i := 1) rfl
                cases ho
                exact hy.1
              subst g1 g2
              refine ⟨_, rfl, t, _, _, _, rfl, rfl, SqT.of (s3 _ _ e), atI_nat (j := 0) rfl, _, rfl, t, _, _, _, rfl, rfl, SqT.of (s3 _ _ e), atI_nat (j := 1) rfl, rfl, ?_⟩
              refine ⟨!decide (V.str z1 = V.str z2), rfl, ?_⟩
              by_cases hz : z1 = z2
              · rw [decide_eq_true (by rw [hz] : V.str z1 = V.str z2)]
                refine iteF ?_
                have := q H3 s3
                have e7 : decide (some z1 ≠ some z2) = false := decide_eq_false (fun y => y (by rw [hz]))
                rw [e7, Bool.false_and] at this
                exact this
              · rw [decide_eq_false (fun y => hz (by injection y) : ¬ V.str z1 = V.str z2)]
                refine iteT ?_
                refine ⟨_, rfl, t, rfl, ⟨_, SqT.of (s3 _ _ e)⟩, fun D2 nD2 => ?_⟩
                refine lc_tup (K := K) (a := t) (xs := [V.str z1, V.str z2]) (fun i H' => Same H3 H' ∧ H' D2 = some (.lst (([some z1, some z2].take i).map fun o => V.bl (vrO o)))) ⟨same_new nD2, upd_same⟩ (fun i H' _ y => SqT.of (y.1 _ _ (s3 _ _ e))) ?_ ?_
                · rintro i y H4 hi ⟨s4, e4⟩
                  obtain ⟨o, ho, hy⟩ := ha.at_ hi
                  refine ⟨rfl, _, rfl, ?_⟩
                  dsimp only [tNil]
                  refine spTxt.of (hy.same (s3.trans s4)) fun H5 s5 => ?_
                  refine ⟨_, s5 _ _ e4, ?_, same_put (s4.trans s5) nD2, ?_⟩
                  · rw [List.length_map, List.length_take]
                    exact Nat.lt_of_le_of_lt (Nat.min_le_right _ _) (by show 2 < sizeLine; decide)
                  · rw [upd_same, take_one ho, List.map_append] <;> rfl
                · rintro H4 ⟨s4, e4⟩
                  refine ⟨D2, [some z1, some z2].map vrO, rfl, SqL.of (by rw [e4] <;> rfl), ?_⟩
                  have := q H4 (s3.trans s4)
                  have e7 : decide (some z1 ≠ some z2) = true := decide_eq_true (fun y => hz (by injection y))
                  rw [e7, Bool.true_and] at this
                  have e6 : ([some z1, some z2].map vrO).any id = (vrO (some z1) || vrO (some z2)) := by simp
                  rw [e6]
                  exact this
      · have hx2 : ¬ V.int (xs.length : Int) = V.int 2 := fun y => by
          injection y with y
          omega
        rw [decide_eq_false hx2]
        refine iteT (iteT ?_)
        have := q H (Same.refl H)
        have e5 : prB (some os) = false := by
          match os, h2 with
          | [], _ => rfl
          | [_], _ => rfl
          | [_, _], h => exact absurd rfl h
          | _ :: _ :: _ :: _, _ => rfl
        rw [e5] at this
        exact this
end
end Nv
set_option maxHeartbeats 4000000
namespace Nv
open PySem PySem.Spec PyProof.Rows L2
theorem sqT_same {K : PySem.W.Frag} {H H' : Hp} {a : Addr} {xs : List V} (e : Same H H') (h : SqT K H a xs) : SqT K H' a xs :=
  h.elim (fun h => .inl (h.elim (fun h => .inl (e _ _ h)) fun ⟨o, h⟩ => .inr ⟨o, e _ _ h⟩)) fun h => .inr h
theorem walk_any {J : It} {n : Nat} {G : Hp → Prop} {Y : Nat → Hp → V → Hp → Prop} (w : Walk J n G Y) {S : Hp → Prop} {BODY : (Hp → Prop) → V → Hp → Prop} {H0 : Hp} (Pv : Nat → Hp → Prop) (h0 : Pv 0 H0) (hG : ∀ i H, i ≤ n → Pv i H → G H)
    (hs : ∀ i x H H', i < n → Pv i H → Y i H x H' → BODY (Pv (i + 1)) x H') (hd : ∀ H, Pv n H → S H) :
    ∃ W : Nat → Nat → Hp → Prop, (∃ m, W 0 m H0) ∧ ∀ i m H, W i m H → (J.stop i H ∧ S H) ∨ (J.go i H ∧ ∃ Nx : Hp → Prop, (∀ H', Nx H' → ∃ m', m' < m ∧ W (i + 1) m' H') ∧ ∀ x H', J.yld i H x H' → BODY Nx x H') := by
  refine ⟨fun i m H => m = n - i ∧ i ≤ n ∧ Pv i H, ⟨n, by simp, Nat.zero_le _, h0⟩, ?_⟩
  rintro i m H ⟨rfl, hi, p⟩
  have q := hG i H hi p
  by_cases hlt : i < n
  · refine .inr ⟨w.goes i H hlt q, Pv (i + 1), fun H' p' => ⟨n - (i + 1), by omega, rfl, hlt, p'⟩, fun x H' y => hs i x H H' hlt p (w.yields i H x H' hlt q y)⟩
  · have e : i = n := by omega
    subst e
    exact .inl ⟨w.stops H q, hd H p⟩
section
variable {P : Program} {w : World} {K : PySem.W.Frag} {mg : Str → Option Value} {base : Heap}
def spTermsOf (K : PySem.W.Frag) : Sp := fun vs H Q _ => ∃ (a : Addr) (us : List V) (ps : List (List Str)), vs = [.ref a] ∧ SqL K H a us ∧ PaL H us ps ∧ (∀ x ∈ ps, PatOk x) ∧ ps.length ≤ 1000 ∧
  ∀ (p : Addr) (H' : Hp), H p = none → Same H H' → H' p = some (.lst ((tails ps).map V.str)) → Q (.ref p) H'
theorem scTermsOf : FnScope ["patterns", "pattern", "term"] ["patterns"] (defScope sTermsOf) := ⟨rfl, rfl, rfl, by decide +kernel, rfl, by decide +kernel, by decide +kernel⟩
theorem tails_le {ps : List (List Str)} (h : ∀ x ∈ ps, PatOk x) (hl : ps.length ≤ 1000) : (tails ps).length ≤ 3000 := by
  have := tails_len h
  omega
theorem ok_termsOf {f : Addr} {fd : FuncData} (F : Fun K "terms_of" "terms_of" sTermsOf f fd) : FnOk P w K mg base CX0 1 f fd ["patterns"] (spTermsOf K) := by
  refine F.ok scTermsOf (fun vs H Q E h => ?_) (fun cdv A outer s H vs Q E hr h => ?_)
  · obtain ⟨a, us, ps, rfl, _⟩ := h
    rfl
  · obtain ⟨a, us, ps, rfl, ha, hp, hok, hl, q⟩ := h
    refine ⟨_, pss_one (ps_ret (by exact (pe_lc2 (own := [("pattern", 1), ("term", 2)]) (vs1 := [2]) (g := gName 1) (g1 := gName 2) (tt := tYes) (tt1 := tYes) (wi1 := iTup K (tSl (rSlT K) (tVar 1) (tPart (tC (V.int 1))) tNoPart)) (te := tVar 2) rfl scTermsOf.nd (pi_list (pv 0))
      (blkOk_by (own := [("pattern", 1), ("term", 2)]) (N := ["patterns", "pattern", "term"]) (sc := defScope sTermsOf) (by decide +kernel)) (by decide)
      (fun _ _ _ _ _ => pg_name (i := 1) scTermsOf.nd rfl (Or.inl rfl)) (fun _ _ _ _ _ => pts_nil)
      (fun _ _ _ _ _ => by exact (pi_tup (pe_slice sl_tup (pv 1) (po_some pe_int) po_none)))
      (fun _ _ _ _ _ => pg_name (i := 2) scTermsOf.nd rfl (Or.inl rfl)) (fun _ _ _ _ _ => pts_nil) (fun _ _ _ _ _ => by exact (pv 2))))), ?_⟩
    have hul := hp.len
    refine ⟨_, rfl, a, rfl, ⟨_, ha⟩, fun D nD => ?_⟩
    refine walk_any (walk_list (K := K) (a := a) (xs := us)) (fun i H' => Same H H' ∧ H' D = some (.lst ((tails (ps.take i)).map V.str))) ⟨same_new nD, upd_same⟩ (fun i H' _ y => y.1.seq ha) ?_ ?_
    · rintro i v H1 H1' hi ⟨sm, e1⟩ ⟨rfl, hv⟩
      obtain ⟨t, pat, rfl, hpi, et⟩ := hp.at_ hv
      obtain ⟨wd, ts, rfl, hw, h3, hts⟩ := hok pat (List.mem_of_getElem? hpi)
      have et1 := sm _ _ et
      have hacc : (tails (ps.take i)).length ≤ 3000 := by
        refine tails_le (fun x hx => hok x (List.mem_of_mem_take hx)) ?_
        rw [List.length_take]
        omega
      rw [tails_take hpi]
      show gName 1 _ _ _ _
      generalize tails (ps.take i) = acc at e1 hacc ⊢
      refine ⟨rfl, _, rfl, 1, rfl, t, _, rfl, SqT.of et1, ?_, fun t2 nt2 => ?_⟩
      · rintro ⟨h, _⟩
        have := HT.sIx_nat ((wd :: ts).map V.str).length 0 1
        rw [show ((1 : Nat) : Int) = 1 by rfl] at this
        rw [this, List.length_map, List.length_cons] at h
        omega
      · rw [cut1]
        have sm2 : Same H (upd H1' t2 (.tup (ts.map V.str))) := same_put sm (sm.free nt2)
        have e2 : upd H1' t2 (.tup (ts.map V.str)) D = some (.lst (acc.map V.str)) := same_new nt2 _ _ e1
        have et2 : upd H1' t2 (.tup (ts.map V.str)) t2 = some (.tup (ts.map V.str)) := upd_same
        generalize upd H1' t2 (.tup (ts.map V.str)) = G at sm2 e2 et2 ⊢
        refine ⟨t2, rfl, ⟨_, SqT.of et2⟩, ?_⟩
        refine walk_any (walk_tup (K := K) (a := t2) (xs := ts.map V.str)) (fun j H' => Same H H' ∧ H' t2 = some (.tup (ts.map V.str)) ∧ H' D = some (.lst ((acc ++ ts.take j).map V.str))) ⟨sm2, et2, by rw [List.take_zero, List.append_nil]; exact e2⟩ (fun j H' _ z => SqT.of z.2.1) ?_ ?_
        · rintro j x H2 H2' hj ⟨sm3, et3, e3⟩ ⟨rfl, hx⟩
          rw [List.getElem?_map] at hx
          obtain ⟨z, hz, rfl⟩ : ∃ z, ts[j]? = some z ∧ x = V.str z := by
            cases g : ts[j]? with
            | none =>
              rw [g] at hx
              cases hx
            | some z =>
              rw [g] at hx
              exact ⟨z, rfl, (Option.some.inj hx).symm⟩
          have htD : t2 ≠ D := fun y => by
            rw [y, e3] at et3
            cases et3
          refine ⟨rfl, _, rfl, _, e3, ?_, same_put sm3 nD, ?_, ?_⟩
          · rw [List.length_map, List.length_append, List.length_take]
            exact Nat.lt_of_le_of_lt (by omega : _ ≤ 3003) (by decide)
          · rw [upd_ne htD]
            exact et3
          · rw [upd_same, take_one hz]
            simp only [List.map_append, List.map_cons, List.map_nil, List.append_assoc]
        · rintro H2 ⟨sm3, et3, e3⟩
          refine ⟨sm3, ?_⟩
          rw [e3, List.length_map, List.take_length] <;> rfl
    · rintro H1 ⟨sm, e1⟩
      rw [hul, List.take_length] at e1
      exact q D H1 nD sm e1
/-- variables_among(terms) -/
def spVarsAmong (K : PySem.W.Frag) : Sp := fun vs H Q _ => ∃ (a : Addr) (ts : List Str), vs = [.ref a] ∧ (SqL K H a (ts.map V.str) ∨ SqT K H a (ts.map V.str)) ∧ (∀ x ∈ ts, x.length ≤ 1000) ∧ ts.length ≤ 5000 ∧
  ∀ (p : Addr) (H' : Hp), H p = none → Same H H' → H' p = some (.lst ((varsIn ts).map V.str)) → Q (.ref p) H'
theorem scVarsAmong : FnScope ["terms", "found", "term"] ["terms"] (defScope sVarsAmong) := ⟨rfl, rfl, rfl, by decide +kernel, rfl, by decide +kernel, by decide +kernel⟩
def tk (z : Str) : Key × V := (Sum.inr z, V.bl true)
theorem put_tk (l : List Str) (z : Str) : putK (l.map tk) (Sum.inr z) (V.bl true) = (if z ∈ l then l else l ++ [z]).map tk := by
  unfold putK
  have e : ((l.map tk).any fun kv => decide (kv.1 = Sum.inr z)) = decide (z ∈ l) := by
    rw [List.any_map]
    by_cases h : z ∈ l
    · rw [decide_eq_true h, List.any_eq_true]
      exact ⟨z, h, decide_eq_true rfl⟩
    · rw [decide_eq_false h, List.any_eq_false]
      intro y hy y2
      have := of_decide_eq_true y2
      injection this with this
      exact h (this ▸ hy)
  rw [e]
  by_cases h : z ∈ l
  · rw [decide_eq_true h, if_pos rfl, if_pos h, List.map_map]
    refine List.map_congr_left fun y hy => ?_
    show (if (tk y).1 = Sum.inr z then ((tk y).1, V.bl true) else tk y) = tk y
    split <;> rfl
  · rw [decide_eq_false h, if_neg (by decide), if_neg h, List.map_append] <;> rfl
theorem vst_vr {acc : List Str} {z : Str} (h : IsVr z) : vst acc z = if z ∈ acc then acc else acc ++ [z] := by
  unfold vst
  by_cases hm : z ∈ acc
  · rw [if_neg (fun y => y.2 hm), if_pos hm]
  · rw [if_pos ⟨h, hm⟩, if_neg hm]
theorem vst_no {acc : List Str} {z : Str} (h : ¬ IsVr z) : vst acc z = acc := by
  unfold vst
  rw [if_neg (fun y => h y.1)]
theorem ok_varsAmong {f fV : Addr} {fd fdV : FuncData} (F : Fun K "variables_among" "variables_among" sVarsAmong f fd) (B : Bp mg)
    (GV : FnOk P w K mg base CX0 1 fV fdV ["value"] (spTxt K fun z => decide (IsVr z))) (kV : PySem.W.keepIn K (.ref fV) = true) (gV : mg "is_variable" = some (.ref fV)) (bV : Binds K fdV ["value"] []) :
    FnOk P w K mg base CX0 2 f fd ["terms"] (spVarsAmong K) := by
  refine F.ok scVarsAmong (fun vs H Q E h => ?_) (fun cdv A outer s H vs Q E hr h => ?_)
  · obtain ⟨a, ts, rfl, _⟩ := h
    rfl
  · obtain ⟨a, ts, rfl, ha, hz, hl, q⟩ := h
    have hu := hu_of hr
    have turn : ∀ (i : Nat) (x : V) (d : Addr) (σ : L2.St) (H1 : Hp) (z : Str), H d = none → x = V.str z → ts[i]? = some z → (∃ o : Option V, σ = [some (.ref a), some (.ref d), o] ∧ Same H H1 ∧ H1 d = some (.dK (((ts.take i).foldl vst []).map tk))) →
        ∃ o : Option V, σ = [some (.ref a), some (.ref d), o] ∧ Same H H1 ∧ H1 d = some (.dK (((ts.take i).foldl vst []).map tk)) ∧ ((ts.take i).foldl vst []).length ≤ 5000 ∧ (ts.take (i + 1)).foldl vst [] = vst ((ts.take i).foldl vst []) z := by
      rintro i x d σ H1 z nd rfl hi ⟨o, rfl, sm, e⟩
      refine ⟨o, rfl, sm, e, ?_, ?_⟩
      · have := fold_len (ts.take i) []
        rw [List.length_take] at this
        have h0 : ([] : List Str).length = 0 := rfl
        omega
      · rw [take_one hi, List.foldl_append] <;> rfl
    rcases ha with ha | ha
    · refine ⟨_, pss_cons (ps_set (i := 1) scVarsAmong.nd rfl (Or.inl rfl) pe_dnewK)
        (pss_cons (ps_for PassesOwn.never rfl (pi_list (pv 0)) (pg_name (i := 2) scVarsAmong.nd rfl (Or.inl rfl))
          (pss_one (ps_if (pt_val (by exact (pe_call GV hr (by rfl) gV kV bV .nil pass0 (pa_cons (pv 2) pa_nil)))) (pss_one (ps_dput hu (pv 1) (pv 2) pe_bl rfl)) pss_nil)))
        (pss_one (ps_ret (pe_callTy (call_list_dK rfl) (by rfl) B.lst PyProof.Rows.boot_list (pa_cons (pv 1) pa_nil))))), ?_⟩
      intro d nd
      refine ⟨_, rfl, a, rfl, ⟨_, (same_new nd).seq ha⟩, for_list (K := K) (a := a) (xs := ts.map V.str) (fun i σ H' => ∃ o : Option V, σ = [some (.ref a), some (.ref d), o] ∧ Same H H' ∧ H' d = some (.dK (((ts.take i).foldl vst []).map tk))) ⟨none, rfl, same_new nd, upd_same⟩ (fun i σ H' _ z => ?_) ?_ ?_⟩
      · obtain ⟨_, _, sm, _⟩ := z
        exact sm.seq ha
      · rintro i x σ H1 hi h
        rw [List.getElem?_map] at hi
        obtain ⟨z, hiz, rfl⟩ : ∃ z, ts[i]? = some z ∧ x = V.str z := by
          cases g : ts[i]? with
          | none =>
            rw [g] at hi
            cases hi
          | some z =>
            rw [g] at hi
            exact ⟨z, rfl, (Option.some.inj hi).symm⟩
        obtain ⟨o, rfl, sm, e, hl2, hf⟩ := turn i _ d σ H1 z nd rfl hiz h
        rw [hf]
        generalize (ts.take i).foldl vst [] = acc at e hl2 ⊢
        refine ⟨_, rfl, ?_⟩
        dsimp only [tNil]
        refine spTxt.yes (hz z (List.mem_of_getElem? hiz)) fun H2 s2 => ⟨_, rfl, ?_⟩
        have e2 := s2 _ _ e
        show if decide (IsVr z) = true then _ else _
        by_cases hv : IsVr z
        · rw [decide_eq_true hv]
          refine iteT ⟨_, rfl, _, rfl, d, _, rfl, DPut.k (k := Sum.inr z) e2 ?_, ?_⟩
          · rw [List.length_map]
            exact Nat.lt_of_le_of_lt hl2 (by decide)
          · refine ⟨_, rfl, same_put (sm.trans s2) nd, ?_⟩
            rw [upd_same, put_tk, vst_vr hv]
        · rw [decide_eq_false hv]
          refine iteF ⟨_, rfl, sm.trans s2, ?_⟩
          rw [vst_no hv]
          exact e2
      · rintro σ H1 ⟨o, rfl, sm, e⟩
        rw [List.length_map, List.take_length] at e
        refine ⟨_, rfl, d, _, rfl, e, fun p np => ?_⟩
        refine q p _ (sm.free np) (same_put sm (sm.free np)) ?_
        rw [upd_same, List.map_map] <;> rfl
    · refine ⟨_, pss_cons (ps_set (i := 1) scVarsAmong.nd rfl (Or.inl rfl) pe_dnewK)
        (pss_cons (ps_for PassesOwn.never rfl (pi_tup (pv 0)) (pg_name (i := 2) scVarsAmong.nd rfl (Or.inl rfl))
          (pss_one (ps_if (pt_val (by exact (pe_call GV hr (by rfl) gV kV bV .nil pass0 (pa_cons (pv 2) pa_nil)))) (pss_one (ps_dput hu (pv 1) (pv 2) pe_bl rfl)) pss_nil)))
        (pss_one (ps_ret (pe_callTy (call_list_dK rfl) (by rfl) B.lst PyProof.Rows.boot_list (pa_cons (pv 1) pa_nil))))), ?_⟩
      intro d nd
      refine ⟨_, rfl, a, rfl, ⟨_, sqT_same (same_new nd) ha⟩, for_tup (K := K) (a := a) (xs := ts.map V.str) (fun i σ H' => ∃ o : Option V, σ = [some (.ref a), some (.ref d), o] ∧ Same H H' ∧ H' d = some (.dK (((ts.take i).foldl vst []).map tk))) ⟨none, rfl, same_new nd, upd_same⟩ (fun i σ H' _ z => ?_) ?_ ?_⟩
      · obtain ⟨_, _, sm, _⟩ := z
        exact sqT_same sm ha
      · rintro i x σ H1 hi h
        rw [List.getElem?_map] at hi
        obtain ⟨z, hiz, rfl⟩ : ∃ z, ts[i]? = some z ∧ x = V.str z := by
          cases g : ts[i]? with
          | none =>
            rw [g] at hi
            cases hi
          | some z =>
            rw [g] at hi
            exact ⟨z, rfl, (Option.some.inj hi).symm⟩
        obtain ⟨o, rfl, sm, e, hl2, hf⟩ := turn i _ d σ H1 z nd rfl hiz h
        rw [hf]
        generalize (ts.take i).foldl vst [] = acc at e hl2 ⊢
        refine ⟨_, rfl, ?_⟩
        dsimp only [tNil]
        refine spTxt.yes (hz z (List.mem_of_getElem? hiz)) fun H2 s2 => ⟨_, rfl, ?_⟩
        have e2 := s2 _ _ e
        show if decide (IsVr z) = true then _ else _
        by_cases hv : IsVr z
        · rw [decide_eq_true hv]
          refine iteT ⟨_, rfl, _, rfl, d, _, rfl, DPut.k (k := Sum.inr z) e2 ?_, ?_⟩
          · rw [List.length_map]
            exact Nat.lt_of_le_of_lt hl2 (by decide)
          · refine ⟨_, rfl, same_put (sm.trans s2) nd, ?_⟩
            rw [upd_same, put_tk, vst_vr hv]
        · rw [decide_eq_false hv]
          refine iteF ⟨_, rfl, sm.trans s2, ?_⟩
          rw [vst_no hv]
          exact e2
      · rintro σ H1 ⟨o, rfl, sm, e⟩
        rw [List.length_map, List.take_length] at e
        refine ⟨_, rfl, d, _, rfl, e, fun p np => ?_⟩
        refine q p _ (sm.free np) (same_put sm (sm.free np)) ?_
        rw [upd_same, List.map_map] <;> rfl
/-- variables_of(patterns) -/
def spVarsOf (K : PySem.W.Frag) : Sp := fun vs H Q _ => ∃ (a : Addr) (us : List V) (ps : List (List Str)), vs = [.ref a] ∧ SqL K H a us ∧ PaL H us ps ∧ (∀ x ∈ ps, PatOk x) ∧ ps.length ≤ 1000 ∧
  ∀ (p : Addr) (H' : Hp), H p = none → Same H H' → H' p = some (.lst ((varsIn (tails ps)).map V.str)) → Q (.ref p) H'
theorem scVarsOf : FnScope ["patterns"] ["patterns"] (defScope sVarsOf) := ⟨rfl, rfl, rfl, by decide +kernel, rfl, by decide +kernel, by decide +kernel⟩
theorem tails_short {ps : List (List Str)} (h : ∀ x ∈ ps, PatOk x) : ∀ z ∈ tails ps, (IsVr z ∨ IsNm z) ∧ z.length ≤ 10 := by
  intro z hz
  unfold tails at hz
  obtain ⟨l, hl, hzl⟩ := List.mem_flatten.mp hz
  obtain ⟨p, hp, rfl⟩ := List.mem_map.mp hl
  obtain ⟨w, ts, rfl, _, _, ht⟩ := h p hp
  have h1 := ht z hzl
  refine ⟨h1, ?_⟩
  rcases h1 with h2 | h2
  · have := h2.2.1
    omega
  · exact h2.2.1
theorem ok_varsOf {f fT fA : Addr} {fd fdT fdA : FuncData} (F : Fun K "variables_of" "variables_of" sVarsOf f fd)
    (GT : FnOk P w K mg base CX0 1 fT fdT ["patterns"] (spTermsOf K)) (kT : PySem.W.keepIn K (.ref fT) = true) (gT : mg "terms_of" = some (.ref fT)) (bT : Binds K fdT ["patterns"] [])
    (GA : FnOk P w K mg base CX0 2 fA fdA ["terms"] (spVarsAmong K)) (kA : PySem.W.keepIn K (.ref fA) = true) (gA : mg "variables_among" = some (.ref fA)) (bA : Binds K fdA ["terms"] []) :
    FnOk P w K mg base CX0 3 f fd ["patterns"] (spVarsOf K) := by
  refine F.ok scVarsOf (fun vs H Q E h => ?_) (fun cdv A outer s H vs Q E hr h => ?_)
  · obtain ⟨a, us, ps, rfl, _⟩ := h
    rfl
  · obtain ⟨a, us, ps, rfl, ha, hp, hok, hl, q⟩ := h
    have hr1 : Room 1 _ := hr.mono (by decide)
    refine ⟨_, pss_one (ps_ret (by exact (pe_call GA hr (by rfl) gA kA bA .nil pass0 (pa_cons (by exact (pe_call GT hr1 (by rfl) gT kT bT .nil pass0 (pa_cons (pv 0) pa_nil))) pa_nil)))), ?_⟩
    refine ⟨_, rfl, a, us, ps, rfl, ha, hp, hok, hl, fun p H1 np sm e => ?_⟩
    refine ⟨p, tails ps, rfl, .inl (SqL.of e), (fun x hx => by have := (tails_short hok x hx).2; omega), by have := tails_le hok hl; omega, fun p2 H2 np2 sm2 e2 => ?_⟩
    exact q p2 H2 (sm.free np2) (sm.trans sm2) e2
end
end Nv
set_option maxHeartbeats 4000000
namespace Nv
open PySem PySem.Spec PyProof.Rows L2
def hasMore (ts : List Str) (ps : List (List Str)) : Bool := (varsIn ts).any fun x => !decide (x ∈ varsIn (tails ps))
theorem at_map {ts : List Str} {i : Nat} {x : V} (hx : (ts.map V.str)[i]? = some x) : ∃ z, ts[i]? = some z ∧ x = V.str z := by
  rw [List.getElem?_map] at hx
  cases g : ts[i]? with
  | none =>
    rw [g] at hx
    cases hx
  | some z =>
    rw [g] at hx
    exact ⟨z, rfl, (Option.some.inj hx).symm⟩
section
variable {P : Program} {w : World} {K : PySem.W.Frag} {mg : Str → Option Value} {base : Heap}
/-- _sides(pairs) -/
def spSides (K : PySem.W.Frag) : Sp := fun vs H Q _ => ∃ (a : Addr) (us : List V) (qs : List (List Str)), vs = [.ref a] ∧ SqL K H a us ∧ PaL H us qs ∧ (∀ x ∈ qs, x.length = 2) ∧ qs.length ≤ 1000 ∧
  ∀ (p : Addr) (H' : Hp), H p = none → Same H H' → H' p = some (.lst (qs.flatten.map V.str)) → Q (.ref p) H'
theorem scSides : FnScope ["pairs", "pair", "term"] ["pairs"] (defScope sSides) := ⟨rfl, rfl, rfl, by decide +kernel, rfl, by decide +kernel, by decide +kernel⟩
theorem flat_len {qs : List (List Str)} (h : ∀ x ∈ qs, x.length = 2) : qs.flatten.length = 2 * qs.length := by
  induction qs with
  | nil => rfl
  | cons q qs ih =>
    rw [List.flatten_cons, List.length_append, ih fun x hx => h x (List.mem_cons_of_mem _ hx), h q List.mem_cons_self, List.length_cons]
    omega
theorem ok_sides {f : Addr} {fd : FuncData} (F : Fun K "sides_of" "sides_of" sSides f fd) : FnOk P w K mg base CX0 1 f fd ["pairs"] (spSides K) := by
  refine F.ok scSides (fun vs H Q E h => ?_) (fun cdv A outer s H vs Q E hr h => ?_)
  · obtain ⟨a, us, ps, rfl, _⟩ := h
    rfl
  · obtain ⟨a, us, qs, rfl, ha, hp, h2, hl, q⟩ := h
    refine ⟨_, pss_one (ps_ret (by exact (pe_lc2 (own := [("pair", 1), ("term", 2)]) (vs1 := [2]) (g := gName 1) (g1 := gName 2) (tt := tYes) (tt1 := tYes) (wi1 := iTup K (tVar 1)) (te := tVar 2) rfl scSides.nd (pi_list (pv 0))
      (blkOk_by (own := [("pair", 1), ("term", 2)]) (N := ["pairs", "pair", "term"]) (sc := defScope sSides) (by decide +kernel)) (by decide)
      (fun _ _ _ _ _ => pg_name (i := 1) scSides.nd rfl (Or.inl rfl)) (fun _ _ _ _ _ => pts_nil)
      (fun _ _ _ _ _ => by exact (pi_tup (pv 1)))
      (fun _ _ _ _ _ => pg_name (i := 2) scSides.nd rfl (Or.inl rfl)) (fun _ _ _ _ _ => pts_nil) (fun _ _ _ _ _ => by exact (pv 2))))), ?_⟩
    have hul := hp.len
    refine ⟨_, rfl, a, rfl, ⟨_, ha⟩, fun D nD => ?_⟩
    refine walk_any (walk_list (K := K) (a := a) (xs := us)) (fun i H' => Same H H' ∧ H' D = some (.lst ((qs.take i).flatten.map V.str))) ⟨same_new nD, upd_same⟩ (fun i H' _ y => y.1.seq ha) ?_ ?_
    · rintro i v H1 H1' hi ⟨sm, e1⟩ ⟨rfl, hv⟩
      obtain ⟨t, ts, rfl, hpi, et⟩ := hp.at_ hv
      have et1 := sm _ _ et
      have hts := h2 ts (List.mem_of_getElem? hpi)
      have hacc : (qs.take i).flatten.length ≤ 2000 := by
        rw [flat_len fun x hx => h2 x (List.mem_of_mem_take hx), List.length_take]
        omega
      have htk : (qs.take (i + 1)).flatten = (qs.take i).flatten ++ ts := by
        rw [take_one hpi, List.flatten_append]
        simp
      rw [htk]
      show gName 1 _ _ _ _
      generalize (qs.take i).flatten = acc at e1 hacc ⊢
      refine ⟨rfl, _, rfl, t, rfl, ⟨_, SqT.of et1⟩, ?_⟩
      refine walk_any (walk_tup (K := K) (a := t) (xs := ts.map V.str)) (fun j H' => Same H H' ∧ H' D = some (.lst ((acc ++ ts.take j).map V.str))) ⟨sm, by rw [List.take_zero, List.append_nil]; exact e1⟩ (fun j H' _ z => SqT.of (z.1 _ _ et)) ?_ ?_
      · rintro j x H2 H2' hj ⟨sm3, e3⟩ ⟨rfl, hx⟩
        obtain ⟨z, hz, rfl⟩ := at_map hx
        refine ⟨rfl, _, rfl, _, e3, ?_, same_put sm3 nD, ?_⟩
        · rw [List.length_map, List.length_append, List.length_take]
          exact Nat.lt_of_le_of_lt (by omega : _ ≤ 3003) (by decide)
        · rw [upd_same, take_one hz]
          simp only [List.map_append, List.map_cons, List.map_nil, List.append_assoc]
      · rintro H2 ⟨sm3, e3⟩
        refine ⟨sm3, ?_⟩
        rw [e3, List.length_map, List.take_length] <;> rfl
    · rintro H1 ⟨sm, e1⟩
      rw [hul, List.take_length] at e1
      exact q D H1 nD sm e1
/-- _has_more(terms, told) -/
def spHasMore (K : PySem.W.Frag) : Sp := fun vs H Q _ => ∃ (a b : Addr) (ts : List Str) (us : List V) (ps : List (List Str)), vs = [.ref a, .ref b] ∧ ((SqL K H a (ts.map V.str) ∨ SqT K H a (ts.map V.str)) ∧ (∀ x ∈ ts, x.length ≤ 1000) ∧ ts.length ≤ 5000) ∧
  (SqL K H b us ∧ PaL H us ps ∧ (∀ x ∈ ps, PatOk x) ∧ ps.length ≤ 1000) ∧ ∀ H' : Hp, Same H H' → Q (.bl (hasMore ts ps)) H'
theorem scHasMore : FnScope ["terms", "told", "known", "term"] ["terms", "told"] (defScope sHasMore) := ⟨rfl, rfl, rfl, by decide +kernel, rfl, by decide +kernel, by decide +kernel⟩
theorem ok_hasMore {f fA fO : Addr} {fd fdA fdO : FuncData} (F : Fun K "has_more" "has_more" sHasMore f fd) (B : Bp mg)
    (GA : FnOk P w K mg base CX0 2 fA fdA ["terms"] (spVarsAmong K)) (kA : PySem.W.keepIn K (.ref fA) = true) (gA : mg "variables_among" = some (.ref fA)) (bA : Binds K fdA ["terms"] [])
    (GO : FnOk P w K mg base CX0 3 fO fdO ["patterns"] (spVarsOf K)) (kO : PySem.W.keepIn K (.ref fO) = true) (gO : mg "variables_of" = some (.ref fO)) (bO : Binds K fdO ["patterns"] []) :
    FnOk P w K mg base CX0 4 f fd ["terms", "told"] (spHasMore K) := by
  refine F.ok scHasMore (fun vs H Q E h => ?_) (fun cdv A outer s H vs Q E hr h => ?_)
  · obtain ⟨a, b, ts, us, ps, rfl, _⟩ := h
    rfl
  · obtain ⟨a, b, ts, us, ps, rfl, ⟨ha, hz, hl⟩, ⟨hb, hp, hok, hpl⟩, q⟩ := h
    have hr2 : Room 2 _ := hr.mono (by decide)
    refine ⟨_, pss_cons (ps_set (i := 2) scHasMore.nd rfl (Or.inr rfl) (by exact (pe_call GO hr (by rfl) gO kO bO .nil pass0 (pa_cons (pv 1) pa_nil))))
      (pss_one (ps_ret (pe_callB (cr_any rfl) (by rfl) B.any bootAny (pa_cons (by exact (pe_lc (own := [("term", 3)]) (g := gName 3) (tt := tYes) (te := tOp (rIn K true) (tVar 3) (tVar 2)) rfl scHasMore.nd
        (pi_list (by exact (pe_call GA hr2 (by rfl) gA kA bA .nil pass0 (pa_cons (pv 0) pa_nil))))
        (blkOk_by (own := [("term", 3)]) (N := ["terms", "told", "known", "term"]) (sc := defScope sHasMore) (by decide +kernel))
        (fun _ _ _ _ _ => pg_name (i := 3) scHasMore.nd rfl (Or.inl rfl)) (fun _ _ _ _ _ => pts_nil)
        (fun _ _ _ _ _ => by exact (pe_cmpR op_notIn_seq (pv 3) (pv 2) (by rfl))))) pa_nil)))), ?_⟩
    refine ⟨_, rfl, b, us, ps, rfl, hb, hp, hok, hpl, fun p1 H1 np1 sm1 e1 => ?_⟩
    refine (show ∀ G : Hp, G = H1 → tSeq _ _ { nx := fun _ H' => Q .non H', rt := Q } [some (.ref a), some (.ref b), some (.ref p1), none] G from fun G hG => ?_) _ rfl
    subst hG
    refine ⟨_, rfl, a, ts, rfl, ?_, hz, hl, fun p2 H2 np2 sm2 e2 => ?_⟩
    · rcases ha with h | h
      · exact .inl (sm1.seq h)
      · exact .inr (sqT_same sm1 h)
    · have e12 := sm2 _ _ e1
      refine ⟨p2, rfl, ⟨_, SqL.of e2⟩, fun D nD => ?_⟩
      refine lc_list (K := K) (a := p2) (xs := (varsIn ts).map V.str) (fun i H' => Same H2 H' ∧ H' D = some (.lst (((varsIn ts).take i).map fun x => V.bl (!decide (x ∈ varsIn (tails ps)))))) ⟨same_new nD, upd_same⟩ (fun i H' _ y => SqL.of (y.1 _ _ e2)) ?_ ?_
      · rintro i x H3 hi ⟨s3, e3⟩
        obtain ⟨z, hz2, rfl⟩ := at_map hi
        refine ⟨rfl, _, rfl, _, rfl, p1, _, rfl, .inl (SqL.of (s3 _ _ e12)), rfl, flat_strs _, ?_⟩
        rw [inV_strs]
        refine ⟨_, e3, ?_, same_put s3 nD, ?_⟩
        · rw [List.length_map, List.length_take]
          have := varsIn_len ts
          exact Nat.lt_of_le_of_lt (by omega : _ ≤ 5000) (by decide)
        · rw [upd_same, take_one hz2, List.map_append] <;> rfl
      · rintro H3 ⟨s3, e3⟩
        rw [List.length_map, List.take_length] at e3
        refine ⟨D, (varsIn ts).map fun x => !decide (x ∈ varsIn (tails ps)), rfl, SqL.of (by rw [e3, List.map_map] <;> rfl), ?_⟩
        rw [List.any_map]
        exact q H3 ((sm1.trans sm2).trans s3)
end
end Nv
set_option maxHeartbeats 4000000
namespace Nv
open PySem PySem.Spec PyProof.Rows
/-- texts, each once -/
def dstep (acc : List Str) (x : Str) : List Str := if acc.any (· == x) = true then acc else acc ++ [x]
def dist (l : List Str) : List Str := l.foldl dstep []
theorem dstep_any (acc : List Str) (x k : Str) : (dstep acc x).any (· == k) = (acc.any (· == k) || decide (k = x)) := by
  unfold dstep
  by_cases e : k = x
  · subst e
    by_cases h : acc.any (· == k) = true
    · simp [h]
    · simp [h]
  · have hb : (x == k) = false := beq_eq_false_iff_ne.mpr fun z => e z.symm
    by_cases h : acc.any (· == x) = true
    · simp [h, e]
    · simp [h, e, hb]
theorem dstep_len (acc : List Str) (x : Str) : (dstep acc x).length = if acc.any (· == x) then acc.length else acc.length + 1 := by
  unfold dstep
  split <;> simp
theorem dist_le : ∀ (l acc : List Str), (l.foldl dstep acc).length ≤ acc.length + l.length
  | [], acc => Nat.le_refl _
  | x :: l, acc => by
    have h1 := dist_le l (dstep acc x)
    have h2 := dstep_len acc x
    show (l.foldl dstep (dstep acc x)).length ≤ acc.length + (l.length + 1)
    split at h2 <;> omega
theorem dist_take {l : List Str} {i : Nat} {x : Str} (h : l[i]? = some x) : dist (l.take (i + 1)) = dstep (dist (l.take i)) x := by
  unfold dist
  rw [take_one h, List.foldl_append] <;> rfl
theorem dist_nd_aux : ∀ (l acc : List Str), (acc ++ l).Nodup → l.foldl dstep acc = acc ++ l
  | [], acc, _ => by simp
  | x :: l, acc, h => by
    have hx : ¬ acc.any (· == x) = true := fun z => by
      obtain ⟨y, hy, e⟩ := List.any_eq_true.mp z
      rw [eq_of_beq e] at hy
      exact (List.nodup_append.mp h).2.2 x hy x List.mem_cons_self rfl
    show l.foldl dstep (dstep acc x) = _
    have e : dstep acc x = acc ++ [x] := by
      unfold dstep
      rw [if_neg hx]
    rw [e, dist_nd_aux l (acc ++ [x]) (by rw [List.append_assoc]; exact h), List.append_assoc] <;> rfl
theorem dist_nd {l : List Str} (h : l.Nodup) : dist l = l := by
  have := dist_nd_aux l [] (by simpa using h)
  simpa [dist] using this
theorem dist_lt_aux : ∀ (l acc : List Str), ¬ (acc ++ l).Nodup → acc.Nodup → (l.foldl dstep acc).length < acc.length + l.length
  | [], acc, h, h2 => absurd (by simpa using h2) h
  | x :: l, acc, h, h2 => by
    show (l.foldl dstep (dstep acc x)).length < acc.length + (l.length + 1)
    by_cases hx : acc.any (· == x) = true
    · have e : dstep acc x = acc := by
        unfold dstep
        rw [if_pos hx]
      rw [e]
      have := dist_le l acc
      omega
    · have e : dstep acc x = acc ++ [x] := by
        unfold dstep
        rw [if_neg hx]
      rw [e]
      have hn : x ∉ acc := fun z => hx (List.any_eq_true.mpr ⟨x, z, beq_self_eq_true x⟩)
      have := dist_lt_aux l (acc ++ [x]) (by rw [List.append_assoc]; exact h) (List.nodup_append.mpr ⟨h2, by simp, fun a ha b hb z => by
        rw [List.mem_singleton.mp hb] at z
        exact hn (z ▸ ha)⟩)
      rw [List.length_append, List.length_singleton] at this
      omega
theorem dist_lt {l : List Str} : decide ((dist l).length < l.length) = !decide l.Nodup := by
  by_cases h : l.Nodup
  · rw [dist_nd h, decide_eq_true h, decide_eq_false (Nat.lt_irrefl _)] <;> rfl
  · have := dist_lt_aux l [] (by simpa using h) List.nodup_nil
    rw [decide_eq_false h, decide_eq_true (by simpa [dist] using this)] <;> rfl
theorem str_at : ∀ {us : List Value} {zs : List Str}, StrsAre us zs → ∀ {j : Nat} {u : Value}, us[j]? = some u → ∃ (z : Str) (t : Tok), zs[j]? = some z ∧ u = .str z t
  | _, _, .nil, j, u, h => by cases j <;> cases h
  | _, _, .cons z t r, 0, u, h => by
    cases h
    exact ⟨z, t, rfl, rfl⟩
  | _, _, .cons z t r, j + 1, u, h => str_at r (j := j) (by simpa using h)
section
variable {prog : Program} {w : World} {A : Around} {R : Result → Shared → Prop} {J : Addr} {fp wr : List Addr} {G : Array GenState → Array GenState → Prop} {n : Nat} {P : Nat → Value → Prop} {St : Nat → Shared → Prop}
/-- a set is filled from a walk over texts -/
theorem fillStrs (W : WalksS prog w A.in1 J fp wr G n P St) (b : Addr) (hb : b ∉ fp) (zs : List Str) (hn : n = zs.length) (hs : n + 1 < scanBound) (hP : ∀ i v, P i v → ∃ z t, zs[i]? = some z ∧ v = .str z t) :
    ∀ (k i : Nat) (s : Shared), n - i = k → i ≤ n → St i s → s.heap.SetOf (PySem.strKind prog w) b (fun x => (dist (zs.take i)).any (· == x)) (dist (zs.take i)).length →
      (∀ s', Moved (b :: wr) G s s' → s'.heap.SetOf (PySem.strKind prog w) b (fun x => (dist zs).any (· == x)) (dist zs).length → R (.ok (.ret .none)) s') →
      codeAny (model prog w) A (.builtin "set.update.loop" ⟨[.ref b, .ref J], []⟩) R s := by
  have hbw : b ∉ wr := fun h => hb (W.sub _ h)
  have more : ∀ c ∈ wr, c ∈ b :: wr := fun c hc => List.mem_cons_of_mem _ hc
  intro k
  induction k with
  | zero =>
    intro i s hk hi hst hS hR
    have e : i = n := by omega
    subst e
    refine codeAny_builtin PyProof.Rows.F.entry_set_update_loop ?_
    rw [Around.under_plainId PyProof.Rows.F.plain_set_update_loop _]
    show wpAny _ A.in1 (pyNext (.ref J) >>= _) _ _ s
    refine wpAny_bind (W.done s _ _ hst fun s1 m1 => ?_)
    show wpAny _ A.in1 (ret Value.none) _ _ s1
    obtain ⟨o, es, ep, t, ho, rest⟩ := hS
    rw [hn, List.take_length] at rest
    exact wpAny_pure (hR s1 (m1.mono more) ⟨o, es, ep, t, m1.heap b _ hbw ho, rest⟩)
  | succ k ih =>
    intro i s hk hi hst hS hR
    have lt : i < n := by omega
    refine codeAny_builtin PyProof.Rows.F.entry_set_update_loop ?_
    rw [Around.under_plainId PyProof.Rows.F.plain_set_update_loop _]
    show wpAny _ A.in1 (pyNext (.ref J) >>= _) _ _ s
    refine wpAny_bind (W.item i s _ _ lt hst fun v s1 hPv st1 m1 => ?_)
    obtain ⟨z, t, hz, rfl⟩ := hP i v hPv
    have hS1 : s1.heap.SetOf (PySem.strKind prog w) b (fun x => (dist (zs.take i)).any (· == x)) (dist (zs.take i)).length := by
      obtain ⟨o, es, ep, tb, ho, rest⟩ := hS
      exact ⟨o, es, ep, tb, m1.heap b _ hbw ho, rest⟩
    show wpAny _ A.in1 (holding [Value.str z t] (setAdd b (.str z t)) >>= _) _ _ s1
    refine wpAny_bind (wpAny_holding ?_)
    unfold setAdd
    refine wpAny_holding (wpAny_bind ((PySem.strKind prog w).pyHash (k := z) (strKind_is _ _ _ _) ?_))
    have room : (dist (zs.take i)).length + 1 < scanBound := by
      have := dist_le (zs.take i) []
      rw [List.length_take] at this
      have h0 : ([] : List Str).length = 0 := rfl
      unfold dist
      omega
    refine wpAny_setAddHashed_of (knd := PySem.strKind prog w) (s := { s1 with toks := s1.toks + 1 }) (strKind_is _ _ _ _) rfl hS1 room fun h2 sb2 hS2 => ?_
    have hS3 : h2.SetOf (PySem.strKind prog w) b (fun x => (dist (zs.take (i + 1))).any (· == x)) (dist (zs.take (i + 1))).length :=
      SetOf_congr hS2 (fun x => by rw [dist_take hz, dstep_any]) (by rw [dist_take hz, dstep_len])
    have else2 : ∀ c, c ≠ b → h2.get? c = s1.heap.get? c := fun c hc => sb2.2 c hc
    refine wpAny_pure ⟨plainId_quiet PyProof.Rows.F.plain_set_update_loop _, ih (i + 1) _ (by omega) lt (W.frame _ s1 _ _ st1 (Nat.le_succ _) fun c hc o e => ?_) hS3 fun s3 m3 hS4 => ?_⟩
    · rw [else2 c fun z => hb (z ▸ hc)]
      exact e
    · refine hR s3 (Moved.trans W.gtrans ((m1.mono more).then_heap (Nat.le_succ _) fun c o hc e => ?_) m3) hS4
      rw [else2 c fun z => hc (by rw [z]; exact List.mem_cons_self)]
      exact e
end
end Nv
set_option maxHeartbeats 4000000
namespace Nv
open PySem PySem.Spec PyProof.Rows
section
variable {prog : Program} {w : World} {A : Around} {E : Value → Shared → Prop} {s : Shared}
/-- the empty set, as it is laid -/
abbrev freshSet (led : Bool) : Obj := { cls := .type "set", dict := none, data := .set #[] 0 (.fresh 0 0 led) }
/-- the set at b, of the texts zs, laid behind all that stood -/
abbrev Filled (prog : Program) (w : World) (zs : List Str) (b : Addr) (h0 h1 : Heap) : Prop :=
  h1.SetOf (PySem.strKind prog w) b (fun x => (dist zs).any (· == x)) (dist zs).length ∧ ∀ c o, c < b → h0.get? c = some o → h1.get? c = some o
/-- set(xs), xs a list of texts -/
theorem set_of_strs {l : Addr} {its : Array Value} {zs : List Str} {Q : Value → Shared → Prop} (calm : A.handled = none) (hl : s.heap.IsList l its) (hz : StrsAre its.toList zs) (few : zs.length + 1 < scanBound)
    (hq : ∀ (h1 : Heap) (tk : Nat), Filled prog w zs s.heap.objs.size s.heap h1 → Q (.ref s.heap.objs.size) { s with heap := h1, toks := tk }) : wpAny (model prog w) A (call (.type "set") [.ref l]) Q E s := by
  obtain ⟨c, tl, m0⟩ := PySem.F.called_set.mro
  have m1 := PySem.F.called_set.made; have m2 := PySem.F.called_set.sub; have m3 := PySem.F.called_set.notType; have m4 := PySem.F.called_set.canCreate
  have m5 := PySem.F.typeCall_set_1 (.ref l)
  have size : its.size = zs.length := by rw [← Array.length_toList]; exact hz.len_eq
  refine wpAny_call (codeAny_of_tree (show wpAny _ _ (callAny (.type "set") _) _ _ _ from wpAny_pure ⟨Code.quiet_builtin _ (by decide +kernel), codeAny_builtin PySem.F.entry_type_call ?_⟩))
  rw [Around.under_plain (weight_type_call_type "set" [.ref l] []) rfl]
  repeat (any_goals (first | assumption | wp_step))
  refine codeAny_mono (code_set_new_1 (.ref l) (E := E) (Q₁ := fun v s1 => ∃ led : Bool, v = .ref s.heap.objs.size ∧ s1 = { s with heap := s.heap.push (freshSet led) }) fun led => ⟨led, rfl, rfl⟩) fun r s1 hr => ?_
  rcases r with e | fl
  · exact hr
  cases fl with
  | ret v =>
    obtain ⟨led, rfl, rfl⟩ := hr
    have at0 : (s.heap.push (freshSet led)).get? s.heap.objs.size = some (freshSet led) := Heap.get?_push_size _ rfl
    have ty : Shared.TypeIs { s with heap := s.heap.push (freshSet led) } (.ref s.heap.objs.size) "set" := ⟨_, at0, rfl⟩
    have i1 := PySem.F.called_set.init.lookup; have i2 := PySem.F.called_set.init.bind (.ref s.heap.objs.size)
    repeat (any_goals (first | assumption | wp_step))
    refine codeAny_mono (codeAny_call_builtin (R := wants (fun v s2 => v = .none ∧ ∃ h1 tk, s2 = { s with heap := h1, toks := tk } ∧ Filled prog w zs s.heap.objs.size s.heap h1) E) PySem.F.called_set.init.plain PySem.F.entry_set_init (check_set_init_1 ty ?_)) fun r2 s2 hr2 => ?_
    · obtain ⟨⟨oc, od, odt, osl⟩, ho, e1, nl, e2⟩ := hl
      simp only at e1 e2; subst e1; subst e2
      have ho1 : (s.heap.push (freshSet led)).get? l = some { cls := .type "list", dict := od, data := .seq its nl, slots := osl } := Heap.get?_push_of_some _ ho
      have f1 := PySem.F.sub_list_set; have f2 := PySem.F.sub_list_frozenset; have f3 : (Value.type "list" == Value.type "dict") = false := by decide
      have lst : (s.heap.push (freshSet led)).IsList l its := ⟨_, ho1, rfl, nl, rfl⟩
      have lt : l < s.heap.objs.size := Heap.lt_size ho
      unfold Builtin.«set.__init__» noKeywords Builtin.Frozenset.updateFrom; generalize hI : pyIter = PI
      wp_walk; subst hI
      refine wpAny_pyIter_list lst (wpAny_bind (wpAny_runValue ?_))
      have n1 : l ≠ (s.heap.push (freshSet led)).objs.size := by rw [Heap.size_push]; exact Nat.ne_of_lt (Nat.lt_succ_of_lt lt)
      have n2 : s.heap.objs.size ∉ [(s.heap.push (freshSet led)).objs.size, l] := by
        rw [Heap.size_push]; simp only [List.mem_cons, List.not_mem_nil, or_false, not_or]; exact ⟨Nat.ne_of_lt (Nat.lt_succ_self _), Nat.ne_of_gt lt⟩
      refine fillStrs ((Walks.list (by simp [calm]) _ l n1 its).toS) s.heap.objs.size n2 zs size (by omega) (fun i v hv => ?_) (its.size - 0) 0 _ (by omega) (Nat.zero_le _) ⟨⟨_, Heap.get?_push_size _ rfl, rfl, rfl⟩, lst.push _⟩ ?_ ?_
      · exact str_at hz (j := i) (by rw [Array.getElem?_toList]; exact hv)
      · exact SetOf_congr ((setObjOf_fresh (knd := PySem.strKind prog w) led).setOf (Heap.get?_push_of_some _ at0) (by unfold scanBound; omega)) (fun _ => rfl) rfl
      · intro s3 m hS
        obtain ⟨h3, g3, d3, t3, o3⟩ := s3
        have eg : g3 = s.gens := m.gens; have ed : d3 = s.drawn := m.drawn; have eo : o3 = s.os := m.os
        subst eg; subst ed; subst eo
        refine show wpAny _ _ _ _ _ _ from wpAny_pure (show wpAny _ _ (ret Value.none) _ _ _ from wpAny_pure ⟨rfl, h3, t3, rfl, hS, fun c o hc e => ?_⟩)
        refine m.heap c o ?_ (Heap.get?_push_of_some _ (Heap.get?_push_of_some _ e))
        rw [Heap.size_push]; simp only [List.mem_cons, List.not_mem_nil, or_false, not_or]; exact ⟨Nat.ne_of_lt hc, Nat.ne_of_lt (Nat.lt_succ_of_lt hc)⟩
    · rcases r2 with e | fl2
      · exact hr2
      cases fl2 with
      | ret v2 =>
        obtain ⟨rfl, h1, tk, rfl, hF⟩ := hr2
        repeat (any_goals (first | assumption | wp_step))
        exact hq _ _ hF
      | _ => exact hr2.elim
  | _ => exact hr.elim
end
end Nv
set_option maxHeartbeats 4000000
namespace Nv
open PySem PySem.Spec PyProof.Rows L2
/-- len(set(xs)), xs a list of texts: how many unlike ones -/
def tDist (K : PySem.W.Frag) (ta : TE) : TE := fun σ H Q => ta σ H fun x H1 => ∃ (l : Addr) (zs : List Str), x = .ref l ∧ SqL K H1 l (zs.map V.str) ∧ zs.length ≤ 4000 ∧ Q (.int ((dist zs).length : Nat)) H1
theorem pe_dist {X : Cx} {a : Expr} {ta : TE} {p p2 q pos : Pos} (gl : Gl X "len") (ml : X.mg "len" = none) (gs : Gl X "set") (ms : X.mg "set" = none) (ha : PE X a ta) (calm : X.calm = true := by rfl)
    (na : starEach [a] X.env = (false, eval a X.env) :: starEach [] X.env := by rfl) : PE X (.Call (.Name "len" p) [.Call (.Name "set" p2) [a] [] q] [] pos) (tDist X.K ta) := by
  refine ⟨fun pins s σ H Q I h => ?_⟩
  refine Call_ (ld_blt I gl ml boot_len (PyProof.Rows.callWith_builtin1 (PyProof.Rows.args_cons (Call_ (ld_blt I gs ms boot_set ?_)) rfl) rfl rfl))
  refine PyProof.Rows.callWith_type1 (PyProof.Rows.args_cons (thn (ha.run pins s σ H _ I h) fun v s1 ⟨x, H1, I1, r1, q1⟩ => PyProof.Rows.args_nil ?_) na) na rfl
  obtain ⟨l, zs, rfl, hl, few, q1⟩ := q1
  cases r1
  obtain ⟨its, r, pl, _⟩ := I1.list hl
  have hz : ∀ {ys : List Str} {us : List Value}, Vals (ys.map V.str) us → StrsAre us ys := by
    intro ys
    induction ys with
    | nil =>
      intro us r
      cases r
      exact .nil
    | cons y ys ih =>
      intro us r
      cases r with
      | cons r t =>
        obtain ⟨k, rfl⟩ := r
        exact .cons y k (ih t)
  refine set_of_strs (zs := zs) (I1.ok.hd calm) pl.isList (by simpa using hz r) (by unfold scanBound; omega) fun h1 tk hF => PyProof.Rows.args_nil ?_
  obtain ⟨hS, kept⟩ := hF
  obtain ⟨o, es, ep, t, ho, hex, hd, _, _, _, hf, hn⟩ := hS
  have I2 : Inv X pins σ H1 { s1 with heap := h1, toks := tk } := I1.kept fun b o e => kept b o (Heap.lt_size e) e
  have small : (dist zs).length ≤ 0 + zs.length := dist_le zs []
  exact call_len_set ho hex hd hf (by rw [hn]; omega) ⟨.int ((dist zs).length : Nat), H1, I2.tok _, ⟨_, by rw [hn]⟩, q1⟩
end Nv
set_option maxHeartbeats 4000000
namespace Nv
open PySem PySem.Spec PyProof.Rows L2
section
variable {P : Program} {w : World} {K : PySem.W.Frag} {mg : Str → Option Value} {base : Heap}
/-- _has_double(labels) -/
def spHasDouble (K : PySem.W.Frag) : Sp := fun vs H Q _ => ∃ (a : Addr) (zs : List Str), vs = [.ref a] ∧ SqL K H a (zs.map V.str) ∧ zs.length ≤ 4000 ∧ Q (.bl (!decide zs.Nodup)) H
theorem scHasDouble : FnScope ["labels"] ["labels"] (defScope sHasDouble) := ⟨rfl, rfl, rfl, by decide +kernel, rfl, by decide +kernel, by decide +kernel⟩
theorem ok_hasDouble {f : Addr} {fd : FuncData} (F : Fun K "_has_double" "_has_double" sHasDouble f fd) (B : Bp mg) : FnOk P w K mg base CX0 1 f fd ["labels"] (spHasDouble K) := by
  refine F.ok scHasDouble (fun vs H Q E h => ?_) (fun cdv A outer s H vs Q E hr h => ?_)
  · obtain ⟨a, zs, rfl, _⟩ := h
    rfl
  · obtain ⟨a, zs, rfl, ha, hl, q⟩ := h
    refine ⟨_, pss_one (ps_ret (pe_cmpR op_lt (by exact (pe_dist (by rfl) B.len (by rfl) B.set (pv 0))) (pe_callB call_len_seq (by rfl) B.len PySem.boot_len (pa_cons (pv 0) pa_nil)) (nomark _))), ?_⟩
    refine ⟨_, rfl, a, zs, rfl, ha, hl, _, rfl, a, _, rfl, .inl ha, _, _, rfl, rfl, ?_⟩
    have e : decide (((dist zs).length : Int) < ((zs.map V.str).length : Int)) = !decide zs.Nodup := by
      rw [← dist_lt, List.length_map]
      exact decide_eq_decide.mpr (by omega)
    show Q (.bl (decide (((dist zs).length : Int) < ((zs.map V.str).length : Int)))) H
    rw [e]
    exact q
/-- _place(label, labels), a label that is there -/
def spPlace (K : PySem.W.Frag) : Sp := fun vs H Q _ => ∃ (z : Str) (b : Addr) (zs : List Str) (j : Nat), vs = [.str z, .ref b] ∧ SqL K H b (zs.map V.str) ∧ zs[j]? = some z ∧ zs.Nodup ∧ Q (.int (j : Nat)) H
theorem scPlace : FnScope ["label", "labels"] ["label", "labels"] (defScope sPlace) := ⟨rfl, rfl, rfl, by decide +kernel, rfl, by decide +kernel, by decide +kernel⟩
theorem ok_place {f : Addr} {fd : FuncData} (F : Fun K "_place" "_place" sPlace f fd) : FnOk P w K mg base CX0 1 f fd ["label", "labels"] (spPlace K) := by
  refine F.ok scPlace (fun vs H Q E h => ?_) (fun cdv A outer s H vs Q E hr h => ?_)
  · obtain ⟨z, b, zs, j, rfl, _⟩ := h
    rfl
  · obtain ⟨z, b, zs, j, rfl, hb, hj, nd, q⟩ := h
    refine ⟨_, pss_cons (ps_if (pt_cmpR op_notIn_seq (pv 0) (pv 1) (by rfl)) (pss_one ps_never) pss_nil)
      (pss_one (ps_ret (pe_bm PySem.F.plainAttrs_list PySem.F.slot_list_index PySem.F.type_list_index mt_index (pv 1) (pa_cons (pv 0) pa_nil)))), ?_⟩
    refine ⟨_, rfl, _, rfl, b, _, rfl, .inl hb, rfl, flat_strs _, _, rfl, ?_⟩
    rw [inV_strs, decide_eq_true (List.mem_of_getElem? hj)]
    refine iteF ?_
    refine ⟨_, rfl, .inl ⟨rfl, _, hb⟩, _, rfl, b, zs.map V.str, _, j, .str z, rfl, rfl, hb, rfl, flat_strs _, by rw [List.getElem?_map, hj] <;> rfl, by show (z == z) = true; exact beq_self_eq_true z, fun m v hm hv => ?_, q⟩
    obtain ⟨y, hy, rfl⟩ := at_map hv
    show (y == z) = false
    refine beq_eq_false_iff_ne.mpr fun e => ?_
    subst e
    obtain ⟨h1, e1⟩ := List.getElem?_eq_some_iff.mp hy
    obtain ⟨h2, e2⟩ := List.getElem?_eq_some_iff.mp hj
    exact absurd (e1.trans e2.symm) (List.pairwise_iff_getElem.mp nd m j h1 h2 hm)
end
end Nv
set_option maxHeartbeats 4000000
namespace Nv
open PySem PySem.Spec PyProof.Rows L2
abbrev sRuleInit : Stmt := inClass cRule 0
/-- a list or None, of tuples of texts -/
def Opt (H : Hp) (v : V) (ps : List (List Str)) : Prop := (v = .non ∧ ps = []) ∨ ∃ (a : Addr) (us : List V), v = .ref a ∧ H a = some (.lst us) ∧ PaL H us ps ∧ ps.length ≤ 300
def PairOk (q : List Str) : Prop := ∃ x y, q = [x, y] ∧ x ≠ y ∧ IsTm x ∧ IsTm y ∧ (IsVr x ∨ IsVr y)
theorem tm_len {z : Str} (h : IsTm z) : z.length ≤ 10 := by
  rcases h with h | h
  · exact h.2.1
  · have := h.2.1
    omega
theorem PatOk.small {p : List Str} (h : PatOk p) : p.length ≤ 1000 ∧ ∀ x ∈ p, x.length ≤ 1000 := by
  obtain ⟨w, ts, rfl, hw, h3, ht⟩ := h
  refine ⟨by rw [List.length_cons]; omega, fun x hx => ?_⟩
  rcases List.mem_cons.mp hx with rfl | hx
  · have := hw.2.1
    omega
  · have := tm_len (Or.symm (ht x hx))
    omega
theorem PairOk.small {p : List Str} (h : PairOk p) : p.length ≤ 1000 ∧ ∀ x ∈ p, x.length ≤ 1000 := by
  obtain ⟨x, y, rfl, _, h1, h2, _⟩ := h
  refine ⟨by show 2 ≤ 1000; decide, fun z hz => ?_⟩
  simp only [List.mem_cons, List.not_mem_nil, or_false] at hz
  have h3 := tm_len h1
  have h4 := tm_len h2
  rcases hz with rfl | rfl <;> omega
theorem PatOk.yes {p : List Str} (h : PatOk p) : patB (some (p.map some)) = true := by
  obtain ⟨w, ts, rfl, hw, h3, ht⟩ := h
  show (decide ((ts.map some).length ≤ 3) && (nmO (some w) && (ts.map some).all tmO)) = true
  rw [List.length_map, decide_eq_true h3, Bool.true_and, show nmO (some w) = true from decide_eq_true hw, Bool.true_and, List.all_map, List.all_eq_true]
  intro x hx
  exact decide_eq_true (Or.symm (ht x hx))
theorem PairOk.yes {p : List Str} (h : PairOk p) : prB (some (p.map some)) = true := by
  obtain ⟨x, y, rfl, hn, h1, h2, h3⟩ := h
  show (tmO (some x) && (tmO (some y) && (decide (some x ≠ some y) && (vrO (some x) || vrO (some y))))) = true
  rw [show tmO (some x) = true from decide_eq_true h1, show tmO (some y) = true from decide_eq_true h2, show decide (some x ≠ some y) = true from decide_eq_true (fun e => hn (by injection e)), Bool.true_and, Bool.true_and, Bool.true_and]
  rcases h3 with h | h
  · rw [show vrO (some x) = true from decide_eq_true h] <;> rfl
  · rw [show vrO (some y) = true from decide_eq_true h, Bool.or_true]
theorem all_yes {p : Option (List (Option Str)) → Bool} {ps : List (List Str)} (h : ∀ x ∈ ps, p (some (x.map some)) = true) : listB p (some (ps.map fun q => some (q.map some))) = true := by
  show ((ps.map fun q => some (q.map some)).all p) = true
  rw [List.all_map, List.all_eq_true]
  exact h
/-- the rule's object r (its dict dx), of these parts: th its head's tuple; l1, l2, l3 its own lists -/
abbrev ruleF (l : Str) (th l1 l2 l3 : Addr) : List (Str × V) := [("_label", .str l), ("_head", .ref th), ("_told", .ref l1), ("_pairs", .ref l2), ("_denied", .ref l3)]
/-- the class Rule, as the top leaves it -/
structure RC (K : PySem.W.Frag) (C : Addr) : Prop where
  cl : Cls K C
  n1 : NoAttr K C "_label"
  n2 : NoAttr K C "_head"
  n3 : NoAttr K C "_told"
  n4 : NoAttr K C "_pairs"
  n5 : NoAttr K C "_denied"
/-- the promises of what the classes' defs call -/
structure Ct (P : Program) (w : World) (K : PySem.W.Frag) (mg : Str → Option Value) (base : Heap) : Prop where
  nm : ∃ f fd, FnOk P w K mg base CX0 1 f fd ["value"] (spTxt K fun z => decide (IsNm z)) ∧ PySem.W.keepIn K (.ref f) = true ∧ mg "is_name" = some (.ref f) ∧ Binds K fd ["value"] []
  vr : ∃ f fd, FnOk P w K mg base CX0 1 f fd ["value"] (spTxt K fun z => decide (IsVr z)) ∧ PySem.W.keepIn K (.ref f) = true ∧ mg "is_variable" = some (.ref f) ∧ Binds K fd ["value"] []
  pt : ∃ f fd, FnOk P w K mg base CX0 3 f fd ["value"] (spTup K patB) ∧ PySem.W.keepIn K (.ref f) = true ∧ mg "is_pattern" = some (.ref f) ∧ Binds K fd ["value"] []
  ps : ∃ f fd, FnOk P w K mg base CX0 4 f fd ["value"] (spLst K patB) ∧ PySem.W.keepIn K (.ref f) = true ∧ mg "is_patterns" = some (.ref f) ∧ Binds K fd ["value"] []
  pr : ∃ f fd, FnOk P w K mg base CX0 4 f fd ["value"] (spLst K prB) ∧ PySem.W.keepIn K (.ref f) = true ∧ mg "is_pairs" = some (.ref f) ∧ Binds K fd ["value"] []
  to : ∃ f fd, FnOk P w K mg base CX0 1 f fd ["patterns"] (spTermsOf K) ∧ PySem.W.keepIn K (.ref f) = true ∧ mg "terms_of" = some (.ref f) ∧ Binds K fd ["patterns"] []
  sd : ∃ f fd, FnOk P w K mg base CX0 1 f fd ["pairs"] (spSides K) ∧ PySem.W.keepIn K (.ref f) = true ∧ mg "sides_of" = some (.ref f) ∧ Binds K fd ["pairs"] []
  hm : ∃ f fd, FnOk P w K mg base CX0 4 f fd ["terms", "told"] (spHasMore K) ∧ PySem.W.keepIn K (.ref f) = true ∧ mg "has_more" = some (.ref f) ∧ Binds K fd ["terms", "told"] []
theorem PaL.sbo {H H1 : Hp} {r C dx : Addr} {fs : List (Str × V)} {vs : List V} {ps : List (List Str)} (h : PaL H vs ps) (e : H r = some (.ins C dx fs)) (s : Sb r H H1) : PaL H1 vs ps := by
  induction h with
  | nil => exact .nil
  | cons e1 _ ih => exact .cons (s _ _ (fun z => by rw [z, e] at e1; cases e1) e1) ih
section
variable {P : Program} {w : World} {K : PySem.W.Frag} {mg : Str → Option Value} {base : Heap}
def spRuleInit (C : Addr) : Sp := fun vs H Q _ => ∃ (r dx : Addr) (l : Str) (th tt : Addr) (h : List Str) (us : List V) (ps : List (List Str)) (vp : V) (qs : List (List Str)) (vd : V) (ds : List (List Str)), vs = [.ref r, .str l, .ref th, .ref tt, vp, vd] ∧
  H r = some (.ins C dx []) ∧ IsNm l ∧ (H th = some (.tup (h.map V.str)) ∧ PatOk h) ∧ (H tt = some (.lst us) ∧ PaL H us ps ∧ (∀ x ∈ ps, PatOk x) ∧ ps.length ≤ 300) ∧ (Opt H vp qs ∧ ∀ x ∈ qs, PairOk x) ∧ (Opt H vd ds ∧ ∀ x ∈ ds, PatOk x) ∧
  (hasMore h.tail ps = false ∧ hasMore qs.flatten ps = false ∧ hasMore (tails ds) ps = false) ∧
  ∀ (l1 l2 l3 : Addr) (us2 us3 : List V) (H' : Hp), H l1 = none → H l2 = none → H l3 = none → Sb r H H' → H' r = some (.ins C dx (ruleF l th l1 l2 l3)) → H' l1 = some (.lst us) → H' l2 = some (.lst us2) → PaL H' us2 qs → H' l3 = some (.lst us3) → PaL H' us3 ds → Q .non H'
theorem scRuleInit : FnScope ["self", "label", "head", "told", "pairs", "denied"] ["self", "label", "head", "told", "pairs", "denied"] (defScope sRuleInit) := ⟨rfl, rfl, rfl, by decide +kernel, rfl, by decide +kernel, by decide +kernel⟩
theorem Opt.tru {H : Hp} {v : V} {ps : List (List Str)} (h : Opt H v ps) : TruV K v H (!ps.isEmpty) := by
  rcases h with ⟨rfl, rfl⟩ | ⟨a, us, rfl, e, hp, _⟩
  · rfl
  · refine .inl ⟨us, SqL.of e, ?_⟩
    cases hp <;> rfl
theorem Opt.same {H H1 : Hp} {v : V} {ps : List (List Str)} (h : Opt H v ps) (s : Same H H1) : Opt H1 v ps := by
  rcases h with ⟨rfl, rfl⟩ | ⟨a, us, rfl, e, hp, l⟩
  · exact .inl ⟨rfl, rfl⟩
  · exact .inr ⟨a, us, rfl, s _ _ e, hp.same s, l⟩
theorem Opt.sbo {H H1 : Hp} {r C dx : Addr} {fs : List (Str × V)} {v : V} {ps : List (List Str)} (h : Opt H v ps) (e : H r = some (.ins C dx fs)) (s : Sb r H H1) : Opt H1 v ps := by
  rcases h with ⟨rfl, rfl⟩ | ⟨a, us, rfl, e1, hp, l⟩
  · exact .inl ⟨rfl, rfl⟩
  · exact .inr ⟨a, us, rfl, s _ _ (fun z => by rw [z, e] at e1; cases e1) e1, hp.sbo e s, l⟩
theorem opt_and {v : V} {A : Prop} {Qf : Hp → Prop} {H3 : Hp} (k : ∀ G, Same H3 G → Qf G) (h2 : (∀ G, Same H3 G → Qf G) → v ≠ .non → A) : ∃ c, V.bl (!decide (v = .non)) = V.bl c ∧ if c = true then A else Qf H3 := by
  refine ⟨_, rfl, ?_⟩
  by_cases h : v = .non
  · rw [decide_eq_true h]
    exact iteF (k _ (Same.refl _))
  · rw [decide_eq_false h]
    exact iteT (h2 k h)
theorem or_list {i : Nat} {v : V} {ps : List (List Str)} {H3 : Hp} {σ : L2.St} {Z : VK} (o : Opt H3 v ps) (hi : σ[i]? = some (some v)) (k : ∀ (a : Addr) (us : List V) (G : Hp), Same H3 G → G a = some (.lst us) → PaL G us ps → Z (.ref a) G) :
    tOrT K (tVar i) (tLst tNil) σ H3 Z := by
  refine ⟨v, hi, _, o.tru, ?_⟩
  rcases o with ⟨rfl, rfl⟩ | ⟨a, us, rfl, e, hp, _⟩
  · exact iteF ⟨Nat.zero_le _, fun p np => k p [] _ (same_new np) upd_same .nil⟩
  · cases ps with
    | nil =>
      exact iteF ⟨Nat.zero_le _, fun p np => k p [] _ (same_new np) upd_same .nil⟩
    | cons p ps => exact iteT (k a us _ (Same.refl _) e hp)
theorem if_opt {i : Nat} {p : Option (List (Option Str)) → Bool} {v : V} {qs : List (List Str)} {D : Ends} {σ : L2.St} {H : Hp} (o : Opt H v qs) (hi : σ[i]? = some (some v)) (sm : ∀ x ∈ qs, x.length ≤ 1000 ∧ ∀ y ∈ x, y.length ≤ 1000) (ok : ∀ x ∈ qs, p (some (x.map some)) = true)
    (k : ∀ G, Same H G → D.nx σ G) : tIfS (tAnd (tTest (tOp (fun x y H Q => y = V.non ∧ Q (V.bl (!decide (x = V.non))) H) (tVar i) (tC V.non))) (tNot (tB (tCall (spLst K p) [] E0 (tCons (tVar i) tNil))))) tNever tNext D σ H := by
  refine ⟨v, hi, rfl, !decide (v = .non), rfl, ?_⟩
  rcases o with ⟨rfl, _⟩ | ⟨a, us, rfl, e, hp, l⟩
  · rw [decide_eq_true rfl]
    exact iteF (iteF (k H (Same.refl H)))
  · rw [decide_eq_false (fun z : V.ref a = V.non => by cases z)]
    have tq : Tps K H (.ref a) (some (qs.map fun q => some (q.map some))) := ⟨a, us, rfl, e, hp.tps sm, by rw [List.length_map]; omega⟩
    refine iteT ⟨_, hi, _, _, rfl, tq, fun G sG => ⟨_, rfl, ?_⟩⟩
    rw [all_yes ok]
    exact iteF (k G sG)
theorem if_sides {i j : Nat} {v : V} {tt : Addr} {us : List V} {ps qs : List (List Str)} {D : Ends} {σ : L2.St} {H : Hp} (o : Opt H v qs) (hi : σ[i]? = some (some v)) (hj : σ[j]? = some (some (.ref tt))) (ok : ∀ x ∈ qs, PairOk x)
    (et : H tt = some (.lst us)) (hp : PaL H us ps) (hok : ∀ x ∈ ps, PatOk x) (hpl : ps.length ≤ 300) (m : hasMore qs.flatten ps = false) (k : ∀ G, Same H G → D.nx σ G) :
    tIfS (tB (tCall (spHasMore K) [] E0 (tCons (tCall (spSides K) [] E0 (tCons (tOrT K (tVar i) (tLst tNil)) tNil)) (tCons (tVar j) tNil)))) tNever tNext D σ H := by
  have ql : qs.length ≤ 1000 := by
    rcases o with ⟨_, rfl⟩ | ⟨_, _, _, _, _, l⟩
    · exact Nat.zero_le _
    · omega
  show tOrT K (tVar i) (tLst tNil) σ H _
  refine or_list o hi fun a us2 G sG ea pa => ?_
  refine ⟨a, us2, qs, rfl, SqL.of ea, pa, fun x hx => ?_, ql, fun b G2 nb s2 eb => ?_⟩
  · obtain ⟨x1, x2, rfl, _⟩ := ok x hx
    rfl
  · have s3 := sG.trans s2
    refine ⟨_, hj, b, tt, qs.flatten, us, ps, rfl, ⟨.inl (SqL.of eb), fun x hx => ?_, ?_⟩, ⟨SqL.of (s3 _ _ et), hp.same s3, hok, by omega⟩, fun G4 s4 => ⟨_, rfl, ?_⟩⟩
    · obtain ⟨y, hy, hx⟩ := List.mem_flatten.mp hx
      exact (ok y hy).small.2 x hx
    · rw [flat_len fun x hx => by obtain ⟨x1, x2, rfl, _⟩ := ok x hx; rfl]
      omega
    · rw [m]
      exact iteF (k G4 (s3.trans s4))
theorem if_terms {i j : Nat} {v : V} {tt : Addr} {us : List V} {ps qs : List (List Str)} {D : Ends} {σ : L2.St} {H : Hp} (o : Opt H v qs) (hi : σ[i]? = some (some v)) (hj : σ[j]? = some (some (.ref tt))) (ok : ∀ x ∈ qs, PatOk x)
    (et : H tt = some (.lst us)) (hp : PaL H us ps) (hok : ∀ x ∈ ps, PatOk x) (hpl : ps.length ≤ 300) (m : hasMore (tails qs) ps = false) (k : ∀ G, Same H G → D.nx σ G) :
    tIfS (tB (tCall (spHasMore K) [] E0 (tCons (tCall (spTermsOf K) [] E0 (tCons (tOrT K (tVar i) (tLst tNil)) tNil)) (tCons (tVar j) tNil)))) tNever tNext D σ H := by
  have ql : qs.length ≤ 1000 := by
    rcases o with ⟨_, rfl⟩ | ⟨_, _, _, _, _, l⟩
    · exact Nat.zero_le _
    · omega
  show tOrT K (tVar i) (tLst tNil) σ H _
  refine or_list o hi fun a us2 G sG ea pa => ?_
  refine ⟨a, us2, qs, rfl, SqL.of ea, pa, ok, ql, fun b G2 nb s2 eb => ?_⟩
  have s3 := sG.trans s2
  refine ⟨_, hj, b, tt, tails qs, us, ps, rfl, ⟨.inl (SqL.of eb), fun x hx => ?_, ?_⟩, ⟨SqL.of (s3 _ _ et), hp.same s3, hok, by omega⟩, fun G4 s4 => ⟨_, rfl, ?_⟩⟩
  · have := (tails_short ok x hx).2
    omega
  · have := tails_le ok ql
    omega
  · rw [m]
    exact iteF (k G4 (s3.trans s4))
theorem putF_new {f : Str} {v : V} : ∀ {fs : List (Str × V)} {ns : List Str}, fs.map (·.1) = ns → f ∉ ns → putF f v fs = fs ++ [(f, v)]
  | [], _, _, _ => rfl
  | (g, x) :: fs, _, rfl, h => by
    unfold putF
    rw [if_neg (fun e => h (by rw [e]; exact List.mem_cons_self)), putF_new (fs := fs) rfl (fun e => h (List.mem_cons_of_mem _ e))] <;> rfl
abbrev Flds := List (Str × V)
theorem putF2 {l : Str} {th : Addr} : putF "_head" (V.ref th) ([("_label", V.str l)] : Flds) = ([("_label", V.str l), ("_head", V.ref th)] : Flds) := putF_new (ns := ["_label"]) rfl (by decide +kernel)
theorem putF3 {l : Str} {th l1 : Addr} : putF "_told" (V.ref l1) ([("_label", V.str l), ("_head", V.ref th)] : Flds) = ([("_label", V.str l), ("_head", V.ref th), ("_told", V.ref l1)] : Flds) := putF_new (ns := ["_label", "_head"]) rfl (by decide +kernel)
theorem putF4 {l : Str} {th l1 l2 : Addr} : putF "_pairs" (V.ref l2) ([("_label", V.str l), ("_head", V.ref th), ("_told", V.ref l1)] : Flds) = ([("_label", V.str l), ("_head", V.ref th), ("_told", V.ref l1), ("_pairs", V.ref l2)] : Flds) := putF_new (ns := ["_label", "_head", "_told"]) rfl (by decide +kernel)
theorem putF5 {l : Str} {th l1 l2 l3 : Addr} : putF "_denied" (V.ref l3) ([("_label", V.str l), ("_head", V.ref th), ("_told", V.ref l1), ("_pairs", V.ref l2)] : Flds) = ruleF l th l1 l2 l3 := putF_new (ns := ["_label", "_head", "_told", "_pairs"]) rfl (by decide +kernel)
theorem fld_list {i : Nat} {v : V} {qs : List (List Str)} {D : Ends} {σ : L2.St} {H : Hp} {r C dx : Addr} {fs : List (Str × V)} {f : Str} (o : Opt H v qs) (hi : σ[i]? = some (some v)) (h0 : σ[0]? = some (some (.ref r))) (er : H r = some (.ins C dx fs)) (cl : Cls K C) (na : NoAttr K C f) (hf : fs.length < 1000)
    (k : ∀ (l2 : Addr) (us2 : List V) (G : Hp), H l2 = none → Sb r H G → G r = some (.ins C dx (putF f (.ref l2) fs)) → G l2 = some (.lst us2) → PaL G us2 qs → D.nx σ G) :
    sFld K (tVar 0) (tCB (fun xs H Q => ∃ p ys, xs = [V.ref p] ∧ (SqL K H p ys ∨ SqT K H p ys) ∧ ∀ l, H l = none → Q (.ref l) (upd H l (.lst ys))) (tCons (tOrT K (tVar i) (tLst tNil)) tNil)) f D σ H := by
  show tOrT K (tVar i) (tLst tNil) σ H _
  refine or_list o hi fun a us G sG ea pa => ?_
  refine ⟨a, us, rfl, .inl (SqL.of ea), fun l2 n2 => ⟨_, h0, r, C, dx, fs, rfl, ?_, cl, na, hf, ?_⟩⟩
  · exact same_new n2 _ _ (sG _ _ er)
  · have nr : l2 ≠ r := fun z => by
      rw [z, sG _ _ er] at n2
      cases n2
    have e2 : upd G l2 (.lst us) r = some (.ins C dx fs) := same_new n2 _ _ (sG _ _ er)
    have s2 : Sb r H (upd (upd G l2 (.lst us)) r (.ins C dx (putF f (.ref l2) fs))) := (Sb.of (same_put sG (sG.free n2))).trans Sb.upd
    refine k l2 us _ (sG.free n2) s2 upd_same ?_ ?_
    · rw [upd_ne nr, upd_same]
    · exact (pa.same (same_new n2)).sbo e2 Sb.upd
theorem ok_ruleInit {f C : Addr} {fd : FuncData} (F : FunD K "__init__" "Rule.__init__" (defArgs sRuleInit) (defBody sRuleInit) (defScope sRuleInit) [.non, .non] [] f fd) (B : Bp mg) (R : RC K C) (T : Ct P w K mg base) :
    FnOk P w K mg base CX0 5 f fd ["self", "label", "head", "told", "pairs", "denied"] (spRuleInit C) := by
  obtain ⟨fN, dN, GN, kN, gN, bN⟩ := T.nm
  obtain ⟨fP, dP, GP, kP, gP, bP⟩ := T.pt
  obtain ⟨fS, dS, GS, kS, gS, bS⟩ := T.ps
  obtain ⟨fR, dR, GR, kR, gR, bR⟩ := T.pr
  obtain ⟨fT, dT, GT, kT, gT, bT⟩ := T.to
  obtain ⟨fD, dD, GD, kD, gD, bD⟩ := T.sd
  obtain ⟨fM, dM, GM, kM, gM, bM⟩ := T.hm
  refine F.ok scRuleInit (fun vs H Q E h => ?_) (fun cdv A outer s H vs Q E hr h => ?_)
  · obtain ⟨r, dx, l, th, tt, h, us, ps, vp, qs, vd, ds, rfl, _⟩ := h
    rfl
  · obtain ⟨r, dx, l, th, tt, h, us, ps, vp, qs, vd, ds, rfl, er, hl, ⟨eh, hh⟩, ⟨et, hp, hok, hpl⟩, ⟨oq, hq⟩, ⟨od, hd⟩, ⟨m1, m2, m3⟩, q⟩ := h
    have hr1 : Room 1 _ := hr.mono (by decide)
    have hr3 : Room 3 _ := hr.mono (by decide)
    refine ⟨_, pss_cons (ps_if (pt_not (pt_val (by exact (pe_call GN hr1 (by rfl) gN kN bN .nil pass0 (pa_cons (pv 1) pa_nil))))) (pss_one ps_never) pss_nil)
      (pss_cons (ps_if (pt_not (pt_val (by exact (pe_call GP hr3 (by rfl) gP kP bP .nil pass0 (pa_cons (pv 2) pa_nil))))) (pss_one ps_never) pss_nil)
      (pss_cons (ps_if (pt_not (pt_val (by exact (pe_call GS hr (by rfl) gS kS bS .nil pass0 (pa_cons (pv 3) pa_nil))))) (pss_one ps_never) pss_nil)
      (pss_cons (ps_if (PW.pt (pw_and (pt_cmpR op_notN (pv 4) pe_non (nomark _)) (pw_and1 (pt_not (pt_val (by exact (pe_call GR hr (by rfl) gR kR bR .nil pass0 (pa_cons (pv 4) pa_nil)))))))) (pss_one ps_never) pss_nil)
      (pss_cons (ps_if (PW.pt (pw_and (pt_cmpR op_notN (pv 5) pe_non (nomark _)) (pw_and1 (pt_not (pt_val (by exact (pe_call GS hr (by rfl) gS kS bS .nil pass0 (pa_cons (pv 5) pa_nil)))))))) (pss_one ps_never) pss_nil)
      (pss_cons (ps_if (pt_val (by exact (pe_call GM hr (by rfl) gM kM bM .nil pass0 (pa_cons (pe_slice sl_tup (pv 2) (po_some pe_int) po_none) (pa_cons (pv 3) pa_nil))))) (pss_one ps_never) pss_nil)
      (pss_cons (ps_if (pt_val (by exact (pe_call GM hr (by rfl) gM kM bM .nil pass0 (pa_cons (by exact (pe_call GD hr1 (by rfl) gD kD bD .nil pass0 (pa_cons (pe_orT (pv 4) (pe_one (pe_lst pa_nil))) pa_nil))) (pa_cons (pv 3) pa_nil))))) (pss_one ps_never) pss_nil)
      (pss_cons (ps_if (pt_val (by exact (pe_call GM hr (by rfl) gM kM bM .nil pass0 (pa_cons (by exact (pe_call GT hr1 (by rfl) gT kT bT .nil pass0 (pa_cons (pe_orT (pv 5) (pe_one (pe_lst pa_nil))) pa_nil))) (pa_cons (pv 3) pa_nil))))) (pss_one ps_never) pss_nil)
      (pss_cons (ps_fld (pv 0) (pv 1) rfl)
      (pss_cons (ps_fld (pv 0) (pv 2) rfl)
      (pss_cons (ps_fld (pv 0) (pe_callTy call_list_of (by rfl) B.lst PyProof.Rows.boot_list (pa_cons (pv 3) pa_nil)) rfl)
      (pss_cons (ps_fld (pv 0) (pe_callTy call_list_of (by rfl) B.lst PyProof.Rows.boot_list (pa_cons (pe_orT (pv 4) (pe_one (pe_lst pa_nil))) pa_nil)) rfl)
      (pss_one (ps_fld (pv 0) (pe_callTy call_list_of (by rfl) B.lst PyProof.Rows.boot_list (pa_cons (pe_orT (pv 5) (pe_one (pe_lst pa_nil))) pa_nil)) rfl))))))))))))), ?_⟩
    refine ⟨_, rfl, ?_⟩
    dsimp only [tNil]
    refine spTxt.yes (by have := hl.2.1; omega) fun H1 s1 => ⟨_, rfl, ?_⟩
    show if (!decide (IsNm l)) = true then _ else _
    rw [decide_eq_true hl]
    refine iteF ?_
    refine ⟨_, rfl, _, some (h.map some), rfl, tp_strs (s1 _ _ eh) hh.small.2 hh.small.1, fun H2 s2 => ⟨_, rfl, ?_⟩⟩
    rw [hh.yes]
    refine iteF ?_
    have s12 := s1.trans s2
    have tps : ∀ G, Same H G → Tps K G (.ref tt) (some (ps.map fun q => some (q.map some))) := fun G sG => ⟨tt, us, rfl, sG _ _ et, (hp.same sG).tps fun p hpp => (hok p hpp).small, by rw [List.length_map]; omega⟩
    refine ⟨_, rfl, _, _, rfl, tps _ s12, fun H3 s3 => ⟨_, rfl, ?_⟩⟩
    rw [all_yes fun x hx => (hok x hx).yes]
    refine iteF ?_
    have s13 := s12.trans s3
    show tSeq _ _ _ _ _
    refine if_opt (v := vp) (o := oq.same s13) rfl (fun x hx => (hq x hx).small) (fun x hx => (hq x hx).yes) fun G4 s4 => ?_
    replace s13 := s13.trans s4
    show tSeq _ _ _ _ _
    refine if_opt (v := vd) (o := od.same s13) rfl (fun x hx => (hd x hx).small) (fun x hx => (hd x hx).yes) fun G5 s5 => ?_
    replace s13 := s13.trans s5
    clear s4 s5 tps
    obtain ⟨wd, tms, rfl, hw, h3, hts⟩ := hh
    have small : ∀ x, IsVr x ∨ IsNm x → x.length ≤ 1000 := fun x hx => by
      have := tm_len (Or.symm hx)
      omega
    -- head[1:]
    refine ⟨_, rfl, 1, rfl, th, _, rfl, SqT.of (s13 _ _ eh), ?_, fun t6 nt6 => ?_⟩
    · rintro ⟨h, _⟩
      have := HT.sIx_nat ((wd :: tms).map V.str).length 0 1
      rw [show ((1 : Nat) : Int) = 1 by rfl] at this
      rw [this, List.length_map, List.length_cons] at h
      omega
    rw [cut1]
    have s6 : Same H (upd G5 t6 (.tup (tms.map V.str))) := same_put s13 (s13.free nt6)
    refine ⟨_, rfl, t6, tt, tms, us, ps, rfl, ⟨.inr (SqT.of upd_same), fun x hx => small x (hts x hx), by omega⟩, ⟨SqL.of (s6 _ _ et), hp.same s6, hok, by omega⟩, fun G7 s7 => ⟨_, rfl, ?_⟩⟩
    rw [show hasMore tms ps = false from m1]
    refine iteF ?_
    replace s13 := s6.trans s7
    clear s6 s7
    show tSeq _ _ _ _ _
    refine if_sides (K := K) (v := vp) (o := oq.same s13) rfl rfl (fun x hx => hq x hx) (s13 _ _ et) (hp.same s13) hok hpl m2 fun G8 s8 => ?_
    replace s13 := s13.trans s8
    show tSeq _ _ _ _ _
    refine if_terms (K := K) (v := vd) (o := od.same s13) rfl rfl hd (s13 _ _ et) (hp.same s13) hok hpl m3 fun G9 s9 => ?_
    replace s13 := s13.trans s9
    clear s8 s9
    -- the fields
    refine ⟨_, rfl, _, rfl, r, C, dx, [], rfl, s13 _ _ er, R.cl, R.n1, (by show 0 < 1000; decide), ?_⟩
    have f1 : Sb r H (upd G9 r (.ins C dx (putF "_label" (V.str l) []))) := (Sb.of s13).trans Sb.upd
    have e1 : upd G9 r (.ins C dx (putF "_label" (V.str l) [])) r = some (.ins C dx [("_label", .str l)]) := upd_same
    generalize upd G9 r (.ins C dx (putF "_label" (V.str l) [])) = G at f1 e1 ⊢
    refine ⟨_, rfl, _, rfl, r, C, dx, _, rfl, e1, R.cl, R.n2, (by show 1 < 1000; decide), ?_⟩
    rw [putF2]
    have f2 : Sb r H (upd G r (.ins C dx [("_label", .str l), ("_head", .ref th)])) := f1.trans Sb.upd
    have e2 : upd G r (.ins C dx [("_label", .str l), ("_head", .ref th)]) r = some (.ins C dx [("_label", .str l), ("_head", .ref th)]) := upd_same
    generalize upd G r (.ins C dx [("_label", .str l), ("_head", .ref th)]) = G at f2 e2 ⊢
    have tne : tt ≠ r := fun z => by
      rw [z, er] at et
      cases et
    refine ⟨_, rfl, tt, us, rfl, .inl (SqL.of (f2 _ _ tne et)), fun l1 n1 => ⟨_, rfl, r, C, dx, _, rfl, same_new n1 _ _ e2, R.cl, R.n3, (by show 2 < 1000; decide), ?_⟩⟩
    rw [putF3]
    have l1r : l1 ≠ r := fun z => by
      rw [z, e2] at n1
      cases n1
    have n1H : H l1 = none := by
      cases g : H l1 with
      | none => rfl
      | some o =>
        rw [f2 _ _ l1r g] at n1
        cases n1
    have f3 : Sb r H (upd (upd G l1 (.lst us)) r (.ins C dx [("_label", .str l), ("_head", .ref th), ("_told", .ref l1)])) := (f2.put n1H).trans Sb.upd
    have e3 : upd (upd G l1 (.lst us)) r (.ins C dx [("_label", .str l), ("_head", .ref th), ("_told", .ref l1)]) r = some (.ins C dx [("_label", .str l), ("_head", .ref th), ("_told", .ref l1)]) := upd_same
    have el1 : upd (upd G l1 (.lst us)) r (.ins C dx [("_label", .str l), ("_head", .ref th), ("_told", .ref l1)]) l1 = some (.lst us) := by rw [upd_ne l1r, upd_same]
    generalize upd (upd G l1 (.lst us)) r (.ins C dx [("_label", .str l), ("_head", .ref th), ("_told", .ref l1)]) = G3 at f3 e3 el1 ⊢
    refine fld_list (K := K) (v := vp) (oq.sbo er f3) rfl rfl e3 R.cl R.n4 (by show 3 < 1000; decide) fun l2 us2 G4 n2 s4 e4 el2 p2 => ?_
    rw [putF4] at e4
    have f4 := f3.trans s4
    have l2r : l2 ≠ r := fun z => by
      rw [z, e3] at n2
      cases n2
    have el1' := s4 _ _ l1r el1
    have n2H : H l2 = none := by
      cases g : H l2 with
      | none => rfl
      | some o =>
        rw [f3 _ _ l2r g] at n2
        cases n2
    refine fld_list (K := K) (v := vd) (od.sbo er f4) rfl rfl e4 R.cl R.n5 (by show 4 < 1000; decide) fun l3 us3 G5 n3 s5 e5 el3 p3 => ?_
    rw [putF5] at e5
    have l3r : l3 ≠ r := fun z => by
      rw [z, e4] at n3
      cases n3
    have n3H : H l3 = none := by
      cases g : H l3 with
      | none => rfl
      | some o =>
        rw [f4 _ _ l3r g] at n3
        cases n3
    exact q l1 l2 l3 us2 us3 G5 n1H n2H n3H (f4.trans s5) e5 (s5 _ _ l1r el1') (s5 _ _ l2r el2) (p2.sbo e4 s5) el3 p3
end
end Nv
set_option maxHeartbeats 4000000
namespace Nv
open PySem PySem.Spec PyProof.Rows L2
/-- what a rule is made of -/
structure Rl where
  l : Str
  h : List Str
  ps : List (List Str)
  qs : List (List Str)
  ds : List (List Str)
  deriving DecidableEq
structure Rl.Ok (x : Rl) : Prop where
  l : IsNm x.l
  h : PatOk x.h
  ps : ∀ y ∈ x.ps, PatOk y
  pl : x.ps.length ≤ 300
  qs : ∀ y ∈ x.qs, PairOk y
  ql : x.qs.length ≤ 300
  ds : ∀ y ∈ x.ds, PatOk y
  dl : x.ds.length ≤ 300
/-- the rule x stands at r -/
def RA (C : Addr) (H : Hp) (r : Addr) (x : Rl) : Prop := ∃ (dx th l1 l2 l3 : Addr) (us us2 us3 : List V), H r = some (.ins C dx (ruleF x.l th l1 l2 l3)) ∧ H th = some (.tup (x.h.map V.str)) ∧ (H l1 = some (.lst us) ∧ PaL H us x.ps) ∧ (H l2 = some (.lst us2) ∧ PaL H us2 x.qs) ∧ H l3 = some (.lst us3) ∧ PaL H us3 x.ds
theorem RA.same {C : Addr} {H H1 : Hp} {r : Addr} {x : Rl} (h : RA C H r x) (s : Same H H1) : RA C H1 r x := by
  obtain ⟨dx, th, l1, l2, l3, us, us2, us3, e, e1, ⟨e2, p2⟩, ⟨e3, p3⟩, e4, p4⟩ := h
  exact ⟨dx, th, l1, l2, l3, us, us2, us3, s _ _ e, s _ _ e1, ⟨s _ _ e2, p2.same s⟩, ⟨s _ _ e3, p3.same s⟩, s _ _ e4, p4.same s⟩
theorem PairOk.asc {p : List Str} (h : PairOk p) : ∀ x ∈ p, Asc x := by
  obtain ⟨x, y, rfl, _, h1, h2, _⟩ := h
  intro z hz
  simp only [List.mem_cons, List.not_mem_nil, or_false] at hz
  have : ∀ z, IsTm z → Asc z := fun z h => by
    rcases h with h | h
    · exact h.asc
    · exact h.asc
  rcases hz with rfl | rfl
  · exact this _ h1
  · exact this _ h2
/-- what isinstance asks of an own class -/
structure IC (K : PySem.W.Frag) (C : Addr) : Prop where
  ha : PySem.W.findIn K (.ref C) "__class__" = some (some (.builtin "object.__class__"))
  hn : PySem.W.specialIn K (.builtin "object.__class__") "__get__" = some (some (.builtin "getset_descriptor.__get__"))
  ht : PySem.W.takesIn K (.builtin "object.__class__") = some true
  hm : PySem.W.mroIn K C (.type "object") = some true
  me : PySem.W.kitOne K (.ref C) (.ref C) = some true
section
variable {P : Program} {w : World} {K : PySem.W.Frag} {mg : Str → Option Value} {base : Heap}
/-- a list that an object keeps, told anew -/
def spGetL (C : Addr) (f : Str) : Sp := fun vs H Q _ => ∃ (r dx l : Addr) (fs : List (Str × V)) (us : List V), vs = [.ref r] ∧ H r = some (.ins C dx fs) ∧ fs.lookup f = some (.ref l) ∧ H l = some (.lst us) ∧ ∀ p, H p = none → Q (.ref p) (upd H p (.lst us))
theorem ok_getL {name qual f : Str} {st : Stmt} {fa C : Addr} {fd : FuncData} {p1 p2 p3 p4 p5 : Pos} (F : Fun K name qual st fa fd) (S : FnScope ["self"] ["self"] (defScope st)) (hb : defBody st = [.Return (some (.Call (.Name "list" p1) [.Attribute (.Name "self" p2) f p3] [] p4)) p5])
    (hl : ∀ X : Cx, X.env.scope = defScope st → Gl X "list") (cl : Cls K C) (na : NoAttr K C f) (B : Bp mg) : FnOk P w K mg base CX0 1 fa fd ["self"] (spGetL C f) := by
  refine F.ok S (fun vs H Q E h => ?_) (fun cdv A outer s H vs Q E hr h => ?_)
  · obtain ⟨r, dx, l, fs, us, rfl, _⟩ := h
    rfl
  · obtain ⟨r, dx, l, fs, us, rfl, er, ef, el, q⟩ := h
    rw [hb]
    refine ⟨_, pss_one (ps_ret (pe_callTy call_list_of (hl _ rfl) B.lst PyProof.Rows.boot_list (pa_cons (pe_fld (pe_var (i := 0) rfl ((S.par "self" (List.Mem.head _)).elim (fun z => .inl z) (fun z => .inr (.inl z)))) rfl) pa_nil))), ?_⟩
    exact ⟨_, rfl, r, C, dx, fs, _, rfl, er, cl, na, ef, l, us, rfl, .inl (SqL.of el), fun p np => q p np⟩
/-- Rule.__eq__ -/
abbrev sRuleEq : Stmt := inClass cRule 1
def spRuleEq (K : PySem.W.Frag) (C : Addr) : Sp := fun vs H Q _ => ∃ (a : Addr) (x : Rl) (v : V), vs = [.ref a, v] ∧ RA C H a x ∧ x.Ok ∧
  ((∃ (b : Addr) (y : Rl), v = .ref b ∧ RA C H b y ∧ y.Ok ∧ Q (.bl (decide (x = y))) H) ∨ (∃ t : Value, TyX K H v t ∧ PySem.W.kitOne K t (.ref C) = some false ∧ Q (.bl false) H))
theorem scRuleEq : FnScope ["self", "other"] ["self", "other"] (defScope sRuleEq) := ⟨rfl, rfl, rfl, by decide +kernel, rfl, by decide +kernel, by decide +kernel⟩
theorem lk_no {k g : Str} {v : V} {r : List (Str × V)} (h : (k == g) = false) : List.lookup k ((g, v) :: r) = List.lookup k r := by
  rw [List.lookup_cons, h]
theorem lk_yes {k : Str} {v : V} {r : List (Str × V)} : List.lookup k ((k, v) :: r) = some v := by
  rw [List.lookup_cons, beq_self_eq_true]
theorem lk1 {l : Str} {th l1 l2 l3 : Addr} : (ruleF l th l1 l2 l3).lookup ("_label" : Str) = some (V.str l) := lk_yes
theorem lk2 {l : Str} {th l1 l2 l3 : Addr} : (ruleF l th l1 l2 l3).lookup ("_head" : Str) = some (V.ref th) := (lk_no (by decide +kernel)).trans lk_yes
theorem lk3 {l : Str} {th l1 l2 l3 : Addr} : (ruleF l th l1 l2 l3).lookup ("_told" : Str) = some (V.ref l1) := (lk_no (by decide +kernel)).trans ((lk_no (by decide +kernel)).trans lk_yes)
theorem lk4 {l : Str} {th l1 l2 l3 : Addr} : (ruleF l th l1 l2 l3).lookup ("_pairs" : Str) = some (V.ref l2) := (lk_no (by decide +kernel)).trans ((lk_no (by decide +kernel)).trans ((lk_no (by decide +kernel)).trans lk_yes))
theorem lk5 {l : Str} {th l1 l2 l3 : Addr} : (ruleF l th l1 l2 l3).lookup ("_denied" : Str) = some (V.ref l3) := (lk_no (by decide +kernel)).trans ((lk_no (by decide +kernel)).trans ((lk_no (by decide +kernel)).trans ((lk_no (by decide +kernel)).trans lk_yes)))
theorem ok_ruleEq {f C : Addr} {fd : FuncData} (F : Fun K "__eq__" "Rule.__eq__" sRuleEq f fd) (B : Bp mg) (R : RC K C) (I : IC K C) (gC : mg "Rule" = some (.ref C)) : FnOk P w K mg base CX0 1 f fd ["self", "other"] (spRuleEq K C) := by
  refine F.ok scRuleEq (fun vs H Q E h => ?_) (fun cdv A outer s H vs Q E hr h => ?_)
  · obtain ⟨a, x, v, rfl, _⟩ := h
    rfl
  · obtain ⟨a, x, v, rfl, ra, xo, h⟩ := h
    refine ⟨_, pss_cons (ps_if (pt_not (pt_val (pe_callB call_isi (by rfl) B.isi bootIsi (pa_cons (pv 1) (pa_cons (pe_glob (v := V.ref C) (by rfl) gC rfl) pa_nil))))) (pss_one (ps_ret pe_bl)) pss_nil)
      (pss_cons (ps_if (PW.pt (pw_or (pt_cmpR op_ne (pe_fld (pv 0) rfl) (pe_fld (pv 1) rfl) (nomark _)) (pw_or (pt_cmpR (op_neD hr.units) (pe_fld (pv 0) rfl) (pe_fld (pv 1) rfl) (nomark _)) (pw_or1 (pt_cmpR (op_neD hr.units) (pe_fld (pv 0) rfl) (pe_fld (pv 1) rfl) (nomark _)))))) (pss_one (ps_ret pe_bl)) pss_nil)
      (pss_one (ps_ret (pe_and (pe_cmpR (op_eqD hr.units) (pe_fld (pv 0) rfl) (pe_fld (pv 1) rfl) (nomark _)) (pe_one (pe_cmpR (op_eqD hr.units) (pe_fld (pv 0) rfl) (pe_fld (pv 1) rfl) (nomark _))))))), ?_⟩
    rcases h with ⟨b, y, rfl, rb, yo, q⟩ | ⟨t, ht, hk, q⟩
    · obtain ⟨dx, th, l1, l2, l3, us, us2, us3, e, e1, ⟨e2, p2⟩, ⟨e3, p3⟩, e4, p4⟩ := ra
      obtain ⟨dx', th', m1, m2, m3, ws, ws2, ws3, g, g1, ⟨g2, r2⟩, ⟨g3, r3⟩, g4, r4⟩ := rb
      refine ⟨_, rfl, _, _, _, _, true, rfl, .own _, .base (.ins g R.cl I.ha I.hn I.ht I.hm), I.me, true, rfl, iteF ?_⟩
      refine ⟨_, rfl, a, C, dx, _, _, rfl, e, R.cl, R.n1, lk1, _, rfl, b, C, dx', _, _, rfl, g, R.cl, R.n1, lk1, rfl, _, rfl, ?_⟩
      obtain ⟨xl, xh, xp, xq, xd⟩ := x
      obtain ⟨yl, yh, yp, yq, yd⟩ := y
      have no : (⟨xl, xh, xp, xq, xd⟩ : Rl) ≠ ⟨yl, yh, yp, yq, yd⟩ → Q (.bl false) H := fun z => by
        rw [decide_eq_false z] at q
        exact q
      by_cases z1 : xl = yl
      · rw [decide_eq_true (by rw [z1] : V.str xl = V.str yl)]
        refine iteF ?_
        refine ⟨_, rfl, a, C, dx, _, _, rfl, e, R.cl, R.n2, lk2, _, rfl, b, C, dx', _, _, rfl, g, R.cl, R.n2, lk2, dT xh, dT yh, dp_T e1, dp_T g1, (lay_dT xo.h.asc).shaped (by decide), (lay_dT yo.h.asc).shaped (by decide), _, rfl, ?_⟩
        rw [eqv_T]
        by_cases z2 : xh = yh
        · rw [decide_eq_true z2]
          refine iteF ?_
          refine ⟨_, rfl, a, C, dx, _, _, rfl, e, R.cl, R.n3, lk3, _, rfl, b, C, dx', _, _, rfl, g, R.cl, R.n3, lk3, dL xp, dL yp, dp_L (SqL.of e2) p2, dp_L (SqL.of g2) r2, (lay_dL fun p hp => (xo.ps p hp).asc).shaped (by decide), (lay_dL fun p hp => (yo.ps p hp).asc).shaped (by decide), _, rfl, ?_⟩
          rw [eqv_L]
          by_cases z3 : xp = yp
          · rw [decide_eq_true z3]
            refine iteF ?_
            refine ⟨_, rfl, a, C, dx, _, _, rfl, e, R.cl, R.n4, lk4, _, rfl, b, C, dx', _, _, rfl, g, R.cl, R.n4, lk4, dL xq, dL yq, dp_L (SqL.of e3) p3, dp_L (SqL.of g3) r3, (lay_dL fun p hp => (xo.qs p hp).asc).shaped (by decide), (lay_dL fun p hp => (yo.qs p hp).asc).shaped (by decide), ?_⟩
            rw [eqv_L]
            refine ⟨_, rfl, ?_⟩
            by_cases z4 : xq = yq
            · rw [decide_eq_true z4]
              refine iteT ?_
              refine ⟨_, rfl, a, C, dx, _, _, rfl, e, R.cl, R.n5, lk5, _, rfl, b, C, dx', _, _, rfl, g, R.cl, R.n5, lk5, dL xd, dL yd, dp_L (SqL.of e4) p4, dp_L (SqL.of g4) r4, (lay_dL fun p hp => (xo.ds p hp).asc).shaped (by decide), (lay_dL fun p hp => (yo.ds p hp).asc).shaped (by decide), ?_⟩
              rw [eqv_L]
              have e5 : decide ((⟨xl, xh, xp, xq, xd⟩ : Rl) = ⟨yl, yh, yp, yq, yd⟩) = decide (xd = yd) := decide_eq_decide.mpr ⟨fun w => by injection w, fun w => by rw [z1, z2, z3, z4, w]⟩
              rw [e5] at q
              exact q
            · rw [decide_eq_false z4]
              exact iteF (no fun w => z4 (by injection w))
          · rw [decide_eq_false z3]
            exact iteT (no fun w => z3 (by injection w))
        · rw [decide_eq_false z2]
          exact iteT (iteT (no fun w => z2 (by injection w)))
      · rw [decide_eq_false (fun w => z1 (by injection w) : ¬ V.str xl = V.str yl)]
        exact iteT (iteT (no fun w => z1 (by injection w)))
    · refine ⟨_, rfl, _, _, _, _, false, rfl, .own _, ht, hk, false, rfl, iteT ?_⟩
      exact q
end
end Nv
set_option maxHeartbeats 4000000
namespace Nv
open PySem PySem.Spec PyProof.Rows L2
abbrev sBookInit : Stmt := inClass cBook 0
abbrev sBookEq : Stmt := inClass cBook 1
abbrev sBookLen : Stmt := inClass cBook 2
abbrev sBookAdd : Stmt := inClass cBook 3
abbrev sBookRules : Stmt := inClass cBook 4
abbrev sBookLabels : Stmt := inClass cBook 5
abbrev sBookRule : Stmt := inClass cBook 6
abbrev sBookWithout : Stmt := inClass cBook 7
abbrev sBookPlain : Stmt := inClass cBook 8
theorem RA.sbo {C C2 : Addr} {H H1 : Hp} {a r dx : Addr} {x : Rl} (h : RA C H a x) (e : H r = some (.ins C2 dx [])) (s : Sb r H H1) : RA C H1 a x := by
  obtain ⟨dx, th, l1, l2, l3, us, us2, us3, e0, e1, ⟨e2, p2⟩, ⟨e3, p3⟩, e4, p4⟩ := h
  refine ⟨dx, th, l1, l2, l3, us, us2, us3, s _ _ (fun z => ?_) e0, s _ _ (fun z => ?_) e1, ⟨s _ _ (fun z => ?_) e2, p2.sbo e s⟩, ⟨s _ _ (fun z => ?_) e3, p3.sbo e s⟩, s _ _ (fun z => ?_) e4, p4.sbo e s⟩
  · rw [z, e] at e0
    injection e0 with e0
    injection e0 with _ _ e0
    cases e0
  · rw [z, e] at e1
    cases e1
  · rw [z, e] at e2
    cases e2
  · rw [z, e] at e3
    cases e3
  · rw [z, e] at e4
    cases e4
section
variable {P : Program} {w : World} {K : PySem.W.Frag} {mg : Str → Option Value} {base : Heap}
theorem ok_get {name qual f : Str} {st : Stmt} {fa C : Addr} {fd : FuncData} {p2 p3 p5 : Pos} (F : Fun K name qual st fa fd) (S : FnScope ["self"] ["self"] (defScope st)) (hb : defBody st = [.Return (some (.Attribute (.Name "self" p2) f p3)) p5])
    (cl : Cls K C) (na : NoAttr K C f) : FnOk P w K mg base CX0 1 fa fd ["self"] (getSp C f) := by
  refine F.ok S (fun vs H Q E h => ?_) (fun cdv A outer s H vs Q E hr h => ?_)
  · obtain ⟨a, dx, fs, v, rfl, _⟩ := h
    rfl
  · obtain ⟨a, dx, fs, v, rfl, ea, l, q⟩ := h
    rw [hb]
    refine ⟨_, pss_one (ps_ret (pe_fld (pe_var (i := 0) rfl ((S.par "self" (List.Mem.head _)).elim (fun z => .inl z) (fun z => .inr (.inl z)))) rfl)), ?_⟩
    exact ⟨.ref a, rfl, a, C, dx, fs, v, rfl, ea, cl, na, l, q⟩
/-- the property Rule.label -/
structure PL (P : Program) (w : World) (K : PySem.W.Frag) (mg : Str → Option Value) (base : Heap) (C : Addr) (x f : Str) : Prop where
  ex : ∃ p g fd, PropOf K C x p g ∧ FnOk P w K mg base CX0 1 g fd ["self"] (getSp C f) ∧ Binds K fd ["self"] []
/-- rules, as a list of the heap -/
def RAs (C : Addr) (H : Hp) (rs : List Addr) (xs : List Rl) : Prop := All2 (fun r x => RA C H r x) rs xs
theorem RAs.same {C : Addr} {H H1 : Hp} {rs : List Addr} {xs : List Rl} (h : RAs C H rs xs) (s : Same H H1) : RAs C H1 rs xs := h.imp fun _ _ z => z.same s
theorem at_ref {rs : List Addr} {i : Nat} {x : V} (hx : (rs.map V.ref)[i]? = some x) : ∃ r, rs[i]? = some r ∧ x = V.ref r := by
  rw [List.getElem?_map] at hx
  cases g : rs[i]? with
  | none =>
    rw [g] at hx
    cases hx
  | some z =>
    rw [g] at hx
    exact ⟨z, rfl, (Option.some.inj hx).symm⟩
theorem spHasDouble.no {H : Hp} {a : Addr} {zs : List Str} {Q : VK} {E : XK} (e : SqL K H a (zs.map V.str)) (hl : zs.length ≤ 4000) (nd : zs.Nodup) (q : Q (.bl false) H) : spHasDouble K [.ref a] H Q E := ⟨a, zs, rfl, e, hl, by rw [decide_eq_true nd]; exact q⟩
def spBookInit (CR C : Addr) : Sp := fun vs H Q _ => ∃ (r dx a : Addr) (rs : List Addr) (xs : List Rl), vs = [.ref r, .ref a] ∧ H r = some (.ins C dx []) ∧ H a = some (.lst (rs.map V.ref)) ∧ RAs CR H rs xs ∧ (xs.map Rl.l).Nodup ∧ xs.length ≤ 100 ∧
  ∀ (l1 : Addr) (H' : Hp), H l1 = none → Sb r H H' → H' r = some (.ins C dx [("_rules", .ref l1)]) → H' l1 = some (.lst (rs.map V.ref)) → Q .non H'
theorem scBookInit : FnScope ["self", "rules", "part"] ["self", "rules"] (defScope sBookInit) := ⟨rfl, rfl, rfl, by decide +kernel, rfl, by decide +kernel, by decide +kernel⟩
theorem ok_bookInit {f C CR fH : Addr} {fd dH : FuncData} (F : Fun K "__init__" "Book.__init__" sBookInit f fd) (B : Bp mg) (cl : Cls K C) (na : NoAttr K C "_rules") (R : RC K CR) (I : IC K CR) (gR : mg "Rule" = some (.ref CR)) (L : PL P w K mg base CR "label" "_label")
    (GH : FnOk P w K mg base CX0 1 fH dH ["labels"] (spHasDouble K)) (kH : PySem.W.keepIn K (.ref fH) = true) (gH : mg "_has_double" = some (.ref fH)) (bH : Binds K dH ["labels"] []) :
    FnOk P w K mg base CX0 3 f fd ["self", "rules"] (spBookInit CR C) := by
  obtain ⟨pp, pg, pd, PO, PF, PB⟩ := L.ex
  refine F.ok scBookInit (fun vs H Q E h => ?_) (fun cdv A outer s H vs Q E hr h => ?_)
  · obtain ⟨r, dx, a, rs, xs, rfl, _⟩ := h
    rfl
  · obtain ⟨r, dx, a, rs, xs, rfl, er, ea, hx, nd, hl, q⟩ := h
    have hr1 : Room 1 _ := hr.mono (by decide)
    have hxl := hx.len
    refine ⟨_, pss_cons (ps_if (PW.pt (pw_or (pt_not (pt_val (pe_callB call_isi (by rfl) B.isi bootIsi (pa_cons (pv 1) (pa_cons (pe_bltn (v := V.ty "list") (by rfl) B.lst PyProof.Rows.boot_list rfl) pa_nil)))))
        (pw_or1 (pt_not (pt_val (pe_callB (cr_all rfl) (by rfl) B.all bootAll (pa_cons (by exact (pe_lc (own := [("part", 2)]) (g := gName 2) (tt := tYes) (te := tCB (rIsi K) (tCons (tVar 2) (tCons (tC (.ref CR)) tNil))) rfl scBookInit.nd (pi_list (pv 1))
          (blkOk_by (own := [("part", 2)]) (N := ["self", "rules", "part"]) (sc := defScope sBookInit) (by decide +kernel))
          (fun _ _ _ _ _ => pg_name (i := 2) scBookInit.nd rfl (Or.inl rfl)) (fun _ _ _ _ _ => pts_nil)
          (fun _ _ _ _ _ => by exact (pe_callB call_isi (by rfl) B.isi bootIsi (pa_cons (pv 2) (pa_cons (pe_glob (v := V.ref CR) (by rfl) gR rfl) pa_nil)))))) pa_nil))))))) (pss_one ps_never) pss_nil)
      (pss_cons (ps_if (pt_val (by exact (pe_call GH hr1 (by rfl) gH kH bH .nil pass0 (pa_cons (by exact (pe_lc (own := [("part", 2)]) (g := gName 2) (tt := tYes) (te := tProp CR (getSp CR "_label") [] E0 (tVar 2)) rfl scBookInit.nd (pi_list (pv 1))
          (blkOk_by (own := [("part", 2)]) (N := ["self", "rules", "part"]) (sc := defScope sBookInit) (by decide +kernel))
          (fun _ _ _ _ _ => pg_name (i := 2) scBookInit.nd rfl (Or.inl rfl)) (fun _ _ _ _ _ => pts_nil)
          (fun _ _ _ _ _ => by exact (pe_prop (pv 2) R.cl PO PF hr PB .nil pass0 rfl)))) pa_nil)))) (pss_one ps_never) pss_nil)
      (pss_one (ps_fld (pv 0) (pe_callTy call_list_of (by rfl) B.lst PyProof.Rows.boot_list (pa_cons (pv 1) pa_nil)) rfl))), ?_⟩
    refine ⟨_, rfl, _, _, _, _, true, rfl, .ty _, tyx_lst ea, kit_ty (by decide +kernel), true, rfl, iteF ?_⟩
    refine ⟨_, rfl, a, rfl, ⟨_, SqL.of ea⟩, fun D nD => ?_⟩
    refine lc_list (K := K) (a := a) (xs := rs.map V.ref) (fun i H' => Same H H' ∧ H' D = some (.lst ((rs.take i).map fun _ => V.bl true))) ⟨same_new nD, upd_same⟩ (fun i H' _ y => SqL.of (y.1 _ _ ea)) ?_ ?_
    · rintro i v H1 hi ⟨s1, e1⟩
      obtain ⟨ri, hri, rfl⟩ := at_ref hi
      obtain ⟨x, hxi, ra⟩ := hx.at_ hri
      obtain ⟨dx2, th, l1, l2, l3, us, us2, us3, g, _⟩ := ra.same s1
      refine ⟨rfl, _, rfl, _, _, _, _, true, rfl, .own _, .base (.ins g R.cl I.ha I.hn I.ht I.hm), I.me, ?_⟩
      refine ⟨_, e1, ?_, same_put s1 nD, ?_⟩
      · rw [List.length_map, List.length_take]
        exact Nat.lt_of_le_of_lt (by omega : _ ≤ 100) (by decide)
      · rw [upd_same, take_one hri, List.map_append] <;> rfl
    · rintro H1 ⟨s1, e1⟩
      rw [List.length_map, List.take_length] at e1
      refine ⟨D, rs.map fun _ => true, rfl, SqL.of (by rw [e1, List.map_map] <;> rfl), _, rfl, ?_⟩
      have eall : (rs.map fun _ => true).all id = true := by simp
      rw [eall]
      refine iteF ?_
      refine ⟨_, rfl, a, rfl, ⟨_, SqL.of (s1 _ _ ea)⟩, fun D2 nD2 => ?_⟩
      refine lc_list (K := K) (a := a) (xs := rs.map V.ref) (fun i H' => Same H H' ∧ H' D2 = some (.lst (((xs.map Rl.l).take i).map V.str))) ⟨same_put s1 (s1.free nD2), upd_same⟩ (fun i H' _ y => SqL.of (y.1 _ _ ea)) ?_ ?_
      · rintro i v H2 hi ⟨s2, e2⟩
        obtain ⟨ri, hri, rfl⟩ := at_ref hi
        obtain ⟨x, hxi, ra⟩ := hx.at_ hri
        obtain ⟨dx2, th, l1, l2, l3, us, us2, us3, g, _⟩ := ra.same s2
        have hz : (xs.map Rl.l)[i]? = some x.l := by rw [List.getElem?_map, hxi] <;> rfl
        refine ⟨rfl, _, rfl, ri, dx2, _, rfl, g, ri, dx2, _, _, rfl, g, lk1, ?_⟩
        refine ⟨_, e2, ?_, same_put s2 (s1.free nD2), ?_⟩
        · rw [List.length_map, List.length_take, List.length_map]
          exact Nat.lt_of_le_of_lt (by omega : _ ≤ 100) (by decide)
        · rw [upd_same, take_one hz, List.map_append] <;> rfl
      · rintro H2 ⟨s2, e2⟩
        have hfull : (xs.map Rl.l).take (rs.map V.ref).length = xs.map Rl.l := List.take_of_length_le (by rw [List.length_map, List.length_map]; omega)
        rw [hfull] at e2
        refine ⟨D2, xs.map Rl.l, rfl, SqL.of e2, by rw [List.length_map]; omega, _, rfl, ?_⟩
        rw [decide_eq_true nd]
        refine iteF ?_
        refine ⟨_, rfl, a, _, rfl, .inl (SqL.of (s2 _ _ ea)), fun l1 n1 => ⟨_, rfl, r, C, dx, [], rfl, same_new n1 _ _ (s2 _ _ er), cl, na, (by show 0 < 1000; decide), ?_⟩⟩
        have n1r : l1 ≠ r := fun z => by
          rw [z, s2 _ _ er] at n1
          cases n1
        exact q l1 _ (s2.free n1) ((Sb.of (same_put s2 (s2.free n1))).trans Sb.upd) upd_same (by rw [upd_ne n1r, upd_same])
end
end Nv
set_option maxHeartbeats 4000000
namespace Nv
open PySem PySem.Spec PyProof.Rows L2
/-- the book of the rules rs stands at b -/
def BA (C : Addr) (H : Hp) (b : Addr) (rs : List Addr) : Prop := ∃ dx l : Addr, H b = some (.ins C dx [("_rules", .ref l)]) ∧ H l = some (.lst (rs.map V.ref))
theorem BA.same {C : Addr} {H H1 : Hp} {b : Addr} {rs : List Addr} (h : BA C H b rs) (s : Same H H1) : BA C H1 b rs := by
  obtain ⟨dx, l, e1, e2⟩ := h
  exact ⟨dx, l, s _ _ e1, s _ _ e2⟩
theorem lkR {l : Addr} : List.lookup ("_rules" : Str) ([("_rules", V.ref l)] : Flds) = some (V.ref l) := lk_yes
section
variable {P : Program} {w : World} {K : PySem.W.Frag} {mg : Str → Option Value} {base : Heap}
/-- Book.labels() -/
def spBookLabels (CR C : Addr) : Sp := fun vs H Q _ => ∃ (b : Addr) (rs : List Addr) (xs : List Rl), vs = [.ref b] ∧ BA C H b rs ∧ RAs CR H rs xs ∧ xs.length ≤ 1000 ∧ ∀ (p : Addr) (H' : Hp), H p = none → Same H H' → H' p = some (.lst ((xs.map Rl.l).map V.str)) → Q (.ref p) H'
theorem scBookLabels : FnScope ["self", "part"] ["self"] (defScope sBookLabels) := ⟨rfl, rfl, rfl, by decide +kernel, rfl, by decide +kernel, by decide +kernel⟩
theorem ok_bookLabels {f C CR : Addr} {fd : FuncData} (F : Fun K "labels" "Book.labels" sBookLabels f fd) (cl : Cls K C) (na : NoAttr K C "_rules") (R : RC K CR) (L : PL P w K mg base CR "label" "_label") : FnOk P w K mg base CX0 3 f fd ["self"] (spBookLabels CR C) := by
  obtain ⟨pp, pg, pd, PO, PF, PB⟩ := L.ex
  refine F.ok scBookLabels (fun vs H Q E h => ?_) (fun cdv A outer s H vs Q E hr h => ?_)
  · obtain ⟨b, rs, xs, rfl, _⟩ := h
    rfl
  · obtain ⟨b, rs, xs, rfl, ⟨dx, l, eb, el⟩, hx, hl, q⟩ := h
    have hxl := hx.len
    refine ⟨_, pss_one (ps_ret (by exact (pe_lc (own := [("part", 1)]) (g := gName 1) (tt := tYes) (te := tProp CR (getSp CR "_label") [] E0 (tVar 1)) rfl scBookLabels.nd (pi_list (pe_fld (pv 0) rfl))
      (blkOk_by (own := [("part", 1)]) (N := ["self", "part"]) (sc := defScope sBookLabels) (by decide +kernel))
      (fun _ _ _ _ _ => pg_name (i := 1) scBookLabels.nd rfl (Or.inl rfl)) (fun _ _ _ _ _ => pts_nil)
      (fun _ _ _ _ _ => by exact (pe_prop (pv 1) R.cl PO PF hr PB .nil pass0 rfl))))), ?_⟩
    refine ⟨_, rfl, b, C, dx, _, _, rfl, eb, cl, na, lkR, l, rfl, ⟨_, SqL.of el⟩, fun D nD => ?_⟩
    refine lc_list (K := K) (a := l) (xs := rs.map V.ref) (fun i H' => Same H H' ∧ H' D = some (.lst (((xs.map Rl.l).take i).map V.str))) ⟨same_new nD, upd_same⟩ (fun i H' _ y => SqL.of (y.1 _ _ el)) ?_ ?_
    · rintro i v H2 hi ⟨s2, e2⟩
      obtain ⟨ri, hri, rfl⟩ := at_ref hi
      obtain ⟨x, hxi, ra⟩ := hx.at_ hri
      obtain ⟨dx2, th, l1, l2, l3, us, us2, us3, g, _⟩ := ra.same s2
      have hz : (xs.map Rl.l)[i]? = some x.l := by rw [List.getElem?_map, hxi] <;> rfl
      refine ⟨rfl, _, rfl, ri, dx2, _, rfl, g, ri, dx2, _, _, rfl, g, lk1, ?_⟩
      refine ⟨_, e2, ?_, same_put s2 nD, ?_⟩
      · rw [List.length_map, List.length_take, List.length_map]
        exact Nat.lt_of_le_of_lt (by omega : _ ≤ 1000) (by decide)
      · rw [upd_same, take_one hz, List.map_append] <;> rfl
    · rintro H2 ⟨s2, e2⟩
      have hfull : (xs.map Rl.l).take (rs.map V.ref).length = xs.map Rl.l := List.take_of_length_le (by rw [List.length_map, List.length_map]; omega)
      rw [hfull] at e2
      exact q D H2 nD s2 e2
/-- Book.rule(label), a label that is there -/
def spBookRule (CR C : Addr) : Sp := fun vs H Q _ => ∃ (b : Addr) (z : Str) (rs : List Addr) (xs : List Rl) (j : Nat) (r : Addr), vs = [.ref b, .str z] ∧ BA C H b rs ∧ RAs CR H rs xs ∧ xs.length ≤ 1000 ∧ (xs.map Rl.l).Nodup ∧ (xs.map Rl.l)[j]? = some z ∧ rs[j]? = some r ∧ ∀ H', Same H H' → Q (.ref r) H'
theorem scBookRule : FnScope ["self", "label"] ["self", "label"] (defScope sBookRule) := ⟨rfl, rfl, rfl, by decide +kernel, rfl, by decide +kernel, by decide +kernel⟩
theorem ok_bookRule {f C CR fL fP : Addr} {fd dL dP : FuncData} (F : Fun K "rule" "Book.rule" sBookRule f fd) (cl : Cls K C) (na : NoAttr K C "_rules")
    (GL : FnOk P w K mg base CX0 3 fL dL ["self"] (spBookLabels CR C)) (mL : Meth K C "labels" fL) (bL : Binds K dL ["self"] [])
    (GP : FnOk P w K mg base CX0 1 fP dP ["label", "labels"] (spPlace K)) (kP : PySem.W.keepIn K (.ref fP) = true) (gP : mg "_place" = some (.ref fP)) (bP : Binds K dP ["label", "labels"] []) : FnOk P w K mg base CX0 4 f fd ["self", "label"] (spBookRule CR C) := by
  refine F.ok scBookRule (fun vs H Q E h => ?_) (fun cdv A outer s H vs Q E hr h => ?_)
  · obtain ⟨b, z, rs, xs, j, r, rfl, _⟩ := h
    rfl
  · obtain ⟨b, z, rs, xs, j, r, rfl, ba, hx, hl, nd, hj, hrj, q⟩ := h
    obtain ⟨dx, l, eb, el⟩ := id ba
    have hr1 : Room 1 _ := hr.mono (by decide)
    refine ⟨_, pss_one (ps_ret (pe_ix ix_list (pe_fld (pv 0) rfl) (by exact (pe_call GP hr1 (by rfl) gP kP bP .nil pass0 (pa_cons (pv 1) (pa_cons (by exact (pe_meth0 (pv 0) cl mL GL hr bL .nil pass0)) pa_nil)))) (fun _ _ => rfl))), ?_⟩
    refine ⟨_, rfl, b, C, dx, _, _, rfl, eb, cl, na, lkR, _, rfl, _, rfl, b, dx, _, rfl, eb, (lk_no (by decide +kernel)), b, rs, xs, rfl, ba, hx, hl, fun p H1 np s1 e1 => ?_⟩
    refine ⟨z, p, xs.map Rl.l, j, rfl, SqL.of e1, hj, nd, ?_⟩
    refine ⟨l, _, _, .ref r, rfl, rfl, SqL.of (s1 _ _ el), atI_nat (by rw [List.getElem?_map, hrj] <;> rfl), q H1 s1⟩
end
end Nv
set_option maxHeartbeats 4000000
namespace Nv
open PySem PySem.Spec PyProof.Rows L2
section
variable {P : Program} {w : World} {K : PySem.W.Frag} {mg : Str → Option Value} {base : Heap}
theorem All2.split {α β : Type} {R : α → β → Prop} {xs : List α} {ys : List β} (h : All2 R xs ys) : ∀ j, All2 R (xs.take j) (ys.take j) ∧ All2 R (xs.drop j) (ys.drop j) := by
  induction h with
  | nil =>
    intro j
    rw [List.take_nil, List.drop_nil, List.take_nil, List.drop_nil]
    exact ⟨All2.nil, All2.nil⟩
  | cons a _ ih =>
    intro j
    cases j with
    | zero => exact ⟨.nil, .cons a (by simpa using (ih 0).2)⟩
    | succ j => exact ⟨.cons a (ih j).1, (ih j).2⟩
theorem All2.app {α β : Type} {R : α → β → Prop} {xs xs' : List α} {ys ys' : List β} (h : All2 R xs ys) (h' : All2 R xs' ys') : All2 R (xs ++ xs') (ys ++ ys') := by
  induction h with
  | nil => exact h'
  | cons a _ ih => exact .cons a ih
def less {α : Type} (xs : List α) (j : Nat) : List α := xs.take j ++ xs.drop (j + 1)
theorem less_sub {α : Type} (xs : List α) (j : Nat) : (less xs j).Sublist xs := by
  have h : (xs.take j ++ xs.drop (j + 1)).Sublist (xs.take j ++ xs.drop j) := by
    refine List.Sublist.append (List.Sublist.refl _) ?_
    rw [← List.drop_drop]
    exact List.drop_sublist _ _
  rw [List.take_append_drop] at h
  exact h
theorem less_map {α β : Type} (f : α → β) (xs : List α) (j : Nat) : (less xs j).map f = less (xs.map f) j := by
  unfold less
  rw [List.map_append, List.map_take, List.map_drop]
/-- a new instance: what stood stands -/
theorem made_same {H H1 H2 : Hp} {x dx C : Addr} (s : Same H H1) (nx : H1 x = none) (nd : H1 dx = none) (sb : Sb x (upd (upd H1 dx (.own x)) x (.ins C dx [])) H2) : Same H H2 := by
  intro b o e
  have e1 := s b o e
  have n1 : b ≠ x := ne_of_none e1 nx
  refine sb b o n1 ?_
  rw [upd_ne n1, upd_ne (ne_of_none e1 nd)]
  exact e1
/-- Book.without(label), a label that is there -/
def spBookWithout (CR C : Addr) : Sp := fun vs H Q _ => ∃ (b : Addr) (z : Str) (rs : List Addr) (xs : List Rl) (j : Nat), vs = [.ref b, .str z] ∧ BA C H b rs ∧ RAs CR H rs xs ∧ xs.length ≤ 100 ∧ (xs.map Rl.l).Nodup ∧ (xs.map Rl.l)[j]? = some z ∧
  ∀ (b2 : Addr) (H' : Hp), H b2 = none → BA C H' b2 (less rs j) → Same H H' → Q (.ref b2) H'
theorem scBookWithout : FnScope ["self", "label", "place"] ["self", "label"] (defScope sBookWithout) := ⟨rfl, rfl, rfl, by decide +kernel, rfl, by decide +kernel, by decide +kernel⟩
theorem ok_bookWithout {f C CR fL fP fI : Addr} {fd dL dP dI : FuncData} (F : Fun K "without" "Book.without" sBookWithout f fd) (cl : Cls K C) (na : NoAttr K C "_rules")
    (GL : FnOk P w K mg base CX0 3 fL dL ["self"] (spBookLabels CR C)) (mL : Meth K C "labels" fL) (bL : Binds K dL ["self"] [])
    (GP : FnOk P w K mg base CX0 1 fP dP ["label", "labels"] (spPlace K)) (kP : PySem.W.keepIn K (.ref fP) = true) (gP : mg "_place" = some (.ref fP)) (bP : Binds K dP ["label", "labels"] [])
    (GI : FnOk P w K mg base CX0 3 fI dI ["self", "rules"] (spBookInit CR C)) (MI : Mk K C fI) (gB : mg "Book" = some (.ref C)) (bI : Binds K dI ["self", "rules"] []) : FnOk P w K mg base CX0 5 f fd ["self", "label"] (spBookWithout CR C) := by
  refine F.ok scBookWithout (fun vs H Q E h => ?_) (fun cdv A outer s H vs Q E hr h => ?_)
  · obtain ⟨b, z, rs, xs, j, rfl, _⟩ := h
    rfl
  · obtain ⟨b, z, rs, xs, j, rfl, ba, hx, hl, nd, hj, q⟩ := h
    obtain ⟨dx, l, eb, el⟩ := id ba
    have hr1 : Room 1 _ := hr.mono (by decide)
    have hr3 : Room 3 _ := hr.mono (by decide)
    have hxl := hx.len
    have hjl : j < rs.length := by
      have := (List.getElem?_eq_some_iff.mp hj).1
      rw [List.length_map] at this
      omega
    refine ⟨_, pss_cons (ps_set (i := 2) scBookWithout.nd rfl (Or.inl rfl) (by exact (pe_call GP hr1 (by rfl) gP kP bP .nil pass0 (pa_cons (pv 1) (pa_cons (by exact (pe_meth0 (pv 0) cl mL GL hr3 bL .nil pass0)) pa_nil)))))
      (pss_one (ps_ret (by exact (pe_make MI GI hr (by rfl) gB bI .nil pass0 (pa_cons (pe_op op_cat (pe_slice sl_list (pe_fld (pv 0) rfl) po_none (po_some (pv 2))) (pe_slice sl_list (pe_fld (pv 0) rfl) (po_some (pe_op op_add (pv 2) pe_int)) po_none)) pa_nil))))), ?_⟩
    refine ⟨_, rfl, _, rfl, b, dx, _, rfl, eb, (lk_no (by decide +kernel)), b, rs, xs, rfl, ba, hx, by omega, fun p H1 np s1 e1 => ?_⟩
    refine ⟨z, p, xs.map Rl.l, j, rfl, SqL.of e1, hj, nd, ?_⟩
    have hc1 : cutV (rs.map V.ref) none (some (j : Int)) = (rs.take j).map V.ref := by
      unfold cutV
      rw [HT.sIx_none, HT.sIx_nat, List.drop_zero, Nat.sub_zero, List.length_map, Nat.min_eq_left (by omega), List.map_take]
    have hc2 : cutV (rs.map V.ref) (some ((j : Int) + 1)) none = (rs.drop (j + 1)).map V.ref := by
      unfold cutV
      have e : ((j : Int) + 1) = ((j + 1 : Nat) : Int) := by omega
      rw [e, HT.sIx_none, HT.sIx_nat, List.length_map, Nat.min_eq_left (by omega), List.map_drop, List.take_of_length_le (by rw [List.length_drop, List.length_map]; exact Nat.le_refl _)]
    refine ⟨_, rfl, b, C, dx, _, _, rfl, s1 _ _ eb, cl, na, lkR, _, rfl, _, rfl, l, _, rfl, SqL.of (s1 _ _ el), fun q1 n1 => ?_⟩
    rw [hc1]
    have s2 : Same H (upd H1 q1 (.lst ((rs.take j).map V.ref))) := same_put s1 (s1.free n1)
    have g1 : upd H1 q1 (.lst ((rs.take j).map V.ref)) q1 = some (.lst ((rs.take j).map V.ref)) := upd_same
    generalize upd H1 q1 (.lst ((rs.take j).map V.ref)) = G2 at s2 g1 ⊢
    refine ⟨_, rfl, b, C, dx, _, _, rfl, s2 _ _ eb, cl, na, lkR, _, rfl, _, _, rfl, rfl, _, rfl, l, _, rfl, SqL.of (s2 _ _ el), fun q2 n2 => ?_⟩
    rw [hc2]
    have s3 : Same H (upd G2 q2 (.lst ((rs.drop (j + 1)).map V.ref))) := same_put s2 (s2.free n2)
    have g2 : upd G2 q2 (.lst ((rs.drop (j + 1)).map V.ref)) q1 = some (.lst ((rs.take j).map V.ref)) := same_new n2 _ _ g1
    have g3 : upd G2 q2 (.lst ((rs.drop (j + 1)).map V.ref)) q2 = some (.lst ((rs.drop (j + 1)).map V.ref)) := upd_same
    generalize upd G2 q2 (.lst ((rs.drop (j + 1)).map V.ref)) = G3 at s3 g2 g3 ⊢
    refine ⟨_, _, _, _, rfl, rfl, g2, g3, ?_, fun q3 n3 => ?_⟩
    · rw [List.length_map, List.length_map, List.length_take, List.length_drop]
      exact Nat.le_trans (by omega : _ ≤ 1000) (by decide)
    · have hls : (rs.take j).map V.ref ++ (rs.drop (j + 1)).map V.ref = (less rs j).map V.ref := by
        unfold less
        rw [List.map_append]
      rw [hls]
      have s4 : Same H (upd G3 q3 (.lst ((less rs j).map V.ref))) := same_put s3 (s3.free n3)
      have g4 : upd G3 q3 (.lst ((less rs j).map V.ref)) q3 = some (.lst ((less rs j).map V.ref)) := upd_same
      generalize upd G3 q3 (.lst ((less rs j).map V.ref)) = G4 at s4 g4 ⊢
      intro x dx2 nx ndx ne
      have s5 : Same G4 (upd (upd G4 dx2 (.own x)) x (.ins C dx2 [])) := fun b o e => by
        rw [upd_ne (ne_of_none e nx), upd_ne (ne_of_none e ndx)]
        exact e
      refine ⟨x, dx2, q3, less rs j, less xs j, rfl, upd_same, s5 _ _ g4, ?_, ?_, ?_, fun l1 H5 n1 sb e5 e6 => ⟨rfl, ?_⟩⟩
      · have h1 := hx.split j
        have h2 := hx.split (j + 1)
        exact RAs.same (RAs.same (h1.1.app h2.2) s4) s5
      · rw [less_map]
        exact List.Nodup.sublist (less_sub _ _) nd
      · have := (less_sub xs j).length_le
        omega
      · exact q x H5 (s4.free nx) ⟨dx2, l1, e5, e6⟩ (made_same s4 nx ndx sb)

end
end Nv
set_option maxHeartbeats 4000000
namespace Nv
open PySem PySem.Spec PyProof.Rows L2
section
variable {X : Cx} {C f : Addr} {k : Nat} {fd : FuncData} {ps : List Str} {sp : Sp}
/-- a def of the text, called at values from below the running body -/
theorem call_own {A : Around} {pins : List (Addr × Obj)} {σ : L2.St} {H : Hp} {s : Shared} {vs : List V} {us : List Value} {Q : VK} {E2 : Value → Shared → Prop} (F : FnOk X.prog X.w X.K X.mg X.base CX0 k f fd ps sp) (hr : Room k A) (fr : A.frames = X.A.frames) (hb : Binds X.K fd ps [])
    (I : Inv X pins σ H s) (r : Vals vs us) (h : sp vs H Q E0) : wpAny (model X.prog X.w) A (call (.ref f) us) (EP X pins σ Q) E2 s := by
  have e0 : Env0 X.prog X.w X.K X.mg X.base A X.stack s H := by
    have e := I.env0
    exact ⟨by rw [fr]; exact e.frames, e.mod, e.bs, e.bsz, e.funs, e.frf, e.hok, e.bare⟩
  have hl : us.length = ps.length := by rw [← F.len _ _ _ _ h, r.length]
  refine wpAny_call (codeAny_mono (F.run A X.stack s H ⟨us, []⟩ us vs Q E0 hr e0 (by simpa using hb s us I.kIn (by simpa using hl)) r h) fun q s1 hq => ?_)
  rcases q with e | fl
  · exact hq.elim
  cases fl with
  | ret w => exact I.after hq
  | _ => exact hq.elim
/-- x == y by the own __eq__ of x's class -/
def rOwnEq (K : PySem.W.Frag) (C : Addr) (sp : Sp) : R2 := fun x y H Q => ∃ (a dx : Addr) (fs : List (Str × V)) (t : Value), x = .ref a ∧ H a = some (.ins C dx fs) ∧ TyX K H y t ∧ PySem.W.notFirst K C t = true ∧ sp [x, y] H (fun v H' => ∃ b, v = .bl b ∧ Q (.bl b) H') E0
theorem op_ownEq (F : FnOk X.prog X.w X.K X.mg X.base CX0 k f fd ps sp) (hr : Room k X.A) (hs : PySem.W.findIn X.K (.ref C) "__eq__" = some (some (.ref f))) (hf : PySem.W.isFn X.K (.ref f) = true) (hb : Binds X.K fd ps []) : OpR X (compareOp .Eq) (rOwnEq X.K C sp) := by
  intro pins s σ H x y v u Q I rx ry hq
  obtain ⟨a, dx, fs, t, rfl, ha, ht, hn, hsp⟩ := hq
  obtain ⟨P, Z, p, _⟩ := kit_of I ry ht
  have ty := Z.ty (model X.prog X.w) s.heap I.kIn p
  cases rx
  obtain ⟨mA, J, _⟩ := ins_get I.hok ha
  obtain ⟨od, J, _⟩ := J.look
  obtain ⟨m, hF⟩ := I.fr
  show wpAny (model X.prog X.w) X.A (richCompare .Eq (.ref a) u) (EP X pins σ Q) X.xe s
  refine PySem.W.cmp_K (op := .Eq) (tb := t) hr.units0 hF I.ok.mod.kin J ty hn hs hf ?_
  refine wpAny_mono (call_own (X := X) F hr rfl hb I (vs := [.ref a, y]) (.cons rfl (.cons ry .nil)) hsp) (fun w s1 h => ?_) fun _ _ e => e
  obtain ⟨z, H1, I1, rz, b, rfl, q⟩ := h
  cases rz
  exact ⟨.bl b, H1, I1, rfl, q⟩
/-- len(x) by an own __len__ -/
def rOwnLen (C : Addr) (sp : Sp) : List V → Hp → VK → Prop := fun xs H Q => ∃ (a dx : Addr) (fs : List (Str × V)), xs = [.ref a] ∧ H a = some (.ins C dx fs) ∧ sp [.ref a] H (fun v H' => ∃ n : Int, v = .int n ∧ (0 ≤ n ∧ n < 2 ^ 63) ∧ Q (.int n) H') E0
theorem call_ownLen (F : FnOk X.prog X.w X.K X.mg X.base CX0 k f fd ps sp) (hr : Room k X.A.in1) (hs : PySem.W.findIn X.K (.ref C) "__len__" = some (some (.ref f))) (hf : PySem.W.isFn X.K (.ref f) = true) (hb : Binds X.K fd ps []) : CallR X (.builtin "len") (rOwnLen C sp) := by
  intro pins s σ H xs us Q I r hq
  obtain ⟨a, dx, fs, rfl, ha, hsp⟩ := hq
  obtain ⟨u, rfl, rx⟩ := vals1 r
  cases rx
  obtain ⟨mA, J, _⟩ := ins_get I.hok ha
  obtain ⟨od, J, _⟩ := J.look
  obtain ⟨m, hF⟩ := I.fr
  refine PySem.W.len_K hF I.ok.mod.kin J hs hf ?_
  refine wpAny_mono (call_own (X := X) F hr rfl hb I (vs := [.ref a]) (.cons rfl .nil) hsp) (fun w s1 h => ?_) fun _ _ e => e
  obtain ⟨z, H1, I1, rz, n, rfl, hn, q⟩ := h
  obtain ⟨t, rfl⟩ := rz
  exact ⟨hn, .int n, H1, I1.tok _, ⟨_, rfl⟩, q⟩
/-- x + y by an own __add__, both of one class -/
def rOwnAdd (C : Addr) (sp : Sp) : R2 := fun x y H Q => ∃ (a b dx dy : Addr) (fs gs : List (Str × V)), x = .ref a ∧ y = .ref b ∧ H a = some (.ins C dx fs) ∧ H b = some (.ins C dy gs) ∧ sp [x, y] H (fun v H' => ∃ c, v = .ref c ∧ Q (.ref c) H') E0
theorem op_ownAdd (F : FnOk X.prog X.w X.K X.mg X.base CX0 k f fd ps sp) (hr : Room k X.A) (hc : PySem.W.selfFirst X.K C = true) (hs : PySem.W.findIn X.K (.ref C) "__add__" = some (some (.ref f))) (hf : PySem.W.isFn X.K (.ref f) = true) (hb : Binds X.K fd ps []) : OpR X (binaryOp .Add) (rOwnAdd C sp) := by
  intro pins s σ H x y v u Q I rx ry hq
  obtain ⟨a, b, dx, dy, fs, gs, rfl, rfl, ha, hb2, hsp⟩ := hq
  cases rx
  cases ry
  obtain ⟨mA, J, _⟩ := ins_get I.hok ha
  obtain ⟨od, J, _⟩ := J.look
  obtain ⟨mB, J2, _⟩ := ins_get I.hok hb2
  obtain ⟨od2, J2, _⟩ := J2.look
  obtain ⟨m, hF⟩ := I.fr
  refine PySem.W.binop_K (op := .Add) hF I.ok.mod.kin J J2.type hc hs hf ?_
  refine wpAny_mono (call_own (X := X) F hr rfl hb I (vs := [.ref a, .ref b]) (.cons rfl (.cons rfl .nil)) hsp) (fun w s1 h => ?_) fun _ _ e => e
  obtain ⟨z, H1, I1, rz, c, rfl, q⟩ := h
  cases rz
  exact ⟨.ref c, H1, I1, rfl, q⟩
end
end Nv
set_option maxHeartbeats 4000000
namespace Nv
open PySem PySem.Spec PyProof.Rows L2 PySem.W
section
variable {prog : Program} {w : World} {A : Around} {E : Value → Shared → Prop} {s : Shared} {K : PySem.W.Frag} {x C f : Addr} {ox : Obj} {od : Option Obj} {b tb : Value}
/-- the body of the built-in != of an instance with an own ==, at another around -/
theorem ne_body {Q : Fin → Shared → Prop} (X : K.In s.heap) (I : InstAt s.heap x ox C od) (he : findIn K (.ref C) "__eq__" = some (some (.ref f))) (hf : isFn K (.ref f) = true) (hu : A.units < cLine)
    (h : wpAny (model prog w) A (call (.ref f) [.ref x, b]) (fun v s' => ∃ c, v = .bool c ∧ Q (.done (.ret (.bool (!c)))) s') E s) : wpAny (model prog w) A (Builtin.«object.__ne__» ⟨[.ref x, b], []⟩) Q E s := by
  have eq : wpAny (model prog w) A (callSpecialIfBound? (.ref x) "__eq__" [b]) (fun r s' => ∃ c, r = some (.bool c) ∧ Q (.done (.ret (.bool (!c)))) s') E s :=
    ifBound_K X I he hf (wpAny_mono h (fun v s' ⟨c, e, q⟩ => ⟨c, by rw [e], q⟩) fun _ _ e => e)
  unfold Builtin.«object.__ne__»
  repeat (first
    | with_reducible refine wpAny_cRoomFor hu ?_
    | (refine wpAny_bind (m := callSpecialIfBound? (.ref x) (Str.ofString "__eq__") [b]) (wpAny_mono eq (fun r s' hr => by
        obtain ⟨c, rfl, hq⟩ := hr
        repeat (first | exact hq | exact wpAny_pure hq | exact wpAny_truthy_bool hq | (refine wpAny_bind (m := truthy (.bool _)) (wpAny_truthy_bool ?_)) | wp_step)) fun _ _ e => e))
    | wp_step)
theorem ifBound_ne {args : List Value} {Q : Option Value → Shared → Prop} (X : K.In s.heap) (I : InstAt s.heap x ox C od) (hs : findIn K (.ref C) "__ne__" = some (some (.builtin "object.__ne__")))
    (h : wpAny (model prog w) A (call (.builtin "object.__ne__") (.ref x :: args)) (fun v => Q (some v)) E s) : wpAny (model prog w) A (callSpecialIfBound? (.ref x) "__ne__" args) Q E s := by
  simp only [callSpecialIfBound?, bindSpecialIfBound?]
  refine wpAny_holding (wpAny_bind (wpAny_bind (wpAny_bind (I.type.here ((looks_findIn X hs).here (wpAny_bind (wpAny_askSetting (wpAny_ite ?_))))))))
  have fin2 : wpAny (model prog w) A (call (.builtin "object.__ne__") ([.ref x] ++ args) >>= fun v => pure (some v)) Q E s := wpAny_bind (wpAny_mono h (fun v s' q => wpAny_pure q) fun _ _ q => q)
  split
  · exact wpAny_bind (wpAny_of_eq (F.cmp_object.ne.bind _) (wpAny_pure (by exact fin2)))
  · exact wpAny_tryCatch (wpAny_bind (wpAny_of_eq (F.cmp_object.ne.bind _) (wpAny_pure (by exact fin2))))
theorem rich_ne {Q : Value → Shared → Prop} (hu : A.units + 1 < cLine) (X : K.In s.heap) (I : InstAt s.heap x ox C od) (hm : mroIn K C (.type "object") = some true) (hb : Looks (model prog w) s.heap (typeOf b) tb) (hn : notFirst K C tb = true)
    (hne : findIn K (.ref C) "__ne__" = some (some (.builtin "object.__ne__"))) (he : findIn K (.ref C) "__eq__" = some (some (.ref f))) (hf : isFn K (.ref f) = true)
    (h : wpAny (model prog w) A.in1 (call (.ref f) [.ref x, b]) (fun v s' => ∃ c, v = .bool c ∧ Q (.bool (!c)) s') E s) : wpAny (model prog w) A (richCompare .NotEq (.ref x) b) Q E s := by
  have one : wpAny (model prog w) A (tryCompare (.ref x) "__ne__" b) (fun r s' => ∃ v, r = some v ∧ Q v s') E s := by
    unfold tryCompare
    refine wpAny_bind (ifBound_ne X I hne (wpAny_call (codeAny_call_builtin F.cmp_object.ne.plain F.cmpEntry_ne (check_slot F.cmpKind_ne F.cmpSplit_ne (I.type.andThen (looks_mroIn X hm)) (F.cmpArgs_ne _ _) (ne_body (A := A.in1) X I he hf hu (wpAny_mono h (fun v s' hv => ?_) fun _ _ e => e))))))
    obtain ⟨c, rfl, q⟩ := hv
    exact ⟨c, rfl, wpAny_pure ⟨_, rfl, q⟩⟩
  simp only [richCompare, cmpInfo_NotEq, oneThing_ref]
  refine wpAny_holding (wpAny_bind (wpAny_cRoomFor (Nat.lt_of_succ_lt hu) (wpAny_bind (I.type.here (wpAny_bind (hb.here ?_))))))
  split
  · rename_i z
    have e : subIn K tb (.ref C) = some false := by
      rcases Bool.or_eq_true_iff.mp hn with e | e
      · rw [beq_iff_eq.mp e] at z
        simp at z
      · exact beq_iff_eq.mp e
    refine wpAny_bind ((looks_subIn X e).here ?_)
    simp only [Bool.false_eq_true, if_false]
    refine wpAny_bind (wpAny_mono one (fun r s' ⟨v, e1, q⟩ => ?_) fun _ _ e => e)
    subst e1
    exact wpAny_pure q
  · refine wpAny_bind (wpAny_pure ?_)
    simp only [Bool.false_eq_true, if_false]
    refine wpAny_bind (wpAny_mono one (fun r s' ⟨v, e1, q⟩ => ?_) fun _ _ e => e)
    subst e1
    exact wpAny_pure q
end
section
variable {X : Cx} {C f : Addr} {k : Nat} {fd : FuncData} {ps : List Str} {sp : Sp}
/-- x != y by the own __eq__ of x's class -/
def rOwnNe (K : PySem.W.Frag) (C : Addr) (sp : Sp) : R2 := fun x y H Q => ∃ (a dx : Addr) (fs : List (Str × V)) (t : Value), x = .ref a ∧ H a = some (.ins C dx fs) ∧ TyX K H y t ∧ PySem.W.notFirst K C t = true ∧ sp [x, y] H (fun v H' => ∃ b, v = .bl b ∧ Q (.bl (!b)) H') E0
theorem op_ownNe (F : FnOk X.prog X.w X.K X.mg X.base CX0 k f fd ps sp) (hr : Room (k + 1) X.A) (hs : PySem.W.findIn X.K (.ref C) "__eq__" = some (some (.ref f))) (hne : PySem.W.findIn X.K (.ref C) "__ne__" = some (some (.builtin "object.__ne__"))) (hm : PySem.W.mroIn X.K C (.type "object") = some true)
    (hf : PySem.W.isFn X.K (.ref f) = true) (hb : Binds X.K fd ps []) : OpR X (compareOp .NotEq) (rOwnNe X.K C sp) := by
  intro pins s σ H x y v u Q I rx ry hq
  obtain ⟨a, dx, fs, t, rfl, ha, ht, hn, hsp⟩ := hq
  obtain ⟨P, Z, p, _⟩ := kit_of I ry ht
  have ty := Z.ty (model X.prog X.w) s.heap I.kIn p
  cases rx
  obtain ⟨mA, J, _⟩ := ins_get I.hok ha
  obtain ⟨od, J, _⟩ := J.look
  show wpAny (model X.prog X.w) X.A (richCompare .NotEq (.ref a) u) (EP X pins σ Q) X.xe s
  refine rich_ne (hu_of hr) I.kIn J hm ty hn hne hs hf ?_
  refine wpAny_mono (call_own (X := X) F hr.in1 rfl hb I (vs := [.ref a, y]) (.cons rfl (.cons ry .nil)) hsp) (fun w s1 h => ?_) fun _ _ e => e
  obtain ⟨z, H1, I1, rz, b, rfl, q⟩ := h
  cases rz
  exact ⟨b, rfl, .bl (!b), H1, I1, rfl, q⟩
end
end Nv
set_option maxHeartbeats 4000000
namespace Nv
open PySem PySem.Spec PyProof.Rows L2
abbrev sQInit : Stmt := inClass cQuestion 0
abbrev sQEq : Stmt := inClass cQuestion 1
/-- what a question is made of -/
structure Ql where
  cs : List Str
  ps : List (List Str)
  qs : List (List Str)
  deriving DecidableEq
structure Ql.Ok (x : Ql) : Prop where
  cs : ∀ y ∈ x.cs, IsVr y
  cl : x.cs.length ≤ 300
  ps : ∀ y ∈ x.ps, PatOk y
  pl : x.ps.length ≤ 300
  qs : ∀ y ∈ x.qs, PairOk y
  ql : x.qs.length ≤ 300
abbrev qF (l1 l2 l3 : Addr) : Flds := [("_columns", .ref l1), ("_told", .ref l2), ("_pairs", .ref l3)]
theorem qF2 {l1 l2 : Addr} : putF "_told" (V.ref l2) ([("_columns", V.ref l1)] : Flds) = ([("_columns", V.ref l1), ("_told", V.ref l2)] : Flds) := putF_new (ns := ["_columns"]) rfl (by decide +kernel)
theorem qF3 {l1 l2 l3 : Addr} : putF "_pairs" (V.ref l3) ([("_columns", V.ref l1), ("_told", V.ref l2)] : Flds) = qF l1 l2 l3 := putF_new (ns := ["_columns", "_told"]) rfl (by decide +kernel)
theorem qk1 {l1 l2 l3 : Addr} : (qF l1 l2 l3).lookup ("_columns" : Str) = some (V.ref l1) := lk_yes
theorem qk2 {l1 l2 l3 : Addr} : (qF l1 l2 l3).lookup ("_told" : Str) = some (V.ref l2) := (lk_no (by decide +kernel)).trans lk_yes
theorem qk3 {l1 l2 l3 : Addr} : (qF l1 l2 l3).lookup ("_pairs" : Str) = some (V.ref l3) := (lk_no (by decide +kernel)).trans ((lk_no (by decide +kernel)).trans lk_yes)
structure QC (K : PySem.W.Frag) (C : Addr) : Prop where
  cl : Cls K C
  n1 : NoAttr K C "_columns"
  n2 : NoAttr K C "_told"
  n3 : NoAttr K C "_pairs"
/-- the question x stands at r -/
def QA (C : Addr) (H : Hp) (r : Addr) (x : Ql) : Prop := ∃ (dx l1 l2 l3 : Addr) (us us2 : List V), H r = some (.ins C dx (qF l1 l2 l3)) ∧ H l1 = some (.lst (x.cs.map V.str)) ∧ (H l2 = some (.lst us) ∧ PaL H us x.ps) ∧ H l3 = some (.lst us2) ∧ PaL H us2 x.qs
theorem QA.same {C : Addr} {H H1 : Hp} {r : Addr} {x : Ql} (h : QA C H r x) (s : Same H H1) : QA C H1 r x := by
  obtain ⟨dx, l1, l2, l3, us, us2, e, e1, ⟨e2, p2⟩, e3, p3⟩ := h
  exact ⟨dx, l1, l2, l3, us, us2, s _ _ e, s _ _ e1, ⟨s _ _ e2, p2.same s⟩, s _ _ e3, p3.same s⟩
theorem free_sb {H G : Hp} {r l C dx : Addr} {fs : Flds} (s : Sb r H G) (e : G r = some (.ins C dx fs)) (n : G l = none) : l ≠ r ∧ H l = none := by
  have hn : l ≠ r := fun z => by
    rw [z, e] at n
    cases n
  refine ⟨hn, ?_⟩
  cases g : H l with
  | none => rfl
  | some o =>
    rw [s _ _ hn g] at n
    cases n
section
variable {P : Program} {w : World} {K : PySem.W.Frag} {mg : Str → Option Value} {base : Heap}
def spQInit (C : Addr) : Sp := fun vs H Q _ => ∃ (r dx tc tt : Addr) (cs : List Str) (us : List V) (ps : List (List Str)) (vp : V) (qs : List (List Str)), vs = [.ref r, .ref tc, .ref tt, vp] ∧ H r = some (.ins C dx []) ∧
  (H tc = some (.lst (cs.map V.str)) ∧ (∀ x ∈ cs, IsVr x) ∧ cs.length ≤ 300) ∧ (H tt = some (.lst us) ∧ PaL H us ps ∧ (∀ x ∈ ps, PatOk x) ∧ ps.length ≤ 300) ∧ (Opt H vp qs ∧ ∀ x ∈ qs, PairOk x) ∧ (hasMore cs ps = false ∧ hasMore qs.flatten ps = false) ∧
  ∀ (l1 l2 l3 : Addr) (us2 : List V) (H' : Hp), H l1 = none → H l2 = none → H l3 = none → Sb r H H' → H' r = some (.ins C dx (qF l1 l2 l3)) → H' l1 = some (.lst (cs.map V.str)) → H' l2 = some (.lst us) → PaL H' us ps → H' l3 = some (.lst us2) → PaL H' us2 qs → Q .non H'
theorem scQInit : FnScope ["self", "columns", "told", "pairs", "part"] ["self", "columns", "told", "pairs"] (defScope sQInit) := ⟨rfl, rfl, rfl, by decide +kernel, rfl, by decide +kernel, by decide +kernel⟩
theorem ok_qInit {f C : Addr} {fd : FuncData} (F : FunD K "__init__" "Question.__init__" (defArgs sQInit) (defBody sQInit) (defScope sQInit) [.non] [] f fd) (B : Bp mg) (R : QC K C) (T : Ct P w K mg base) :
    FnOk P w K mg base CX0 5 f fd ["self", "columns", "told", "pairs"] (spQInit C) := by
  obtain ⟨fN, dN, GN, kN, gN, bN⟩ := T.vr
  obtain ⟨fS, dS, GS, kS, gS, bS⟩ := T.ps
  obtain ⟨fR, dR, GR, kR, gR, bR⟩ := T.pr
  obtain ⟨fD, dD, GD, kD, gD, bD⟩ := T.sd
  obtain ⟨fM, dM, GM, kM, gM, bM⟩ := T.hm
  refine F.ok scQInit (fun vs H Q E h => ?_) (fun cdv A outer s H vs Q E hr h => ?_)
  · obtain ⟨r, dx, tc, tt, cs, us, ps, vp, qs, rfl, _⟩ := h
    rfl
  · obtain ⟨r, dx, tc, tt, cs, us, ps, vp, qs, rfl, er, ⟨ec, hc, hcl⟩, ⟨et, hp, hok, hpl⟩, ⟨oq, hq⟩, ⟨m1, m2⟩, q⟩ := h
    have hr1 : Room 1 _ := hr.mono (by decide)
    refine ⟨_, pss_cons (ps_if (PW.pt (pw_or (pt_not (pt_val (pe_callB call_isi (by rfl) B.isi bootIsi (pa_cons (pv 1) (pa_cons (pe_bltn (v := V.ty "list") (by rfl) B.lst PyProof.Rows.boot_list rfl) pa_nil)))))
        (pw_or1 (pt_not (pt_val (pe_callB (cr_all rfl) (by rfl) B.all bootAll (pa_cons (by exact (pe_lc (own := [("part", 4)]) (g := gName 4) (tt := tYes) (te := tCall (spTxt K fun z => decide (IsVr z)) [] E0 (tCons (tVar 4) tNil)) rfl scQInit.nd (pi_list (pv 1))
          (blkOk_by (own := [("part", 4)]) (N := ["self", "columns", "told", "pairs", "part"]) (sc := defScope sQInit) (by decide +kernel))
          (fun _ _ _ _ _ => pg_name (i := 4) scQInit.nd rfl (Or.inl rfl)) (fun _ _ _ _ _ => pts_nil)
          (fun _ _ _ _ _ => by exact (pe_call GN hr1 (by rfl) gN kN bN .nil pass0 (pa_cons (pv 4) pa_nil))))) pa_nil))))))) (pss_one ps_never) pss_nil)
      (pss_cons (ps_if (pt_not (pt_val (by exact (pe_call GS hr (by rfl) gS kS bS .nil pass0 (pa_cons (pv 2) pa_nil))))) (pss_one ps_never) pss_nil)
      (pss_cons (ps_if (PW.pt (pw_and (pt_cmpR op_notN (pv 3) pe_non (nomark _)) (pw_and1 (pt_not (pt_val (by exact (pe_call GR hr (by rfl) gR kR bR .nil pass0 (pa_cons (pv 3) pa_nil)))))))) (pss_one ps_never) pss_nil)
      (pss_cons (ps_if (pt_val (by exact (pe_call GM hr (by rfl) gM kM bM .nil pass0 (pa_cons (pv 1) (pa_cons (pv 2) pa_nil))))) (pss_one ps_never) pss_nil)
      (pss_cons (ps_if (pt_val (by exact (pe_call GM hr (by rfl) gM kM bM .nil pass0 (pa_cons (by exact (pe_call GD hr1 (by rfl) gD kD bD .nil pass0 (pa_cons (pe_orT (pv 3) (pe_one (pe_lst pa_nil))) pa_nil))) (pa_cons (pv 2) pa_nil))))) (pss_one ps_never) pss_nil)
      (pss_cons (ps_fld (pv 0) (pe_callTy call_list_of (by rfl) B.lst PyProof.Rows.boot_list (pa_cons (pv 1) pa_nil)) rfl)
      (pss_cons (ps_fld (pv 0) (pe_callTy call_list_of (by rfl) B.lst PyProof.Rows.boot_list (pa_cons (pv 2) pa_nil)) rfl)
      (pss_one (ps_fld (pv 0) (pe_callTy call_list_of (by rfl) B.lst PyProof.Rows.boot_list (pa_cons (pe_orT (pv 3) (pe_one (pe_lst pa_nil))) pa_nil)) rfl)))))))), ?_⟩
    refine ⟨_, rfl, _, _, _, _, true, rfl, .ty _, tyx_lst ec, kit_ty (by decide +kernel), true, rfl, iteF ?_⟩
    refine ⟨_, rfl, tc, rfl, ⟨_, SqL.of ec⟩, fun D nD => ?_⟩
    refine lc_list (K := K) (a := tc) (xs := cs.map V.str) (fun i H' => Same H H' ∧ H' D = some (.lst ((cs.take i).map fun _ => V.bl true))) ⟨same_new nD, upd_same⟩ (fun i H' _ y => SqL.of (y.1 _ _ ec)) ?_ ?_
    · rintro i v H1 hi ⟨s1, e1⟩
      obtain ⟨z, hz, rfl⟩ := at_map hi
      have hv := hc z (List.mem_of_getElem? hz)
      refine ⟨rfl, _, rfl, ?_⟩
      dsimp only [tNil]
      refine spTxt.yes (by have := hv.2.1; omega) fun H2 s2 => ?_
      show ∃ acc, H2 D = some (.lst acc) ∧ acc.length < sizeLine ∧ _
      rw [decide_eq_true hv]
      refine ⟨_, s2 _ _ e1, ?_, same_put (s1.trans s2) nD, ?_⟩
      · rw [List.length_map, List.length_take]
        exact Nat.lt_of_le_of_lt (by omega : _ ≤ 300) (by decide)
      · rw [upd_same, take_one hz, List.map_append] <;> rfl
    · rintro H1 ⟨s1, e1⟩
      rw [List.length_map, List.take_length] at e1
      refine ⟨D, cs.map fun _ => true, rfl, SqL.of (by rw [e1, List.map_map] <;> rfl), _, rfl, ?_⟩
      have eall : (cs.map fun _ => true).all id = true := by simp
      rw [eall]
      refine iteF ?_
      have tq : Tps K H1 (.ref tt) (some (ps.map fun q => some (q.map some))) := ⟨tt, us, rfl, s1 _ _ et, (hp.same s1).tps fun p hpp => (hok p hpp).small, by rw [List.length_map]; omega⟩
      refine ⟨_, rfl, _, _, rfl, tq, fun H2 s2 => ⟨_, rfl, ?_⟩⟩
      rw [all_yes fun x hx => (hok x hx).yes]
      refine iteF ?_
      have s12 := s1.trans s2
      show tSeq _ _ _ _ _
      refine if_opt (v := vp) (o := oq.same s12) rfl (fun x hx => (hq x hx).small) (fun x hx => (hq x hx).yes) fun G3 s3 => ?_
      have s13 := s12.trans s3
      refine ⟨_, rfl, _, rfl, tc, tt, cs, us, ps, rfl, ⟨.inl (SqL.of (s13 _ _ ec)), fun x hx => by have := (hc x hx).2.1; omega, by omega⟩, ⟨SqL.of (s13 _ _ et), hp.same s13, hok, by omega⟩, fun G4 s4 => ⟨_, rfl, ?_⟩⟩
      rw [m1]
      refine iteF ?_
      replace s13 := s13.trans s4
      show tSeq _ _ _ _ _
      refine if_sides (K := K) (v := vp) (o := oq.same s13) rfl rfl (fun x hx => hq x hx) (s13 _ _ et) (hp.same s13) hok hpl m2 fun G9 s8 => ?_
      replace s13 := s13.trans s8
      clear s8 s4 s3
      refine ⟨_, rfl, tc, _, rfl, .inl (SqL.of (s13 _ _ ec)), fun l1 n1 => ⟨_, rfl, r, C, dx, [], rfl, same_new n1 _ _ (s13 _ _ er), R.cl, R.n1, (by show 0 < 1000; decide), ?_⟩⟩
      have l1r : l1 ≠ r := fun z => by
        rw [z, s13 _ _ er] at n1
        cases n1
      have n1H := s13.free n1
      have f1 : Sb r H (upd (upd G9 l1 (.lst (cs.map V.str))) r (.ins C dx (putF "_columns" (V.ref l1) []))) := (Sb.of (same_put s13 n1H)).trans Sb.upd
      have e2 : upd (upd G9 l1 (.lst (cs.map V.str))) r (.ins C dx (putF "_columns" (V.ref l1) [])) r = some (.ins C dx [("_columns", .ref l1)]) := upd_same
      have el1 : upd (upd G9 l1 (.lst (cs.map V.str))) r (.ins C dx (putF "_columns" (V.ref l1) [])) l1 = some (.lst (cs.map V.str)) := by rw [upd_ne l1r, upd_same]
      generalize upd (upd G9 l1 (.lst (cs.map V.str))) r (.ins C dx (putF "_columns" (V.ref l1) [])) = G at f1 e2 el1 ⊢
      have tne : tt ≠ r := fun z => by
        rw [z, er] at et
        cases et
      refine ⟨_, rfl, tt, us, rfl, .inl (SqL.of (f1 _ _ tne et)), fun l2 n2 => ⟨_, rfl, r, C, dx, _, rfl, same_new n2 _ _ e2, R.cl, R.n2, (by show 1 < 1000; decide), ?_⟩⟩
      rw [qF2]
      obtain ⟨l2r, n2H⟩ := free_sb f1 e2 n2
      have l12 : l1 ≠ l2 := fun z => by
        rw [← z, el1] at n2
        cases n2
      have f2 : Sb r H (upd (upd G l2 (.lst us)) r (.ins C dx [("_columns", V.ref l1), ("_told", V.ref l2)])) := (f1.put n2H).trans Sb.upd
      have e3 : upd (upd G l2 (.lst us)) r (.ins C dx [("_columns", V.ref l1), ("_told", V.ref l2)]) r = some (.ins C dx [("_columns", V.ref l1), ("_told", V.ref l2)]) := upd_same
      have el1' : upd (upd G l2 (.lst us)) r (.ins C dx [("_columns", V.ref l1), ("_told", V.ref l2)]) l1 = some (.lst (cs.map V.str)) := by rw [upd_ne l1r, upd_ne l12]; exact el1
      have el2 : upd (upd G l2 (.lst us)) r (.ins C dx [("_columns", V.ref l1), ("_told", V.ref l2)]) l2 = some (.lst us) := by rw [upd_ne l2r, upd_same]
      generalize upd (upd G l2 (.lst us)) r (.ins C dx [("_columns", V.ref l1), ("_told", V.ref l2)]) = G3 at f2 e3 el1' el2 ⊢
      refine fld_list (K := K) (v := vp) (oq.sbo er f2) rfl rfl e3 R.cl R.n3 (by show 2 < 1000; decide) fun l3 us2 G5 n3 s5 e5 el3 p3 => ?_
      rw [qF3] at e5
      obtain ⟨l3r, n3H⟩ := free_sb f2 e3 n3
      exact q l1 l2 l3 us2 G5 n1H n2H n3H (f2.trans s5) e5 (s5 _ _ l1r el1') (s5 _ _ l2r el2) ((hp.sbo er f2).sbo e3 s5) el3 p3
end
end Nv
set_option maxHeartbeats 4000000
namespace Nv
open PySem PySem.Spec PyProof.Rows L2 PySem.SeqAt
open AutoSeq1 (wpAny_loadPart')
open MeetsSeq MeetsSeq2 MeetsSeq3 SeqRoads2
section
variable {prog : Program} {w : World} {A : Around} {R : Result → Shared → Prop}
/-- two lists of N items each are compared: at turn i the answer is ans i -/
def Turns (prog : Program) (w : World) (A : Around) (E : Value → Shared → Prop) (l b : Addr) (N : Nat) (ans : Nat → Bool) (J : Nat → Shared → Prop) : Prop :=
  ∀ i s, J i s → ∃ (xs ys : Array Value) (n m : Nat), s.heap.get? l = some { cls := .type "list", data := .seq xs n } ∧ s.heap.get? b = some { cls := .type "list", data := .seq ys m } ∧ xs.size = N ∧ ys.size = N ∧
    ∀ (h1 : i < xs.size) (h2 : i < ys.size), wpAny (model prog w) A.in1 (eqBool xs[i] ys[i]) (fun r s' => r = ans i ∧ J (i + 1) s') E s
theorem loopB (l b : Addr) (N : Nat) (ans : Nat → Bool) (J : Nat → Shared → Prop) (tn : Turns prog w A (fun e s' => R (.error e) s') l b N ans J) (yes : (∀ j, j < N → ans j = true) → ∀ s, J N s → R (.ok (.ret (.bool true))) s) (no : ∀ i s, i < N → ans i = false → J (i + 1) s → R (.ok (.ret (.bool false))) s) (k : Nat) :
    ∀ i : Nat, N - i = k → i ≤ N → (∀ j, j < i → ans j = true) → ∀ s, J i s → wpAny (model prog w) A.in1 (Builtin.«list.__eq__.loop» ⟨[.ref l, .ref b, rawInt i, rawInt 2], []⟩) (GQ.FinOf prog w A R) (fun e s' => R (.error e) s') s := by
  induction k with
  | zero =>
    intro i hk hi ht0 s h
    obtain ⟨xs, ys, n, m, g1, g2, z1, z2, _⟩ := tn _ _ h
    have e : i = N := by omega
    have done : R (.ok (.ret (.bool true))) s := yes (e ▸ ht0) s (e ▸ h)
    obtain ⟨hp, g, d, tk, os⟩ := s
    wp_walk using wpAny_loadPart' g1, wpAny_loadPart' g2
    have o1 : xs[((i : Nat) : Int).toNat]? = none := by simp; omega
    have o2 : ys[((i : Nat) : Int).toNat]? = none := by simp; omega
    rw [o1, o2]
    wp_walk using wpAny_loadPart' g1, wpAny_loadPart' g2
    show R (.ok (.ret (.bool (xs.size == ys.size)))) _
    rw [z1, z2]
    simpa using done
  | succ k ih =>
    intro i hk hi ht0 s h
    obtain ⟨xs, ys, n, m, g1, g2, z1, z2, turn⟩ := tn _ _ h
    have h1 : i < xs.size := by omega
    have h2 : i < ys.size := by omega
    have ht := turn h1 h2
    obtain ⟨hp, g, d, tk, os⟩ := s
    wp_walk using wpAny_loadPart' g1, wpAny_loadPart' g2
    have o1 : xs[((i : Nat) : Int).toNat]? = some xs[i] := by simp [h1]
    have o2 : ys[((i : Nat) : Int).toNat]? = some ys[i] := by simp [h2]
    have one : ((i : Int) + 1) = ((i + 1 : Nat) : Int) := by omega
    rw [o1, o2]
    refine wpAny_bind (wpAny_mono ht (fun r s2 q2 => ?_) fun _ _ x => x)
    obtain ⟨hr, q2⟩ := q2
    subst hr
    cases ha : ans i with
    | true =>
      have rec_ := ih (i + 1) (by omega) (by omega) (fun j hj => by
        rcases Nat.lt_or_ge j i with h | h
        · exact ht0 j h
        · have : j = i := by omega
          rw [this]
          exact ha) s2 q2
      obtain ⟨hp2, g', d2, tk2, os2⟩ := s2
      wp_walk
      rw [one]
      exact ⟨plainId_quiet plain_eq_loop _, codeAny_builtin entry_eq_loop (by
        rw [Around.under_plainId plain_eq_loop _]
        exact rec_)⟩
    | false =>
      have stop := no i s2 (by omega) ha q2
      obtain ⟨xs2, ys2, n2, m2, g3, g4, z3, z4, _⟩ := tn _ _ q2
      obtain ⟨hp2, g', d2, tk2, os2⟩ := s2
      have o3 : xs2[((i : Nat) : Int).toNat]? = some (xs2[i]'(by omega)) := by simp
      have o4 : ys2[((i : Nat) : Int).toNat]? = some (ys2[i]'(by omega)) := by simp
      wp_walk using wpAny_loadPart' g3, wpAny_loadPart' g4
      rw [o3, o4]
      wp_walk
      exact stop
theorem bodyB (l b : Addr) (N : Nat) (ans : Nat → Bool) (J : Nat → Shared → Prop) (tn : Turns prog w A (fun e s' => R (.error e) s') l b N ans J) (yes : (∀ j, j < N → ans j = true) → ∀ s, J N s → R (.ok (.ret (.bool true))) s) (no : ∀ i s, i < N → ans i = false → J (i + 1) s → R (.ok (.ret (.bool false))) s) {s : Shared} (h : J 0 s) :
    wpAny (model prog w) A.in1 (Builtin.«list.__eq__» ⟨[.ref l, .ref b], []⟩) (GQ.FinOf prog w A R) (fun e s' => R (.error e) s') s := by
  obtain ⟨xs, ys, n, m, g1, g2, z1, z2, _⟩ := tn _ _ h
  have rec_ := loopB (A := A) (R := R) l b N ans J tn yes no _ 0 rfl (Nat.zero_le _) (fun j hj => absurd hj (Nat.not_lt_zero _)) s h
  obtain ⟨hp, g, d, tk, os⟩ := s
  have sub := AutoSeq1.sub_list_list
  have same : ¬ (xs.size != ys.size) = true := by simp [z1, z2]
  wp_walk using wpAny_loadPart' g1, wpAny_loadPart' g2
  exact ⟨plainId_quiet plain_eq_loop _, codeAny_builtin entry_eq_loop (by
    rw [Around.under_plainId plain_eq_loop _]
    exact rec_)⟩
theorem bodyL (l b : Addr) {xs ys : Array Value} {n m : Nat} {s : Shared} (g1 : s.heap.get? l = some { cls := .type "list", data := .seq xs n }) (g2 : s.heap.get? b = some { cls := .type "list", data := .seq ys m }) (ne : xs.size ≠ ys.size) (q : R (.ok (.ret (.bool false))) s) :
    wpAny (model prog w) A.in1 (Builtin.«list.__eq__» ⟨[.ref l, .ref b], []⟩) (GQ.FinOf prog w A R) (fun e s' => R (.error e) s') s := by
  obtain ⟨hp, g, d, tk, os⟩ := s
  have sub := AutoSeq1.sub_list_list
  have unlike : (xs.size != ys.size) = true := by simp [ne]
  wp_walk using wpAny_loadPart' g1, wpAny_loadPart' g2
  exact q
end
section
variable {prog : Program} {w : World} {A : Around} {E : Value → Shared → Prop} {s : Shared}
theorem rcB {l b : Addr} {N : Nat} {ans : Nat → Bool} {Q : Value → Shared → Prop} (hu : A.units < cLine) (J : Nat → Shared → Prop) (tn : Turns prog w A E l b N ans J) (yes : (∀ j, j < N → ans j = true) → ∀ s, J N s → Q (.bool true) s) (no : ∀ i s, i < N → ans i = false → J (i + 1) s → Q (.bool false) s) (h : J 0 s) :
    wpAny (model prog w) A (richCompare .Eq (.ref l) (.ref b)) Q E s := by
  obtain ⟨xs, ys, n, m, g1, g2, _⟩ := tn _ _ h
  refine wpAny_richCompare_same_room (op := .Eq) ⟨_, g1, rfl⟩ ⟨_, g2, rfl⟩ F.slot_list_eq (GQ.call_here F.slot_list_eq ⟨_, g1, rfl⟩ F.entry_list_eq (F.args_list_eq_2 _ _) ?_) hu
  exact bodyB (R := wants (fun v s' => v ≠ .notImplemented ∧ Q v s') E) l b N ans J tn (fun ht s' q => ⟨(fun x => nomatch x), yes ht s' q⟩) (fun i s' hi ha q => ⟨(fun x => nomatch x), no i s' hi ha q⟩) h
theorem rcL {l b : Addr} {xs ys : Array Value} {n m : Nat} {Q : Value → Shared → Prop} (hu : A.units < cLine) (g1 : s.heap.get? l = some { cls := .type "list", data := .seq xs n }) (g2 : s.heap.get? b = some { cls := .type "list", data := .seq ys m }) (ne : xs.size ≠ ys.size) (q : Q (.bool false) s) :
    wpAny (model prog w) A (richCompare .Eq (.ref l) (.ref b)) Q E s := by
  refine wpAny_richCompare_same_room (op := .Eq) ⟨_, g1, rfl⟩ ⟨_, g2, rfl⟩ F.slot_list_eq (GQ.call_here F.slot_list_eq ⟨_, g1, rfl⟩ F.entry_list_eq (F.args_list_eq_2 _ _) ?_) hu
  exact bodyL (R := wants (fun v s' => v ≠ .notImplemented ∧ Q v s') E) l b g1 g2 ne ⟨(fun x => nomatch x), q⟩
end
/-- how two values compare, by the heap -/
abbrev EqD := V → V → Hp → Bool → Prop
def MonD (D : EqD) : Prop := ∀ x y H H' b, Same H H' → D x y H b → D x y H' b
/-- == inside a list gives what D says, and only makes objects -/
def EqB (X : Cx) (n : Nat) (D : EqD) : Prop :=
  ∀ (A : Around) (pins : List (Addr × Obj)) (s : Shared) (σ : L2.St) (H : Hp) (x y : V) (u v : Value) (b : Bool), Sub X n A → Inv X pins σ H s → RelV x u → RelV y v → D x y H b →
    wpAny (model X.prog X.w) A (eqBool u v) (fun r s' => r = b ∧ ∃ H', Inv X pins σ H' s' ∧ Same H H') X.xe s
def RcB (X : Cx) (n : Nat) (D : EqD) : Prop :=
  ∀ (A : Around) (pins : List (Addr × Obj)) (s : Shared) (σ : L2.St) (H : Hp) (x y : V) (u v : Value) (b : Bool), Sub X n A → Inv X pins σ H s → RelV x u → RelV y v → D x y H b →
    wpAny (model X.prog X.w) A (richCompare .Eq u v) (fun r s' => r = .bool b ∧ ∃ H', Inv X pins σ H' s' ∧ Same H H') X.xe s
/-- lists, item by item -/
def DLst (D : EqD) : EqD := fun x y H b => ∃ (a c : Addr) (xs ys : List V), x = .ref a ∧ y = .ref c ∧ H a = some (.lst xs) ∧ H c = some (.lst ys) ∧
  ((xs.length ≠ ys.length ∧ b = false) ∨ ∃ bs : List Bool, xs.length = ys.length ∧ bs.length = xs.length ∧ (∀ (i : Nat) u v t, xs[i]? = some u → ys[i]? = some v → bs[i]? = some t → D u v H t) ∧ b = bs.all id)
theorem mon_lst {D : EqD} (hD : MonD D) : MonD (DLst D) := fun x y H H' b s d => by
  obtain ⟨a, c, xs, ys, e1, e2, h1, h2, d⟩ := d
  refine ⟨a, c, xs, ys, e1, e2, s _ _ h1, s _ _ h2, ?_⟩
  rcases d with d | ⟨bs, l1, l2, k, e⟩
  · exact .inl d
  · exact .inr ⟨bs, l1, l2, fun i u v t hu hv ht => hD _ _ _ _ _ s (k i u v t hu hv ht), e⟩
section
variable {X : Cx} {n : Nat} {D : EqD}
theorem rcB_list (hD : MonD D) (h : EqB X n D) : RcB X (n + 1) (DLst D) := by
  intro A pins s σ H x y u v b sb I rx ry d
  obtain ⟨a, c, xs, ys, rfl, rfl, ha, hc, d⟩ := d
  cases rx
  cases ry
  rcases d with ⟨ne, rfl⟩ | ⟨bs, l1, l2, k, rfl⟩
  · obtain ⟨z, its, k1, r, e⟩ := I.hok a _ ha
    obtain ⟨z2, its2, k2, r2, e2⟩ := I.hok c _ hc
    refine rcL sb.room.units0 e e2 ?_ ⟨rfl, H, I, Same.refl H⟩
    rw [List.size_toArray, List.size_toArray, ← r.length, ← r2.length]
    exact ne
  · have at_ : ∀ i, i < xs.length → ∃ t, bs[i]? = some t ∧ bs.getD i true = t := fun i hi => by
      refine ⟨bs[i]'(by omega), List.getElem?_eq_getElem (by omega), ?_⟩
      rw [List.getD_eq_getElem?_getD, List.getElem?_eq_getElem (by omega)] <;> rfl
    refine rcB (N := xs.length) (ans := fun i => bs.getD i true) sb.room.units0 (fun i s' => ∃ H', Inv X pins σ H' s' ∧ Same H H') ?_ ?_ ?_ ⟨H, I, Same.refl H⟩
    · rintro i s' ⟨H1, I1, s1⟩
      obtain ⟨z, its, k1, r, e⟩ := I1.hok a _ (s1 _ _ ha)
      obtain ⟨z2, its2, k2, r2, e2⟩ := I1.hok c _ (s1 _ _ hc)
      refine ⟨its.toArray, its2.toArray, k1, k2, e, e2, by rw [List.size_toArray, ← r.length], by rw [List.size_toArray, ← r2.length, ← l1], fun h1 h2 => ?_⟩
      have m1 : i < xs.length := by rw [r.length]; simpa using h1
      have m2 : i < ys.length := by omega
      obtain ⟨u, hu, ru⟩ := r.get (List.getElem?_eq_getElem m1)
      obtain ⟨v, hv, rv⟩ := r2.get (List.getElem?_eq_getElem m2)
      have g1 : its[i]? = some its.toArray[i] := by
        rw [List.getElem?_eq_getElem (by simpa using h1)] <;> simp
      have g2 : its2[i]? = some its2.toArray[i] := by
        rw [List.getElem?_eq_getElem (by simpa using h2)] <;> simp
      rw [g1] at hu
      rw [g2] at hv
      rw [Option.some.inj hu, Option.some.inj hv]
      obtain ⟨t, ht, et⟩ := at_ i m1
      have dd := hD _ _ _ _ _ s1 (k i _ _ t (List.getElem?_eq_getElem m1) (List.getElem?_eq_getElem m2) ht)
      refine wpAny_mono (h A.in1 pins s' σ H1 _ _ u v t sb.in1 I1 ru rv dd) (fun q s2 w => ?_) fun _ _ w => w
      obtain ⟨e3, H2, I2, s2'⟩ := w
      exact ⟨e3.trans et.symm, H2, I2, s1.trans s2'⟩
    · rintro ht s' ⟨H1, I1, s1⟩
      refine ⟨?_, H1, I1, s1⟩
      refine congrArg Value.bool (Eq.symm ?_)
      rw [List.all_eq_true]
      intro t htm
      obtain ⟨i, hi⟩ := List.mem_iff_getElem?.mp htm
      have hil : i < xs.length := by
        rw [← l2]
        exact (List.getElem?_eq_some_iff.mp hi).1
      obtain ⟨t', h1, h2⟩ := at_ i hil
      rw [hi] at h1
      have := ht i hil
      rw [h2] at this
      rw [Option.some.inj h1, this] <;> rfl
    · rintro i s' hi ha2 ⟨H1, I1, s1⟩
      refine ⟨?_, H1, I1, s1⟩
      refine congrArg Value.bool (Eq.symm ?_)
      obtain ⟨t, h1, h2⟩ := at_ i hi
      have ha3 : bs.getD i true = false := ha2
      rw [h2] at ha3
      cases g : bs.all id with
      | false => rfl
      | true =>
        have := List.all_eq_true.mp g t (List.mem_of_getElem? h1)
        rw [ha3] at this
        cases this
end
end Nv
set_option maxHeartbeats 4000000
namespace Nv
open PySem PySem.Spec PyProof.Rows L2
/-- call_own, from anywhere below -/
theorem call_ownS {X : Cx} {f : Addr} {k : Nat} {fd : FuncData} {ps : List Str} {sp : Sp} {A : Around} {pins : List (Addr × Obj)} {σ : L2.St} {H : Hp} {s : Shared} {vs : List V} {us : List Value} {Q : VK} {E2 : Value → Shared → Prop} (F : FnOk X.prog X.w X.K X.mg X.base CX0 k f fd ps sp) (sb : Sub X k A) (hb : Binds X.K fd ps [])
    (I : Inv X pins σ H s) (r : Vals vs us) (h : sp vs H Q E0) : wpAny (model X.prog X.w) A (call (.ref f) us) (EP X pins σ Q) E2 s := call_own F sb.room sb.fr hb I r h
/-- two rules -/
def DRule (C : Addr) : EqD := fun u v H b => ∃ (a c : Addr) (x y : Rl), u = .ref a ∧ v = .ref c ∧ RA C H a x ∧ RA C H c y ∧ x.Ok ∧ y.Ok ∧ b = decide (x = y) ∧ (a = c → b = true)
theorem mon_rule {C : Addr} : MonD (DRule C) := fun u v H H' b s d => by
  obtain ⟨a, c, x, y, e1, e2, h1, h2, d⟩ := d
  exact ⟨a, c, x, y, e1, e2, h1.same s, h2.same s, d⟩
section
variable {X : Cx} {n : Nat} {D : EqD}
/-- from a rich comparison of references to == inside a list -/
theorem RcB.eqB (h : RcB X n D) (hr : ∀ x y H b, D x y H b → ∃ a c, x = .ref a ∧ y = .ref c ∧ (a = c → b = true)) : EqB X n D := by
  intro A pins s σ H x y u v b sb I rx ry d
  obtain ⟨a, c, rfl, rfl, hid⟩ := hr _ _ _ _ d
  cases rx
  cases ry
  by_cases hac : a = c
  · subst hac
    rw [hid rfl]
    exact SeqAt.EqAt.same (A := A) (s := s) (.ref a) X.prog X.w X.xe _ ⟨rfl, H, I, Same.refl H⟩
  · refine GQ.eqBool_refG hac (wpAny_mono (h A pins s σ H (.ref a) (.ref c) _ _ b sb I rfl rfl d) (fun r s' q => ?_) fun _ _ x => x)
    obtain ⟨hr', q⟩ := q
    exact ⟨b, hr', rfl, q⟩
theorem rcB_rule {C f : Addr} {fd : FuncData} (F : FnOk X.prog X.w X.K X.mg X.base CX0 1 f fd ["self", "other"] (spRuleEq X.K C)) (R : RC X.K C) (I0 : IC X.K C) (hs : PySem.W.findIn X.K (.ref C) "__eq__" = some (some (.ref f))) (hf : PySem.W.isFn X.K (.ref f) = true) (hb : Binds X.K fd ["self", "other"] []) : RcB X 1 (DRule C) := by
  intro A pins s σ H x y u v b sb I rx ry d
  obtain ⟨a, c, p, q, rfl, rfl, ra, rc, po, qo, rfl, _⟩ := d
  cases rx
  cases ry
  obtain ⟨dx, th, l1, l2, l3, us, us2, us3, e, _⟩ := id ra
  obtain ⟨dx', th', m1, m2, m3, ws, ws2, ws3, e', _⟩ := id rc
  obtain ⟨mA, J, _⟩ := ins_get I.hok e
  obtain ⟨od, J, _⟩ := J.look
  obtain ⟨mB, J', _⟩ := ins_get I.hok e'
  obtain ⟨od', J', _⟩ := J'.look
  obtain ⟨m, hF⟩ := I.fr
  refine PySem.W.cmp_K (op := .Eq) (tb := .ref C) sb.room.units0 hF I.ok.mod.kin J J'.type (by simp [PySem.W.notFirst]) hs hf ?_
  have hsp : spRuleEq X.K C [.ref a, .ref c] H (fun v H' => v = .bl (decide (p = q)) ∧ H' = H) E0 := ⟨a, p, .ref c, rfl, ra, po, .inl ⟨c, q, rfl, rc, qo, rfl, rfl⟩⟩
  refine wpAny_mono (call_ownS (X := X) F sb hb I (vs := [.ref a, .ref c]) (.cons rfl (.cons rfl .nil)) hsp) (fun w s1 h => ?_) fun _ _ e => e
  obtain ⟨z, H1, I1, rz, rfl, rfl⟩ := h
  cases rz
  exact ⟨rfl, H1, I1, Same.refl _⟩
theorem eqB_rule {C f : Addr} {fd : FuncData} (F : FnOk X.prog X.w X.K X.mg X.base CX0 1 f fd ["self", "other"] (spRuleEq X.K C)) (R : RC X.K C) (I0 : IC X.K C) (hs : PySem.W.findIn X.K (.ref C) "__eq__" = some (some (.ref f))) (hf : PySem.W.isFn X.K (.ref f) = true) (hb : Binds X.K fd ["self", "other"] []) : EqB X 1 (DRule C) :=
  (rcB_rule F R I0 hs hf hb).eqB fun _ _ _ _ d => by
    obtain ⟨a, c, p, q, e1, e2, _, _, _, _, _, hid⟩ := d
    exact ⟨a, c, e1, e2, hid⟩
/-- x == y of two such -/
def rEqB (D : EqD) : R2 := fun x y H Q => ∃ b, D x y H b ∧ ∀ H', Same H H' → Q (.bl b) H'
theorem op_eqB (h : RcB X n D) (hr : Room n X.A) : OpR X (compareOp .Eq) (rEqB D) := by
  intro pins s σ H x y v u Q I rx ry hq
  obtain ⟨b, d, q⟩ := hq
  show wpAny (model X.prog X.w) X.A (richCompare .Eq v u) (EP X pins σ Q) X.xe s
  refine wpAny_mono (h X.A pins s σ H x y v u b ⟨hr, rfl⟩ I rx ry d) (fun r s' z => ?_) fun _ _ x => x
  obtain ⟨hr', H', I', e⟩ := z
  subst hr'
  exact ⟨.bl b, H', I', rfl, q H' e⟩
end
/-- two lists of rules -/
theorem dlst_rules {C : Addr} {H : Hp} {a c : Addr} {rs ss : List Addr} {xs ys : List Rl} (ea : H a = some (.lst (rs.map V.ref))) (ec : H c = some (.lst (ss.map V.ref))) (hx : RAs C H rs xs) (hy : RAs C H ss ys) (ox : ∀ x ∈ xs, x.Ok) (oy : ∀ y ∈ ys, y.Ok)
    (same : ∀ (i : Nat) (r : Addr) (x y : Rl), rs[i]? = some r → ss[i]? = some r → xs[i]? = some x → ys[i]? = some y → x = y) : DLst (DRule C) (.ref a) (.ref c) H (decide (xs = ys)) := by
  refine ⟨a, c, _, _, rfl, rfl, ea, ec, ?_⟩
  have l1 := hx.len
  have l2 := hy.len
  by_cases hl : xs.length = ys.length
  · refine .inr ⟨(List.range xs.length).map fun i => decide (xs[i]? = ys[i]?), by rw [List.length_map, List.length_map]; omega, by rw [List.length_map, List.length_map, List.length_range]; omega, fun i u v t hu hv ht => ?_, ?_⟩
    · obtain ⟨r, hr, rfl⟩ := at_ref hu
      obtain ⟨s, hs, rfl⟩ := at_ref hv
      obtain ⟨x, hxi, rx⟩ := hx.at_ hr
      obtain ⟨y, hyi, ry⟩ := hy.at_ hs
      have hil : i < xs.length := (List.getElem?_eq_some_iff.mp hxi).1
      rw [List.getElem?_map, List.getElem?_range hil] at ht
      have ht2 : t = decide (x = y) := by
        have hd : decide (xs[i]? = ys[i]?) = t := Option.some.inj ht
        rw [← hd, hxi, hyi]
        exact decide_eq_decide.mpr ⟨fun e => Option.some.inj e, fun e => by rw [e]⟩
      exact ⟨r, s, x, y, rfl, rfl, rx, ry, ox x (List.mem_of_getElem? hxi), oy y (List.mem_of_getElem? hyi), ht2, fun e => by
        subst e
        rw [ht2]
        exact decide_eq_true (same i r x y hr hs hxi hyi)⟩
    · rw [List.all_map]
      by_cases e : xs = ys
      · subst e
        rw [decide_eq_true rfl]
        symm
        rw [List.all_eq_true]
        intro i _
        exact decide_eq_true rfl
      · rw [decide_eq_false e]
        cases g : (List.range xs.length).all (id ∘ fun i => decide (xs[i]? = ys[i]?)) with
        | false => rfl
        | true =>
          refine absurd (List.ext_getElem? fun i => ?_) e
          rcases Nat.lt_or_ge i xs.length with h | h
          · exact of_decide_eq_true (List.all_eq_true.mp g i (List.mem_range.mpr h))
          · rw [List.getElem?_eq_none h, List.getElem?_eq_none (by omega)]
  · exact .inl ⟨by rw [List.length_map, List.length_map]; omega, decide_eq_false fun e => hl (by rw [e])⟩
end Nv
set_option maxHeartbeats 4000000
namespace Nv
open PySem PySem.Spec PyProof.Rows L2
section
variable {P : Program} {w : World} {K : PySem.W.Frag} {mg : Str → Option Value} {base : Heap}
/-- one rule, one making -/
def One (rs ss : List Addr) (xs ys : List Rl) : Prop := ∀ (i : Nat) (r : Addr) (x y : Rl), rs[i]? = some r → ss[i]? = some r → xs[i]? = some x → ys[i]? = some y → x = y
def spBookEq (K : PySem.W.Frag) (CR C : Addr) : Sp := fun vs H Q _ => ∃ (a : Addr) (rs : List Addr) (xs : List Rl) (v : V), vs = [.ref a, v] ∧ BA C H a rs ∧ RAs CR H rs xs ∧ (∀ x ∈ xs, x.Ok) ∧
  ((∃ (b : Addr) (ss : List Addr) (ys : List Rl), v = .ref b ∧ BA C H b ss ∧ RAs CR H ss ys ∧ (∀ y ∈ ys, y.Ok) ∧ One rs ss xs ys ∧ ∀ H', Same H H' → Q (.bl (decide (xs = ys))) H') ∨ (∃ t : Value, TyX K H v t ∧ PySem.W.kitOne K t (.ref C) = some false ∧ Q (.bl false) H))
theorem scBookEq : FnScope ["self", "other"] ["self", "other"] (defScope sBookEq) := ⟨rfl, rfl, rfl, by decide +kernel, rfl, by decide +kernel, by decide +kernel⟩
theorem ok_bookEq {f C CR fE : Addr} {fd dE : FuncData} (F : Fun K "__eq__" "Book.__eq__" sBookEq f fd) (B : Bp mg) (cl : Cls K C) (na : NoAttr K C "_rules") (I : IC K C) (gB : mg "Book" = some (.ref C)) (R : RC K CR) (IR : IC K CR)
    (FE : FnOk P w K mg base CX0 1 fE dE ["self", "other"] (spRuleEq K CR)) (hs : PySem.W.findIn K (.ref CR) "__eq__" = some (some (.ref fE))) (hf : PySem.W.isFn K (.ref fE) = true) (hb : Binds K dE ["self", "other"] []) : FnOk P w K mg base CX0 3 f fd ["self", "other"] (spBookEq K CR C) := by
  refine F.ok scBookEq (fun vs H Q E h => ?_) (fun cdv A outer s H vs Q E hr h => ?_)
  · obtain ⟨a, rs, xs, v, rfl, _⟩ := h
    rfl
  · obtain ⟨a, rs, xs, v, rfl, ⟨dx, l, eb, el⟩, hx, ox, h⟩ := h
    refine ⟨_, pss_one (ps_ret (pe_and (pe_callB call_isi (by rfl) B.isi bootIsi (pa_cons (pv 1) (pa_cons (pe_glob (v := V.ref C) (by rfl) gB rfl) pa_nil)))
      (pe_one (pe_cmpR (op_eqB (rcB_list mon_rule (eqB_rule FE R IR hs hf hb)) hr) (pe_fld (pv 0) rfl) (pe_fld (pv 1) rfl) (nomark _))))), ?_⟩
    rcases h with ⟨b, ss, ys, rfl, ⟨dy, m, eb2, el2⟩, hy, oy, one, q⟩ | ⟨t, ht, hk, q⟩
    · refine ⟨_, rfl, _, _, _, _, true, rfl, .own _, .base (.ins eb2 cl I.ha I.hn I.ht I.hm), I.me, true, rfl, iteT ?_⟩
      refine ⟨_, rfl, a, C, dx, _, _, rfl, eb, cl, na, lkR, _, rfl, b, C, dy, _, _, rfl, eb2, cl, na, lkR, _, dlst_rules el el2 hx hy ox oy one, fun H' s => q H' s⟩
    · refine ⟨_, rfl, _, _, _, _, false, rfl, .own _, ht, hk, false, rfl, iteF ?_⟩
      exact q
/-- Book.__len__ -/
def spBookLen (C : Addr) : Sp := fun vs H Q _ => ∃ (a : Addr) (rs : List Addr), vs = [.ref a] ∧ BA C H a rs ∧ Q (.int (rs.length : Nat)) H
theorem scBookLen : FnScope ["self"] ["self"] (defScope sBookLen) := ⟨rfl, rfl, rfl, by decide +kernel, rfl, by decide +kernel, by decide +kernel⟩
theorem ok_bookLen {f C : Addr} {fd : FuncData} (F : Fun K "__len__" "Book.__len__" sBookLen f fd) (B : Bp mg) (cl : Cls K C) (na : NoAttr K C "_rules") : FnOk P w K mg base CX0 1 f fd ["self"] (spBookLen C) := by
  refine F.ok scBookLen (fun vs H Q E h => ?_) (fun cdv A outer s H vs Q E hr h => ?_)
  · obtain ⟨a, rs, rfl, _⟩ := h
    rfl
  · obtain ⟨a, rs, rfl, ⟨dx, l, eb, el⟩, q⟩ := h
    refine ⟨_, pss_one (ps_ret (pe_callB call_len_seq (by rfl) B.len PySem.boot_len (pa_cons (pe_fld (pv 0) rfl) pa_nil))), ?_⟩
    refine ⟨_, rfl, a, C, dx, _, _, rfl, eb, cl, na, lkR, l, _, rfl, .inl (SqL.of el), ?_⟩
    rw [List.length_map]
    exact q
/-- Book.__add__ of two books without a label in common -/
def spBookAdd (CR C : Addr) : Sp := fun vs H Q _ => ∃ (a b : Addr) (rs ss : List Addr) (xs ys : List Rl), vs = [.ref a, .ref b] ∧ BA C H a rs ∧ RAs CR H rs xs ∧ BA C H b ss ∧ RAs CR H ss ys ∧ ((xs ++ ys).map Rl.l).Nodup ∧ xs.length + ys.length ≤ 100 ∧
  ∀ (b2 : Addr) (H' : Hp), H b2 = none → BA C H' b2 (rs ++ ss) → Same H H' → Q (.ref b2) H'
theorem scBookAdd : FnScope ["self", "other"] ["self", "other"] (defScope sBookAdd) := ⟨rfl, rfl, rfl, by decide +kernel, rfl, by decide +kernel, by decide +kernel⟩
theorem ok_bookAdd {f C CR fL fI fH fR : Addr} {fd dL dI dH dR : FuncData} (F : Fun K "__add__" "Book.__add__" sBookAdd f fd) (B : Bp mg) (cl : Cls K C) (na : NoAttr K C "_rules") (I : IC K C) (gB : mg "Book" = some (.ref C))
    (GL : FnOk P w K mg base CX0 3 fL dL ["self"] (spBookLabels CR C)) (mL : Meth K C "labels" fL) (bL : Binds K dL ["self"] [])
    (GR : FnOk P w K mg base CX0 1 fR dR ["self"] (spGetL C "_rules")) (mR : Meth K C "rules" fR) (bR : Binds K dR ["self"] [])
    (GH : FnOk P w K mg base CX0 1 fH dH ["labels"] (spHasDouble K)) (kH : PySem.W.keepIn K (.ref fH) = true) (gH : mg "_has_double" = some (.ref fH)) (bH : Binds K dH ["labels"] [])
    (GI : FnOk P w K mg base CX0 3 fI dI ["self", "rules"] (spBookInit CR C)) (MI : Mk K C fI) (bI : Binds K dI ["self", "rules"] []) : FnOk P w K mg base CX0 5 f fd ["self", "other"] (spBookAdd CR C) := by
  refine F.ok scBookAdd (fun vs H Q E h => ?_) (fun cdv A outer s H vs Q E hr h => ?_)
  · obtain ⟨a, b, rs, ss, xs, ys, rfl, _⟩ := h
    rfl
  · obtain ⟨a, b, rs, ss, xs, ys, rfl, ba, hx, bb, hy, nd, hl, q⟩ := h
    obtain ⟨dx, l, eb, el⟩ := id ba
    obtain ⟨dy, m, eb2, el2⟩ := id bb
    have hr1 : Room 1 _ := hr.mono (by decide)
    have hr3 : Room 3 _ := hr.mono (by decide)
    have lx := hx.len
    have ly := hy.len
    refine ⟨_, pss_cons (ps_if (PW.pt (pw_or (pt_not (pt_val (pe_callB call_isi (by rfl) B.isi bootIsi (pa_cons (pv 1) (pa_cons (pe_glob (v := V.ref C) (by rfl) gB rfl) pa_nil)))))
        (pw_or1 (pt_val (by exact (pe_call GH hr1 (by rfl) gH kH bH .nil pass0 (pa_cons (pe_op op_cat (by exact (pe_meth0 (pv 0) cl mL GL hr3 bL .nil pass0)) (by exact (pe_meth0 (pv 1) cl mL GL hr3 bL .nil pass0))) pa_nil))))))) (pss_one ps_never) pss_nil)
      (pss_one (ps_ret (by exact (pe_make MI GI hr (by rfl) gB bI .nil pass0 (pa_cons (pe_op op_cat (by exact (pe_meth0 (pv 0) cl mR GR hr1 bR .nil pass0)) (by exact (pe_meth0 (pv 1) cl mR GR hr1 bR .nil pass0))) pa_nil))))), ?_⟩
    refine ⟨_, rfl, _, _, _, _, true, rfl, .own _, .base (.ins eb2 cl I.ha I.hn I.ht I.hm), I.me, true, rfl, iteF ?_⟩
    refine ⟨_, rfl, a, dx, _, rfl, eb, (lk_no (by decide +kernel)), a, rs, xs, rfl, ba, hx, by omega, fun p1 H1 n1 s1 e1 => ?_⟩
    refine ⟨_, rfl, b, dy, _, rfl, s1 _ _ eb2, (lk_no (by decide +kernel)), b, ss, ys, rfl, bb.same s1, hy.same s1, by omega, fun p2 H2 n2 s2 e2 => ?_⟩
    refine ⟨_, _, _, _, rfl, rfl, s2 _ _ e1, e2, ?_, fun p3 n3 => ?_⟩
    · rw [List.length_map, List.length_map, List.length_map, List.length_map]
      exact Nat.le_trans (by omega : _ ≤ 1000) (by decide)
    · have s12 := s1.trans s2
      have s3 : Same H (upd H2 p3 (.lst ((xs.map Rl.l).map V.str ++ (ys.map Rl.l).map V.str))) := same_put s12 (s12.free n3)
      have e3 : upd H2 p3 (.lst ((xs.map Rl.l).map V.str ++ (ys.map Rl.l).map V.str)) p3 = some (.lst (((xs ++ ys).map Rl.l).map V.str)) := by rw [upd_same, List.map_append, List.map_append]
      generalize upd H2 p3 (.lst ((xs.map Rl.l).map V.str ++ (ys.map Rl.l).map V.str)) = G at s3 e3 ⊢
      refine ⟨p3, (xs ++ ys).map Rl.l, rfl, SqL.of e3, by rw [List.length_map, List.length_append]; omega, _, rfl, ?_⟩
      rw [decide_eq_true nd]
      refine iteF ?_
      refine ⟨_, rfl, a, dx, _, rfl, s3 _ _ eb, (lk_no (by decide +kernel)), a, dx, l, _, _, rfl, s3 _ _ eb, lkR, s3 _ _ el, fun p4 n4 => ?_⟩
      have s4 : Same H (upd G p4 (.lst (rs.map V.ref))) := same_put s3 (s3.free n4)
      have e4 : upd G p4 (.lst (rs.map V.ref)) p4 = some (.lst (rs.map V.ref)) := upd_same
      generalize upd G p4 (.lst (rs.map V.ref)) = G4 at s4 e4 ⊢
      refine ⟨_, rfl, b, dy, _, rfl, s4 _ _ eb2, (lk_no (by decide +kernel)), b, dy, m, _, _, rfl, s4 _ _ eb2, lkR, s4 _ _ el2, fun p5 n5 => ?_⟩
      have s5 : Same H (upd G4 p5 (.lst (ss.map V.ref))) := same_put s4 (s4.free n5)
      have e5 : upd G4 p5 (.lst (ss.map V.ref)) p5 = some (.lst (ss.map V.ref)) := upd_same
      have e45 : upd G4 p5 (.lst (ss.map V.ref)) p4 = some (.lst (rs.map V.ref)) := same_new n5 _ _ e4
      generalize upd G4 p5 (.lst (ss.map V.ref)) = G5 at s5 e5 e45 ⊢
      refine ⟨_, _, _, _, rfl, rfl, e45, e5, ?_, fun p6 n6 => ?_⟩
      · rw [List.length_map, List.length_map]
        exact Nat.le_trans (by omega : _ ≤ 1000) (by decide)
      · rw [← List.map_append]
        have s6 : Same H (upd G5 p6 (.lst ((rs ++ ss).map V.ref))) := same_put s5 (s5.free n6)
        have e6 : upd G5 p6 (.lst ((rs ++ ss).map V.ref)) p6 = some (.lst ((rs ++ ss).map V.ref)) := upd_same
        generalize upd G5 p6 (.lst ((rs ++ ss).map V.ref)) = G6 at s6 e6 ⊢
        intro x dx2 nx ndx ne
        have s7 : Same G6 (upd (upd G6 dx2 (.own x)) x (.ins C dx2 [])) := fun b o e => by
          rw [upd_ne (ne_of_none e nx), upd_ne (ne_of_none e ndx)]
          exact e
        refine ⟨x, dx2, p6, rs ++ ss, xs ++ ys, rfl, upd_same, s7 _ _ e6, RAs.same (RAs.same (hx.app hy) s6) s7, nd, by rw [List.length_append]; omega, fun l1 H8 n8 sb e8 e9 => ⟨rfl, ?_⟩⟩
        exact q x H8 (s6.free nx) ⟨dx2, l1, e8, e9⟩ (made_same s6 nx ndx sb)
end
end Nv
set_option maxHeartbeats 4000000
namespace Nv
open PySem PySem.Spec PyProof.Rows L2
section
variable {P : Program} {w : World} {K : PySem.W.Frag} {mg : Str → Option Value} {base : Heap}
def spQEq (K : PySem.W.Frag) (C : Addr) : Sp := fun vs H Q _ => ∃ (a : Addr) (x : Ql) (v : V), vs = [.ref a, v] ∧ QA C H a x ∧ x.Ok ∧
  ((∃ (b : Addr) (y : Ql), v = .ref b ∧ QA C H b y ∧ y.Ok ∧ Q (.bl (decide (x = y))) H) ∨ (∃ t : Value, TyX K H v t ∧ PySem.W.kitOne K t (.ref C) = some false ∧ Q (.bl false) H))
theorem scQEq : FnScope ["self", "other"] ["self", "other"] (defScope sQEq) := ⟨rfl, rfl, rfl, by decide +kernel, rfl, by decide +kernel, by decide +kernel⟩
theorem ok_qEq {f C : Addr} {fd : FuncData} (F : Fun K "__eq__" "Question.__eq__" sQEq f fd) (B : Bp mg) (R : QC K C) (I : IC K C) (gC : mg "Question" = some (.ref C)) : FnOk P w K mg base CX0 1 f fd ["self", "other"] (spQEq K C) := by
  refine F.ok scQEq (fun vs H Q E h => ?_) (fun cdv A outer s H vs Q E hr h => ?_)
  · obtain ⟨a, x, v, rfl, _⟩ := h
    rfl
  · obtain ⟨a, x, v, rfl, ra, xo, h⟩ := h
    refine ⟨_, pss_cons (ps_if (pt_not (pt_val (pe_callB call_isi (by rfl) B.isi bootIsi (pa_cons (pv 1) (pa_cons (pe_glob (v := V.ref C) (by rfl) gC rfl) pa_nil))))) (pss_one (ps_ret pe_bl)) pss_nil)
      (pss_one (ps_ret (pe_and (pe_cmpR (op_eqD hr.units) (pe_fld (pv 0) rfl) (pe_fld (pv 1) rfl) (nomark _)) (pe_and (pe_cmpR (op_eqD hr.units) (pe_fld (pv 0) rfl) (pe_fld (pv 1) rfl) (nomark _)) (pe_one (pe_cmpR (op_eqD hr.units) (pe_fld (pv 0) rfl) (pe_fld (pv 1) rfl) (nomark _))))))), ?_⟩
    rcases h with ⟨b, y, rfl, rb, yo, q⟩ | ⟨t, ht, hk, q⟩
    · obtain ⟨dx, l1, l2, l3, us, us2, e, e1, ⟨e2, p2⟩, e3, p3⟩ := ra
      obtain ⟨dx', m1, m2, m3, ws, ws2, g, g1, ⟨g2, r2⟩, g3, r3⟩ := rb
      refine ⟨_, rfl, _, _, _, _, true, rfl, .own _, .base (.ins g R.cl I.ha I.hn I.ht I.hm), I.me, true, rfl, iteF ?_⟩
      obtain ⟨xc, xp, xq⟩ := x
      obtain ⟨yc, yp, yq⟩ := y
      have no : (⟨xc, xp, xq⟩ : Ql) ≠ ⟨yc, yp, yq⟩ → Q (.bl false) H := fun z => by
        rw [decide_eq_false z] at q
        exact q
      refine ⟨_, rfl, a, C, dx, _, _, rfl, e, R.cl, R.n1, qk1, _, rfl, b, C, dx', _, _, rfl, g, R.cl, R.n1, qk1, dS xc, dS yc, dp_S (SqL.of e1), dp_S (SqL.of g1), (lay_dS fun p hp => (xo.cs p hp).asc).shaped (by decide), (lay_dS fun p hp => (yo.cs p hp).asc).shaped (by decide), ?_⟩
      rw [eqv_S]
      refine ⟨_, rfl, ?_⟩
      by_cases z1 : xc = yc
      · rw [decide_eq_true z1]
        refine iteT ?_
        refine ⟨_, rfl, a, C, dx, _, _, rfl, e, R.cl, R.n2, qk2, _, rfl, b, C, dx', _, _, rfl, g, R.cl, R.n2, qk2, dL xp, dL yp, dp_L (SqL.of e2) p2, dp_L (SqL.of g2) r2, (lay_dL fun p hp => (xo.ps p hp).asc).shaped (by decide), (lay_dL fun p hp => (yo.ps p hp).asc).shaped (by decide), ?_⟩
        rw [eqv_L]
        refine ⟨_, rfl, ?_⟩
        by_cases z2 : xp = yp
        · rw [decide_eq_true z2]
          refine iteT ?_
          refine ⟨_, rfl, a, C, dx, _, _, rfl, e, R.cl, R.n3, qk3, _, rfl, b, C, dx', _, _, rfl, g, R.cl, R.n3, qk3, dL xq, dL yq, dp_L (SqL.of e3) p3, dp_L (SqL.of g3) r3, (lay_dL fun p hp => (xo.qs p hp).asc).shaped (by decide), (lay_dL fun p hp => (yo.qs p hp).asc).shaped (by decide), ?_⟩
          rw [eqv_L]
          have e5 : decide ((⟨xc, xp, xq⟩ : Ql) = ⟨yc, yp, yq⟩) = decide (xq = yq) := decide_eq_decide.mpr ⟨fun w => by injection w, fun w => by rw [z1, z2, w]⟩
          rw [e5] at q
          exact q
        · rw [decide_eq_false z2]
          exact iteF (no fun w => z2 (by injection w))
      · rw [decide_eq_false z1]
        exact iteF (no fun w => z1 (by injection w))
    · refine ⟨_, rfl, _, _, _, _, false, rfl, .own _, ht, hk, false, rfl, iteT ?_⟩
      exact q
end
end Nv
set_option maxHeartbeats 4000000
namespace Nv
open PySem PySem.Spec PyProof.Rows L2
/-! # rules, questions, books made and compared (from Lr1, Mk1, Mk2, Mk5, Mk6, without what asks for draws or repr) -/
def RAn (C : Addr) (H H' : Hp) (r : Addr) (x : Rl) : Prop := ∃ (dx th l1 l2 l3 : Addr) (us us2 us3 : List V), (H r = none ∧ H l1 = none ∧ H l2 = none ∧ H l3 = none) ∧ (H' r = some (.ins C dx (ruleF x.l th l1 l2 l3)) ∧ H' th = some (.tup (x.h.map V.str)) ∧ (H' l1 = some (.lst us) ∧ PaL H' us x.ps) ∧ (H' l2 = some (.lst us2) ∧ PaL H' us2 x.qs) ∧ H' l3 = some (.lst us3) ∧ PaL H' us3 x.ds)
structure Clo (y : Rl) : Prop where
  h : hasMore y.h.tail y.ps = false
  q : hasMore y.qs.flatten y.ps = false
  d : hasMore (tails y.ds) y.ps = false
theorem RAn.ra {C : Addr} {H H' : Hp} {r : Addr} {x : Rl} (h : RAn C H H' r x) : RA C H' r x := by
  obtain ⟨dx, th, l1, l2, l3, us, us2, us3, _, h⟩ := h
  exact ⟨dx, th, l1, l2, l3, us, us2, us3, h⟩
theorem mk_rule {H : Hp} {C x dx th tt : Addr} {y : Rl} {us : List V} {vp vd : V} {Q : VK} (ok : y.Ok) (cl : Clo y) (nx : H x = none) (ndx : H dx = none) (eth : H th = some (.tup (y.h.map V.str))) (ett : H tt = some (.lst us)) (pp : PaL H us y.ps) (op : Opt H vp y.qs) (od : Opt H vd y.ds)
    (q : ∀ H', Same H H' → RAn C H H' x y → Q .non H') : spRuleInit C [.ref x, .str y.l, .ref th, .ref tt, vp, vd] (upd (upd H dx (.own x)) x (.ins C dx [])) Q E0 := by
  have sK : Same H (upd (upd H dx (.own x)) x (.ins C dx [])) := fun b o e => by
    rw [upd_ne (ne_of_none e nx), upd_ne (ne_of_none e ndx)]
    exact e
  have ex : upd (upd H dx (.own x)) x (.ins C dx []) x = some (.ins C dx []) := upd_same
  have mk : ∀ {H2 : Hp}, Sb x (upd (upd H dx (.own x)) x (.ins C dx [])) H2 → Same H H2 := fun sb => made_same (Same.refl H) nx ndx sb
  generalize upd (upd H dx (.own x)) x (.ins C dx []) = K2 at sK ex mk ⊢
  refine ⟨x, dx, y.l, th, tt, y.h, us, y.ps, vp, y.qs, vd, y.ds, rfl, ex, ok.l, ⟨sK _ _ eth, ok.h⟩, ⟨sK _ _ ett, pp.same sK, ok.ps, ok.pl⟩, ⟨op.same sK, ok.qs⟩, ⟨od.same sK, ok.ds⟩, ⟨cl.h, cl.q, cl.d⟩, ?_⟩
  intro l1 l2 l3 us2 us4 H' f1 f2 f3 sb er el1 el2 pl2 el3 pl3
  have thx : th ≠ x := fun z => by
    rw [z, nx] at eth
    cases eth
  refine q H' (mk sb) ⟨dx, th, l1, l2, l3, us, us2, us4, ⟨nx, sK.free f1, sK.free f2, sK.free f3⟩, er, sb _ _ thx (sK _ _ eth), ⟨el1, (pp.same sK).sbo ex sb⟩, ⟨el2, pl2⟩, el3, pl3⟩
theorem opt_of {H : Hp} {a : Addr} {us : List V} {ps : List (List Str)} (e : H a = some (.lst us)) (h : PaL H us ps) (l : ps.length ≤ 300) : Opt H (.ref a) ps := .inr ⟨a, us, rfl, e, h, l⟩
section
variable {K : PySem.W.Frag} {C : Addr} {H : Hp} {a c : Addr} {x y : Rl} {v : V} {Q : VK}
theorem eq_rules (R : RC K C) (I : IC K C) (ra : RA C H a x) (xo : x.Ok) (rc : RA C H c y) (yo : y.Ok) (q : Q (.bl (decide (x = y))) H) : rOwnEq K C (spRuleEq K C) (.ref a) (.ref c) H Q := by
  obtain ⟨dx, th, l1, l2, l3, us, us2, us3, e, _⟩ := id ra
  obtain ⟨dx', th', m1, m2, m3, ws, ws2, ws3, e', _⟩ := id rc
  exact ⟨a, dx, _, _, rfl, e, .base (.ins e' R.cl I.ha I.hn I.ht I.hm), by simp [PySem.W.notFirst], a, x, _, rfl, ra, xo, .inl ⟨c, y, rfl, rc, yo, _, rfl, q⟩⟩
theorem ne_rules (R : RC K C) (I : IC K C) (ra : RA C H a x) (xo : x.Ok) (rc : RA C H c y) (yo : y.Ok) (q : Q (.bl (!decide (x = y))) H) : rOwnNe K C (spRuleEq K C) (.ref a) (.ref c) H Q := by
  obtain ⟨dx, th, l1, l2, l3, us, us2, us3, e, _⟩ := id ra
  obtain ⟨dx', th', m1, m2, m3, ws, ws2, ws3, e', _⟩ := id rc
  exact ⟨a, dx, _, _, rfl, e, .base (.ins e' R.cl I.ha I.hn I.ht I.hm), by simp [PySem.W.notFirst], a, x, _, rfl, ra, xo, .inl ⟨c, y, rfl, rc, yo, _, rfl, q⟩⟩
end
structure QClo (y : Ql) : Prop where
  c : hasMore y.cs y.ps = false
  q : hasMore y.qs.flatten y.ps = false
def QAn (C : Addr) (H H' : Hp) (r : Addr) (x : Ql) : Prop := ∃ (dx l1 l2 l3 : Addr) (us us2 : List V), (H r = none ∧ H l1 = none ∧ H l2 = none ∧ H l3 = none) ∧ H' r = some (.ins C dx (qF l1 l2 l3)) ∧ H' l1 = some (.lst (x.cs.map V.str)) ∧ (H' l2 = some (.lst us) ∧ PaL H' us x.ps) ∧ H' l3 = some (.lst us2) ∧ PaL H' us2 x.qs
theorem QAn.ra {C : Addr} {H H' : Hp} {r : Addr} {x : Ql} (h : QAn C H H' r x) : QA C H' r x := by
  obtain ⟨dx, l1, l2, l3, us, us2, _, h⟩ := h
  exact ⟨dx, l1, l2, l3, us, us2, h⟩
theorem QAn.same {C : Addr} {H H' H1 : Hp} {r : Addr} {x : Ql} (h : QAn C H H' r x) (s : Same H' H1) : QAn C H H1 r x := by
  obtain ⟨dx, l1, l2, l3, us, us2, n, e, e1, ⟨e2, p2⟩, e3, p3⟩ := h
  exact ⟨dx, l1, l2, l3, us, us2, n, s _ _ e, s _ _ e1, ⟨s _ _ e2, p2.same s⟩, s _ _ e3, p3.same s⟩
theorem mk_q {H : Hp} {C x dx tc tt : Addr} {y : Ql} {us : List V} {vp : V} {Q : VK} (ok : y.Ok) (cl : QClo y) (nx : H x = none) (ndx : H dx = none) (etc : H tc = some (.lst (y.cs.map V.str))) (ett : H tt = some (.lst us)) (pp : PaL H us y.ps) (op : Opt H vp y.qs)
    (q : ∀ H', Same H H' → QAn C H H' x y → Q .non H') : spQInit C [.ref x, .ref tc, .ref tt, vp] (upd (upd H dx (.own x)) x (.ins C dx [])) Q E0 := by
  have sK : Same H (upd (upd H dx (.own x)) x (.ins C dx [])) := fun b o e => by
    rw [upd_ne (ne_of_none e nx), upd_ne (ne_of_none e ndx)]
    exact e
  have ex : upd (upd H dx (.own x)) x (.ins C dx []) x = some (.ins C dx []) := upd_same
  have mk : ∀ {H2 : Hp}, Sb x (upd (upd H dx (.own x)) x (.ins C dx [])) H2 → Same H H2 := fun sb => made_same (Same.refl H) nx ndx sb
  generalize upd (upd H dx (.own x)) x (.ins C dx []) = K2 at sK ex mk ⊢
  refine ⟨x, dx, tc, tt, y.cs, us, y.ps, vp, y.qs, rfl, ex, ⟨sK _ _ etc, ok.cs, ok.cl⟩, ⟨sK _ _ ett, pp.same sK, ok.ps, ok.pl⟩, ⟨op.same sK, ok.qs⟩, ⟨cl.c, cl.q⟩, ?_⟩
  intro l1 l2 l3 us2 H' f1 f2 f3 sb er el1 el2 pl2 el3 pl3
  exact q H' (mk sb) ⟨dx, l1, l2, l3, us, us2, ⟨nx, sK.free f1, sK.free f2, sK.free f3⟩, er, el1, ⟨el2, pl2⟩, el3, pl3⟩
section
variable {K : PySem.W.Frag} {C : Addr} {H : Hp} {a c : Addr} {x y : Ql} {v : V} {Q : VK}
theorem eq_qs (R : QC K C) (I : IC K C) (ra : QA C H a x) (xo : x.Ok) (rc : QA C H c y) (yo : y.Ok) (q : Q (.bl (decide (x = y))) H) : rOwnEq K C (spQEq K C) (.ref a) (.ref c) H Q := by
  obtain ⟨dx, l1, l2, l3, us, us2, e, _⟩ := id ra
  obtain ⟨dx', m1, m2, m3, ws, ws2, e', _⟩ := id rc
  exact ⟨a, dx, _, _, rfl, e, .base (.ins e' R.cl I.ha I.hn I.ht I.hm), by simp [PySem.W.notFirst], a, x, _, rfl, ra, xo, .inl ⟨c, y, rfl, rc, yo, _, rfl, q⟩⟩
theorem ne_qs (R : QC K C) (I : IC K C) (ra : QA C H a x) (xo : x.Ok) (rc : QA C H c y) (yo : y.Ok) (q : Q (.bl (!decide (x = y))) H) : rOwnNe K C (spQEq K C) (.ref a) (.ref c) H Q := by
  obtain ⟨dx, l1, l2, l3, us, us2, e, _⟩ := id ra
  obtain ⟨dx', m1, m2, m3, ws, ws2, e', _⟩ := id rc
  exact ⟨a, dx, _, _, rfl, e, .base (.ins e' R.cl I.ha I.hn I.ht I.hm), by simp [PySem.W.notFirst], a, x, _, rfl, ra, xo, .inl ⟨c, y, rfl, rc, yo, _, rfl, q⟩⟩
end
theorem map_str_inj : ∀ {xs ys : List Str}, xs.map V.str = ys.map V.str → xs = ys
  | [], [], _ => rfl
  | [], _ :: _, h => nomatch h
  | _ :: _, [], h => nomatch h
  | x :: xs, y :: ys, h => by
    injection h with h1 h2
    injection h1 with h1
    rw [h1, map_str_inj h2]
theorem PaL.fn {H : Hp} {vs : List V} {ps qs : List (List Str)} (h : PaL H vs ps) (k : PaL H vs qs) : ps = qs := by
  induction h generalizing qs with
  | nil =>
    cases k
    rfl
  | cons e _ ih =>
    cases k with
    | cons e2 k2 =>
      rw [e] at e2
      injection e2 with e2
      injection e2 with e2
      rw [map_str_inj e2, ih k2]
theorem RA.fn {C : Addr} {H : Hp} {r : Addr} {x y : Rl} (h : RA C H r x) (k : RA C H r y) : x = y := by
  obtain ⟨dx, th, l1, l2, l3, us, us2, us3, e, et, ⟨e1, p1⟩, ⟨e2, p2⟩, e3, p3⟩ := h
  obtain ⟨dx', th', m1, m2, m3, ws, ws2, ws3, g, gt, ⟨g1, r1⟩, ⟨g2, r2⟩, g3, r3⟩ := k
  rw [e] at g
  injection g with g
  injection g with _ _ g
  injection g with ga g
  injection g with gb g
  injection g with gc g
  injection g with gd g
  injection g with ge g
  injection ga with _ ga
  injection ga with ga
  injection gb with _ gb
  injection gb with gb
  injection gc with _ gc
  injection gc with gc
  injection gd with _ gd
  injection gd with gd
  injection ge with _ ge
  injection ge with ge
  subst gb gc gd ge
  rw [et] at gt
  injection gt with gt
  injection gt with gt
  rw [e1] at g1
  injection g1 with g1
  injection g1 with g1
  subst g1
  rw [e2] at g2
  injection g2 with g2
  injection g2 with g2
  subst g2
  rw [e3] at g3
  injection g3 with g3
  injection g3 with g3
  subst g3
  obtain ⟨a, b, c, d, f⟩ := x
  obtain ⟨a', b', c', d', f'⟩ := y
  dsimp only at *
  rw [ga, map_str_inj gt, p1.fn r1, p2.fn r2, p3.fn r3]
theorem one_of {C : Addr} {H : Hp} {rs ss : List Addr} {xs ys : List Rl} (hx : RAs C H rs xs) (hy : RAs C H ss ys) : One rs ss xs ys := fun i r x y h1 h2 h3 h4 => by
  obtain ⟨x', e1, r1⟩ := hx.at_ h1
  obtain ⟨y', e2, r2⟩ := hy.at_ h2
  rw [h3] at e1
  rw [h4] at e2
  injection e1 with e1
  injection e2 with e2
  subst e1 e2
  exact r1.fn r2
def BAn (C : Addr) (H H' : Hp) (b : Addr) (rs : List Addr) : Prop := ∃ dx l : Addr, (H b = none ∧ H l = none) ∧ H' b = some (.ins C dx [("_rules", .ref l)]) ∧ H' l = some (.lst (rs.map V.ref))
section
variable {C CR : Addr} {H H1 : Hp} {b c x dx a : Addr} {rs ss : List Addr} {xs ys : List Rl} {Q : VK} {K : PySem.W.Frag}
theorem BAn.ba (h : BAn C H H1 b rs) : BA C H1 b rs := by
  obtain ⟨dx, l, _, h⟩ := h
  exact ⟨dx, l, h⟩
theorem mk_book (nx : H x = none) (ndx : H dx = none) (ea : H a = some (.lst (rs.map V.ref))) (hx : RAs CR H rs xs) (nd : (xs.map Rl.l).Nodup) (le : xs.length ≤ 100)
    (q : ∀ H', Same H H' → BAn C H H' x rs → Q .non H') : spBookInit CR C [.ref x, .ref a] (upd (upd H dx (.own x)) x (.ins C dx [])) Q E0 := by
  have sK : Same H (upd (upd H dx (.own x)) x (.ins C dx [])) := fun b o e => by
    rw [upd_ne (ne_of_none e nx), upd_ne (ne_of_none e ndx)]
    exact e
  have ex : upd (upd H dx (.own x)) x (.ins C dx []) x = some (.ins C dx []) := upd_same
  have mk : ∀ {H2 : Hp}, Sb x (upd (upd H dx (.own x)) x (.ins C dx [])) H2 → Same H H2 := fun sb => made_same (Same.refl H) nx ndx sb
  generalize upd (upd H dx (.own x)) x (.ins C dx []) = K2 at sK ex mk ⊢
  exact ⟨x, dx, a, rs, xs, rfl, ex, sK _ _ ea, hx.same sK, nd, le, fun l1 H' n1 sb e1 e2 => q H' (mk sb) ⟨dx, l1, ⟨nx, sK.free n1⟩, e1, e2⟩⟩
theorem eq_books (cl : Cls K C) (I : IC K C) (ba : BA C H b rs) (hx : RAs CR H rs xs) (ox : ∀ x ∈ xs, x.Ok) (bc : BA C H c ss) (hy : RAs CR H ss ys) (oy : ∀ y ∈ ys, y.Ok) (q : ∀ H', Same H H' → Q (.bl (decide (xs = ys))) H') : rOwnEq K C (spBookEq K CR C) (.ref b) (.ref c) H Q := by
  obtain ⟨dx, l, e, _⟩ := id ba
  obtain ⟨dy, m, e', _⟩ := id bc
  exact ⟨b, dx, _, _, rfl, e, .base (.ins e' cl I.ha I.hn I.ht I.hm), by simp [PySem.W.notFirst], b, rs, xs, _, rfl, ba, hx, ox, .inl ⟨c, ss, ys, rfl, bc, hy, oy, one_of hx hy, fun H' s => ⟨_, rfl, q H' s⟩⟩⟩
end
end Nv
set_option maxHeartbeats 4000000
namespace Nv
open PySem PySem.Spec PyProof.Rows L2
/-- a pair of unlike terms, one of them at least among the variables vs -/
def PrOk (vs : List Str) (q : List Str) : Prop := ∃ x y, q = [x, y] ∧ x ≠ y ∧ (x ∈ vs ∨ IsNm x) ∧ (y ∈ vs ∨ IsNm y) ∧ (x ∈ vs ∨ y ∈ vs)
section
variable {P : Program} {w : World} {K : PySem.W.Frag} {mg : Str → Option Value} {base : Heap}
theorem two_perm {α : Type} {x y : α} {zs : List α} (h : zs.Perm [x, y]) : zs = [x, y] ∨ zs = [y, x] := by
  have hl := h.length_eq
  match zs, hl with
  | [u, v], _ =>
    have hu : u = x ∨ u = y := by
      have := h.mem_iff.mp (List.mem_cons_self (a := u))
      simpa using this
    rcases hu with rfl | rfl
    · have h2 := (List.perm_cons u).mp h
      have := h2.mem_iff.mp (List.mem_singleton.mpr rfl : v ∈ [v])
      rw [List.mem_singleton.mp this]
      exact .inl rfl
    · have h2 : [v].Perm [x] := by
        have h3 : (u :: [v]).Perm (u :: [x]) := h.trans (List.Perm.swap _ _ _)
        exact (List.perm_cons u).mp h3
      have := h2.mem_iff.mp (List.mem_singleton.mpr rfl : v ∈ [v])
      rw [List.mem_singleton.mp this]
      exact .inr rfl
end
end Nv
set_option maxHeartbeats 4000000
namespace Nv
open PySem PySem.Spec PyProof.Rows L2
/-! # _law_parts -/
def body3 (t : Str) : List (List Str) := [["way", "X", "Y"], ["p", t], ["way", "Y", "X"]]
def BodyOk (ps : List (List Str)) : Prop := ∃ (t : Str) (j : Nat), (t = "X" ∨ t = "Y" ∨ t = "a") ∧ (j = 1 ∨ j = 2 ∨ j = 3) ∧ ps = (body3 t).take j
def GapsOk (qs : List (List Str)) : Prop := qs = [] ∨ qs = ([["X", "Y"]] : List (List Str)) ∨ qs = ([["X", "a"], ["X", "Y"]] : List (List Str))
def BarsOk (ds : List (List Str)) : Prop := ∃ j : Nat, (j = 0 ∨ j = 1 ∨ j = 2) ∧ ds = ([["rain"], ["q", "X"]] : List (List Str)).take j
section
variable {P : Program} {w : World} {K : PySem.W.Frag} {mg : Str → Option Value} {base : Heap}
def spParts : Sp := fun vs H Q _ => ∃ (a : Addr) (n : Nat), vs = [.ref a] ∧ Pu H a (n + 4) ∧
  ∀ (p tb tg td : Addr) (us uq ud : List V) (ps qs ds : List (List Str)) (H' : Hp), BodyOk ps → GapsOk qs → BarsOk ds → Pu H' a n → Sb a H H' → H' p = some (.lst [.ref tb, .ref tg, .ref td]) → (p ≠ a ∧ tb ≠ a ∧ tg ≠ a ∧ td ≠ a) →
    (H' tb = some (.lst us) ∧ PaL H' us ps) → (H' tg = some (.lst uq) ∧ PaL H' uq qs) → (H' td = some (.lst ud) ∧ PaL H' ud ds) → Q (.ref p) H'
theorem scParts : FnScope ["_law_purse_here", "_law_body", "_law_gaps"] ["_law_purse_here"] (defScope sParts) := ⟨rfl, rfl, rfl, by decide +kernel, rfl, by decide +kernel, by decide +kernel⟩
theorem cut_head {us : List V} {j : Nat} : cutV us none (some (j : Int)) = us.take j := by
  unfold cutV
  rw [HT.sIx_none, HT.sIx_nat, List.drop_zero, Nat.sub_zero]
  rcases Nat.lt_or_ge us.length j with h | h
  · rw [Nat.min_eq_right (by omega), List.take_of_length_le (Nat.le_refl _), List.take_of_length_le (by omega)]
  · rw [Nat.min_eq_left h]
theorem PaL.take {H : Hp} {vs : List V} {ps : List (List Str)} (h : PaL H vs ps) : ∀ j, PaL H (vs.take j) (ps.take j) := by
  induction h with
  | nil =>
    intro j
    rw [List.take_nil, List.take_nil]
    exact .nil
  | cons e _ ih =>
    intro j
    cases j with
    | zero => exact .nil
    | succ j => exact .cons e (ih j)
theorem ok_parts {f fD fO : Addr} {fd dD dO : FuncData} (F : Fun K "_law_parts" "_law_parts" sParts f fd) (GD : FnOk P w K mg base CX0 2 fD dD ["_law_purse_here", "_law_many"] spDraw) (kD : PySem.W.keepIn K (.ref fD) = true) (gD : mg "_law_draw" = some (.ref fD)) (bD : Binds K dD ["_law_purse_here", "_law_many"] [])
    (GO : FnOk P w K mg base CX0 3 fO dO ["_law_purse_here", "_law_some"] (spOneOf K)) (kO : PySem.W.keepIn K (.ref fO) = true) (gO : mg "_law_one_of" = some (.ref fO)) (bO : Binds K dO ["_law_purse_here", "_law_some"] []) :
    FnOk P w K mg base CX0 4 f fd ["_law_purse_here"] spParts := by
  refine F.ok scParts (fun vs H Q E h => ?_) (fun cdv A outer s H vs Q E hr h => ?_)
  · obtain ⟨a, n, rfl, _⟩ := h
    rfl
  · obtain ⟨a, n, rfl, pu, q⟩ := h
    have hr2 : Room 2 _ := hr.mono (by decide)
    refine ⟨_, pss_cons (ps_set (i := 1) scParts.nd rfl (Or.inl rfl) (pe_lst (pa_cons (pe_tup (pa_cons pe_str (pa_cons pe_str (pa_cons pe_str pa_nil)))) (pa_cons (pe_tup (pa_cons pe_str (pa_cons (by exact (pe_call GO hr (by rfl) gO kO bO .nil pass0 (pa_cons (pv 0) (pa_cons (pe_lst (pa_cons pe_str (pa_cons pe_str (pa_cons pe_str pa_nil)))) pa_nil)))) pa_nil)))
        (pa_cons (pe_tup (pa_cons pe_str (pa_cons pe_str (pa_cons pe_str pa_nil)))) pa_nil)))))
      (pss_cons (ps_set (i := 2) scParts.nd rfl (Or.inl rfl) (pe_ix ix_list (pe_lst (pa_cons (pe_lst pa_nil) (pa_cons (pe_lst (pa_cons (pe_tup (pa_cons pe_str (pa_cons pe_str pa_nil))) pa_nil)) (pa_cons (pe_lst (pa_cons (pe_tup (pa_cons pe_str (pa_cons pe_str pa_nil))) (pa_cons (pe_tup (pa_cons pe_str (pa_cons pe_str pa_nil))) pa_nil))) pa_nil))))
        (by exact (pe_call GD hr2 (by rfl) gD kD bD .nil pass0 (pa_cons (pv 0) (pa_cons pe_int pa_nil)))) (fun _ _ => rfl)))
      (pss_one (ps_ret (pe_lst (pa_cons (pe_slice sl_list (pv 1) po_none (po_some (pe_op op_add pe_int (by exact (pe_call GD hr2 (by rfl) gD kD bD .nil pass0 (pa_cons (pv 0) (pa_cons pe_int pa_nil)))))))
        (pa_cons (pv 2) (pa_cons (pe_slice sl_list (pe_lst (pa_cons (pe_tup (pa_cons pe_str pa_nil)) (pa_cons (pe_tup (pa_cons pe_str (pa_cons pe_str pa_nil))) pa_nil))) po_none (po_some (by exact (pe_call GD hr2 (by rfl) gD kD bD .nil pass0 (pa_cons (pv 0) (pa_cons pe_int pa_nil)))))) pa_nil))))))), ?_⟩
    refine ⟨by show 3 ≤ _; decide, fun t1 n1 => ?_⟩
    have s1 : Same H (upd H t1 (.tup [.str "way", .str "X", .str "Y"])) := same_new n1
    have e1 : upd H t1 (.tup [.str "way", .str "X", .str "Y"]) t1 = some (.tup [.str "way", .str "X", .str "Y"]) := upd_same
    generalize upd H t1 (.tup [.str "way", .str "X", .str "Y"]) = H1 at s1 e1 ⊢
    refine ⟨_, rfl, by show 3 ≤ _; decide, fun b nb => ?_⟩
    have pu1 := pu.same s1
    have s2 : Same H1 (upd H1 b (.lst [.str "X", .str "Y", .str "a"])) := same_new nb
    have e2 : upd H1 b (.lst [.str "X", .str "Y", .str "a"]) b = some (.lst [.str "X", .str "Y", .str "a"]) := upd_same
    have ba : b ≠ a := pu1.ne nb
    generalize upd H1 b (.lst [.str "X", .str "Y", .str "a"]) = H2 at s2 e2 ⊢
    have pu2 := pu1.same s2
    refine ⟨a, b, n + 3, _, rfl, pu2, SqL.of e2, ba, ⟨by show 1 ≤ 3; decide, by show 3 ≤ 1000; decide⟩, fun v H3 hv pu3 sb3 => ⟨by show 2 ≤ _; decide, fun t2 n2 => ?_⟩⟩
    obtain ⟨t, rfl, ht⟩ : ∃ t : Str, v = .str t ∧ (t = "X" ∨ t = "Y" ∨ t = "a") := by
      rcases List.mem_cons.mp hv with rfl | hv
      · exact ⟨_, rfl, .inl rfl⟩
      rcases List.mem_cons.mp hv with rfl | hv
      · exact ⟨_, rfl, .inr (.inl rfl)⟩
      rw [List.mem_singleton.mp hv]
      exact ⟨_, rfl, .inr (.inr rfl)⟩
    have h1 : PaL H1 [.ref t1] ([["way", "X", "Y"]] : List (List Str)) := .cons e1 .nil
    have h3 : PaL H3 [.ref t1] ([["way", "X", "Y"]] : List (List Str)) := (h1.same s2).sb pu2 sb3
    have sb03 : Sb a H H3 := (Sb.of (s1.trans s2)).trans sb3
    have s4 : Same H3 (upd H3 t2 (.tup [.str "p", .str t])) := same_new n2
    have e4 : upd H3 t2 (.tup [.str "p", .str t]) t2 = some (.tup [.str "p", .str t]) := upd_same
    generalize upd H3 t2 (.tup [.str "p", .str t]) = H4 at s4 e4 ⊢
    refine ⟨by show 3 ≤ _; decide, fun t3 n3 => ?_⟩
    have s5 : Same H4 (upd H4 t3 (.tup [.str "way", .str "Y", .str "X"])) := same_new n3
    have e5 : upd H4 t3 (.tup [.str "way", .str "Y", .str "X"]) t3 = some (.tup [.str "way", .str "Y", .str "X"]) := upd_same
    generalize upd H4 t3 (.tup [.str "way", .str "Y", .str "X"]) = H5 at s5 e5 ⊢
    refine ⟨by show 3 ≤ _; decide, fun lb nlb => ?_⟩
    have hb5 : PaL H5 [.ref t1, .ref t2, .ref t3] (body3 t) := ((h3.same s4).same s5).app (.cons (s5 _ _ e4) (.cons e5 .nil))
    have pu5 := (pu3.same s4).same s5
    have lba : lb ≠ a := pu5.ne nlb
    have s6 : Same H5 (upd H5 lb (.lst [.ref t1, .ref t2, .ref t3])) := same_new nlb
    have elb : upd H5 lb (.lst [.ref t1, .ref t2, .ref t3]) lb = some (.lst [.ref t1, .ref t2, .ref t3]) := upd_same
    generalize upd H5 lb (.lst [.ref t1, .ref t2, .ref t3]) = H6 at s6 elb ⊢
    have hb6 := hb5.same s6
    have pu6 := pu5.same s6
    have sb06 : Sb a H H6 := sb03.then ((s4.trans s5).trans s6)
    clear s1 s2 s4 s5 s6 e1 e2 e4 e5 pu1 pu2 pu3 pu5 hb5 h1 h3 sb03 sb3 n1 nb n2 n3 nlb
    show tSeq _ _ _ _ _
    -- the gaps
    refine ⟨by show 0 ≤ _; exact Nat.zero_le _, fun g0 m0 => ?_⟩
    have r1 : Same H6 (upd H6 g0 (.lst [])) := same_new m0
    have g0a : g0 ≠ a := pu6.ne m0
    have f1 : upd H6 g0 (.lst []) g0 = some (.lst []) := upd_same
    generalize upd H6 g0 (.lst []) = G1 at r1 f1 ⊢
    refine ⟨by show 2 ≤ _; decide, fun u1 m1 => ?_⟩
    have r2 : Same G1 (upd G1 u1 (.tup [.str "X", .str "Y"])) := same_new m1
    have f2 : upd G1 u1 (.tup [.str "X", .str "Y"]) u1 = some (.tup [.str "X", .str "Y"]) := upd_same
    generalize upd G1 u1 (.tup [.str "X", .str "Y"]) = G2 at r2 f2 ⊢
    refine ⟨by show 1 ≤ _; decide, fun g1 m2 => ?_⟩
    have pg2 := (pu6.same r1).same r2
    have g1a : g1 ≠ a := pg2.ne m2
    have r3 : Same G2 (upd G2 g1 (.lst [.ref u1])) := same_new m2
    have f3 : upd G2 g1 (.lst [.ref u1]) g1 = some (.lst [.ref u1]) := upd_same
    generalize upd G2 g1 (.lst [.ref u1]) = G3 at r3 f3 ⊢
    refine ⟨by show 2 ≤ _; decide, fun u2 m3 => ?_⟩
    have r4 : Same G3 (upd G3 u2 (.tup [.str "X", .str "a"])) := same_new m3
    have f4 : upd G3 u2 (.tup [.str "X", .str "a"]) u2 = some (.tup [.str "X", .str "a"]) := upd_same
    generalize upd G3 u2 (.tup [.str "X", .str "a"]) = G4 at r4 f4 ⊢
    refine ⟨by show 2 ≤ _; decide, fun u3 m4 => ?_⟩
    have r5 : Same G4 (upd G4 u3 (.tup [.str "X", .str "Y"])) := same_new m4
    have f5 : upd G4 u3 (.tup [.str "X", .str "Y"]) u3 = some (.tup [.str "X", .str "Y"]) := upd_same
    generalize upd G4 u3 (.tup [.str "X", .str "Y"]) = G5 at r5 f5 ⊢
    refine ⟨by show 2 ≤ _; decide, fun g2 m5 => ?_⟩
    have pg5 := ((pg2.same r3).same r4).same r5
    have g2a : g2 ≠ a := pg5.ne m5
    have r6 : Same G5 (upd G5 g2 (.lst [.ref u2, .ref u3])) := same_new m5
    have f6 : upd G5 g2 (.lst [.ref u2, .ref u3]) g2 = some (.lst [.ref u2, .ref u3]) := upd_same
    generalize upd G5 g2 (.lst [.ref u2, .ref u3]) = G6 at r6 f6 ⊢
    refine ⟨by show 3 ≤ _; decide, fun gg m6 => ?_⟩
    have pg6 := pg5.same r6
    have gga : gg ≠ a := pg6.ne m6
    have r7 : Same G6 (upd G6 gg (.lst [.ref g0, .ref g1, .ref g2])) := same_new m6
    have f7 : upd G6 gg (.lst [.ref g0, .ref g1, .ref g2]) gg = some (.lst [.ref g0, .ref g1, .ref g2]) := upd_same
    generalize upd G6 gg (.lst [.ref g0, .ref g1, .ref g2]) = G7 at r7 f7 ⊢
    have r67 := r6.trans r7
    have r57 := r5.trans r67
    have r47 := r4.trans r57
    have r37 := r3.trans r47
    have r27 := r2.trans r37
    have r17 := r1.trans r27
    have pg7 := pg6.same r7
    refine ⟨_, rfl, ?_⟩
    dsimp only [tNil]
    refine ⟨a, n + 2, 3, rfl, pg7, ⟨by decide, by decide⟩, fun y H8 y0 y1 pu8 sb8 => ?_⟩
    obtain ⟨j, rfl⟩ : ∃ j : Nat, y = (j : Int) := ⟨y.toNat, by omega⟩
    have hb8 := (hb6.same r17).sb pg7 sb8
    have elb8 := sb8 _ _ lba (r17 _ _ elb)
    obtain ⟨gv, uq, qs, hgv, gva, egv, hq8, gok⟩ : ∃ (gv : Addr) (uq : List V) (qs : List (List Str)), ([V.ref g0, V.ref g1, V.ref g2])[j]? = some (.ref gv) ∧ gv ≠ a ∧ H8 gv = some (.lst uq) ∧ PaL H8 uq qs ∧ GapsOk qs := by
      rcases (show j = 0 ∨ j = 1 ∨ j = 2 by omega) with rfl | rfl | rfl
      · exact ⟨g0, [], [], rfl, g0a, sb8 _ _ g0a (r27 _ _ f1), .nil, .inl rfl⟩
      · have h : PaL G7 [.ref u1] ([["X", "Y"]] : List (List Str)) := .cons (r37 _ _ f2) .nil
        exact ⟨g1, _, _, rfl, g1a, sb8 _ _ g1a (r47 _ _ f3), h.sb pg7 sb8, .inr (.inl rfl)⟩
      · have h : PaL G7 [.ref u2, .ref u3] ([["X", "a"], ["X", "Y"]] : List (List Str)) := .cons (r57 _ _ f4) (.cons (r67 _ _ f5) .nil)
        exact ⟨g2, _, _, rfl, g2a, sb8 _ _ g2a (r7 _ _ f6), h.sb pg7 sb8, .inr (.inr rfl)⟩
    have sb08 : Sb a H H8 := (sb06.then r17).trans sb8
    refine ⟨gg, _, _, .ref gv, rfl, rfl, SqL.of (sb8 _ _ gga f7), atI_nat hgv, ?_⟩
    clear r1 r2 r3 r4 r5 r6 r7 r67 r57 r47 r37 r27 r17 f1 f2 f3 f4 f5 f6 f7 pg2 pg5 pg6 pg7 hb6 elb sb06 sb8 pu6 m0 m1 m2 m3 m4 m5 m6
    -- what is told
    refine ⟨_, rfl, _, rfl, ?_⟩
    dsimp only [tNil]
    refine ⟨a, n + 1, 3, rfl, pu8, ⟨by decide, by decide⟩, fun y H9 y0' y1' pu9 sb9 => ?_⟩
    obtain ⟨k, rfl⟩ : ∃ k : Nat, y = (k : Int) := ⟨y.toNat, by omega⟩
    refine ⟨_, _, rfl, rfl, _, rfl, lb, _, rfl, SqL.of (sb9 _ _ lba elb8), fun tb ntb => ?_⟩
    have tba : tb ≠ a := pu9.ne ntb
    have ck : (1 : Int) + (k : Int) = ((1 + k : Nat) : Int) := by omega
    rw [ck, cut_head]
    have s10 : Same H9 (upd H9 tb (.lst (([.ref t1, .ref t2, .ref t3] : List V).take (1 + k)))) := same_new ntb
    have etb : upd H9 tb (.lst (([.ref t1, .ref t2, .ref t3] : List V).take (1 + k))) tb = some (.lst (([.ref t1, .ref t2, .ref t3] : List V).take (1 + k))) := upd_same
    generalize upd H9 tb (.lst (([.ref t1, .ref t2, .ref t3] : List V).take (1 + k))) = I1 at s10 etb ⊢
    have hbI := ((hb8.sb pu8 sb9).same s10).take (1 + k)
    have egI := s10 _ _ (sb9 _ _ gva egv)
    have hqI := (hq8.sb pu8 sb9).same s10
    have puI := pu9.same s10
    have sbI : Sb a H I1 := (sb08.trans sb9).then s10
    refine ⟨_, rfl, ?_⟩
    refine ⟨by show 1 ≤ _; decide, fun w1 k1 => ?_⟩
    have q1 : Same I1 (upd I1 w1 (.tup [.str "rain"])) := same_new k1
    have w1e : upd I1 w1 (.tup [.str "rain"]) w1 = some (.tup [.str "rain"]) := upd_same
    generalize upd I1 w1 (.tup [.str "rain"]) = I2 at q1 w1e ⊢
    refine ⟨by show 2 ≤ _; decide, fun w2 k2 => ?_⟩
    have q2 : Same I2 (upd I2 w2 (.tup [.str "q", .str "X"])) := same_new k2
    have w2e : upd I2 w2 (.tup [.str "q", .str "X"]) w2 = some (.tup [.str "q", .str "X"]) := upd_same
    generalize upd I2 w2 (.tup [.str "q", .str "X"]) = I3 at q2 w2e ⊢
    refine ⟨by show 2 ≤ _; decide, fun w3 k3 => ?_⟩
    have pu3 := (puI.same q1).same q2
    have w3a : w3 ≠ a := pu3.ne k3
    have q3 : Same I3 (upd I3 w3 (.lst [.ref w1, .ref w2])) := same_new k3
    have w3e : upd I3 w3 (.lst [.ref w1, .ref w2]) w3 = some (.lst [.ref w1, .ref w2]) := upd_same
    generalize upd I3 w3 (.lst [.ref w1, .ref w2]) = I4 at q3 w3e ⊢
    have q14 := (q1.trans q2).trans q3
    have pu4 := pu3.same q3
    refine ⟨_, rfl, ?_⟩
    dsimp only [tNil]
    refine ⟨a, n, 3, rfl, pu4, ⟨by decide, by decide⟩, fun y I5 z0 z1 pu5 sb5 => ?_⟩
    obtain ⟨l, rfl⟩ : ∃ l : Nat, y = (l : Int) := ⟨y.toNat, by omega⟩
    refine ⟨_, rfl, w3, _, rfl, SqL.of (sb5 _ _ w3a w3e), fun td ntd => ?_⟩
    have tda : td ≠ a := pu5.ne ntd
    rw [cut_head]
    have q5 : Same I5 (upd I5 td (.lst (([.ref w1, .ref w2] : List V).take l))) := same_new ntd
    have etd : upd I5 td (.lst (([.ref w1, .ref w2] : List V).take l)) td = some (.lst (([.ref w1, .ref w2] : List V).take l)) := upd_same
    generalize upd I5 td (.lst (([.ref w1, .ref w2] : List V).take l)) = I6 at q5 etd ⊢
    have hd4 : PaL I4 [.ref w1, .ref w2] ([["rain"], ["q", "X"]] : List (List Str)) := .cons (q3 _ _ (q2 _ _ w1e)) (.cons (q3 _ _ w2e) .nil)
    have pu6 := pu5.same q5
    refine ⟨by show 3 ≤ _; decide, fun pp npp => ?_⟩
    have ppa : pp ≠ a := pu6.ne npp
    have q6 : Same I6 (upd I6 pp (.lst [.ref tb, .ref gv, .ref td])) := same_new npp
    have epp : upd I6 pp (.lst [.ref tb, .ref gv, .ref td]) pp = some (.lst [.ref tb, .ref gv, .ref td]) := upd_same
    generalize upd I6 pp (.lst [.ref tb, .ref gv, .ref td]) = I7 at q6 epp ⊢
    have q56 := q5.trans q6
    refine q pp tb gv td _ uq _ _ qs _ I7 ⟨t, 1 + k, ht, by omega, rfl⟩ gok ⟨l, by omega, rfl⟩ (pu6.same q6) (((sbI.then q14).trans sb5).then q56) epp ⟨ppa, tba, gva, tda⟩ ⟨q56 _ _ (sb5 _ _ tba (q14 _ _ etb)), ?_⟩ ⟨q56 _ _ (sb5 _ _ gva (q14 _ _ egI)), ?_⟩ ⟨q6 _ _ etd, ?_⟩
    · exact ((hbI.same q14).sb pu4 sb5).same q56
    · exact ((hqI.same q14).sb pu4 sb5).same q56
    · exact ((hd4.sb pu4 sb5).same q56).take l
end
end Nv
set_option maxHeartbeats 4000000
namespace Nv
open PySem PySem.Spec PyProof.Rows L2
/-! # sets of tuples of texts -/
/-- the tuple at a has the texts k -/
abbrev TupTx (P : Program) (w : World) (h : Heap) (k : List Str) (a : Addr) : Prop := IsTupleKey (PySem.strKind P w) h k a
abbrev hTx (P : Program) (w : World) (k : List Str) : Int := tupleKeyHash (PySem.strKind P w) k
section
variable {P : Program} {w : World} {A : Around} {E : Value → Shared → Prop} {s : Shared}
theorem tx_shape {k : Str} {v : Value} (h : (PySem.strKind P w).is k v = true) : ∃ t, v = .str k t := by
  cases v <;> simp [PySem.strKind, Value.isStrOf] at h
  exact ⟨_, by rw [h]⟩
theorem tx_items {k : List Str} {vs : List Value} (h : ItemsAre (PySem.strKind P w) k vs) : ∀ v ∈ vs, ∃ z t, v = Value.str z t := by
  induction h with
  | nil => exact fun v hv => nomatch hv
  | cons h1 _ ih =>
    intro v hv
    rcases List.mem_cons.mp hv with rfl | hv
    · obtain ⟨t, e⟩ := tx_shape h1
      exact ⟨_, t, e⟩
    · exact ih v hv
theorem cls_str (n : Nat) (z : Str) (t : Tok) : ofAClassStatement n (.str z t) = pure false := by
  cases n <;> rfl
theorem hv_str (n : Nat) (z : Str) (t : Tok) : hashByValue n (.str z t) = pure false := by
  unfold hashByValue
  rfl
/-- neither its class nor its hash is of a class statement -/
theorem cls_tx {k : List Str} {b : Addr} {Q : Bool → Shared → Prop} (hk : TupTx P w s.heap k b) (h : Q false s) : wpAny (model P w) A (ofAClassStatement 8 (.ref b)) Q E s := by
  have ty := hk.typeIs
  obtain ⟨o, its, n, ho, _, hd, hi⟩ := hk
  unfold ofAClassStatement
  refine wpAny_bind (wpAny_typeOf ty ?_)
  dsimp only
  have e : (("tuple" : String) == "tuple") = true := by decide
  simp only [e, if_true, Bool.not_true, Bool.false_eq_true, if_false]
  try refine wpAny_bind (wpAny_pure ?_)
  try simp only [Bool.not_true, Bool.false_eq_true, if_false]
  show wpAny _ _ (seqItems? (.ref b) >>= _) _ _ s
  refine wpAny_bind (wpAny_seqItems ho hd ?_)
  dsimp only
  refine wpAny_bind ?_
  show wpAny _ _ (forIn its _ _) _ _ s
  rw [← Array.forIn_toList]
  refine wpAny_forIn_list _ (fun rest r s' => r.1 = none ∧ s' = s ∧ ∀ v ∈ rest, ∃ z t, v = Value.str z t) _ ?_ ?_ _ _ ⟨rfl, rfl, tx_items hi⟩
  · rintro v rest r s' ⟨_, rfl, all⟩
    obtain ⟨z, t, rfl⟩ := all v List.mem_cons_self
    rw [cls_str]
    refine wpAny_bind (wpAny_pure ?_)
    simp only [Bool.false_eq_true, if_false]
    exact wpAny_pure ⟨rfl, rfl, fun u hu => all u (List.mem_cons_of_mem _ hu)⟩
  · rintro ⟨r1, r2⟩ s' ⟨hr, rfl, _⟩
    simp only at hr
    subst hr
    exact wpAny_pure h
theorem hv_tx {k : List Str} {b : Addr} {Q : Bool → Shared → Prop} (hk : TupTx P w s.heap k b) (h : ∀ y, Q y s) : wpAny (model P w) A (hashByValue 8 (.ref b)) Q E s := by
  have ty := hk.typeIs
  obtain ⟨o, its, n, ho, _, hd, hi⟩ := hk
  unfold hashByValue
  refine wpAny_bind (wpAny_specialOf ty F.slot_tuple_hash.lookup ?_)
  show wpAny _ _ (seqItems? (.ref b) >>= _) _ _ s
  refine wpAny_bind (wpAny_seqItems ho hd ?_)
  refine wpAny_bind ?_
  show wpAny _ _ (forIn its _ _) _ _ s
  rw [← Array.forIn_toList]
  refine wpAny_forIn_list _ (fun rest r s' => r.1 = none ∧ s' = s ∧ ∀ v ∈ rest, ∃ z t, v = Value.str z t) _ ?_ ?_ _ _ ⟨rfl, rfl, tx_items hi⟩
  · rintro v rest r s' ⟨_, rfl, all⟩
    obtain ⟨z, t, rfl⟩ := all v List.mem_cons_self
    rw [hv_str]
    refine wpAny_bind (wpAny_pure ?_)
    simp only [Bool.not_false, if_true]
    exact wpAny_pure (wpAny_pure (h false))
  · rintro ⟨r1, r2⟩ s' ⟨hr, rfl, _⟩
    simp only at hr
    subst hr
    exact wpAny_pure (h true)
/-- to look for a tuple among tuples shows nothing -/
theorem dark_tx {k : List Str} {b : Addr} {Q : Bool → Shared → Prop} (hk : TupTx P w s.heap k b) {ys : List Value} (hy : ∀ y ∈ ys, ∃ z c, y = Value.ref c ∧ TupTx P w s.heap z c) (h : Q false s) :
    wpAny (model P w) A (searchCouldBeSeen (.ref b) ys) Q E s := by
  unfold searchCouldBeSeen
  refine wpAny_bind ?_
  refine wpAny_forIn_list _ (fun rest r s' => r.1 = none ∧ s' = s ∧ ∀ y ∈ rest, ∃ z c, y = Value.ref c ∧ TupTx P w s.heap z c) _ ?_ ?_ _ _ ⟨rfl, rfl, hy⟩
  · rintro v rest r s' ⟨_, rfl, all⟩
    obtain ⟨z, c, rfl, hc⟩ := all v List.mem_cons_self
    have all' : ∀ y ∈ rest, ∃ z c, y = Value.ref c ∧ TupTx P w s'.heap z c := fun u hu => all u (List.mem_cons_of_mem _ hu)
    dsimp only
    by_cases hv : (b == c || (carriedByValue (.ref b) && carriedByValue (.ref c))) = true
    · exact wp_if_pos hv (wpAny_pure ⟨rfl, rfl, all'⟩)
    · refine wp_if_neg hv ?_
      refine wpAny_bind (wpAny_eqIsQuiet_tuple hk ?_)
      simp only [Bool.not_true, Bool.false_eq_true, if_false]
      refine wpAny_bind (wpAny_eqIsQuiet_tuple hc ?_)
      simp only [Bool.not_true, Bool.false_eq_true, if_false]
      refine wpAny_bind (cls_tx hk ?_)
      simp only [Bool.false_eq_true, if_false]
      refine wpAny_bind (cls_tx hc ?_)
      simp only [Bool.false_eq_true, if_false]
      exact wpAny_pure ⟨rfl, rfl, all'⟩
  · rintro ⟨r1, r2⟩ s' ⟨hr, rfl, _⟩
    simp only at hr
    subst hr
    exact wpAny_pure h
end
end Nv
set_option maxHeartbeats 4000000
namespace Nv
open PySem PySem.Spec PyProof.Rows L2
/-- the c-th step of the way of a hash -/
abbrev stp (m : Nat) (h : Int) (c : Nat) : SetTable.Probe := nth m (runAt m (SetTable.bits h % (m + 1)) (SetTable.bits h)) c
theorem stp_add {m : Nat} {h : Int} (c q : Nat) : nth m (stp m h c) q = stp m h (c + q) := (nth_add m c _ q).symm
theorem nth_dummy {m : Nat} : ∀ (c : Nat) {p : SetTable.Probe}, p.dummy = none → (nth m p c).dummy = none
  | 0, _, h => h
  | c + 1, p, h => nth_dummy c (p := adv m p) (by unfold adv; split <;> exact h)
/-- the set at a: its tuples L, in the table's order -/
structure TxSet (P : Program) (w : World) (h : Heap) (a : Addr) (L : List (Addr × List Str)) (es : Array (Int × Value)) (ep : Nat) (t : SetTable) : Prop where
  ob : ∃ o, h.get? a = some o ∧ o.ExactSet ∧ o.data = .set es ep t
  rows : es.toList = L.map fun p => (hTx P w p.2, Value.ref p.1)
  tab : TabOk t (L.map fun p => hTx P w p.2)
  nd : (L.map (·.2)).Nodup
  tup : ∀ p ∈ L, TupTx P w h p.2 p.1
  room : L.length * 5 < t.mask * 3
  few : L.length < 64
section
variable {P : Program} {w : World} {A : Around} {E : Value → Shared → Prop} {s : Shared}
variable {a : Addr} {L : List (Addr × List Str)} {es : Array (Int × Value)} {ep : Nat} {t : SetTable}
theorem rows_size {L : List (Addr × List Str)} {es : Array (Int × Value)} (h : es.toList = L.map fun p => (hTx P w p.2, Value.ref p.1)) : es.size = L.length := by
  rw [← Array.length_toList, h, List.length_map]
theorem rows_at {L : List (Addr × List Str)} {es : Array (Int × Value)} (h : es.toList = L.map fun p => (hTx P w p.2, Value.ref p.1)) {i : Nat} {p : Addr × List Str} (e : L[i]? = some p) : es[i]? = some (hTx P w p.2, Value.ref p.1) := by
  rw [← Array.getElem?_toList, h, List.getElem?_map, e] <;> rfl
theorem fits_of (hs : t.place.size = es.size) (dm : t.dummies = #[]) (hl : es.size ≤ t.mask) : t.fits es.size = true := by
  unfold SetTable.fits SetTable.fill
  rw [dm, Bool.and_eq_true, beq_iff_eq, decide_eq_true_eq]
  show t.place.size = es.size ∧ t.place.size + 0 ≤ t.mask
  omega
theorem TxSet.psz (R : TxSet P w s.heap a L es ep t) : t.place.size = es.size := by
  have h1 := R.tab.sz
  rw [List.length_map] at h1
  rw [h1, rows_size R.rows]
theorem TxSet.fits (R : TxSet P w s.heap a L es ep t) : t.fits es.size = true := fits_of R.psz R.tab.dm (by have h1 := rows_size R.rows; have h2 := R.room; omega)
theorem same_mem (t : SetTable) : t.sameMemory t.moves t.mask = some true := by
  unfold SetTable.sameMemory
  exact if_pos (beq_self_eq_true _)
theorem seek (R : TxSet P w s.heap a L es ep t) {x : Addr} {k : List Str} (hx : TupTx P w s.heap k x) (hu : A.units < cLine) {K : Nat} (hf : K < 10 * SetTable.turns t.mask)
    (free : way t.mask (hTx P w k) K ∉ t.place.toList) (full : ∀ c, c < K → way t.mask (hTx P w k) c ∈ t.place.toList) {Q : SetFound → Shared → Prop} (yes : k ∈ L.map (·.2) → Q (.there none) s)
    (no : k ∉ L.map (·.2) → Q (.free (way t.mask (hTx P w k) K) false) s) : ∀ (f c : Nat) (st : Option SetTable.Probe), st.getD (t.probeStart (hTx P w k)) = stp t.mask (hTx P w k) c → c ≤ K → K - c < f →
      (∀ (i : Nat) p, L[i]? = some p → p.2 = k → ∃ c', c ≤ c' ∧ c' < K ∧ t.place.toList[i]? = some (way t.mask (hTx P w k) c')) → wpAny (model P w) A (setSearchFrom a (.ref x) (hTx P w k) true f st) Q E s := by
  obtain ⟨o, ho, _, hd⟩ := R.ob
  intro f
  induction f with
  | zero => exact fun c st _ _ h _ => absurd h (Nat.not_lt_zero _)
  | succ f ih =>
    intro c st hst hc hl ahead
    rw [setSearchFrom_succ]
    refine wpAny_bind (wpAny_setState_of ho hd R.fits ?_)
    dsimp only
    refine wp_if_neg (by unfold SetTable.gaveWay; rw [mask_odd R.tab.mok]; decide) ?_
    try refine wpAny_bind (wpAny_pure ?_)
    have wy : ∀ q, (nth t.mask (stp t.mask (hTx P w k) c) q).j = way t.mask (hTx P w k) (c + q) := fun q => congrArg SetTable.Probe.j (stp_add c q)
    have hsh : ∀ (i : Nat) p, L[i]? = some p → (es[i]?.map (·.1)).getD 0 = hTx P w p.2 := fun i p hp => by
      rw [rows_at R.rows hp] <;> rfl
    have kc : c + (K - c) = K := by omega
    rcases go_spec t R.tab.ris R.tab.dm (fun i => (es[i]?.map (·.1)).getD 0) (hTx P w k) (10 * SetTable.turns t.mask) (K - c) (stp t.mask (hTx P w k) c) (nth_dummy c rfl) (by omega)
      (fun q hq => by rw [wy]; exact full _ (by omega)) (by rw [wy, kc]; exact free) with ⟨q, i, hq, hi, hh, hno, hp⟩ | ⟨hno, hp⟩
    · have hp' : t.probe (fun i => (es[i]?.map (·.1)).getD 0) (hTx P w k) (st.getD (t.probeStart (hTx P w k))) = some (.candidate (way t.mask (hTx P w k) (c + q)) i (stp t.mask (hTx P w k) (c + (q + 1)))) := by
        rw [hst, ← wy, ← stp_add]
        exact hp
      rw [hp']
      dsimp only
      rw [wy] at hi
      have il : i < L.length := by
        have h1 := (List.getElem?_eq_some_iff.mp hi).1
        rw [Array.length_toList, R.psz, rows_size R.rows] at h1
        exact h1
      obtain ⟨p, hL⟩ : ∃ p, L[i]? = some p := ⟨_, List.getElem?_eq_getElem il⟩
      have mem := List.mem_of_getElem? hL
      have tp := R.tup p mem
      have rest : wpAny (model P w) A (searchRest a (.ref x) (hTx P w k) true f es t (way t.mask (hTx P w k) (c + q)) i (stp t.mask (hTx P w k) (c + (q + 1)))) Q E s := by
        unfold searchRest
        rw [rows_at R.rows hL]
        dsimp only
        refine wpAny_bind (wpAny_holding (wpAny_eqBool_tuple hu tp hx ?_))
        refine wpAny_bind (wpAny_setState_of ho hd R.fits ?_)
        dsimp only
        by_cases e : p.2 = k
        · exact wp_if_pos (by simp [e]) (wpAny_pure (yes (List.mem_map.mpr ⟨p, mem, e⟩)))
        · refine wp_if_neg (by simp [e]) ?_
          try refine wpAny_bind (wpAny_pure ?_)
          rw [same_mem]
          dsimp only
          have sl := slot_live R.tab.ris hi
          simp only [if_true, sl, rows_at R.rows hL]
          refine wpAny_bind (wpAny_isSame_ref_self (wpAny_bind (wpAny_pure ?_)))
          simp only [if_true]
          refine wp_if_neg (by simp [e]) (ih (c + (q + 1)) _ rfl (by omega) (by omega) fun i0 p0 h0 e0 => ?_)
          obtain ⟨c', l1, l2, l3⟩ := ahead i0 p0 h0 e0
          refine ⟨c', ?_, l2, l3⟩
          rcases Nat.lt_trichotomy c' (c + q) with z | z | z
          · exact absurd ((hsh i0 p0 h0).trans (by rw [e0])) (hno (c' - c) i0 (by omega) (by rw [wy, show c + (c' - c) = c' by omega]; exact l3))
          · rw [z] at l3
            have s0 := slot_live R.tab.ris l3
            rw [sl] at s0
            injection s0 with s0
            rw [← s0, hL] at h0
            exact absurd ((congrArg Prod.snd (Option.some.inj h0)).trans e0) e
          · omega
      by_cases hl : t.led = true
      · refine wp_if_neg (by simp [hl]) ?_
        try refine wpAny_bind (wpAny_pure ?_)
        exact rest
      · refine wp_if_pos (by simp [hl]) (wpAny_bind (dark_tx hx (fun y hy => ?_) ?_))
        · obtain ⟨e, he, rfl⟩ := List.mem_map.mp hy
          have he1 : e ∈ es ∧ e.1 = hTx P w k := by simpa using he
          have he2 : e ∈ es.toList := by simpa using he1.1
          rw [R.rows] at he2
          obtain ⟨p2, m2, rfl⟩ := List.mem_map.mp he2
          exact ⟨p2.2, p2.1, rfl, R.tup p2 m2⟩
        · refine wp_if_neg (by decide) ?_
          try refine wpAny_bind (wpAny_pure ?_)
          exact rest
    · have hp' : t.probe (fun i => (es[i]?.map (·.1)).getD 0) (hTx P w k) (st.getD (t.probeStart (hTx P w k))) = some (.empty (way t.mask (hTx P w k) K) none) := by
        have e2 : way t.mask (hTx P w k) K = (nth t.mask (stp t.mask (hTx P w k) c) (K - c)).j := by
          rw [wy, kc]
        rw [hst, e2]
        exact hp
      rw [hp']
      dsimp only
      refine wpAny_pure (no fun hm => ?_)
      obtain ⟨p0, h0, e0⟩ := List.mem_map.mp hm
      obtain ⟨i0, h0⟩ := List.getElem?_of_mem h0
      obtain ⟨c', l1, l2, l3⟩ := ahead i0 p0 h0 e0
      exact absurd ((hsh i0 p0 h0).trans (by rw [e0])) (hno (c' - c) i0 (by omega) (by rw [wy, show c + (c' - c) = c' by omega]; exact l3))
theorem seek_add (R : TxSet P w s.heap a L es ep t) {x : Addr} {k : List Str} (hx : TupTx P w s.heap k x) (hu : A.units < cLine) {Q : SetFound → Shared → Prop} (yes : k ∈ L.map (·.2) → Q (.there none) s)
    (no : ∀ K, k ∉ L.map (·.2) → way t.mask (hTx P w k) K ∉ t.place.toList → (∀ c, c < K → way t.mask (hTx P w k) c ∈ t.place.toList) → Q (.free (way t.mask (hTx P w k) K) false) s) :
    wpAny (model P w) A (setSearch a (.ref x) (hTx P w k) true) Q E s := by
  obtain ⟨K, hK, free, full⟩ := R.tab.first (by rw [List.length_map]; have := R.room; omega) (hTx P w k)
  have small : 10 * SetTable.turns t.mask ≤ 1420 := by
    unfold SetTable.turns
    rcases R.tab.mok with e | e | e <;> omega
  unfold setSearch
  refine seek R hx hu hK free full yes (fun hn => no K hn free full) 100000 0 none rfl (Nat.zero_le _) (by omega) fun i p hp e => ?_
  have il : i < t.place.toList.length := by
    rw [Array.length_toList, R.psz, rows_size R.rows]
    exact (List.getElem?_eq_some_iff.mp hp).1
  have hj := List.getElem?_eq_getElem il
  obtain ⟨c, hc, e2⟩ := R.tab.before (i := i) (h := hTx P w k) free (by rw [List.getElem?_map, hp, ← e] <;> rfl) hj
  exact ⟨c, Nat.zero_le _, hc, by rw [hj, e2]⟩
end
end Nv
set_option maxHeartbeats 4000000
namespace Nv
open PySem PySem.Spec PyProof.Rows L2
section
variable {α β : Type}
theorem picks_map {L : List α} {g : α → β} {d : β} : ∀ {l : List Nat}, (∀ i ∈ l, i < L.length) → (l.filterMap fun i => L[i]?).map g = l.map fun i => ((L.map g)[i]?).getD d
  | [], _ => rfl
  | i :: l, h => by
    have hi := h i List.mem_cons_self
    rw [List.filterMap_cons_some (List.getElem?_eq_getElem hi), List.map_cons, List.map_cons, picks_map fun j hj => h j (List.mem_cons_of_mem _ hj), List.getElem?_map, List.getElem?_eq_getElem hi] <;> rfl
theorem picks_all (L : List α) : ((List.range L.length).filterMap fun i => L[i]?) = L := by
  refine List.ext_getElem? fun j => ?_
  have key : ∀ n, n ≤ L.length → ((List.range n).filterMap fun i => L[i]?) = L.take n := by
    intro n
    induction n with
    | zero => exact fun _ => rfl
    | succ n ih =>
      intro hn
      rw [List.range_succ, List.filterMap_append, ih (Nat.le_of_lt hn), List.take_succ, List.filterMap_cons_some (List.getElem?_eq_getElem hn), List.getElem?_eq_getElem hn] <;> rfl
  rw [key _ (Nat.le_refl _), List.take_length]
theorem perm_into (L : List α) (p : Nat) (x : α) : (L.take p ++ x :: L.drop p).Perm (x :: L) := by
  have h : (L.take p ++ x :: L.drop p).Perm (x :: (L.take p ++ L.drop p)) := List.perm_middle
  rwa [List.take_append_drop] at h
end
section
variable {P : Program} {w : World} {A : Around} {E : Value → Shared → Prop} {s : Shared}
variable {a : Addr} {L : List (Addr × List Str)} {es : Array (Int × Value)} {ep : Nat} {t : SetTable}
abbrev rowTx (P : Program) (w : World) (p : Addr × List Str) : Int × Value := (hTx P w p.2, Value.ref p.1)
theorem tx_other {h h' : Heap} {k : List Str} {a b : Addr} {o : Obj} {es : Array (Int × Value)} {ep : Nat} {t : SetTable} (hb : TupTx P w h k b) (ho : h.get? a = some o) (hd : o.data = .set es ep t) (hs : Heap.SameBut a h h') : TupTx P w h' k b := by
  obtain ⟨o2, its, n, ho2, hc, hd2, hi⟩ := hb
  refine ⟨o2, its, n, (hs.2 b fun e => ?_).trans ho2, hc, hd2, hi⟩
  subst e
  obtain rfl := Option.some.inj (ho2.symm.trans ho)
  rw [hd] at hd2
  cases hd2
/-- what the table is laid anew of -/
theorem reorder {es : Array (Int × Value)} {order : Array Nat} (hr : es.toList = L.map (rowTx P w)) (hp : order.toList.Perm (List.range L.length)) :
    ∃ L2 : List (Addr × List Str), (order.filterMap (es[·]?)).toList = L2.map (rowTx P w) ∧ L2.Perm L ∧ (L2.map fun p => hTx P w p.2) = order.toList.map fun i => (es.map (·.1)).getD i 0 := by
  have lt : ∀ i ∈ order.toList, i < L.length := fun i hi => List.mem_range.mp (hp.mem_iff.mp hi)
  refine ⟨order.toList.filterMap fun i => L[i]?, ?_, ?_, ?_⟩
  · rw [List.map_filterMap, Array.toList_filterMap]
    refine congrArg (fun f => List.filterMap f order.toList) (funext fun i => ?_)
    rw [← Array.getElem?_toList, hr, List.getElem?_map]
  · have h := hp.filterMap fun i => L[i]?
    rwa [picks_all] at h
  · rw [picks_map (d := 0) lt]
    refine congrArg (fun f => List.map f order.toList) (funext fun i => ?_)
    rw [Array.getD_eq_getD_getElem?, Array.getElem?_map, ← Array.getElem?_toList, hr, List.getElem?_map, List.getElem?_map, Option.map_map] <;> rfl
theorem relay_tx {o : Obj} (ho : s.heap.get? a = some o) (hex : o.ExactSet) (hd : o.data = .set es ep t) (hr : es.toList = L.map (rowTx P w)) (hsz : t.place.size = es.size) (dm : t.dummies = #[]) (hl : es.size ≤ t.mask) (nd : (L.map (·.2)).Nodup)
    (tup : ∀ p ∈ L, TupTx P w s.heap p.2 p.1) (few : L.length < 64) {wanted M : Nat} (hw : SetTable.sizeAbove wanted - 1 = M) (hM : MaskOk M) (h128 : SetTable.sizeAbove wanted ≤ 128) (room : L.length * 5 < M * 3) {Q : Unit → Shared → Prop}
    (q : ∀ h' L' es' ep' t', Heap.SameBut a s.heap h' → TxSet P w h' a L' es' ep' t' → L'.Perm L → Q () { s with heap := h' }) : wpAny (model P w) A (setRelay a wanted) Q E s := by
  have sz := rows_size hr
  obtain ⟨t', order, e, hp, T, em, _, _, _⟩ := relaid_ok t (hs := es.map (·.1)) (wanted := wanted) hw hM (by rw [Array.size_map, sz]; omega)
  rw [Array.size_map, sz] at hp
  obtain ⟨L2, r1, r2, r3⟩ := reorder hr hp
  rw [← r3] at T
  have sz2 : (order.filterMap (es[·]?)).size = es.size := by rw [rows_size r1, r2.length_eq, sz]
  rw [setRelay_eq]
  refine wpAny_bind (wpAny_setState_of ho hd (fits_of hsz dm hl) ?_)
  dsimp only
  refine wp_if_neg (by rw [sizeLine_eq]; omega) ?_
  try refine wpAny_bind (wpAny_pure ?_)
  rw [e]
  dsimp only
  refine wpAny_bind ?_
  refine wp_if_neg (by rw [sz2]; simp) ?_
  try refine wpAny_bind (wpAny_pure ?_)
  refine wpAny_pure ?_
  dsimp only
  refine wpAny_storeSet_of ho hd ?_ (by rw [sz2, sz, sizeLine_eq]; omega)
  have sb : Heap.SameBut a s.heap (s.heap.update a (Obj.putSet (order.filterMap (es[·]?)) t')) := Heap.SameBut.update ..
  exact q _ L2 _ (ep + 1) t' sb ⟨⟨_, store_at ho hd, ⟨hex.1, hex.2.1, hex.2.2⟩, rfl⟩, r1, T, (r2.map (·.2)).nodup_iff.mpr nd, fun p hm => tx_other (tup p (r2.mem_iff.mp hm)) ho hd sb, by rw [r2.length_eq, em]; exact room, by rw [r2.length_eq]; exact few⟩ r2
theorem add_tx (R : TxSet P w s.heap a L es ep t) {x : Addr} {k : List Str} (hx : TupTx P w s.heap k x) (hu : A.units < cLine) (few : L.length + 1 < 64) {Q : Bool → Shared → Prop}
    (q : ∀ b h' L' es' ep' t', Heap.SameBut a s.heap h' → TxSet P w h' a L' es' ep' t' → (k ∈ L.map (·.2) → L' = L) → (k ∉ L.map (·.2) → L'.Perm ((x, k) :: L)) → Q b { s with heap := h' }) :
    wpAny (model P w) A (setAddHashed a (.ref x) (hTx P w k)) Q E s := by
  obtain ⟨o, ho, hex, hd⟩ := R.ob
  have sz := rows_size R.rows
  have room := R.room
  unfold setAddHashed
  refine wpAny_holding ?_
  rw [show (100000 : Nat) = 99999 + 1 from rfl, setAddHashedIn_succ]
  refine wpAny_bind (wpAny_setState_of ho hd R.fits ?_)
  dsimp only
  refine wp_if_neg (by simp [byScan, Value.scannable]) ?_
  try refine wpAny_bind (wpAny_pure ?_)
  refine wpAny_bind (seek_add R hx hu (fun hm => ?_) fun K hm free full => ?_)
  · dsimp only
    exact wpAny_pure (q false s.heap L es ep t (Heap.SameBut.refl a s.heap) R (fun _ => rfl) fun z => absurd hm z)
  dsimp only
  refine wpAny_bind (wpAny_setState_of ho hd R.fits ?_)
  dsimp only
  obtain ⟨q1, _, q3, q4, _, _, _, _, q9⟩ := R.tab.put free full
  generalize hpt : t.put (way t.mask (hTx P w k) K) = pt at q1 q3 q4 q9 ⊢
  obtain ⟨t1, p⟩ := pt
  dsimp only at q1 q3 q4 q9 ⊢
  subst q1
  have go : ∀ t2 : SetTable, t2.place = t1.place → t2.dummies = t1.dummies → t2.mask = t1.mask → wpAny (model P w) A (do
      storeSet a (SetTable.insertAt es (SetTable.below t.place (way t.mask (hTx P w k) K)) (hTx P w k, Value.ref x)) t2
      if (!false && t2.tooFull) = true then setRelay a (SetTable.grown (es.size + 1))
      return true) Q E s := by
    intro t2 e1 e2 e3
    have hin : (SetTable.insertAt es (SetTable.below t.place (way t.mask (hTx P w k) K)) (hTx P w k, Value.ref x)).toList = (L.take (SetTable.below t.place (way t.mask (hTx P w k) K)) ++ (x, k) :: L.drop (SetTable.below t.place (way t.mask (hTx P w k) K))).map (rowTx P w) := by
      rw [SetTable.toList_insertAt, R.rows, List.map_append, List.map_cons, List.map_take, List.map_drop]
    have hhs : (L.take (SetTable.below t.place (way t.mask (hTx P w k) K)) ++ (x, k) :: L.drop (SetTable.below t.place (way t.mask (hTx P w k) K))).map (fun p => hTx P w p.2) =
        (L.map fun p => hTx P w p.2).take (SetTable.below t.place (way t.mask (hTx P w k) K)) ++ hTx P w k :: (L.map fun p => hTx P w p.2).drop (SetTable.below t.place (way t.mask (hTx P w k) K)) := by
      rw [List.map_append, List.map_cons, List.map_take, List.map_drop]
    rw [← hhs] at q3
    have pm := perm_into L (SetTable.below t.place (way t.mask (hTx P w k) K)) (x, k)
    generalize L.take (SetTable.below t.place (way t.mask (hTx P w k) K)) ++ (x, k) :: L.drop (SetTable.below t.place (way t.mask (hTx P w k) K)) = L1 at pm q3 hin
    generalize SetTable.insertAt es (SetTable.below t.place (way t.mask (hTx P w k) K)) (hTx P w k, Value.ref x) = es1 at hin ⊢
    have hlen : L1.length = L.length + 1 := pm.length_eq
    have hes : es1.size = L.length + 1 := by rw [rows_size hin, hlen]
    have nd1 : (L1.map (·.2)).Nodup := (pm.map (·.2)).nodup_iff.mpr (List.nodup_cons.mpr ⟨hm, R.nd⟩)
    have q3' : TabOk t2 (L1.map fun p => hTx P w p.2) := by
      refine ⟨by rw [e1]; exact q3.ris, by rw [e2]; exact q3.dm, by rw [e1]; exact q3.sz, by rw [e3]; exact q3.mok, fun y hy => by rw [e3]; rw [e1] at hy; exact q3.bd y hy, fun i h j h1 h2 => ?_⟩
      rw [e1] at h2 ⊢
      rw [e3]
      exact q3.reach i h j h1 h2
    refine wpAny_bind (wpAny_storeSet_of ho hd ?_ (by rw [hes, sizeLine_eq]; omega))
    have sb : Heap.SameBut a s.heap (s.heap.update a (Obj.putSet es1 t2)) := Heap.SameBut.update ..
    have ho1 := store_at (es' := es1) (t' := t2) ho hd
    generalize s.heap.update a (Obj.putSet es1 t2) = h1 at sb ho1 ⊢
    have tup1 : ∀ p ∈ L1, TupTx P w h1 p.2 p.1 := fun p hp => by
      rcases List.mem_cons.mp (pm.mem_iff.mp hp) with rfl | hp
      · exact tx_other hx ho hd sb
      · exact tx_other (R.tup p hp) ho hd sb
    have psz : t2.place.size = es1.size := by
      have h := q3'.sz
      rw [List.length_map] at h
      rw [h, hes, hlen]
    have fill : t2.fill = L.length + 1 := by
      unfold SetTable.fill
      rw [psz, q3'.dm, hes]
      rfl
    have ful : t2.tooFull = decide ((L.length + 1) * 5 ≥ t.mask * 3) := by
      unfold SetTable.tooFull
      rw [fill, e3, q4]
    by_cases hf : (L.length + 1) * 5 ≥ t.mask * 3
    · have hf2 : t2.tooFull = true := by rw [ful]; exact decide_eq_true hf
      first
        | (refine wpAny_bind ?_; refine wp_if_pos (by simp [hf2]) ?_)
        | (refine wp_if_pos (by simp [hf2]) ?_; refine wpAny_bind ?_)
      rw [sz]
      have two : (t.mask = 7 ∧ L.length = 4) ∨ (t.mask = 31 ∧ L.length = 18) := by
        rcases R.tab.mok with e | e | e
        · left; rw [e] at hf room; exact ⟨e, by omega⟩
        · right; rw [e] at hf room; exact ⟨e, by omega⟩
        · exfalso; rw [e] at hf; omega
      have lay : ∀ M, SetTable.sizeAbove (SetTable.grown (L.length + 1)) - 1 = M → MaskOk M → SetTable.sizeAbove (SetTable.grown (L.length + 1)) ≤ 128 → (L.length + 1) * 5 < M * 3 →
          wpAny (model P w) A (setRelay a (SetTable.grown (L.length + 1))) (fun _ s' => wpAny (model P w) A (pure true) Q E s') E { s with heap := h1 } := fun M m1 m2 m3 m4 => by
        refine relay_tx (s := { s with heap := h1 }) ho1 ⟨hex.1, hex.2.1, hex.2.2⟩ rfl hin psz q3'.dm (by rw [hes, e3, q4]; rcases two with ⟨z, z2⟩ | ⟨z, z2⟩ <;> omega) nd1 tup1 (by rw [hlen]; exact few) m1 m2 m3 (by rw [hlen]; exact m4) ?_
        intro h2 L2 es2 ep2 t3 sb2 R2 pm2
        exact wpAny_pure (q true h2 L2 es2 ep2 t3 (sb.trans sb2) R2 (fun z => absurd z hm) fun _ => pm2.trans pm)
      rcases two with ⟨_, z⟩ | ⟨_, z⟩
      · exact lay 31 (by rw [z, size_20]) (.inr (.inl rfl)) (by rw [z, size_20]; decide) (by omega)
      · exact lay 127 (by rw [z, size_76]) (.inr (.inr rfl)) (by rw [z, size_76]; decide) (by omega)
    · have hf2 : t2.tooFull = false := by rw [ful]; exact decide_eq_false hf
      first
        | refine wp_if_neg (by simp [hf2]) ?_
        | (refine wpAny_bind ?_; refine wp_if_neg (by simp [hf2]) ?_; refine wpAny_pure ?_)
      exact wpAny_pure (q true h1 L1 es1 (ep + 1) t2 sb ⟨⟨_, ho1, ⟨hex.1, hex.2.1, hex.2.2⟩, rfl⟩, hin, q3', nd1, tup1, by rw [e3, q4, hlen]; omega, by rw [hlen]; exact few⟩ (fun z => absurd z hm) fun _ => pm)
  by_cases hp1 : t1.plain = true
  · first
      | (refine wpAny_bind ?_; refine wp_if_pos hp1 ?_; refine hv_tx hx fun y => ?_)
      | refine wp_if_pos hp1 (wpAny_bind (hv_tx hx fun y => ?_))
    cases y
    · simp only [Bool.false_eq_true, if_false]
      exact go { t1 with plain := false } rfl rfl rfl
    · simp only [if_true]
      exact go t1 rfl rfl rfl
  · first
      | (refine wpAny_bind ?_; refine wp_if_neg hp1 ?_; refine wpAny_pure ?_)
      | refine wp_if_neg hp1 (wpAny_bind (wpAny_pure ?_))
    simp only [if_true]
    exact go t1 rfl rfl rfl
end
end Nv
set_option maxHeartbeats 4000000
namespace Nv
open PySem PySem.Spec PyProof.Rows L2
/-- what a set has of the first i items -/
structure Has (ks : List (Addr × List Str)) (i : Nat) (L : List (Addr × List Str)) : Prop where
  sub : ∀ p ∈ L, p ∈ ks.take i
  all : ∀ p ∈ ks.take i, p.2 ∈ L.map (·.2)
  len : L.length ≤ i
theorem Has.step {ks L L' : List (Addr × List Str)} {i : Nat} {x : Addr × List Str} (g : Has ks i L) (h : ks[i]? = some x) (c1 : x.2 ∈ L.map (·.2) → L' = L) (c2 : x.2 ∉ L.map (·.2) → L'.Perm (x :: L)) : Has ks (i + 1) L' := by
  have e : ks.take (i + 1) = ks.take i ++ [x] := by rw [List.take_succ, h] <;> rfl
  by_cases m : x.2 ∈ L.map (·.2)
  · rw [c1 m]
    refine ⟨fun p hp => by rw [e]; exact List.mem_append_left _ (g.sub p hp), fun p hp => ?_, Nat.le_succ_of_le g.len⟩
    rw [e] at hp
    rcases List.mem_append.mp hp with z | z
    · exact g.all p z
    · rw [List.mem_singleton.mp z]
      exact m
  · have pm := c2 m
    refine ⟨fun p hp => ?_, fun p hp => ?_, by rw [pm.length_eq]; exact Nat.succ_le_succ g.len⟩
    · rw [e]
      rcases List.mem_cons.mp (pm.mem_iff.mp hp) with rfl | z
      · exact List.mem_append_right _ (List.mem_singleton.mpr rfl)
      · exact List.mem_append_left _ (g.sub p z)
    · rw [(pm.map (·.2)).mem_iff, List.map_cons]
      rw [e] at hp
      rcases List.mem_append.mp hp with z | z
      · exact List.mem_cons_of_mem _ (g.all p z)
      · rw [List.mem_singleton.mp z]
        exact List.mem_cons_self
section
variable {κ : Type} [DecidableEq κ]
theorem pig : ∀ (l D : List κ), l.Nodup → (∀ x ∈ l, x ∈ D) → l.length ≤ D.length
  | [], _, _, _ => Nat.zero_le _
  | x :: l, D, hn, hs => by
    obtain ⟨h1, h2⟩ := List.nodup_cons.mp hn
    have hx := hs x List.mem_cons_self
    have ih := pig l (D.erase x) h2 fun y hy => (List.mem_erase_of_ne (fun e : y = x => h1 (by rw [← e]; exact hy))).2 (hs y (List.mem_cons_of_mem _ hy))
    rw [List.length_erase_of_mem hx] at ih
    have := List.length_pos_of_mem hx
    rw [List.length_cons]
    omega
theorem pig_nd : ∀ (l D : List κ), l.Nodup → (∀ x ∈ l, x ∈ D) → D.length ≤ l.length → D.Nodup
  | [], D, _, _, h => by
    rw [List.length_eq_zero_iff.mp (Nat.le_zero.mp h)]
    exact List.nodup_nil
  | x :: l, D, hn, hs, h => by
    obtain ⟨h1, h2⟩ := List.nodup_cons.mp hn
    have hx := hs x List.mem_cons_self
    have sub : ∀ y ∈ l, y ∈ D.erase x := fun y hy => (List.mem_erase_of_ne (fun e : y = x => h1 (by rw [← e]; exact hy))).2 (hs y (List.mem_cons_of_mem _ hy))
    have len := List.length_erase_of_mem hx
    have pos := List.length_pos_of_mem hx
    rw [List.length_cons] at h
    refine (List.perm_cons_erase hx).nodup_iff.mpr (List.nodup_cons.mpr ⟨fun z => ?_, pig_nd l _ h2 sub (by omega)⟩)
    have := pig (x :: l) (D.erase x) hn fun y hy => by
      rcases List.mem_cons.mp hy with rfl | hy
      · exact z
      · exact sub y hy
    rw [List.length_cons] at this
    omega
end
/-- how many there are -/
theorem Has.count {ks L : List (Addr × List Str)} (g : Has ks ks.length L) (nd : (L.map (·.2)).Nodup) : L.length ≤ ks.length ∧ (L.length = ks.length ↔ (ks.map (·.2)).Nodup) := by
  have sub : ∀ k ∈ L.map (·.2), k ∈ ks.map (·.2) := fun k hk => by
    obtain ⟨p, hp, rfl⟩ := List.mem_map.mp hk
    exact List.mem_map.mpr ⟨p, List.mem_of_mem_take (g.sub p hp), rfl⟩
  have all : ∀ k ∈ ks.map (·.2), k ∈ L.map (·.2) := fun k hk => by
    obtain ⟨p, hp, rfl⟩ := List.mem_map.mp hk
    exact g.all p (by rw [List.take_length]; exact hp)
  refine ⟨g.len, fun e => pig_nd _ _ nd sub (by rw [List.length_map, List.length_map, e]; exact Nat.le_refl _), fun h => Nat.le_antisymm g.len ?_⟩
  have := pig _ _ h all
  rwa [List.length_map, List.length_map] at this
section
variable {prog : Program} {w : World} {A : Around} {R : Result → Shared → Prop} {J : Addr} {fp wr : List Addr} {G : Array GenState → Array GenState → Prop} {n : Nat} {P : Nat → Value → Prop} {St : Nat → Shared → Prop}
theorem TxSet.move {h h' : Heap} {a : Addr} {L : List (Addr × List Str)} {es : Array (Int × Value)} {ep : Nat} {t : SetTable} (S : TxSet prog w h a L es ep t) (ha : ∀ o, h.get? a = some o → h'.get? a = some o) (ht : ∀ p ∈ L, TupTx prog w h' p.2 p.1) : TxSet prog w h' a L es ep t := by
  obtain ⟨o, ho, r⟩ := S.ob
  exact ⟨⟨o, ha o ho, r⟩, S.rows, S.tab, S.nd, ht, S.room, S.few⟩
theorem tx_ext {h h' : Heap} {k : List Str} {b : Addr} (x : TupTx prog w h k b) (e : ∀ c o, h.get? c = some o → h'.get? c = some o) : TupTx prog w h' k b := by
  obtain ⟨o, its, n, ho, r⟩ := x
  exact ⟨o, its, n, e b o ho, r⟩
/-- a set is filled from a walk over tuples of texts -/
theorem fillTx (W : WalksS prog w A.in1 J fp wr G n P St) (b : Addr) (hb : b ∉ fp) (ks : List (Addr × List Str)) (hn : n = ks.length) (few : ks.length < 64) (hP : ∀ i v, P i v → ∃ p, ks[i]? = some p ∧ v = .ref p.1) (h0 : Heap)
    (hk : ∀ p ∈ ks, TupTx prog w h0 p.2 p.1) (nb : h0.get? b = none) (nw : ∀ c ∈ wr, h0.get? c = none) (hu : A.in1.units < cLine) :
    ∀ (k i : Nat) (s : Shared), n - i = k → i ≤ n → St i s → (∀ c o, h0.get? c = some o → s.heap.get? c = some o) → (∃ L es ep t, TxSet prog w s.heap b L es ep t ∧ Has ks i L) →
      (∀ s' L es ep t, Moved (b :: wr) G s s' → TxSet prog w s'.heap b L es ep t → Has ks n L → R (.ok (.ret .none)) s') →
      codeAny (model prog w) A (.builtin "set.update.loop" ⟨[.ref b, .ref J], []⟩) R s := by
  have hbw : b ∉ wr := fun h => hb (W.sub _ h)
  have more : ∀ c ∈ wr, c ∈ b :: wr := fun c hc => List.mem_cons_of_mem _ hc
  have old : ∀ {s s' : Shared}, Moved wr G s s' → (∀ c o, h0.get? c = some o → s.heap.get? c = some o) → ∀ c o, h0.get? c = some o → s'.heap.get? c = some o := fun m e c o z =>
    m.heap c o (fun q => by rw [nw c q] at z; cases z) (e c o z)
  intro k
  induction k with
  | zero =>
    intro i s hk' hi hst e0 ⟨L, es, ep, t, S, g⟩ hR
    obtain rfl : i = n := by omega
    refine codeAny_builtin PyProof.Rows.F.entry_set_update_loop ?_
    rw [Around.under_plainId PyProof.Rows.F.plain_set_update_loop _]
    show wpAny _ A.in1 (pyNext (.ref J) >>= _) _ _ s
    refine wpAny_bind (W.done s _ _ hst fun s1 m1 => ?_)
    show wpAny _ A.in1 (ret Value.none) _ _ s1
    exact wpAny_pure (hR s1 L es ep t (m1.mono more) (S.move (fun o e => m1.heap b o hbw e) fun p hp => tx_ext (hk p (List.mem_of_mem_take (g.sub p hp))) (old m1 e0)) g)
  | succ k ih =>
    intro i s hk' hi hst e0 ⟨L, es, ep, t, S, g⟩ hR
    have lt : i < n := by omega
    refine codeAny_builtin PyProof.Rows.F.entry_set_update_loop ?_
    rw [Around.under_plainId PyProof.Rows.F.plain_set_update_loop _]
    show wpAny _ A.in1 (pyNext (.ref J) >>= _) _ _ s
    refine wpAny_bind (W.item i s _ _ lt hst fun v s1 hPv st1 m1 => ?_)
    obtain ⟨p, hp, rfl⟩ := hP i v hPv
    have e1 := old m1 e0
    have S1 : TxSet prog w s1.heap b L es ep t := S.move (fun o e => m1.heap b o hbw e) fun q hq => tx_ext (hk q (List.mem_of_mem_take (g.sub q hq))) e1
    have hx : TupTx prog w s1.heap p.2 p.1 := tx_ext (hk p (List.mem_of_getElem? hp)) e1
    show wpAny _ A.in1 (holding [Value.ref p.1] (setAdd b (.ref p.1)) >>= _) _ _ s1
    refine wpAny_bind (wpAny_holding ?_)
    unfold setAdd
    refine wpAny_holding (wpAny_bind (wpAny_pyHash_tuple hu hx ?_))
    refine add_tx (s := { s1 with toks := s1.toks + (p.2.length + 1) }) S1 hx hu (by have := g.len; omega) fun y h2 L2 es2 ep2 t2 sb S2 c1 c2 => ?_
    have e2 : ∀ c o, h0.get? c = some o → h2.get? c = some o := fun c o z => (sb.2 c fun q => by rw [q, nb] at z; cases z).trans (e1 c o z)
    refine wpAny_pure ⟨plainId_quiet PyProof.Rows.F.plain_set_update_loop _, ih (i + 1) _ (by omega) lt (W.frame _ s1 _ _ st1 (Nat.le_add_right _ _) fun c hc o e => ?_) e2 ⟨L2, es2, ep2, t2, S2, g.step hp c1 c2⟩ fun s3 L3 es3 ep3 t3 m3 S3 g3 => ?_⟩
    · rw [sb.2 c fun z => hb (z ▸ hc)]
      exact e
    · refine hR s3 L3 es3 ep3 t3 (Moved.trans W.gtrans ((m1.mono more).then_heap (Nat.le_add_right _ _) fun c o hc e => ?_) m3) S3 g3
      rw [sb.2 c fun z => hc (by rw [z]; exact List.mem_cons_self)]
      exact e
end
/-- a new set -/
theorem tx_fresh {prog : Program} {w : World} {h : Heap} {a : Addr} {b : Bool} (ho : h.get? a = some { cls := .type "set", dict := none, data := .set #[] 0 (.fresh 0 0 b) }) : TxSet prog w h a [] #[] 0 (.fresh 0 0 b) where
  ob := ⟨_, ho, ⟨rfl, rfl, rfl⟩, rfl⟩
  rows := rfl
  tab := ⟨List.Pairwise.nil, rfl, rfl, .inl rfl, fun x hx => (by cases hx), fun i h j hi => (by simp at hi)⟩
  nd := List.nodup_nil
  tup := fun p hp => (by cases hp)
  room := by
    show 0 * 5 < 7 * 3
    decide
  few := by
    show 0 < 64
    decide
end Nv
set_option maxHeartbeats 4000000
namespace Nv
open PySem PySem.Spec PyProof.Rows
section
variable {prog : Program} {w : World} {A : Around} {E : Value → Shared → Prop} {s : Shared}
/-- the set at b, of the tuples ks, laid behind all that stood -/
abbrev FilledT (prog : Program) (w : World) (ks : List (Addr × List Str)) (b : Addr) (h0 h1 : Heap) : Prop :=
  (∃ L es ep t, TxSet prog w h1 b L es ep t ∧ Has ks ks.length L) ∧ ∀ c o, c < b → h0.get? c = some o → h1.get? c = some o
/-- set(xs), xs a list of tuples of texts -/
theorem set_of_tx {l : Addr} {its : Array Value} {ks : List (Addr × List Str)} {Q : Value → Shared → Prop} (calm : A.handled = none) (hl : s.heap.IsList l its) (hz : its.toList = ks.map fun p => Value.ref p.1) (hk : ∀ p ∈ ks, TupTx prog w s.heap p.2 p.1) (few : ks.length < 64) (hu : A.units + 3 < cLine)
    (hq : ∀ (h1 : Heap) (tk : Nat), FilledT prog w ks s.heap.objs.size s.heap h1 → Q (.ref s.heap.objs.size) { s with heap := h1, toks := tk }) : wpAny (model prog w) A (call (.type "set") [.ref l]) Q E s := by
  obtain ⟨c, tl, m0⟩ := PySem.F.called_set.mro
  have m1 := PySem.F.called_set.made; have m2 := PySem.F.called_set.sub; have m3 := PySem.F.called_set.notType; have m4 := PySem.F.called_set.canCreate
  have m5 := PySem.F.typeCall_set_1 (.ref l)
  have size : its.size = ks.length := by rw [← Array.length_toList, hz, List.length_map]
  refine wpAny_call (codeAny_of_tree (show wpAny _ _ (callAny (.type "set") _) _ _ _ from wpAny_pure ⟨Code.quiet_builtin _ (by decide +kernel), codeAny_builtin PySem.F.entry_type_call ?_⟩))
  rw [Around.under_plain (weight_type_call_type "set" [.ref l] []) rfl]
  repeat (any_goals (first | assumption | wp_step))
  refine codeAny_mono (code_set_new_1 (.ref l) (E := E) (Q₁ := fun v s1 => ∃ led : Bool, v = .ref s.heap.objs.size ∧ s1 = { s with heap := s.heap.push (freshSet led) }) fun led => ⟨led, rfl, rfl⟩) fun r s1 hr => ?_
  rcases r with e | fl
  · exact hr
  cases fl with
  | ret v =>
    obtain ⟨led, rfl, rfl⟩ := hr
    have at0 : (s.heap.push (freshSet led)).get? s.heap.objs.size = some (freshSet led) := Heap.get?_push_size _ rfl
    have ty : Shared.TypeIs { s with heap := s.heap.push (freshSet led) } (.ref s.heap.objs.size) "set" := ⟨_, at0, rfl⟩
    have i1 := PySem.F.called_set.init.lookup; have i2 := PySem.F.called_set.init.bind (.ref s.heap.objs.size)
    repeat (any_goals (first | assumption | wp_step))
    refine codeAny_mono (codeAny_call_builtin (R := wants (fun v s2 => v = .none ∧ ∃ h1 tk, s2 = { s with heap := h1, toks := tk } ∧ FilledT prog w ks s.heap.objs.size s.heap h1) E) PySem.F.called_set.init.plain PySem.F.entry_set_init (check_set_init_1 ty ?_)) fun r2 s2 hr2 => ?_
    · obtain ⟨⟨oc, od, odt, osl⟩, ho, e1, nl, e2⟩ := hl
      simp only at e1 e2; subst e1; subst e2
      have ho1 : (s.heap.push (freshSet led)).get? l = some { cls := .type "list", dict := od, data := .seq its nl, slots := osl } := Heap.get?_push_of_some _ ho
      have f1 := PySem.F.sub_list_set; have f2 := PySem.F.sub_list_frozenset; have f3 : (Value.type "list" == Value.type "dict") = false := by decide
      have lst : (s.heap.push (freshSet led)).IsList l its := ⟨_, ho1, rfl, nl, rfl⟩
      have lt : l < s.heap.objs.size := Heap.lt_size ho
      unfold Builtin.«set.__init__» noKeywords Builtin.Frozenset.updateFrom; generalize hI : pyIter = PI
      wp_walk; subst hI
      refine wpAny_pyIter_list lst (wpAny_bind (wpAny_runValue ?_))
      have n1 : l ≠ (s.heap.push (freshSet led)).objs.size := by rw [Heap.size_push]; exact Nat.ne_of_lt (Nat.lt_succ_of_lt lt)
      have n2 : s.heap.objs.size ∉ [(s.heap.push (freshSet led)).objs.size, l] := by
        rw [Heap.size_push]; simp only [List.mem_cons, List.not_mem_nil, or_false, not_or]; exact ⟨Nat.ne_of_lt (Nat.lt_succ_self _), Nat.ne_of_gt lt⟩
      have at1 : ((s.heap.push (freshSet led)).push { cls := .type "list_iterator", data := .fields #[.ref l, .int 0 0] }).get? s.heap.objs.size = some (freshSet led) := Heap.get?_push_of_some _ at0
      have fresh : ∀ b, s.heap.objs.size ≤ b → s.heap.get? b = none := fun b hb => by
        cases z : s.heap.get? b with
        | none => rfl
        | some o => exact absurd (Nat.lt_of_lt_of_le (Heap.lt_size z) hb) (Nat.lt_irrefl _)
      refine fillTx ((Walks.list (by simp [calm]) _ l n1 its).toS) s.heap.objs.size n2 ks size few (fun i v hv => ?_) s.heap hk (fresh _ (Nat.le_refl _)) (fun c hc => fresh c ?_) hu (its.size - 0) 0 _ (by omega) (Nat.zero_le _) ⟨⟨_, Heap.get?_push_size _ rfl, rfl, rfl⟩, lst.push _⟩ (fun c o e => Heap.get?_push_of_some _ (Heap.get?_push_of_some _ e)) ⟨[], #[], 0, _, tx_fresh at1, ⟨fun p h => (by cases h), fun p h => (by simp at h), Nat.le_refl _⟩⟩ ?_
      · have q : its.toList[i]? = some v := by rw [Array.getElem?_toList]; exact hv
        rw [hz, List.getElem?_map] at q
        obtain ⟨p, hp, rfl⟩ := Option.map_eq_some_iff.mp q
        exact ⟨p, hp, rfl⟩
      · rw [List.mem_singleton.mp hc, Heap.size_push]
        exact Nat.le_succ _
      · intro s3 L es ep t m S g
        obtain ⟨h3, g3, d3, t3, o3⟩ := s3
        have eg : g3 = s.gens := m.gens; have ed : d3 = s.drawn := m.drawn; have eo : o3 = s.os := m.os
        subst eg; subst ed; subst eo
        rw [size] at g
        refine show wpAny _ _ _ _ _ _ from wpAny_pure (show wpAny _ _ (ret Value.none) _ _ _ from wpAny_pure ⟨rfl, h3, t3, rfl, ⟨L, es, ep, t, S, g⟩, fun c o hc e => ?_⟩)
        refine m.heap c o ?_ (Heap.get?_push_of_some _ (Heap.get?_push_of_some _ e))
        rw [Heap.size_push]; simp only [List.mem_cons, List.not_mem_nil, or_false, not_or]; exact ⟨Nat.ne_of_lt hc, Nat.ne_of_lt (Nat.lt_succ_of_lt hc)⟩
    · rcases r2 with e | fl2
      · exact hr2
      cases fl2 with
      | ret v2 =>
        obtain ⟨rfl, h1, tk, rfl, hF⟩ := hr2
        repeat (any_goals (first | assumption | wp_step))
        exact hq _ _ hF
      | _ => exact hr2.elim
  | _ => exact hr.elim
end
end Nv
set_option maxHeartbeats 4000000
namespace Nv
open PySem PySem.Spec PyProof.Rows L2
theorem vals_tx {P : Program} {w : World} : ∀ {k : List Str} {us : List Value}, Vals (k.map V.str) us → ItemsAre (PySem.strKind P w) k us
  | [], _, .nil => .nil
  | z :: k, _, .cons r t => by
    obtain ⟨tk, rfl⟩ := r
    exact .cons (PySem.strKind_is P w z tk) (vals_tx t)
theorem vals_refs : ∀ {ks : List (Addr × List Str)} {us : List Value}, Vals (ks.map fun p => V.ref p.1) us → us = ks.map fun p => Value.ref p.1
  | [], _, .nil => rfl
  | p :: ks, _, .cons r t => by
    cases r
    rw [vals_refs t] <;> rfl
/-- tuples of texts, with their addresses -/
theorem PaL.addrs {H : Hp} {vs : List V} {ps : List (List Str)} (h : PaL H vs ps) : ∃ ks : List (Addr × List Str), vs = ks.map (fun p => V.ref p.1) ∧ ps = ks.map (·.2) ∧ ∀ p ∈ ks, H p.1 = some (.tup (p.2.map V.str)) := by
  induction h with
  | nil => exact ⟨[], rfl, rfl, fun p hp => (by cases hp)⟩
  | cons e _ ih =>
    obtain ⟨ks, h1, h2, h3⟩ := ih
    refine ⟨(_, _) :: ks, by rw [h1] <;> rfl, by rw [h2] <;> rfl, fun p hp => ?_⟩
    rcases List.mem_cons.mp hp with rfl | hp
    · exact e
    · exact h3 p hp
/-- len(set(xs)), xs a list of tuples of texts -/
def tDistT (K : PySem.W.Frag) (ta : TE) : TE := fun σ H Q => ta σ H fun x H1 => ∃ (l : Addr) (vs : List V) (ps : List (List Str)), x = .ref l ∧ SqL K H1 l vs ∧ PaL H1 vs ps ∧ ps.length < 64 ∧
  ∀ n : Nat, n ≤ ps.length → (n = ps.length ↔ ps.Nodup) → Q (.int (n : Nat)) H1
theorem pe_distT {X : Cx} {a : Expr} {ta : TE} {p p2 q pos : Pos} (hu : X.A.units + 64 < cLine) (gl : Gl X "len") (ml : X.mg "len" = none) (gs : Gl X "set") (ms : X.mg "set" = none) (ha : PE X a ta) (calm : X.calm = true := by rfl)
    (na : starEach [a] X.env = (false, eval a X.env) :: starEach [] X.env := by rfl) : PE X (.Call (.Name "len" p) [.Call (.Name "set" p2) [a] [] q] [] pos) (tDistT X.K ta) := by
  refine ⟨fun pins s σ H Q I h => ?_⟩
  refine Call_ (ld_blt I gl ml boot_len (PyProof.Rows.callWith_builtin1 (PyProof.Rows.args_cons (Call_ (ld_blt I gs ms boot_set ?_)) rfl) rfl rfl))
  refine PyProof.Rows.callWith_type1 (PyProof.Rows.args_cons (thn (ha.run pins s σ H _ I h) fun v s1 ⟨x, H1, I1, r1, q1⟩ => PyProof.Rows.args_nil ?_) na) na rfl
  obtain ⟨l, vs, ps, rfl, hl, hp, few, q1⟩ := q1
  cases r1
  obtain ⟨its, r, pl, _⟩ := I1.list hl
  obtain ⟨ks, rfl, rfl, hk⟩ := hp.addrs
  rw [List.length_map] at few
  refine set_of_tx (ks := ks) (I1.ok.hd calm) pl.isList (by simpa using vals_refs r) (fun p hp => ?_) few (by omega) fun h1 tk hF => PyProof.Rows.args_nil ?_
  · obtain ⟨its2, r2, ⟨o, ho, hc, n, hd⟩, _⟩ := I1.tuple (SqT.of (K := X.K) (hk p hp))
    exact ⟨o, its2.toArray, n, ho, hc, hd, by simpa using vals_tx r2⟩
  obtain ⟨⟨L, es, ep, t, S, g⟩, kept⟩ := hF
  obtain ⟨o, ho, hex, hd⟩ := S.ob
  have I2 : Inv X pins σ H1 { s1 with heap := h1, toks := tk } := I1.kept fun b o e => kept b o (Heap.lt_size e) e
  obtain ⟨c1, c2⟩ := g.count S.nd
  have sz := rows_size S.rows
  have sf := S.few
  refine call_len_set ho hex hd (TxSet.fits (s := { s1 with heap := h1, toks := tk }) S) (by rw [sz]; omega) ⟨.int ((L.length : Nat) : Int), H1, I2.tok _, ⟨_, by rw [sz]⟩, q1 L.length (by rw [List.length_map]; exact c1) (by rw [List.length_map]; exact c2)⟩
end Nv
set_option maxHeartbeats 4000000
namespace Nv
open PySem PySem.Spec PyProof.Rows L2
/-! # facts and stores -/
def factB : Option (List (Option Str)) → Bool
  | some os => decide (1 ≤ os.length ∧ os.length ≤ 4) && os.all nmO
  | none => false
/-- a fact -/
def FactOk (p : List Str) : Prop := (1 ≤ p.length ∧ p.length ≤ 4) ∧ ∀ z ∈ p, IsNm z
instance {p : List Str} : Decidable (FactOk p) := inferInstanceAs (Decidable ((1 ≤ p.length ∧ p.length ≤ 4) ∧ ∀ z ∈ p, IsNm z))
theorem factB_strs {p : List Str} : factB (some (p.map some)) = decide (FactOk p) := by
  show (decide (1 ≤ (p.map some).length ∧ (p.map some).length ≤ 4) && (p.map some).all nmO) = _
  rw [List.length_map, List.all_map]
  by_cases h : FactOk p
  · rw [decide_eq_true h, decide_eq_true h.1, Bool.true_and, List.all_eq_true]
    exact fun z hz => decide_eq_true (h.2 z hz)
  · rw [decide_eq_false h]
    by_cases h1 : 1 ≤ p.length ∧ p.length ≤ 4
    · rw [decide_eq_true h1, Bool.true_and, List.all_eq_false]
      obtain ⟨z, hz⟩ := Classical.not_forall.mp fun q => h ⟨h1, q⟩
      obtain ⟨m, n⟩ := Classical.not_imp.mp hz
      exact ⟨z, m, by
        show ¬ decide (IsNm z) = true
        rw [decide_eq_false n]
        exact Bool.false_ne_true⟩
    · rw [decide_eq_false h1, Bool.false_and]
/-- what stands in a store -/
theorem facts_of {K : PySem.W.Frag} {H : Hp} {xs : List V} {ls : List (Option (List (Option Str)))} (h : All2 (Tp K H) xs ls) (hb : ls.all factB = true) : ∃ ps : List (List Str), PaL H xs ps ∧ ls = ps.map (fun p => some (p.map some)) ∧ ∀ p ∈ ps, FactOk p := by
  have item : ∀ {us : List V} {os : List (Option Str)}, All2 (Tv K H) us os → os.all nmO = true → ∃ zs : List Str, us = zs.map V.str ∧ os = zs.map some := by
    intro us os h
    induction h with
    | nil => exact fun _ => ⟨[], rfl, rfl⟩
    | @cons u o us os h t ih =>
      intro hb
      rw [List.all_cons, Bool.and_eq_true] at hb
      obtain ⟨zs, e1, e2⟩ := ih hb.2
      cases o with
      | none => cases hb.1
      | some z => exact ⟨z :: zs, by rw [h.1, e1] <;> rfl, by rw [e2] <;> rfl⟩
  induction h with
  | nil => exact ⟨[], .nil, rfl, fun p hp => (by cases hp)⟩
  | @cons x l xs ls h t ih =>
    rw [List.all_cons, Bool.and_eq_true] at hb
    obtain ⟨ps, e1, e2, e3⟩ := ih hb.2
    cases l with
    | none => cases hb.1
    | some os =>
      obtain ⟨a, us, rfl, ea, hu, hl⟩ := h
      have hb1 := hb.1
      unfold factB at hb1
      rw [Bool.and_eq_true] at hb1
      obtain ⟨zs, rfl, rfl⟩ := item hu hb1.2
      refine ⟨zs :: ps, .cons ea e1, by rw [e2] <;> rfl, fun p hp => ?_⟩
      rcases List.mem_cons.mp hp with rfl | hp
      · have := hb.1
        rw [factB_strs] at this
        exact of_decide_eq_true this
      · exact e3 p hp
section
variable {P : Program} {w : World} {K : PySem.W.Frag} {mg : Str → Option Value} {base : Heap}
theorem scIsFact : FnScope ["value", "part"] ["value"] (defScope sIsFact) := ⟨rfl, rfl, rfl, by decide +kernel, rfl, by decide +kernel, by decide +kernel⟩
theorem ok_isFact {f fN : Addr} {fd fdN : FuncData} (F : Fun K "is_fact" "is_fact" sIsFact f fd) (B : Bp mg)
    (GN : FnOk P w K mg base CX0 1 fN fdN ["value"] (spTxt K fun z => decide (IsNm z))) (kN : PySem.W.keepIn K (.ref fN) = true) (gN : mg "is_name" = some (.ref fN)) (bN : Binds K fdN ["value"] []) :
    FnOk P w K mg base CX0 3 f fd ["value"] (spTup K factB) := by
  refine F.ok scIsFact (fun vs H Q E h => ?_) (fun cdv A outer s H vs Q E hr h => ?_)
  · obtain ⟨v, o, rfl, _⟩ := h
    rfl
  · obtain ⟨v, o, rfl, h, q⟩ := h
    have hr1 : Room 1 _ := hr.mono (by decide)
    refine ⟨_, pss_one (ps_ret (pe_and (pe_callB call_isi (by rfl) B.isi bootIsi (pa_cons (pv 0) (pa_cons (pe_bltn (v := V.ty "tuple") (by rfl) B.tup PyProof.Rows.boot_tuple rfl) pa_nil)))
      (pe_and (pe_chain op_le op_le pe_int (pe_callB call_len_seq (by rfl) B.len PySem.boot_len (pa_cons (pv 0) pa_nil)) pe_int)
      (pe_one (pe_callB (cr_all rfl) (by rfl) B.all bootAll (pa_cons (by exact (pe_lc (own := [("part", 1)]) (g := gName 1) (tt := tYes) rfl scIsFact.nd (pi_tup (pv 0))
        (blkOk_by (own := [("part", 1)]) (N := ["value", "part"]) (sc := defScope sIsFact) (by decide +kernel))
        (fun _ _ _ _ _ => pg_name (i := 1) scIsFact.nd rfl (Or.inl rfl)) (fun _ _ _ _ _ => pts_nil)
        (fun _ _ _ _ _ => by exact (pe_call GN hr1 (by rfl) gN kN bN .nil pass0 (pa_cons (pv 1) pa_nil))))) pa_nil)))))), ?_⟩
    cases o with
    | none =>
      obtain ⟨t, ht, hk⟩ := h
      refine ⟨_, rfl, _, _, _, _, false, rfl, .ty _, ht, hk, false, rfl, iteF ?_⟩
      exact q H (Same.refl H)
    | some os =>
      obtain ⟨t, xs, rfl, e, ha, hl⟩ := h
      have hxl := ha.len
      refine ⟨_, rfl, _, _, _, _, true, rfl, .ty _, tyx_tup e, kit_ty (by decide +kernel), true, rfl, iteT ?_⟩
      refine ⟨_, rfl, t, xs, rfl, .inr (SqT.of e), _, _, rfl, rfl, _, rfl, ?_⟩
      have q : ∀ H', Same H H' → Q (.bl (decide (1 ≤ os.length ∧ os.length ≤ 4) && os.all nmO)) H' := q
      by_cases h1 : (1 : Int) ≤ (xs.length : Int)
      · rw [decide_eq_true h1]
        refine iteT ⟨_, _, rfl, rfl, ?_⟩
        refine ⟨decide ((xs.length : Int) ≤ 4), rfl, ?_⟩
        by_cases h2 : (xs.length : Int) ≤ 4
        · rw [decide_eq_true h2]
          rw [decide_eq_true (show 1 ≤ os.length ∧ os.length ≤ 4 by omega)] at q
          refine iteT ?_
          refine ⟨_, rfl, t, rfl, ⟨_, SqT.of e⟩, fun D nD => ?_⟩
          refine lc_tup (K := K) (a := t) (xs := xs) (fun i H' => Same H H' ∧ H' D = some (.lst ((os.take i).map fun o => V.bl (nmO o)))) ⟨same_new nD, upd_same⟩ (fun i H' _ y => SqT.of (y.1 _ _ e)) ?_ ?_
          · rintro i y H3 hi ⟨s3, e3⟩
            obtain ⟨o2, ho2, hy⟩ := ha.at_ hi
            refine ⟨rfl, _, rfl, ?_⟩
            dsimp only [tNil]
            refine spTxt.of (hy.same s3) fun H4 s4 => ?_
            refine ⟨_, s4 _ _ e3, ?_, same_put (s3.trans s4) nD, ?_⟩
            · rw [List.length_map, List.length_take]
              exact Nat.lt_of_le_of_lt (by omega : _ ≤ 1000) (by decide)
            · rw [upd_same, take_one ho2, List.map_append] <;> rfl
          · rintro H3 ⟨s3, e3⟩
            rw [hxl, List.take_length] at e3
            refine ⟨D, os.map nmO, rfl, SqL.of (by rw [e3, List.map_map] <;> rfl), ?_⟩
            rw [List.all_map]
            exact q H3 s3
        · rw [decide_eq_false h2]
          rw [decide_eq_false (show ¬ (1 ≤ os.length ∧ os.length ≤ 4) by omega)] at q
          exact iteF (q H (Same.refl H))
      · rw [decide_eq_false h1]
        rw [decide_eq_false (show ¬ (1 ≤ os.length ∧ os.length ≤ 4) by omega)] at q
        exact iteF ⟨false, rfl, iteF (q H (Same.refl H))⟩
end
end Nv
set_option maxHeartbeats 4000000
namespace Nv
open PySem PySem.Spec PyProof.Rows L2
def storeB : Option (List (Option (List (Option Str)))) → Bool
  | some ls => ls.all factB && decide ls.Nodup
  | none => false
theorem map_inj_nd {α β : Type} {f : α → β} (hf : ∀ x y, f x = f y → x = y) : ∀ {l : List α}, (l.map f).Nodup ↔ l.Nodup
  | [] => by simp
  | x :: l => by
    rw [List.map_cons, List.nodup_cons, List.nodup_cons, map_inj_nd hf]
    constructor
    · exact fun ⟨a, b⟩ => ⟨fun m => a (List.mem_map.mpr ⟨x, m, rfl⟩), b⟩
    · refine fun ⟨a, b⟩ => ⟨fun m => ?_, b⟩
      obtain ⟨y, hy, e⟩ := List.mem_map.mp m
      rw [hf _ _ e] at hy
      exact a hy
theorem some_map_inj {p q : List Str} (h : some (p.map some) = some (q.map some)) : p = q := by
  have h2 := congrArg (List.map fun o : Option Str => o.getD "") (Option.some.inj h)
  simpa [List.map_map, Function.comp_def] using h2
section
variable {P : Program} {w : World} {K : PySem.W.Frag} {mg : Str → Option Value} {base : Heap}
def spIsStore (K : PySem.W.Frag) : Sp := fun vs H Q _ => ∃ (v : V) (o : Option (List (Option (List (Option Str))))), vs = [v] ∧ Tps K H v o ∧ (∀ ls, o = some ls → ls.length < 64) ∧ ∀ H', Same H H' → Q (.bl (storeB o)) H'
theorem scIsStore : FnScope ["value", "part"] ["value"] (defScope sIsStore) := ⟨rfl, rfl, rfl, by decide +kernel, rfl, by decide +kernel, by decide +kernel⟩
theorem ok_isStore {f fN : Addr} {fd fdN : FuncData} (F : Fun K "is_store" "is_store" sIsStore f fd) (B : Bp mg)
    (GN : FnOk P w K mg base CX0 3 fN fdN ["value"] (spTup K factB)) (kN : PySem.W.keepIn K (.ref fN) = true) (gN : mg "is_fact" = some (.ref fN)) (bN : Binds K fdN ["value"] []) :
    FnOk P w K mg base CX0 4 f fd ["value"] (spIsStore K) := by
  refine F.ok scIsStore (fun vs H Q E h => ?_) (fun cdv A outer s H vs Q E hr h => ?_)
  · obtain ⟨v, o, rfl, _⟩ := h
    rfl
  · obtain ⟨v, o, rfl, h, few, q⟩ := h
    refine ⟨_, pss_one (ps_ret (pe_and (pe_callB call_isi (by rfl) B.isi bootIsi (pa_cons (pv 0) (pa_cons (pe_bltn (v := V.ty "list") (by rfl) B.lst PyProof.Rows.boot_list rfl) pa_nil)))
      (pe_and (pe_callB (cr_all rfl) (by rfl) B.all bootAll (pa_cons (by exact (pe_lc (own := [("part", 1)]) (g := gName 1) (tt := tYes) rfl scIsStore.nd (pi_list (pv 0))
          (blkOk_by (own := [("part", 1)]) (N := ["value", "part"]) (sc := defScope sIsStore) (by decide +kernel))
          (fun _ _ _ _ _ => pg_name (i := 1) scIsStore.nd rfl (Or.inl rfl)) (fun _ _ _ _ _ => pts_nil)
          (fun _ _ _ _ _ => by exact (pe_call GN hr (by rfl) gN kN bN .nil pass0 (pa_cons (pv 1) pa_nil))))) pa_nil))
      (pe_one (pe_cmpR op_eq (pe_distT hr.units (by rfl) B.len (by rfl) B.set (pv 0)) (pe_callB call_len (by rfl) B.len PySem.boot_len (pa_cons (pv 0) pa_nil)) (nomark _))))) ), ?_⟩
    cases o with
    | none =>
      obtain ⟨t, ht, hk⟩ := h
      refine ⟨_, rfl, _, _, _, _, false, rfl, .ty _, ht, hk, false, rfl, iteF ?_⟩
      exact q H (Same.refl H)
    | some ls =>
      obtain ⟨a, xs, rfl, e, ha, hl⟩ := h
      have hxl := ha.len
      have few := few ls rfl
      refine ⟨_, rfl, _, _, _, _, true, rfl, .ty _, tyx_lst e, kit_ty (by decide +kernel), true, rfl, iteT ?_⟩
      refine ⟨_, rfl, a, rfl, ⟨_, SqL.of e⟩, fun D nD => ?_⟩
      refine lc_list (K := K) (a := a) (xs := xs) (fun i H' => Same H H' ∧ H' D = some (.lst ((ls.take i).map fun o => V.bl (factB o)))) ⟨same_new nD, upd_same⟩ (fun i H' _ y => SqL.of (y.1 _ _ e)) ?_ ?_
      · rintro i y H3 hi ⟨s3, e3⟩
        obtain ⟨o2, ho2, hy⟩ := ha.at_ hi
        refine ⟨rfl, _, rfl, y, o2, rfl, hy.same s3, fun H4 s4 => ?_⟩
        refine ⟨_, s4 _ _ e3, ?_, same_put (s3.trans s4) nD, ?_⟩
        · rw [List.length_map, List.length_take]
          exact Nat.lt_of_le_of_lt (by omega : _ ≤ 1000) (by decide)
        · rw [upd_same, take_one ho2, List.map_append] <;> rfl
      · rintro H3 ⟨s3, e3⟩
        rw [hxl, List.take_length] at e3
        refine ⟨D, ls.map factB, rfl, SqL.of (by rw [e3, List.map_map] <;> rfl), ?_⟩
        rw [List.all_map]
        have q := q H3 s3
        have e0 : storeB (some ls) = (ls.all factB && decide ls.Nodup) := rfl
        rw [e0] at q
        refine ⟨_, rfl, ?_⟩
        have hall : (ls.all (id ∘ factB)) = ls.all factB := rfl
        rw [hall]
        cases hb : ls.all factB with
        | false =>
          rw [hb] at q
          exact iteF q
        | true =>
          rw [hb] at q
          refine iteT ?_
          obtain ⟨ps, hp, hps, _⟩ := facts_of ha hb
          have nd : ls.Nodup ↔ ps.Nodup := by
            rw [hps]
            exact map_inj_nd fun x y => some_map_inj
          have lp : ps.length = ls.length := by rw [hps, List.length_map]
          refine ⟨_, rfl, a, xs, ps, rfl, SqL.of (s3 _ _ e), hp.same s3, by omega, fun n h1 h2 => ?_⟩
          refine ⟨_, rfl, _, _, rfl, .inl ⟨xs, SqL.of (s3 _ _ e), rfl⟩, ?_⟩
          have ev : decide (V.int (n : Int) = V.int (xs.length : Int)) = decide ls.Nodup := by
            refine decide_eq_decide.mpr ?_
            rw [nd, ← h2]
            constructor
            · intro z
              injection z with z
              omega
            · intro z
              rw [z, lp, hxl]
          refine ⟨rfl, ?_⟩
          show Q (V.bl (decide (V.int (n : Int) = V.int (xs.length : Int)))) H3
          rw [ev]
          exact q
end
end Nv
set_option maxHeartbeats 4000000
namespace Nv
open PySem PySem.Spec PyProof.Rows L2
/-! # setdefault with keys that are tuples -/
def rSetdT : V → List V → Hp → VK → Prop := fun x xs H Q => ∃ (a b : Addr) (kvs : List (List L2.Key × V)) (k : List L2.Key) (d : V), x = .ref a ∧ xs = [.ref b, d] ∧ H a = some (.dT kvs) ∧ H b = some (.tup (k.map kV)) ∧ kvs.length < sizeLine ∧
  (∀ v, valV kvs k = some v → Q v H) ∧ (valV kvs k = none → Q d (upd H a (.dT (putK kvs k d))))
section
variable {X : Cx}
theorem mt_setdT (hu : X.A.units + 1 < cLine) : MtR X "dict.setdefault" rSetdT := by
  intro pins s σ H x xs v us Q I rx rxs h
  obtain ⟨a, b, kvs, k, d, rfl, rfl, ha, hb, hl, q1, q2⟩ := h
  cases rx
  obtain ⟨u1, u2, rfl, r1, r2⟩ := vals2 rxs
  cases r1
  obtain ⟨z, hd, xs', rel, dd⟩ := dt_of I.hok ha
  have hz : xs'.length ≤ sizeLine := by rw [← Paired.length rel]; exact z
  refine PySem.call_setdefault_heap (knd := tupleKind (mixKind X.prog X.w)) (k := k) (tupleKind_room_in1 hu) (key_of I.hok hb) hd dd (fun p hp => ?_) (fun hn h' dd' hs => ?_) hz
  · have r := rel.val k
    rw [hp] at r
    cases ev : valV kvs k with
    | none =>
      rw [ev] at r
      exact (show False from r).elim
    | some v0 =>
      rw [ev] at r
      exact ⟨v0, H, I.tok _, r, q1 v0 ev⟩
  · have r := rel.val k
    rw [hn] at r
    have e : valV kvs k = none := by
      cases ev : valV kvs k with
      | none => rfl
      | some v0 =>
        rw [ev] at r
        exact (show False from r).elim
    obtain ⟨o, es, ep, hq, h2, h3, h4, _, h5⟩ := dd'
    have hl2 : (putK kvs k d).length ≤ sizeLine := by have := length_putK kvs k d; omega
    have I2 : Inv X pins σ (upd H a (.dT (putK kvs k d))) { s with heap := h' } := d_write I (by rw [ha]; exact True.intro) hs ⟨o, hq⟩ ⟨hl2, hd, _, (rel.put k hb r2).keeps fun c ys ec => (by
      rw [upd_ne (ne_of ec ha (fun z => nomatch z))]
      exact ec), o, es, ep, hq, h2, h3, h4, h5⟩
    exact ⟨d, _, I2.tok _, r2, q2 e⟩
end
/-- the kind of a fact, as a key -/
def kindK (p : List Str) : List L2.Key := match p with
  | [] => []
  | w :: ts => [.inr w, .inl (ts.length : Nat)]
def spKindOf (K : PySem.W.Frag) : Sp := fun vs H Q _ => ∃ (a : Addr) (p : List Str), vs = [.ref a] ∧ H a = some (.tup (p.map V.str)) ∧ 1 ≤ p.length ∧ p.length ≤ 1000 ∧ ∀ t, H t = none → Q (.ref t) (upd H t (.tup ((kindK p).map kV)))
section
variable {P : Program} {w : World} {K : PySem.W.Frag} {mg : Str → Option Value} {base : Heap}
theorem scKindOf : FnScope ["pattern"] ["pattern"] (defScope sKindOf) := ⟨rfl, rfl, rfl, by decide +kernel, rfl, by decide +kernel, by decide +kernel⟩
theorem ok_kindOf {f : Addr} {fd : FuncData} (F : Fun K "kind_of" "kind_of" sKindOf f fd) (B : Bp mg) : FnOk P w K mg base CX0 1 f fd ["pattern"] (spKindOf K) := by
  refine F.ok scKindOf (fun vs H Q E h => ?_) (fun cdv A outer s H vs Q E hr h => ?_)
  · obtain ⟨a, p, rfl, _⟩ := h
    rfl
  · obtain ⟨a, p, rfl, e, h1, h2, q⟩ := h
    refine ⟨_, pss_one (ps_ret (by exact (pe_tup (pa_cons (pe_ix ix_tup (pv 0) pe_int (fun _ _ => rfl)) (pa_cons (pe_op op_sub (pe_callB call_len_seq (by rfl) B.len PySem.boot_len (pa_cons (pv 0) pa_nil)) pe_int) pa_nil))))), ?_⟩
    obtain ⟨wd, ts, rfl⟩ : ∃ wd ts, p = wd :: ts := by
      cases p with
      | nil => exact absurd h1 (by decide)
      | cons wd ts => exact ⟨wd, ts, rfl⟩
    refine ⟨_, rfl, a, _, _, V.str wd, rfl, rfl, SqT.of e, atI_nat (j := 0) rfl, ?_⟩
    refine ⟨_, rfl, a, _, rfl, .inr (SqT.of e), _, _, rfl, rfl, ?_⟩
    dsimp only [tNil]
    refine ⟨by show 2 ≤ _; decide, fun t nt => ?_⟩
    have el : ((((wd :: ts).map V.str).length : Nat) : Int) - 1 = ((ts.length : Nat) : Int) := by
      rw [List.length_map, List.length_cons]
      omega
    have := q t nt
    rw [el]
    exact this
end
end Nv
set_option maxHeartbeats 4000000
namespace Nv
open PySem PySem.Spec PyProof.Rows L2
/-! # by_kind -/
/-- what has the key k -/
def pick (key : List Str → List L2.Key) (k : List L2.Key) (us : List V) (ps : List (List Str)) : List V := ((us.zip ps).filter fun z => decide (key z.2 = k)).map (·.1)
theorem zip_take {α β : Type} {us : List α} {ps : List β} {i : Nat} {u : α} {p : β} (h1 : us[i]? = some u) (h2 : ps[i]? = some p) : (us.take (i + 1)).zip (ps.take (i + 1)) = (us.take i).zip (ps.take i) ++ [(u, p)] := by
  have hu := (List.getElem?_eq_some_iff.mp h1).1
  have hp := (List.getElem?_eq_some_iff.mp h2).1
  rw [take_one h1, take_one h2, List.zip_append (by rw [List.length_take, List.length_take]; omega)] <;> rfl
theorem pick_step {key : List Str → List L2.Key} {k : List L2.Key} {us : List V} {ps : List (List Str)} {i : Nat} {u : V} {p : List Str} (h1 : us[i]? = some u) (h2 : ps[i]? = some p) :
    pick key k (us.take (i + 1)) (ps.take (i + 1)) = if key p = k then pick key k (us.take i) (ps.take i) ++ [u] else pick key k (us.take i) (ps.take i) := by
  unfold pick
  rw [zip_take h1 h2, List.filter_append, List.map_append]
  by_cases e : key p = k
  · rw [if_pos e, List.filter_cons_of_pos (by exact decide_eq_true e)] <;> rfl
  · rw [if_neg e, List.filter_cons_of_neg (by simpa using e)]
    exact List.append_nil _
theorem pick_len {key : List Str → List L2.Key} {k : List L2.Key} {us : List V} {ps : List (List Str)} : (pick key k us ps).length ≤ us.length := by
  unfold pick
  rw [List.length_map]
  refine Nat.le_trans (List.length_filter_le _ _) ?_
  rw [List.length_zip]
  exact Nat.min_le_left _ _
/-- the shelf at d, of lists that are new beside H0 -/
structure Shelf (key : List Str → List L2.Key) (H0 H : Hp) (d : Addr) (us : List V) (ps : List (List Str)) : Prop where
  ex : ∃ kvs : List (List L2.Key × V), H d = some (.dT kvs) ∧ kvs.length ≤ ps.length ∧ (∀ k v, valV kvs k = some v → ∃ l, v = .ref l ∧ H0 l = none ∧ H l = some (.lst (pick key k us ps))) ∧
    (∀ k, valV kvs k = none → pick key k us ps = []) ∧ ∀ k k' l, valV kvs k = some (.ref l) → valV kvs k' = some (.ref l) → k = k'
theorem valV_put {κ : Type} [DecidableEq κ] {kvs : List (κ × V)} {k k' : κ} {v : V} (h : valV kvs k = none) : valV (putK kvs k v) k' = if k' = k then some v else valV kvs k' := by
  have none_of : ∀ x ∈ kvs, x.1 ≠ k := fun x hx e => by
    unfold valV at h
    rw [Option.map_eq_none_iff, List.find?_eq_none] at h
    exact h x hx (decide_eq_true e)
  have hany : (kvs.any fun kv => decide (kv.1 = k)) = false := by
    rw [List.any_eq_false]
    exact fun x hx => by simpa using none_of x hx
  have e : putK kvs k v = kvs ++ [(k, v)] := by
    unfold putK
    rw [if_neg (by rw [hany]; exact Bool.false_ne_true)]
  rw [e]
  unfold valV
  rw [List.find?_append]
  by_cases z : k' = k
  · subst z
    have hn : (kvs.find? fun kv => decide (kv.1 = k')) = none := List.find?_eq_none.mpr fun x hx => by simpa using none_of x hx
    rw [hn, if_pos rfl]
    simp
  · rw [if_neg z]
    cases hf : kvs.find? fun kv => decide (kv.1 = k') with
    | some x => rfl
    | none =>
      have : ([(k, v)] : List (κ × V)).find? (fun kv => decide (kv.1 = k')) = none := List.find?_eq_none.mpr fun x hx => by
        rw [List.mem_singleton.mp hx]
        simpa using fun y => z y.symm
      rw [this] <;> rfl
theorem put_len {κ : Type} [DecidableEq κ] {kvs : List (κ × V)} {k : κ} {v : V} : (putK kvs k v).length ≤ kvs.length + 1 := length_putK kvs k v
def spByKind (K : PySem.W.Frag) : Sp := fun vs H Q _ => ∃ (a : Addr) (us : List V) (ps : List (List Str)), vs = [.ref a] ∧ SqL K H a us ∧ PaL H us ps ∧ (∀ p ∈ ps, FactOk p) ∧ ps.length ≤ 1000 ∧
  ∀ (d : Addr) (H' : Hp), H d = none → Same H H' → Shelf kindK H H' d us ps → Q (.ref d) H'
section
variable {P : Program} {w : World} {K : PySem.W.Frag} {mg : Str → Option Value} {base : Heap}
theorem scByKind : FnScope ["facts", "shelf", "fact"] ["facts"] (defScope sByKind) := ⟨rfl, rfl, rfl, by decide +kernel, rfl, by decide +kernel, by decide +kernel⟩
theorem ok_byKind {f fK : Addr} {fd dK : FuncData} (F : Fun K "by_kind" "by_kind" sByKind f fd) (GK : FnOk P w K mg base CX0 1 fK dK ["pattern"] (spKindOf K)) (kK : PySem.W.keepIn K (.ref fK) = true) (gK : mg "kind_of" = some (.ref fK)) (bK : Binds K dK ["pattern"] []) :
    FnOk P w K mg base CX0 2 f fd ["facts"] (spByKind K) := by
  refine F.ok scByKind (fun vs H Q E h => ?_) (fun cdv A outer s H vs Q E hr h => ?_)
  · obtain ⟨a, us, ps, rfl, _⟩ := h
    rfl
  · obtain ⟨a, us, ps, rfl, ha, hp, hok, hl, q⟩ := h
    have hr1 : Room 1 _ := hr.mono (by decide)
    refine ⟨_, pss_cons (ps_set (i := 1) scByKind.nd rfl (Or.inl rfl) pe_dnewT)
      (pss_cons (ps_for PassesOwn.never rfl (pi_list (pv 0)) (pg_name (i := 2) scByKind.nd rfl (Or.inl rfl))
        (pss_one (ps_expr (pe_bm PySem.F.plainAttrs_list PySem.F.slot_list_append PySem.F.type_list_append mt_append
          (pe_bm PySem.F.plainAttrs_dict PySem.F.slot_dict_setdefault PySem.F.type_dict_setdefault (mt_setdT (Nat.lt_of_le_of_lt (Nat.add_le_add_left (by decide : 1 ≤ 64) _) hr.units)) (pv 1) (pa_cons (by exact (pe_call GK hr1 (by rfl) gK kK bK .nil pass0 (pa_cons (pv 2) pa_nil))) (pa_cons (pe_lst pa_nil) pa_nil))) (pa_cons (pv 2) pa_nil)))))
      (pss_one (ps_ret (pv 1)))), ?_⟩
    refine fun d nd => ?_
    have hul := hp.len
    refine ⟨_, rfl, a, rfl, ⟨_, (same_new nd).seq ha⟩, for_list (K := K) (a := a) (xs := us) (fun i σ H' => ∃ (o2 : Option V), σ = [some (.ref a), some (.ref d), o2] ∧ Same H H' ∧ Shelf kindK H H' d (us.take i) (ps.take i)) ⟨none, rfl, same_new nd, ?_⟩ (fun i σ H' _ z => ?_) ?_ ?_⟩
    · exact ⟨[], upd_same, Nat.zero_le _, fun k v h => (by cases h), fun k _ => rfl, fun k k' l h => (by cases h)⟩
    · obtain ⟨_, _, sm, _⟩ := z
      exact sm.seq ha
    · rintro i v σ H1 hi ⟨o2, rfl, sm, S⟩
      obtain ⟨t, p, rfl, hpi, et⟩ := hp.at_ hi
      have hf := hok p (List.mem_of_getElem? hpi)
      have il : i < ps.length := (List.getElem?_eq_some_iff.mp hpi).1
      obtain ⟨kvs, e1, e2, e3, e4, e5⟩ := S
      refine ⟨_, rfl, .inr (.inr (.inl ⟨rfl, .inr ⟨kvs, e1⟩⟩)), _, rfl, ?_⟩
      dsimp only [tNil]
      refine ⟨t, p, rfl, sm _ _ et, hf.1.1, by have := hf.1.2; omega, fun b nb => ?_⟩
      have s1 : Same H1 (upd H1 b (.tup ((kindK p).map kV))) := same_new nb
      refine ⟨by show 0 ≤ _; exact Nat.zero_le _, fun n0 nn => ?_⟩
      have n1 : H1 n0 = none := by
        by_cases z : n0 = b
        · rw [z]; exact nb
        · rw [upd_ne z] at nn; exact nn
      have nb0 : n0 ≠ b := fun z => by
        rw [z, upd_same] at nn
        cases nn
      have nd0 : n0 ≠ d := fun z => by rw [z, e1] at n1; cases n1
      have nbd : b ≠ d := fun z => by rw [z, e1] at nb; cases nb
      generalize hG : upd (upd H1 b (.tup ((kindK p).map kV))) n0 (.lst []) = G
      have sG : Same H1 G := by rw [← hG]; exact s1.trans (same_new nn)
      have gb : G b = some (.tup ((kindK p).map kV)) := by rw [← hG, upd_ne (Ne.symm nb0), upd_same]
      have gn : G n0 = some (.lst []) := by rw [← hG, upd_same]
      clear hG
      have kl : kvs.length < sizeLine := by
        rw [List.length_take] at e2
        exact Nat.lt_of_le_of_lt (by omega : _ ≤ 1000) (by decide)
      have hlen : ∀ k, (pick kindK k (us.take i) (ps.take i)).length < sizeLine := fun k => by
        have := pick_len (key := kindK) (k := k) (us := us.take i) (ps := ps.take i)
        rw [List.length_take] at this
        exact Nat.lt_of_le_of_lt (by omega : _ ≤ 1000) (by decide)
      refine ⟨d, b, kvs, kindK p, .ref n0, rfl, rfl, sG _ _ e1, gb, kl, fun v hv => ?_, fun hn => ?_⟩
      · obtain ⟨l, rfl, nl, el⟩ := e3 _ _ hv
        have ld : l ≠ d := fun z => by rw [z, e1] at el; cases el
        refine ⟨.inl ⟨rfl, _, SqL.of (sG _ _ el)⟩, _, rfl, ?_⟩
        refine ⟨l, _, _, rfl, rfl, sG _ _ el, hlen _, ?_⟩
        refine ⟨some (.ref t), rfl, same_put (sm.trans sG) nl, ?_⟩
        refine ⟨kvs, by rw [upd_ne (Ne.symm ld)]; exact sG _ _ e1, by rw [List.length_take] at e2 ⊢; omega, fun k v hk => ?_, fun k hk => ?_, e5⟩
        · obtain ⟨l2, rfl, n2, el2⟩ := e3 _ _ hk
          refine ⟨l2, rfl, n2, ?_⟩
          rw [pick_step hi hpi]
          by_cases z : kindK p = k
          · subst z
            rw [hv] at hk
            cases hk
            rw [upd_same, if_pos rfl]
          · rw [if_neg z, upd_ne (fun y => z (e5 _ _ l hv (by rw [← y]; exact hk)))]
            exact sG _ _ el2
        · rw [pick_step hi hpi, if_neg (fun z => by rw [← z, hv] at hk; cases hk)]
          exact e4 k hk
      · refine ⟨.inl ⟨rfl, _, SqL.of (by rw [upd_ne nd0]; exact gn)⟩, _, rfl, ?_⟩
        refine ⟨n0, _, _, rfl, rfl, by rw [upd_ne nd0]; exact gn, by decide, ?_⟩
        have nH : H n0 = none := sm.free n1
        refine ⟨some (.ref t), rfl, same_put (same_put (sm.trans sG) nd) nH, ?_⟩
        refine ⟨putK kvs (kindK p) (.ref n0), by rw [upd_ne (Ne.symm nd0), upd_same], ?_, fun k v hk => ?_, fun k hk => ?_, fun k k' l h1 h2 => ?_⟩
        · have := put_len (kvs := kvs) (k := kindK p) (v := .ref n0)
          rw [List.length_take] at e2 ⊢
          omega
        · rw [valV_put hn] at hk
          rw [pick_step hi hpi]
          by_cases z : k = kindK p
          · rw [if_pos z] at hk
            cases hk
            refine ⟨n0, rfl, nH, ?_⟩
            rw [upd_same, if_pos z.symm, z, e4 _ hn]
          · rw [if_neg z] at hk
            obtain ⟨l2, rfl, n2, el2⟩ := e3 _ _ hk
            refine ⟨l2, rfl, n2, ?_⟩
            rw [if_neg (fun y => z y.symm), upd_ne (fun y => by rw [y] at el2; rw [n1] at el2; cases el2), upd_ne (fun y => by rw [y, e1] at el2; cases el2)]
            exact sG _ _ el2
        · rw [valV_put hn] at hk
          by_cases z : k = kindK p
          · rw [if_pos z] at hk
            cases hk
          · rw [if_neg z] at hk
            rw [pick_step hi hpi, if_neg (fun y => z y.symm)]
            exact e4 k hk
        · rw [valV_put hn] at h1 h2
          have old : ∀ k, valV kvs k ≠ some (.ref n0) := fun k z => by
            obtain ⟨l2, y, _, el2⟩ := e3 _ _ z
            cases y
            rw [n1] at el2
            cases el2
          by_cases z : k = kindK p
          · by_cases z2 : k' = kindK p
            · rw [z, z2]
            · rw [if_pos z] at h1
              rw [if_neg z2] at h2
              cases h1
              exact absurd h2 (old _)
          · rw [if_neg z] at h1
            by_cases z2 : k' = kindK p
            · rw [if_pos z2] at h2
              cases h2
              exact absurd h1 (old _)
            · rw [if_neg z2] at h2
              exact e5 _ _ _ h1 h2
    · rintro σ H1 ⟨o2, rfl, sm, S⟩
      rw [List.take_length, hul, List.take_length] at S
      exact ⟨_, rfl, q d H1 nd sm S⟩
end
end Nv
set_option maxHeartbeats 4000000
namespace Nv
open PySem PySem.Spec PyProof.Rows L2
/-! # the small helpers of joins -/
section
variable {P : Program} {w : World} {K : PySem.W.Frag} {mg : Str → Option Value} {base : Heap}
def spKnows (K : PySem.W.Frag) : Sp := fun vs H Q _ => ∃ (t p : Addr) (ts : List Str) (a b : Str), vs = [.ref t, .ref p] ∧ SqL K H t (ts.map V.str) ∧ H p = some (.tup [.str a, .str b]) ∧ Q (.bl (decide (a ∈ ts) && decide (b ∈ ts))) H
theorem scKnows : FnScope ["terms", "pair"] ["terms", "pair"] (defScope sKnows) := ⟨rfl, rfl, rfl, by decide +kernel, rfl, by decide +kernel, by decide +kernel⟩
theorem ok_knows {f : Addr} {fd : FuncData} (F : Fun K "_knows" "_knows" sKnows f fd) : FnOk P w K mg base CX0 1 f fd ["terms", "pair"] (spKnows K) := by
  refine F.ok scKnows (fun vs H Q E h => ?_) (fun cdv A outer s H vs Q E hr h => ?_)
  · obtain ⟨t, p, ts, a, b, rfl, _⟩ := h
    rfl
  · obtain ⟨t, p, ts, a, b, rfl, ht, hp, q⟩ := h
    refine ⟨_, pss_one (ps_ret (pe_and (pe_cmpR op_in_seq (pe_ix ix_tup (pv 1) pe_int (fun _ _ => rfl)) (pv 0) (by rfl)) (pe_one (pe_cmpR op_in_seq (pe_ix ix_tup (pv 1) pe_int (fun _ _ => rfl)) (pv 0) (by rfl))))), ?_⟩
    refine ⟨_, rfl, p, _, _, V.str a, rfl, rfl, SqT.of hp, atI_nat (j := 0) rfl, _, rfl, t, _, rfl, .inl ht, rfl, flat_strs _, ?_⟩
    show ∃ _, _
    rw [inV_strs]
    refine ⟨_, rfl, ?_⟩
    cases ha : decide (a ∈ ts) with
    | false =>
      rw [ha] at q
      exact iteF q
    | true =>
      rw [ha] at q
      refine iteT ?_
      refine ⟨_, rfl, p, _, _, V.str b, rfl, rfl, SqT.of hp, atI_nat (j := 1) rfl, _, rfl, t, _, rfl, .inl ht, rfl, flat_strs _, ?_⟩
      show Q (.bl (inV (.str b) (ts.map V.str))) H
      rw [inV_strs]
      exact q
/-- pairs of whole numbers -/
inductive IJs (H : Hp) : List V → List (Nat × Nat) → Prop
  | nil : IJs H [] []
  | cons {t : Addr} {z : Nat × Nat} {vs : List V} {zs : List (Nat × Nat)} (e : H t = some (.tup [.int (z.1 : Nat), .int (z.2 : Nat)])) (h : IJs H vs zs) : IJs H (.ref t :: vs) (z :: zs)
theorem IJs.same {H H' : Hp} {vs : List V} {zs : List (Nat × Nat)} (h : IJs H vs zs) (s : Same H H') : IJs H' vs zs := by
  induction h with
  | nil => exact .nil
  | cons e _ ih => exact .cons (s _ _ e) ih
theorem IJs.len {H : Hp} {vs : List V} {zs : List (Nat × Nat)} (h : IJs H vs zs) : vs.length = zs.length := by
  induction h with
  | nil => rfl
  | cons _ _ ih => simp [ih]
theorem IJs.snoc {H : Hp} {vs : List V} {zs : List (Nat × Nat)} {t : Addr} {z : Nat × Nat} (h : IJs H vs zs) (e : H t = some (.tup [.int (z.1 : Nat), .int (z.2 : Nat)])) : IJs H (vs ++ [.ref t]) (zs ++ [z]) := by
  induction h with
  | nil => exact .cons e .nil
  | cons e1 _ ih => exact .cons e1 ih
theorem IJs.at_ {H : Hp} {vs : List V} {zs : List (Nat × Nat)} (h : IJs H vs zs) {i : Nat} {v : V} (hi : vs[i]? = some v) : ∃ t z, v = .ref t ∧ zs[i]? = some z ∧ H t = some (.tup [.int (z.1 : Nat), .int (z.2 : Nat)]) := by
  induction h generalizing i with
  | nil => cases i <;> cases hi
  | cons e _ ih =>
    cases i with
    | zero =>
      cases hi
      exact ⟨_, _, rfl, rfl, e⟩
    | succ i => exact ih hi
/-- where a term stands first -/
def pos1 (ts : List Str) (z : Str) : Nat := ts.findIdx fun y => y == z
theorem pos1_at {ts : List Str} {z : Str} (h : z ∈ ts) : ts[pos1 ts z]? = some z ∧ ∀ m, m < pos1 ts z → ts[m]? ≠ some z := by
  have hl : pos1 ts z < ts.length := List.findIdx_lt_length_of_exists ⟨z, h, beq_self_eq_true z⟩
  refine ⟨?_, fun m hm e => ?_⟩
  · rw [List.getElem?_eq_getElem hl]
    have := List.findIdx_getElem (xs := ts) (p := fun y => y == z) (w := hl)
    exact congrArg some (eq_of_beq this)
  · have := List.not_of_lt_findIdx (xs := ts) (p := fun y => y == z) hm
    obtain ⟨h1, h2⟩ := List.getElem?_eq_some_iff.mp e
    rw [h2] at this
    exact absurd (beq_self_eq_true z) (by simpa using this)
/-- the reading of ts.index(z) -/
theorem idx_at {ts : List Str} {z : Str} (h : z ∈ ts) : (ts.map V.str)[pos1 ts z]? = some (.str z) ∧ ∀ m v, m < pos1 ts z → (ts.map V.str)[m]? = some v → eqV v (.str z) = false := by
  obtain ⟨h1, h2⟩ := pos1_at h
  refine ⟨by rw [List.getElem?_map, h1] <;> rfl, fun m v hm hv => ?_⟩
  obtain ⟨y, hy, rfl⟩ := at_map hv
  show (y == z) = false
  refine beq_eq_false_iff_ne.mpr fun e => ?_
  subst e
  exact h2 m hm hy
def PairIn (ts : List Str) (p : List Str) : Prop := ∃ a b, p = [a, b] ∧ a ∈ ts ∧ b ∈ ts
def ijOf (ts : List Str) (p : List Str) : Nat × Nat := (pos1 ts (p.getD 0 ""), pos1 ts (p.getD 1 ""))
def spPlacesOf (K : PySem.W.Frag) : Sp := fun vs H Q _ => ∃ (t a : Addr) (ts : List Str) (us : List V) (ps : List (List Str)), vs = [.ref t, .ref a] ∧ SqL K H t (ts.map V.str) ∧ SqL K H a us ∧ PaL H us ps ∧ (∀ p ∈ ps, PairIn ts p) ∧ ps.length ≤ 1000 ∧
  ∀ (p : Addr) (H' : Hp) (zs : List V), H p = none → Same H H' → H' p = some (.lst zs) → IJs H' zs (ps.map (ijOf ts)) → Q (.ref p) H'
theorem scPlacesOf : FnScope ["terms", "pairs", "one", "other"] ["terms", "pairs"] (defScope sPlacesOfPairs) := ⟨rfl, rfl, rfl, by decide +kernel, rfl, by decide +kernel, by decide +kernel⟩
theorem ok_placesOf {f : Addr} {fd : FuncData} (F : Fun K "_places_of_pairs" "_places_of_pairs" sPlacesOfPairs f fd) : FnOk P w K mg base CX0 1 f fd ["terms", "pairs"] (spPlacesOf K) := by
  refine F.ok scPlacesOf (fun vs H Q E h => ?_) (fun cdv A outer s H vs Q E hr h => ?_)
  · obtain ⟨t, a, ts, us, ps, rfl, _⟩ := h
    rfl
  · obtain ⟨t, a, ts, us, ps, rfl, ht, ha, hp, hin, hl, q⟩ := h
    refine ⟨_, pss_one (ps_ret (by exact (pe_lc (own := [("one", 2), ("other", 3)]) (g := gTup K 2 (gCons (gName 2) (gCons (gName 3) gNil))) (tt := tYes)
        (te := tTup (tCons (tBM K "list" (rIndex K) (tVar 0) (tCons (tVar 2) tNil)) (tCons (tBM K "list" (rIndex K) (tVar 0) (tCons (tVar 3) tNil)) tNil))) rfl scPlacesOf.nd (pi_list (pv 1))
      (blkOk_by (own := [("one", 2), ("other", 3)]) (N := ["terms", "pairs", "one", "other"]) (sc := defScope sPlacesOfPairs) (by decide +kernel))
      (fun _ _ _ _ _ => pg_tup rfl (pgs_cons (pg_name (i := 2) scPlacesOf.nd rfl (Or.inl rfl)) (pgs_cons (pg_name (i := 3) scPlacesOf.nd rfl (Or.inl rfl)) pgs_nil))) (fun _ _ _ _ _ => pts_nil)
      (fun _ _ _ _ _ => by exact (pe_tup (pa_cons (pe_bm PySem.F.plainAttrs_list PySem.F.slot_list_index PySem.F.type_list_index mt_index (pv 0) (pa_cons (pv 2) pa_nil)) (pa_cons (pe_bm PySem.F.plainAttrs_list PySem.F.slot_list_index PySem.F.type_list_index mt_index (pv 0) (pa_cons (pv 3) pa_nil)) pa_nil))))))), ?_⟩
    have hul := hp.len
    refine ⟨_, rfl, a, rfl, ⟨_, ha⟩, fun D nD => ?_⟩
    refine lc_list (K := K) (a := a) (xs := us) (fun i H' => Same H H' ∧ ∃ zs : List V, H' D = some (.lst zs) ∧ IJs H' zs ((ps.take i).map (ijOf ts))) ⟨same_new nD, [], upd_same, .nil⟩ (fun i H' _ y => y.1.seq ha) ?_ ?_
    · rintro i v H1 hi ⟨sm, zs, e1, hz⟩
      obtain ⟨b, p, rfl, hpi, eb⟩ := hp.at_ hi
      obtain ⟨x, y, rfl, hx, hy⟩ := hin p (List.mem_of_getElem? hpi)
      have il := (List.getElem?_eq_some_iff.mp hpi).1
      have ht1 := sm.seq ht
      refine ⟨b, _, rfl, SqT.of (sm _ _ eb), rfl, _, _, rfl, _, _, rfl, rfl, rfl, ?_⟩
      obtain ⟨x1, x2⟩ := idx_at hx
      obtain ⟨y1, y2⟩ := idx_at hy
      refine ⟨_, rfl, .inl ⟨rfl, _, ht1⟩, _, rfl, t, ts.map V.str, .str x, pos1 ts x, .str x, rfl, rfl, ht1, rfl, flat_strs _, x1, by show (x == x) = true; exact beq_self_eq_true x, x2, ?_⟩
      refine ⟨_, rfl, .inl ⟨rfl, _, ht1⟩, _, rfl, t, ts.map V.str, .str y, pos1 ts y, .str y, rfl, rfl, ht1, rfl, flat_strs _, y1, by show (y == y) = true; exact beq_self_eq_true y, y2, ?_⟩
      dsimp only [tNil]
      refine ⟨by show 2 ≤ _; decide, fun q2 nq => ?_⟩
      have sq : Same H1 (upd H1 q2 (.tup [.int (pos1 ts x : Nat), .int (pos1 ts y : Nat)])) := same_new nq
      refine ⟨zs, sq _ _ e1, ?_, same_put (sm.trans sq) nD, _, upd_same, ?_⟩
      · have := hz.len
        rw [List.length_map, List.length_take] at this
        exact Nat.lt_of_le_of_lt (by omega : _ ≤ 1000) (by decide)
      · rw [take_one hpi, List.map_append]
        have e2 : H1 q2 = none := nq
        have d2 : q2 ≠ D := fun z => by rw [z, e1] at e2; cases e2
        refine IJs.snoc ?_ (by rw [upd_ne d2, upd_same] <;> rfl)
        have s3 := hz.same sq
        have key : ∀ {ws : List V} {ijs : List (Nat × Nat)}, IJs (upd H1 q2 (.tup [.int (pos1 ts x : Nat), .int (pos1 ts y : Nat)])) ws ijs → IJs (upd (upd H1 q2 (.tup [.int (pos1 ts x : Nat), .int (pos1 ts y : Nat)])) D (.lst (zs ++ [V.ref q2]))) ws ijs := by
          intro ws ijs h
          induction h with
          | nil => exact .nil
          | @cons t z _ _ e _ ih =>
            refine .cons ?_ ih
            rw [upd_ne (fun w => by rw [w, sq _ _ e1] at e; cases e)]
            exact e
        exact key s3
    · rintro H1 ⟨sm, zs, e1, hz⟩
      rw [hul, List.take_length] at hz
      exact q D H1 zs nD sm e1 hz
end
end Nv
set_option maxHeartbeats 4000000
namespace Nv
open PySem PySem.Spec PyProof.Rows L2
/-! # _kept_apart -/
def apartB (z : Nat × Nat) (p : List Str) : Bool := !decide (p.getD z.1 "" = p.getD z.2 "")
def keepA (ijs : List (Nat × Nat)) (ps : List (List Str)) : List (List Str) := ijs.foldl (fun qs z => qs.filter (apartB z)) ps
theorem keepA_sub : ∀ (ijs : List (Nat × Nat)) {ps : List (List Str)} {p : List Str}, p ∈ keepA ijs ps → p ∈ ps
  | [], _, _, h => h
  | z :: ijs, ps, p, h => (List.mem_filter.mp (keepA_sub ijs (ps := ps.filter (apartB z)) h)).1
theorem keepA_len (ijs : List (Nat × Nat)) (ps : List (List Str)) : (keepA ijs ps).length ≤ ps.length := by
  induction ijs generalizing ps with
  | nil => exact Nat.le_refl _
  | cons z ijs ih => exact Nat.le_trans (ih _) (List.length_filter_le _ _)
theorem PaL.over {H : Hp} {D : Addr} {xs : List V} {o : HO} {vs : List V} {ps : List (List Str)} (h : PaL H vs ps) (e : H D = some (.lst xs)) : PaL (upd H D o) vs ps := by
  induction h with
  | nil => exact .nil
  | cons e1 _ ih => exact .cons (by rw [upd_ne (fun z => by rw [z, e] at e1; cases e1)]; exact e1) ih
theorem getD_str {p : List Str} {i : Nat} (h : i < p.length) : (p.map V.str)[i]? = some (.str (p.getD i "")) := by
  rw [List.getElem?_map, List.getD_eq_getElem?_getD, List.getElem?_eq_getElem h] <;> rfl
theorem filter_take {α : Type} {f : α → Bool} {l : List α} {i : Nat} {x : α} (h : l[i]? = some x) : (l.take (i + 1)).filter f = (l.take i).filter f ++ if f x = true then [x] else [] := by
  rw [take_one h, List.filter_append]
  cases hf : f x
  · rw [List.filter_cons_of_neg (by rw [hf]; exact Bool.false_ne_true), if_neg Bool.false_ne_true] <;> rfl
  · rw [List.filter_cons_of_pos hf, if_pos rfl] <;> rfl
section
variable {P : Program} {w : World} {K : PySem.W.Frag} {mg : Str → Option Value} {base : Heap}
def spKeptApart (K : PySem.W.Frag) : Sp := fun vs H Q _ => ∃ (r a : Addr) (us zs : List V) (ps : List (List Str)) (ijs : List (Nat × Nat)), vs = [.ref r, .ref a] ∧ H r = some (.lst us) ∧ PaL H us ps ∧ SqL K H a zs ∧ IJs H zs ijs ∧
  (∀ p ∈ ps, ∀ z ∈ ijs, z.1 < p.length ∧ z.2 < p.length) ∧ ps.length ≤ 100000 ∧
  ∀ (r' : Addr) (H' : Hp) (us' : List V), (r' = r ∨ H r' = none) → Same H H' → H' r' = some (.lst us') → PaL H' us' (keepA ijs ps) → Q (.ref r') H'
theorem scKeptApart : FnScope ["rows", "apart", "one", "other", "row"] ["rows", "apart"] (defScope sKeptApart) := ⟨rfl, rfl, rfl, by decide +kernel, rfl, by decide +kernel, by decide +kernel⟩
theorem ok_keptApart {f : Addr} {fd : FuncData} (F : Fun K "_kept_apart" "_kept_apart" sKeptApart f fd) : FnOk P w K mg base CX0 1 f fd ["rows", "apart"] (spKeptApart K) := by
  refine F.ok scKeptApart (fun vs H Q E h => ?_) (fun cdv A outer s H vs Q E hr h => ?_)
  · obtain ⟨r, a, us, zs, ps, ijs, rfl, _⟩ := h
    rfl
  · obtain ⟨r, a, us, zs, ps, ijs, rfl, er, hp, ha, hz, hin, hl, q⟩ := h
    refine ⟨_, pss_cons (ps_for PassesOwn.never rfl (pi_list (pv 1)) (pg_tup rfl (pgs_cons (pg_name (i := 2) scKeptApart.nd rfl (Or.inr rfl)) (pgs_cons (pg_name (i := 3) scKeptApart.nd rfl (Or.inr rfl)) pgs_nil)))
        (pss_one (by exact (ps_setLc (i := 0) (own := [("row", 4)]) (g := gName 4) (tt := tTest (tOp rNe (tOp (rIxT K) (tVar 4) (tVar 2)) (tOp (rIxT K) (tVar 4) (tVar 3)))) (te := tVar 4) rfl scKeptApart.nd rfl rfl (sw_true rfl rfl rfl (by decide +kernel))
          (pi_list (pv 0))
          (blkOk_by (own := [("row", 4)]) (N := ["rows", "apart", "one", "other", "row"]) (sc := defScope sKeptApart) (by decide +kernel))
          (fun _ _ _ _ _ => pg_name (i := 4) scKeptApart.nd rfl (Or.inl rfl)) (fun _ _ _ _ _ => pts_one (by exact (pt_cmpR op_ne (pe_ix ix_tup (pv 4) (pv 2) (fun _ _ => rfl)) (pe_ix ix_tup (pv 4) (pv 3) (fun _ _ => rfl)) (nomark _))))
          (fun _ _ _ _ _ => by exact (pv 4))))))
      (pss_one (ps_ret (pv 0))), ?_⟩
    refine ⟨_, rfl, a, rfl, ⟨_, ha⟩, for_list (K := K) (a := a) (xs := zs) (fun i σ H' => ∃ (r' : Addr) (us' : List V) (o2 o3 : Option V), σ = [some (.ref r'), some (.ref a), o2, o3, none] ∧ (r' = r ∨ H r' = none) ∧ Same H H' ∧ H' r' = some (.lst us') ∧ PaL H' us' (keepA (ijs.take i) ps)) ⟨r, us, none, none, rfl, .inl rfl, Same.refl H, er, hp⟩ (fun i σ H' _ z => ?_) ?_ ?_⟩
    · obtain ⟨_, _, _, _, _, _, sm, _⟩ := z
      exact sm.seq ha
    · rintro i v σ H1 hi ⟨r', us', o2, o3, rfl, nw, sm, e1, hp1⟩
      obtain ⟨b, z, rfl, hzi, eb⟩ := hz.at_ hi
      have hfold : keepA (ijs.take (i + 1)) ps = (keepA (ijs.take i) ps).filter (apartB z) := by
        unfold keepA
        rw [take_one hzi, List.foldl_append] <;> rfl
      have hlq := keepA_len (ijs.take i) ps
      have hinq : ∀ p ∈ keepA (ijs.take i) ps, z.1 < p.length ∧ z.2 < p.length := fun p hp => hin p (keepA_sub _ hp) z (List.mem_of_getElem? hzi)
      generalize keepA (ijs.take i) ps = qs at hp1 hfold hlq hinq
      refine ⟨b, _, rfl, SqT.of (sm _ _ eb), rfl, _, _, rfl, _, _, rfl, rfl, ?_⟩
      refine ⟨_, rfl, r', rfl, ⟨_, SqL.of e1⟩, fun D nD => ?_⟩
      have hul := hp1.len
      refine lc_list (K := K) (a := r') (xs := us') (fun j H' => Same H1 H' ∧ ∃ ws : List V, H' D = some (.lst ws) ∧ PaL H' ws ((qs.take j).filter (apartB z))) ⟨same_new nD, [], upd_same, .nil⟩ (fun i H' _ y => SqL.of (y.1 _ _ e1)) ?_ ?_
      · rintro j v H2 hj ⟨s2, ws, e2, hw⟩
        obtain ⟨t, p, rfl, hpj, et⟩ := hp1.at_ hj
        have jl := (List.getElem?_eq_some_iff.mp hpj).1
        obtain ⟨l1, l2⟩ := hinq p (List.mem_of_getElem? hpj)
        have et2 := s2 _ _ et
        refine ⟨rfl, _, rfl, _, rfl, t, _, _, _, rfl, rfl, SqT.of et2, atI_nat (getD_str l1), ?_⟩
        refine ⟨_, rfl, _, rfl, t, _, _, _, rfl, rfl, SqT.of et2, atI_nat (getD_str l2), ?_⟩
        refine ⟨rfl, _, rfl, ?_⟩
        have eb2 : (!decide (V.str (p.getD z.1 "") = V.str (p.getD z.2 ""))) = apartB z p := by
          unfold apartB
          congr 1
          exact decide_eq_decide.mpr ⟨fun h => by injection h, fun h => by rw [h]⟩
        show if (!decide (V.str (p.getD z.1 "") = V.str (p.getD z.2 ""))) = true then _ else _
        rw [eb2]
        have ft := filter_take (f := apartB z) hpj
        cases hb : apartB z p with
        | true =>
          rw [hb, if_pos rfl] at ft
          refine iteT ⟨_, rfl, ws, e2, ?_, same_put s2 nD, _, upd_same, ?_⟩
          · have h1 := hw.len
            have h2 := List.length_filter_le (apartB z) (qs.take j)
            rw [List.length_take] at h2
            exact Nat.lt_of_le_of_lt (by omega : _ ≤ 100000) (by decide)
          · rw [ft]
            exact (hw.over e2).app (.cons (by rw [upd_ne (fun w => by rw [w, e2] at et2; cases et2)]; exact et2) .nil)
        | false =>
          rw [hb, if_neg Bool.false_ne_true, List.append_nil] at ft
          refine iteF ⟨s2, ws, e2, ?_⟩
          rw [ft]
          exact hw
      · rintro H2 ⟨s2, ws, e2, hw⟩
        rw [hul, List.take_length] at hw
        exact ⟨D, ws, _, _, rfl, .inr (sm.free nD), sm.trans s2, e2, by rw [hfold]; exact hw⟩
    · rintro σ H1 ⟨r', us', o2, o3, rfl, nw, sm, e1, hp1⟩
      rw [hz.len, List.take_length] at hp1
      exact ⟨_, rfl, q r' H1 us' nw sm e1 hp1⟩
end
end Nv
set_option maxHeartbeats 4000000
namespace Nv
open PySem PySem.Spec PyProof.Rows L2
/-! # _law_bags -/
theorem any_dT {qs : List (List Str)} {p : List Str} : ((qs.map dT).any fun z => PyData.eqv z (dT p)) = decide (p ∈ qs) := by
  rw [List.any_map]
  by_cases h : p ∈ qs
  · rw [decide_eq_true h, List.any_eq_true]
    exact ⟨p, h, by
      show PyData.eqv (dT p) (dT p) = true
      rw [eqv_T]
      exact decide_eq_true rfl⟩
  · rw [decide_eq_false h, List.any_eq_false]
    intro q hq z
    have z2 : PyData.eqv (dT q) (dT p) = true := z
    rw [eqv_T] at z2
    exact h (of_decide_eq_true z2 ▸ hq)
def ends3 : List Str := ["a", "b", "x"]
theorem ends3_nm : ∀ z ∈ ends3, IsNm z := by decide +kernel
theorem nm_way : IsNm "way" := by decide +kernel
theorem nm_p : IsNm "p" := by decide +kernel
section
variable {P : Program} {w : World} {K : PySem.W.Frag} {mg : Str → Option Value} {base : Heap}
def spBags : Sp := fun vs H Q _ => ∃ (a : Addr) (n : Nat), vs = [.ref a] ∧ Pu H a (n + 16) ∧
  ∀ (p : Addr) (us : List V) (ps : List (List Str)) (H' : Hp), Pu H' a n → Sb a H H' → p ≠ a → H' p = some (.lst us) → PaL H' us ps → (∀ x ∈ ps, FactOk x) → ps.Nodup → ps.length ≤ 5 → Q (.ref p) H'
abbrev nBags : List Str := ["_law_purse_here", "_law_found", "_law_turn", "_law_ends", "_law_thing", "_law_spot"]
theorem scBags : FnScope nBags ["_law_purse_here"] (defScope sBags) := ⟨rfl, rfl, rfl, by decide +kernel, rfl, by decide +kernel, by decide +kernel⟩
theorem ok_bags {f fD fO : Addr} {fd dD dO : FuncData} (F : Fun K "_law_bags" "_law_bags" sBags f fd) (rg : mg "range" = none) (GD : FnOk P w K mg base CX0 2 fD dD ["_law_purse_here", "_law_many"] spDraw) (kD : PySem.W.keepIn K (.ref fD) = true) (gD : mg "_law_draw" = some (.ref fD)) (bD : Binds K dD ["_law_purse_here", "_law_many"] [])
    (GO : FnOk P w K mg base CX0 3 fO dO ["_law_purse_here", "_law_some"] (spOneOf K)) (kO : PySem.W.keepIn K (.ref fO) = true) (gO : mg "_law_one_of" = some (.ref fO)) (bO : Binds K dO ["_law_purse_here", "_law_some"] []) :
    FnOk P w K mg base CX0 4 f fd ["_law_purse_here"] spBags := by
  refine F.ok scBags (fun vs H Q E h => ?_) (fun cdv A outer s H vs Q E hr h => ?_)
  · obtain ⟨a, n, rfl, _⟩ := h
    rfl
  · obtain ⟨a, n, rfl, pu, q⟩ := h
    have hr2 : Room 2 _ := hr.mono (by decide)
    have hr3 : Room 3 _ := hr.mono (by decide)
    have hu : (A.deeper (envOfC "_law_bags" (defScope sBags) s.heap.objs.size f cdv)).units + 65 < cLine := by have := hr.un; omega
    refine ⟨_, pss_cons (ps_set (i := 1) scBags.nd rfl (Or.inl rfl) (pe_lst pa_nil))
      (pss_cons (ps_for PassesOwn.never rfl (pi_range1 (by rfl) rg (pa_cons (by exact (pe_call GD hr2 (by rfl) gD kD bD .nil pass0 (pa_cons (pv 0) (pa_cons pe_int pa_nil)))) pa_nil)) (pg_name (i := 2) scBags.nd rfl (Or.inl rfl))
        (pss_cons (by exact (ps_setLc (i := 3) (own := [("_law_spot", 5)]) (g := gName 5) (tt := tYes) (te := tCall (spOneOf K) [] E0 (tCons (tVar 0) (tCons (tLst (tCons (tC (.str "a")) (tCons (tC (.str "b")) (tCons (tC (.str "x")) tNil)))) tNil))) rfl scBags.nd rfl rfl (sw_true rfl rfl rfl (by decide +kernel))
          (pi_range1 (by rfl) rg (pa_cons pe_int pa_nil))
          (blkOk_by (own := [("_law_spot", 5)]) (N := nBags) (sc := defScope sBags) (by decide +kernel))
          (fun _ _ _ _ _ => pg_name (i := 5) scBags.nd rfl (Or.inl rfl)) (fun _ _ _ _ _ => pts_nil)
          (fun _ _ _ _ _ => by exact (pe_call GO hr3 (by rfl) gO kO bO .nil pass0 (pa_cons (pv 0) (pa_cons (pe_lst (pa_cons pe_str (pa_cons pe_str (pa_cons pe_str pa_nil)))) pa_nil))))))
        (pss_cons (ps_set (i := 4) scBags.nd rfl (Or.inl rfl) (by exact (pe_call GO hr3 (by rfl) gO kO bO .nil pass0 (pa_cons (pv 0) (pa_cons (pe_lst (pa_cons (pe_tup (pa_cons pe_str (pa_cons (pe_ix ix_list (pv 3) pe_int (fun _ _ => rfl)) (pa_cons (pe_ix ix_list (pv 3) pe_int (fun _ _ => rfl)) pa_nil))))
            (pa_cons (pe_tup (pa_cons pe_str (pa_cons (pe_ix ix_list (pv 3) pe_int (fun _ _ => rfl)) pa_nil))) pa_nil))) pa_nil)))))
        (pss_one (ps_if (pt_cmpR (op_notInD hu) (pv 4) (pv 1) (by rfl)) (pss_one (ps_expr (pe_bm PySem.F.plainAttrs_list PySem.F.slot_list_append PySem.F.type_list_append mt_append (pv 1) (pa_cons (pv 4) pa_nil)))) pss_nil)))))
      (pss_one (ps_ret (pv 1)))), ?_⟩
    refine ⟨by show 0 ≤ _; exact Nat.zero_le _, fun b nb => ?_⟩
    have s1 : Same H (upd H b (.lst [])) := same_new nb
    have eb : upd H b (.lst []) b = some (.lst []) := upd_same
    have ba : b ≠ a := pu.ne nb
    generalize upd H b (.lst []) = H1 at s1 eb ⊢
    have pu1 := pu.same s1
    show tSeq _ _ _ _ _
    refine ⟨_, rfl, ?_⟩
    dsimp only [tNil]
    refine ⟨a, n + 15, 6, rfl, pu1, ⟨by decide, by decide⟩, fun r H2 r0 r1 pu2 sb2 => ⟨r, rfl, by omega, by omega, ?_⟩⟩
    obtain ⟨N, rfl⟩ : ∃ N : Nat, r = (N : Int) := ⟨r.toNat, by omega⟩
    rw [Int.toNat_natCast]
    have eb2 := sb2 _ _ ba eb
    have sb02 : Sb a H H2 := (Sb.of s1).trans sb2
    show ∃ W : Nat → Nat → L2.St → Hp → Prop, (∃ m, W 0 m [some (.ref a), some (.ref b), none, none, none, none] H2) ∧ _
    refine for_range (D := { nx := tRet (tVar 1) { nx := fun x H' => Q V.non H', rt := Q }, rt := Q }) (lo := 0) (n := N) (fun i σ G => ∃ (o2 o3 o4 : Option V) (us : List V) (ps : List (List Str)), σ = [some (.ref a), some (.ref b), o2, o3, o4, none] ∧ Pu G a (n + (15 - 3 * i)) ∧ Sb a H G ∧ G b = some (.lst us) ∧ PaL G us ps ∧ (∀ x ∈ ps, FactOk x) ∧ ps.Nodup ∧ ps.length ≤ i)
      ⟨none, none, none, [], [], rfl, pu2, sb02, eb2, .nil, (fun _ h => nomatch h), List.nodup_nil, Nat.le_refl _⟩ ?_ ?_
    · rintro i σ G hi ⟨o2, o3, o4, us, ps, rfl, puG, sbG, ebG, hp, ok, nd, few⟩
      refine ⟨2, rfl, by decide, by decide, fun D nD => ?_⟩
      have Da : D ≠ a := puG.ne nD
      have Db : D ≠ b := fun z => by rw [z, ebG] at nD; cases nD
      refine lc_range (lo := 0) (n := 2) (fun j H' => Pu H' a (n + (15 - 3 * i) - j) ∧ Sb a G H' ∧ ∃ zs : List Str, zs.length = j ∧ (∀ z ∈ zs, z ∈ ends3) ∧ H' D = some (.lst (zs.map V.str)))
        ⟨puG.put Da, Sb.new nD, [], rfl, (fun _ h => nomatch h), upd_same⟩ ?_ ?_
      · rintro j G1 hj ⟨pu3, sb3, zs, zl, zok, eD⟩
        refine ⟨rfl, _, rfl, by show 3 ≤ _; decide, fun c nc => ?_⟩
        have ca : c ≠ a := pu3.ne nc
        have sc : Same G1 (upd G1 c (.lst [.str "a", .str "b", .str "x"])) := same_new nc
        have ec : upd G1 c (.lst [.str "a", .str "b", .str "x"]) c = some (.lst [.str "a", .str "b", .str "x"]) := upd_same
        generalize upd G1 c (.lst [.str "a", .str "b", .str "x"]) = G2 at sc ec ⊢
        dsimp only [tNil]
        have puc := pu3.same sc
        refine ⟨a, c, n + (15 - 3 * i) - (j + 1), _, rfl, puc.le (by omega), SqL.of ec, ca, ⟨by show 1 ≤ 3; decide, by show 3 ≤ 1000; decide⟩, fun v G3 hv pu4 sb4 => ?_⟩
        obtain ⟨z, rfl, hz⟩ : ∃ z : Str, v = .str z ∧ z ∈ ends3 := by
          have hv2 : v ∈ ends3.map V.str := hv
          obtain ⟨z, hz, rfl⟩ := List.mem_map.mp hv2
          exact ⟨z, rfl, hz⟩
        refine ⟨_, sb4 _ _ Da (sc _ _ eD), ?_, pu4.put Da, ((sb3.then sc).trans sb4).put nD, zs ++ [z], by rw [List.length_append, zl] <;> rfl, fun y hy => ?_, by rw [upd_same, List.map_append] <;> rfl⟩
        · rw [List.length_map, zl]
          exact Nat.lt_of_le_of_lt (by omega : _ ≤ 2) (by decide)
        · rcases List.mem_append.mp hy with hy | hy
          · exact zok y hy
          · rw [List.mem_singleton.mp hy]
            exact hz
      · rintro G1 ⟨pu3, sb3, zs, zl, zok, eD⟩
        match zs, zl with
        | [z0, z1], _ =>
        have m0 := ends3_nm z0 (zok z0 (by simp))
        have m1 := ends3_nm z1 (zok z1 (by simp))
        show tSeq _ _ _ _ _
        refine ⟨_, rfl, _, rfl, D, _, _, _, rfl, rfl, SqL.of eD, atI_nat (j := 0) rfl, _, rfl, D, _, _, _, rfl, rfl, SqL.of eD, atI_nat (j := 1) rfl, by show 3 ≤ _; decide, fun t1 n1 => ?_⟩
        have q1 : Same G1 (upd G1 t1 (.tup [.str "way", .str z0, .str z1])) := same_new n1
        have f1 : upd G1 t1 (.tup [.str "way", .str z0, .str z1]) t1 = some (.tup [.str "way", .str z0, .str z1]) := upd_same
        generalize upd G1 t1 (.tup [.str "way", .str z0, .str z1]) = G2 at q1 f1 ⊢
        refine ⟨_, rfl, D, _, _, _, rfl, rfl, SqL.of (q1 _ _ eD), atI_nat (j := 0) rfl, by show 2 ≤ _; decide, fun t2 n2 => ?_⟩
        have q2 : Same G2 (upd G2 t2 (.tup [.str "p", .str z0])) := same_new n2
        have f2 : upd G2 t2 (.tup [.str "p", .str z0]) t2 = some (.tup [.str "p", .str z0]) := upd_same
        generalize upd G2 t2 (.tup [.str "p", .str z0]) = G3 at q2 f2 ⊢
        refine ⟨by show 2 ≤ _; decide, fun c nc => ?_⟩
        have pu5 := (pu3.same q1).same q2
        have ca : c ≠ a := pu5.ne nc
        have q3 : Same G3 (upd G3 c (.lst [.ref t1, .ref t2])) := same_new nc
        have f3 : upd G3 c (.lst [.ref t1, .ref t2]) c = some (.lst [.ref t1, .ref t2]) := upd_same
        generalize upd G3 c (.lst [.ref t1, .ref t2]) = G4 at q3 f3 ⊢
        dsimp only [tNil]
        have q13 := (q1.trans q2).trans q3
        have pu6 := pu5.same q3
        refine ⟨a, c, n + (15 - 3 * (i + 1)), _, rfl, pu6.le (by omega), SqL.of f3, ca, ⟨by show 1 ≤ 2; decide, by show 2 ≤ 1000; decide⟩, fun v G5 hv pu7 sb7 => ?_⟩
        have both2 : PaL G5 [.ref t1, .ref t2] [["way", z0, z1], ["p", z0]] := PaL.sb (H := G4) (.cons (q3 _ _ (q2 _ _ f1)) (.cons (q3 _ _ f2) .nil)) pu6 sb7
        obtain ⟨t, p, rfl, et, fp⟩ : ∃ (t : Addr) (p : List Str), v = .ref t ∧ G5 t = some (.tup (p.map V.str)) ∧ FactOk p := by
          cases both2 with
          | cons g1 rest =>
            cases rest with
            | cons g2 _ =>
              rcases List.mem_cons.mp hv with rfl | hv
              · refine ⟨t1, _, rfl, g1, ⟨by show 1 ≤ 3; decide, by show 3 ≤ 4; decide⟩, fun y hy => ?_⟩
                rcases List.mem_cons.mp hy with rfl | hy
                · exact nm_way
                rcases List.mem_cons.mp hy with rfl | hy
                · exact m0
                rw [List.mem_singleton.mp hy]
                exact m1
              · rw [List.mem_singleton.mp hv]
                refine ⟨t2, _, rfl, g2, ⟨by show 1 ≤ 2; decide, by show 2 ≤ 4; decide⟩, fun y hy => ?_⟩
                rcases List.mem_cons.mp hy with rfl | hy
                · exact nm_p
                rw [List.mem_singleton.mp hy]
                exact m0
        have sbG5 : Sb a G G5 := (sb3.then q13).trans sb7
        have hp5 : PaL G5 us ps := hp.sb puG sbG5
        have eb5 := sbG5 _ _ ba ebG
        dsimp only
        refine ⟨_, rfl, _, rfl, dT p, ps.map dT, dp_T et, dp_L (SqL.of eb5) hp5, (lay_dT fun z hz => (fp.2 z hz).asc).shaped (by decide), (lay_dL fun x hx z hz => ((ok x hx).2 z hz).asc).shaped (by decide), _, rfl, ?_⟩
        rw [any_dT]
        by_cases h : p ∈ ps
        · rw [decide_eq_true h]
          exact iteF ⟨_, _, _, us, ps, rfl, pu7, sbG.trans sbG5, eb5, hp5, ok, nd, by omega⟩
        · rw [decide_eq_false h]
          refine iteT ⟨_, rfl, .inl ⟨rfl, _, SqL.of eb5⟩, _, rfl, b, _, _, rfl, rfl, eb5, ?_, ?_⟩
          · rw [hp5.len]
            exact Nat.lt_of_le_of_lt (by omega : _ ≤ 5) (by decide)
          · refine ⟨_, _, _, us ++ [.ref t], ps ++ [p], rfl, pu7.put ba, (sbG.trans sbG5).put nb, upd_same, (hp5.over eb5).app (.cons (by rw [upd_ne (fun z => by rw [z, eb5] at et; cases et)]; exact et) .nil), fun x hx => ?_, ?_, by rw [List.length_append]; show ps.length + 1 ≤ _; omega⟩
            · rcases List.mem_append.mp hx with hx | hx
              · exact ok x hx
              · rw [List.mem_singleton.mp hx]
                exact fp
            · rw [List.nodup_append]
              exact ⟨nd, by simp, fun x hx y hy e => h (by rw [← List.mem_singleton.mp hy, ← e]; exact hx)⟩
    · rintro σ G ⟨o2, o3, o4, us, ps, rfl, puG, sbG, ebG, hp, ok, nd, few⟩
      exact ⟨_, rfl, q b us ps G (puG.le (by omega)) sbG ba ebG hp ok nd (by omega)⟩
end
end Nv
set_option maxHeartbeats 4000000
namespace Nv
open PySem PySem.Spec PyProof.Rows L2
open PySem.SeqAt
open AutoSeq1 (wpAny_loadPart')
open MeetsSeq MeetsSeq2 MeetsSeq3 SeqRoads2
/-! # t.index(x, 1) -/
theorem forIn_from {β : Type} {M : Model} {A : Around} {E : Value → Shared → Prop} {s : Shared} {lo n : Nat} {hp : 0 < 1} (f : Nat → β → Sem (ForInStep β)) (I : List Nat → β → Shared → Prop) (Q : β → Shared → Prop)
    (turn : ∀ x rest b s, I (x :: rest) b s → wpAny M A (f x b) (fun r s' => match r with | .yield b' => I rest b' s' | .done b' => Q b' s') E s)
    (fin : ∀ b s, I [] b s → Q b s) (b : β) (h : I (List.range' lo (n - lo)) b s) : wpAny M A (forIn ({ start := lo, stop := n, step := 1, step_pos := hp } : Std.Legacy.Range) b f) Q E s := by
  rw [Std.Legacy.Range.forIn_eq_forIn_range']
  simp only [Std.Legacy.Range.size, Nat.add_sub_cancel, Nat.div_one]
  exact wpAny_forIn_list f I Q turn fin _ b h
theorem tuple_index1 (l : Addr) (items : Array Value) (n : Nat) (dd : Option Addr) (sl : Array (Option Value)) (x : Value) (t1 : Tok) (e : Value → Bool) (j : Nat) (hj : j < items.size) (h1 : 1 ≤ j)
    (hit : e items[j] = true) (hno : ∀ m (hm : m < items.size), 1 ≤ m → m < j → e items[m] = false) :
    Meets (Builtin.«tuple.index» ⟨[.ref l, x, .int 1 t1], []⟩)
      (fun A R s => s.heap.get? l = some { cls := .type "tuple", dict := dd, data := .seq items n, slots := sl } ∧ (∀ y, y ∈ items → EqAt A.in1 s y x (e y)) ∧ R (.ok (.ret (.int j s.toks))) { s with toks := s.toks + 1 }) :=
  .of_wp fun prog w A R s h => by
    obtain ⟨hp, g, d, tk, os⟩ := s; obtain ⟨hl, he, h⟩ := h
    wp_walk using wpAny_loadPart' hl
    rw [PySem.F.slot_int_index.lookup]
    refine wpAny_pure ?_
    dsimp only
    rw [if_neg (by simp)]
    unfold asIndex
    wp_walk using forIn_from _ (fun rest b s' => b.1 = none ∧ s' = ⟨hp, g, d, tk, os⟩ ∧ ∃ i, rest = List.range' i (items.size - i) ∧ 1 ≤ i ∧ i ≤ j) _
    case turn =>
      rintro y rest b s' ⟨hb', rfl, i, hr, hi1, hi⟩
      have hlt : i < items.size := by omega
      obtain ⟨rfl, hrest⟩ : y = i ∧ rest = List.range' (i + 1) (items.size - (i + 1)) := by
        have e : items.size - i = (items.size - (i + 1)) + 1 := by omega
        rw [e, List.range'_succ] at hr
        injection hr with q1 q2
        exact ⟨q1, q2⟩
      rw [Array.getElem?_eq_getElem hlt]
      refine wpAny_bind (he _ (Array.getElem_mem hlt) prog w _ _ ?_)
      by_cases hji : y = j
      · subst hji
        rw [hit]
        wp_walk
        exact ⟨_, rfl, h⟩
      · rw [hno y hlt hi1 (by omega)]
        wp_walk
        exact ⟨rfl, rfl, y + 1, hrest, by omega, by omega⟩
    case fin =>
      rintro b s' ⟨hb', rfl, i, hr, hi1, hi⟩
      exfalso
      have e : items.size - i = (items.size - (i + 1)) + 1 := by omega
      rw [e, List.range'_succ] at hr
      cases hr
    case h =>
      refine ⟨rfl, rfl, 1, ?_, Nat.le_refl _, h1⟩
      rw [if_neg (by decide), Nat.min_self] <;> rfl
/-- t.index(x, 1), texts: the first place from 1 on -/
def rTIdx1 (K : PySem.W.Frag) : V → List V → Hp → VK → Prop := fun x xs H Q => ∃ (p : Addr) (ys : List Str) (z : Str) (j : Nat), x = .ref p ∧ xs = [.str z, .int 1] ∧ SqT K H p (ys.map V.str) ∧ 1 ≤ j ∧ ys[j]? = some z ∧
  (∀ m, 1 ≤ m → m < j → ys[m]? ≠ some z) ∧ Q (.int (j : Nat)) H
theorem mt_tup_index1 {X : Cx} : MtR X "tuple.index" (rTIdx1 X.K) := by
  intro pins s σ H x xs v us Q I rx rs h
  obtain ⟨p, ys, z, j, rfl, rfl, hq, h1, hy, hno, q⟩ := h
  cases rx
  obtain ⟨u, u2, rfl, ⟨t, rfl⟩, ⟨t2, rfl⟩⟩ := vals2 rs
  obtain ⟨its, r, pl, hz⟩ := I.tuple hq
  obtain ⟨⟨cls, dd, dt, sl⟩, ho, hc, n, hd⟩ := pl
  simp only at hc hd
  subst hc
  subst hd
  have hl : its.toArray.size = ys.length := by rw [List.size_toArray, ← r.length, List.length_map]
  have hj : j < its.toArray.size := by rw [hl]; exact (List.getElem?_eq_some_iff.mp hy).1
  have at' : ∀ (m : Nat) (hm : m < its.toArray.size), ∃ y t', ys[m]? = some y ∧ its.toArray[m] = Value.str y t' := fun m hm => by
    have hm' : m < ys.length := by rw [← hl]; exact hm
    obtain ⟨w, hw, t', hw'⟩ := r.get (i := m) (x := .str ys[m]) (by simp [hm'])
    refine ⟨ys[m], t', List.getElem?_eq_getElem hm', ?_⟩
    have e := (List.getElem?_eq_some_iff.mp hw).2
    rw [← hw', ← e]
    simp
  refine call_meets PySem.F.slot_tuple_index ⟨_, ho, rfl⟩ PySem.F.entry_tuple_index (PySem.F.args_tuple_index_3 _ _ _) (tuple_index1 p its.toArray n dd sl (.str z t) t2 (eqU (.str z)) j hj h1 ?_ ?_)
    ⟨ho, fun w hw => mem_eqAt (x := .str z) ⟨t, rfl⟩ rfl r (flat_strs ys) w (by simpa using hw), ⟨.int (j : Nat), H, I.tok _, ⟨_, rfl⟩, q⟩⟩
  · obtain ⟨y, t', e1, e2⟩ := at' j hj
    rw [hy] at e1
    cases e1
    rw [e2]
    show (z == z) = true
    exact beq_self_eq_true z
  · intro m hm hm1 hmj
    obtain ⟨y, t', e1, e2⟩ := at' m hm
    rw [e2]
    show (y == z) = false
    exact beq_eq_false_iff_ne.mpr fun e => hno m hm1 hmj (e ▸ e1)
end Nv
set_option maxHeartbeats 4000000
namespace Nv
open PySem PySem.Spec PyProof.Rows L2
/-! # Step, made -/
abbrev sStepInit : Stmt := inClass cStep 0
abbrev sOnward : Stmt := inClass cStep 1
abbrev natV (i : Nat) : V := .int (i : Nat)
def colsOf (pat : List Str) : List Nat := List.range' 1 (pat.length - 1)
def oldsIn (ts pat : List Str) (cs : List Nat) : List Nat := cs.filter fun c => decide (pat.getD c "" ∈ ts)
def newsIn (ts pat : List Str) (cs : List Nat) : List Nat := cs.filter fun c => !decide (pat.getD c "" ∈ ts)
def placesIn (ts pat : List Str) (cs : List Nat) : List Nat := (oldsIn ts pat cs).map fun c => pos1 ts (pat.getD c "")
def termsIn (ts pat : List Str) (cs : List Nat) : List Str := ts ++ (newsIn ts pat cs).map fun c => pat.getD c ""
def stepTerms (ts pat : List Str) : List Str := termsIn ts pat (colsOf pat)
/-- the pairs that a step can look at -/
def readyOf (ts ts' : List Str) (prs : List (List Str)) : List (List Str) := prs.filter fun p => (decide (p.getD 0 "" ∈ ts') && decide (p.getD 1 "" ∈ ts')) && !(decide (p.getD 0 "" ∈ ts) && decide (p.getD 1 "" ∈ ts))
abbrev stF (k o p n t l a : Addr) : Flds := [("kind", .ref k), ("olds", .ref o), ("places", .ref p), ("news", .ref n), ("twins", .ref t), ("terms", .ref l), ("apart", .ref a)]
abbrev stF6 (k o p n t l : Addr) : Flds := [("kind", .ref k), ("olds", .ref o), ("places", .ref p), ("news", .ref n), ("twins", .ref t), ("terms", .ref l)]
theorem sF2 {k o : Addr} : putF "olds" (V.ref o) ([("kind", V.ref k)] : Flds) = ([("kind", V.ref k), ("olds", V.ref o)] : Flds) := putF_new (ns := ["kind"]) rfl (by decide +kernel)
theorem sF3 {k o p : Addr} : putF "places" (V.ref p) ([("kind", V.ref k), ("olds", V.ref o)] : Flds) = ([("kind", V.ref k), ("olds", V.ref o), ("places", V.ref p)] : Flds) := putF_new (ns := ["kind", "olds"]) rfl (by decide +kernel)
theorem sF4 {k o p n : Addr} : putF "news" (V.ref n) ([("kind", V.ref k), ("olds", V.ref o), ("places", V.ref p)] : Flds) = ([("kind", V.ref k), ("olds", V.ref o), ("places", V.ref p), ("news", V.ref n)] : Flds) := putF_new (ns := ["kind", "olds", "places"]) rfl (by decide +kernel)
theorem sF5 {k o p n t : Addr} : putF "twins" (V.ref t) ([("kind", V.ref k), ("olds", V.ref o), ("places", V.ref p), ("news", V.ref n)] : Flds) = ([("kind", V.ref k), ("olds", V.ref o), ("places", V.ref p), ("news", V.ref n), ("twins", V.ref t)] : Flds) := putF_new (ns := ["kind", "olds", "places", "news"]) rfl (by decide +kernel)
theorem sF6 {k o p n t l : Addr} : putF "terms" (V.ref l) ([("kind", V.ref k), ("olds", V.ref o), ("places", V.ref p), ("news", V.ref n), ("twins", V.ref t)] : Flds) = stF6 k o p n t l := putF_new (ns := ["kind", "olds", "places", "news", "twins"]) rfl (by decide +kernel)
theorem sF7 {k o p n t l a : Addr} : putF "apart" (V.ref a) (stF6 k o p n t l) = stF k o p n t l a := putF_new (ns := ["kind", "olds", "places", "news", "twins", "terms"]) rfl (by decide +kernel)
theorem sl2 {k o p n t l : Addr} : (stF6 k o p n t l).lookup ("olds" : Str) = some (V.ref o) := (lk_no (by decide +kernel)).trans lk_yes
theorem sl3 {k o p n t l : Addr} : (stF6 k o p n t l).lookup ("places" : Str) = some (V.ref p) := (lk_no (by decide +kernel)).trans ((lk_no (by decide +kernel)).trans lk_yes)
theorem sl4 {k o p n t l : Addr} : (stF6 k o p n t l).lookup ("news" : Str) = some (V.ref n) := (lk_no (by decide +kernel)).trans ((lk_no (by decide +kernel)).trans ((lk_no (by decide +kernel)).trans lk_yes))
theorem sl6 {k o p n t l : Addr} : (stF6 k o p n t l).lookup ("terms" : Str) = some (V.ref l) := (lk_no (by decide +kernel)).trans ((lk_no (by decide +kernel)).trans ((lk_no (by decide +kernel)).trans ((lk_no (by decide +kernel)).trans ((lk_no (by decide +kernel)).trans lk_yes))))
structure SC (K : PySem.W.Frag) (C : Addr) : Prop where
  cl : Cls K C
  n1 : NoAttr K C "kind"
  n2 : NoAttr K C "olds"
  n3 : NoAttr K C "places"
  n4 : NoAttr K C "news"
  n5 : NoAttr K C "twins"
  n6 : NoAttr K C "terms"
  n7 : NoAttr K C "apart"
/-- a step without apart -/
structure St6 (C : Addr) (H G : Hp) (r dx k o p n t l : Addr) (kd : List L2.Key) (ol pl nw : List Nat) (ts : List Str) : Prop where
  sb : Sb r H G
  er : G r = some (.ins C dx (stF6 k o p n t l))
  ek : G k = some (.tup (kd.map kV))
  eo : G o = some (.lst (ol.map natV))
  ep : G p = some (.lst (pl.map natV))
  en : G n = some (.lst (nw.map natV))
  et : G t = some (.lst [])
  el : G l = some (.lst (ts.map V.str))
  fr : H k = none ∧ H o = none ∧ H p = none ∧ H n = none ∧ H t = none ∧ H l = none
  nd : [r, k, o, p, n, t, l].Nodup
section
variable {C : Addr} {H G : Hp} {r dx k o p n t l : Addr} {kd : List L2.Key} {ol pl nw : List Nat} {ts : List Str}
theorem St6.olds (S : St6 C H G r dx k o p n t l kd ol pl nw ts) (i : Nat) : St6 C H (upd G o (.lst (ol.map natV ++ [natV i]))) r dx k o p n t l kd (ol ++ [i]) pl nw ts := by
  obtain ⟨a1, a2, a3, a4, a5, a6, a7, a8, a9, nd⟩ := S
  have nd' := nd
  simp only [List.nodup_cons, List.mem_cons, List.not_mem_nil, or_false, not_or] at nd'
  obtain ⟨⟨x1, x2, x3, x4, x5, x6⟩, ⟨y1, y2, y3, y4, y5⟩, ⟨z1, z2, z3, z4⟩, _⟩ := nd'
  exact ⟨a1.put a9.2.1, by rw [upd_ne x2]; exact a2, by rw [upd_ne y1]; exact a3, by rw [upd_same, List.map_append] <;> rfl, by rw [upd_ne (Ne.symm z1)]; exact a5, by rw [upd_ne (Ne.symm z2)]; exact a6, by rw [upd_ne (Ne.symm z3)]; exact a7, by rw [upd_ne (Ne.symm z4)]; exact a8, a9, nd⟩
theorem St6.places (S : St6 C H G r dx k o p n t l kd ol pl nw ts) (i : Nat) : St6 C H (upd G p (.lst (pl.map natV ++ [natV i]))) r dx k o p n t l kd ol (pl ++ [i]) nw ts := by
  obtain ⟨a1, a2, a3, a4, a5, a6, a7, a8, a9, nd⟩ := S
  have nd' := nd
  simp only [List.nodup_cons, List.mem_cons, List.not_mem_nil, or_false, not_or] at nd'
  obtain ⟨⟨x1, x2, x3, x4, x5, x6⟩, ⟨y1, y2, y3, y4, y5⟩, ⟨z1, z2, z3, z4⟩, ⟨u1, u2, u3⟩, _⟩ := nd'
  exact ⟨a1.put a9.2.2.1, by rw [upd_ne x3]; exact a2, by rw [upd_ne y2]; exact a3, by rw [upd_ne z1]; exact a4, by rw [upd_same, List.map_append] <;> rfl, by rw [upd_ne (Ne.symm u1)]; exact a6, by rw [upd_ne (Ne.symm u2)]; exact a7, by rw [upd_ne (Ne.symm u3)]; exact a8, a9, nd⟩
theorem St6.news (S : St6 C H G r dx k o p n t l kd ol pl nw ts) (i : Nat) : St6 C H (upd G n (.lst (nw.map natV ++ [natV i]))) r dx k o p n t l kd ol pl (nw ++ [i]) ts := by
  obtain ⟨a1, a2, a3, a4, a5, a6, a7, a8, a9, nd⟩ := S
  have nd' := nd
  simp only [List.nodup_cons, List.mem_cons, List.not_mem_nil, or_false, not_or] at nd'
  obtain ⟨⟨x1, x2, x3, x4, x5, x6⟩, ⟨y1, y2, y3, y4, y5⟩, ⟨z1, z2, z3, z4⟩, ⟨u1, u2, u3⟩, ⟨v1, v2⟩, _⟩ := nd'
  exact ⟨a1.put a9.2.2.2.1, by rw [upd_ne x4]; exact a2, by rw [upd_ne y3]; exact a3, by rw [upd_ne z2]; exact a4, by rw [upd_ne u1]; exact a5, by rw [upd_same, List.map_append] <;> rfl, by rw [upd_ne (Ne.symm v1)]; exact a7, by rw [upd_ne (Ne.symm v2)]; exact a8, a9, nd⟩
theorem St6.terms (S : St6 C H G r dx k o p n t l kd ol pl nw ts) (z : Str) : St6 C H (upd G l (.lst (ts.map V.str ++ [.str z]))) r dx k o p n t l kd ol pl nw (ts ++ [z]) := by
  obtain ⟨a1, a2, a3, a4, a5, a6, a7, a8, a9, nd⟩ := S
  have nd' := nd
  simp only [List.nodup_cons, List.mem_cons, List.not_mem_nil, or_false, not_or] at nd'
  obtain ⟨⟨x1, x2, x3, x4, x5, x6⟩, ⟨y1, y2, y3, y4, y5⟩, ⟨z1, z2, z3, z4⟩, ⟨u1, u2, u3⟩, ⟨v1, v2⟩, w1, _⟩ := nd'
  exact ⟨a1.put a9.2.2.2.2.2, by rw [upd_ne x6]; exact a2, by rw [upd_ne y5]; exact a3, by rw [upd_ne z4]; exact a4, by rw [upd_ne u3]; exact a5, by rw [upd_ne v2]; exact a6, by rw [upd_ne w1]; exact a7, by rw [upd_same, List.map_append] <;> rfl, a9, nd⟩
theorem St6.same {G1 : Hp} (S : St6 C H G r dx k o p n t l kd ol pl nw ts) (s : Same G G1) : St6 C H G1 r dx k o p n t l kd ol pl nw ts := by
  obtain ⟨a1, a2, a3, a4, a5, a6, a7, a8, a9, nd⟩ := S
  exact ⟨a1.trans (Sb.of s), s _ _ a2, s _ _ a3, s _ _ a4, s _ _ a5, s _ _ a6, s _ _ a7, s _ _ a8, a9, nd⟩
end
end Nv
set_option maxHeartbeats 4000000
namespace Nv
open PySem PySem.Spec PyProof.Rows L2
/-- the step of a pattern behind the terms ts stands at r -/
def StepAt (C : Addr) (G : Hp) (r : Addr) (pat ts : List Str) (prs : List (List Str)) : Prop := ∃ (dx k o p n t l a : Addr) (zs : List V), G r = some (.ins C dx (stF k o p n t l a)) ∧ G k = some (.tup ((kindK pat).map kV)) ∧
  G o = some (.lst ((oldsIn ts pat (colsOf pat)).map natV)) ∧ G p = some (.lst ((placesIn ts pat (colsOf pat)).map natV)) ∧ G n = some (.lst ((newsIn ts pat (colsOf pat)).map natV)) ∧ G t = some (.lst []) ∧
  G l = some (.lst ((stepTerms ts pat).map V.str)) ∧ G a = some (.lst zs) ∧ IJs G zs ((readyOf ts (stepTerms ts pat) prs).map (ijOf (stepTerms ts pat)))
theorem StepAt.same {C : Addr} {G G1 : Hp} {r : Addr} {pat ts : List Str} {prs : List (List Str)} (h : StepAt C G r pat ts prs) (s : Same G G1) : StepAt C G1 r pat ts prs := by
  obtain ⟨dx, k, o, p, n, t, l, a, zs, h1, h2, h3, h4, h5, h6, h7, h8, h9⟩ := h
  exact ⟨dx, k, o, p, n, t, l, a, zs, s _ _ h1, s _ _ h2, s _ _ h3, s _ _ h4, s _ _ h5, s _ _ h6, s _ _ h7, s _ _ h8, h9.same s⟩
/-- .. and its lists are new beside H0 -/
def StepNew (C : Addr) (H0 G : Hp) (r : Addr) (pat ts : List Str) (prs : List (List Str)) : Prop := ∃ (dx k o p n t l a : Addr) (zs : List V), G r = some (.ins C dx (stF k o p n t l a)) ∧ G k = some (.tup ((kindK pat).map kV)) ∧
  G o = some (.lst ((oldsIn ts pat (colsOf pat)).map natV)) ∧ G p = some (.lst ((placesIn ts pat (colsOf pat)).map natV)) ∧ G n = some (.lst ((newsIn ts pat (colsOf pat)).map natV)) ∧ G t = some (.lst []) ∧
  G l = some (.lst ((stepTerms ts pat).map V.str)) ∧ G a = some (.lst zs) ∧ IJs G zs ((readyOf ts (stepTerms ts pat) prs).map (ijOf (stepTerms ts pat))) ∧ (H0 o = none ∧ H0 p = none ∧ H0 n = none ∧ H0 t = none ∧ H0 l = none ∧ H0 a = none)
theorem StepNew.at_ {C : Addr} {H0 G : Hp} {r : Addr} {pat ts : List Str} {prs : List (List Str)} (h : StepNew C H0 G r pat ts prs) : StepAt C G r pat ts prs := by
  obtain ⟨dx, k, o, p, n, t, l, a, zs, h1, h2, h3, h4, h5, h6, h7, h8, h9, _⟩ := h
  exact ⟨dx, k, o, p, n, t, l, a, zs, h1, h2, h3, h4, h5, h6, h7, h8, h9⟩
theorem StepNew.same {C : Addr} {H0 G G1 : Hp} {r : Addr} {pat ts : List Str} {prs : List (List Str)} (h : StepNew C H0 G r pat ts prs) (s : Same G G1) : StepNew C H0 G1 r pat ts prs := by
  obtain ⟨dx, k, o, p, n, t, l, a, zs, h1, h2, h3, h4, h5, h6, h7, h8, h9, h10⟩ := h
  exact ⟨dx, k, o, p, n, t, l, a, zs, s _ _ h1, s _ _ h2, s _ _ h3, s _ _ h4, s _ _ h5, s _ _ h6, s _ _ h7, s _ _ h8, h9.same s, h10⟩
theorem StepNew.less {C : Addr} {H0 H1 G : Hp} {r : Addr} {pat ts : List Str} {prs : List (List Str)} (h : StepNew C H0 G r pat ts prs) (s : ∀ x, H0 x = none → H1 x = none) : StepNew C H1 G r pat ts prs := by
  obtain ⟨dx, k, o, p, n, t, l, a, zs, h1, h2, h3, h4, h5, h6, h7, h8, h9, a1, a2, a3, a4, a5, a6⟩ := h
  exact ⟨dx, k, o, p, n, t, l, a, zs, h1, h2, h3, h4, h5, h6, h7, h8, h9, s _ a1, s _ a2, s _ a3, s _ a4, s _ a5, s _ a6⟩
theorem IJs.over {H : Hp} {D : Addr} {u o : HO} {vs : List V} {ps : List (Nat × Nat)} (h : IJs H vs ps) (e : H D = some u) (hu : ∀ xs, u ≠ .tup xs) : IJs (upd H D o) vs ps := by
  induction h with
  | nil => exact .nil
  | cons e1 _ ih => exact .cons (by rw [upd_ne (fun z => by rw [z, e] at e1; cases e1; exact hu _ rfl)]; exact e1) ih
/-- a list that stood ahead is changed -/
theorem StepNew.list {C : Addr} {H0 G : Hp} {r D : Addr} {pat ts : List Str} {prs : List (List Str)} {xs : List V} {u : HO} (h : StepNew C H0 G r pat ts prs) (n : H0 D ≠ none) (e : G D = some (.lst xs)) : StepNew C H0 (upd G D u) r pat ts prs := by
  obtain ⟨dx, k, o, p, n1, t, l, a, zs, h1, h2, h3, h4, h5, h6, h7, h8, h9, a1, a2, a3, a4, a5, a6⟩ := h
  have ne : ∀ x, H0 x = none → x ≠ D := fun x hx z => n (by rw [← z]; exact hx)
  exact ⟨dx, k, o, p, n1, t, l, a, zs, by rw [upd_ne (fun z => by rw [z, e] at h1; cases h1)]; exact h1, by rw [upd_ne (fun z => by rw [z, e] at h2; cases h2)]; exact h2, by rw [upd_ne (ne _ a1)]; exact h3, by rw [upd_ne (ne _ a2)]; exact h4, by rw [upd_ne (ne _ a3)]; exact h5, by rw [upd_ne (ne _ a4)]; exact h6,
    by rw [upd_ne (ne _ a5)]; exact h7, by rw [upd_ne (ne _ a6)]; exact h8, h9.over e fun xs z => (by cases z), a1, a2, a3, a4, a5, a6⟩
/-- another instance is changed -/
theorem StepNew.inst {C C' : Addr} {H0 G : Hp} {r D dx' : Addr} {pat ts : List Str} {prs : List (List Str)} {fs : Flds} {u : HO} (h : StepNew C H0 G r pat ts prs) (e : G D = some (.ins C' dx' fs)) (hl : fs.length ≠ 7) : StepNew C H0 (upd G D u) r pat ts prs := by
  obtain ⟨dx, k, o, p, n1, t, l, a, zs, h1, h2, h3, h4, h5, h6, h7, h8, h9, h10⟩ := h
  have ne : ∀ x xs, G x = some (.lst xs) → x ≠ D := fun x xs hx z => by rw [z, e] at hx; cases hx
  have nr : r ≠ D := fun z => by
    rw [z, e] at h1
    injection h1 with h1
    injection h1 with _ _ h1
    rw [h1] at hl
    exact hl rfl
  exact ⟨dx, k, o, p, n1, t, l, a, zs, by rw [upd_ne nr]; exact h1, by rw [upd_ne (fun z => by rw [z, e] at h2; cases h2)]; exact h2, by rw [upd_ne (ne _ _ h3)]; exact h3, by rw [upd_ne (ne _ _ h4)]; exact h4, by rw [upd_ne (ne _ _ h5)]; exact h5, by rw [upd_ne (ne _ _ h6)]; exact h6,
    by rw [upd_ne (ne _ _ h7)]; exact h7, by rw [upd_ne (ne _ _ h8)]; exact h8, h9.over e fun xs z => (by cases z), h10⟩
/-- the new terms of a pattern are unlike -/
def NoTwin (ts pat : List Str) : Prop := ((newsIn ts pat (colsOf pat)).map fun c => pat.getD c "").Nodup
/-- a new thing as a field -/
theorem newF {H G : Hp} {r l C dx : Addr} {fs fs' : Flds} {o : HO} (sb : Sb r H G) (er : G r = some (.ins C dx fs)) (nl : G l = none) :
    (l ≠ r ∧ H l = none) ∧ Sb r H (upd (upd G l o) r (.ins C dx fs')) ∧ upd (upd G l o) r (.ins C dx fs') r = some (.ins C dx fs') ∧ upd (upd G l o) r (.ins C dx fs') l = some o ∧ ∀ b u, b ≠ r → G b = some u → b ≠ l ∧ upd (upd G l o) r (.ins C dx fs') b = some u := by
  have h1 : l ≠ r := fun z => by rw [z, er] at nl; cases nl
  have h2 : H l = none := by
    cases g : H l with
    | none => rfl
    | some u =>
      rw [sb _ _ h1 g] at nl
      cases nl
  refine ⟨⟨h1, h2⟩, (sb.put h2).trans Sb.upd, upd_same, by rw [upd_ne h1, upd_same], fun b u hb e => ?_⟩
  have hl : b ≠ l := fun z => by rw [z, nl] at e; cases e
  exact ⟨hl, by rw [upd_ne hb, upd_ne hl]; exact e⟩
theorem in_step {ts pat : List Str} {cs : List Nat} {i c : Nat} (h : cs[i]? = some c) (hz : pat.getD c "" ∈ ts) :
    oldsIn ts pat (cs.take (i + 1)) = oldsIn ts pat (cs.take i) ++ [c] ∧ newsIn ts pat (cs.take (i + 1)) = newsIn ts pat (cs.take i) ∧ placesIn ts pat (cs.take (i + 1)) = placesIn ts pat (cs.take i) ++ [pos1 ts (pat.getD c "")] ∧ termsIn ts pat (cs.take (i + 1)) = termsIn ts pat (cs.take i) := by
  have e1 : oldsIn ts pat (cs.take (i + 1)) = oldsIn ts pat (cs.take i) ++ [c] := by
    unfold oldsIn
    rw [filter_take h, if_pos (decide_eq_true hz)]
  have e2 : newsIn ts pat (cs.take (i + 1)) = newsIn ts pat (cs.take i) := by
    unfold newsIn
    rw [filter_take h, decide_eq_true hz]
    exact List.append_nil _
  refine ⟨e1, e2, ?_, ?_⟩
  · unfold placesIn
    rw [e1, List.map_append] <;> rfl
  · unfold termsIn
    rw [e2]
theorem out_step {ts pat : List Str} {cs : List Nat} {i c : Nat} (h : cs[i]? = some c) (hz : pat.getD c "" ∉ ts) :
    oldsIn ts pat (cs.take (i + 1)) = oldsIn ts pat (cs.take i) ∧ newsIn ts pat (cs.take (i + 1)) = newsIn ts pat (cs.take i) ++ [c] ∧ placesIn ts pat (cs.take (i + 1)) = placesIn ts pat (cs.take i) ∧ termsIn ts pat (cs.take (i + 1)) = termsIn ts pat (cs.take i) ++ [pat.getD c ""] := by
  have e1 : oldsIn ts pat (cs.take (i + 1)) = oldsIn ts pat (cs.take i) := by
    unfold oldsIn
    rw [filter_take h, decide_eq_false hz]
    exact List.append_nil _
  have e2 : newsIn ts pat (cs.take (i + 1)) = newsIn ts pat (cs.take i) ++ [c] := by
    unfold newsIn
    rw [filter_take h, decide_eq_false hz] <;> rfl
  refine ⟨e1, e2, ?_, ?_⟩
  · unfold placesIn
    rw [e1]
  · unfold termsIn
    rw [e2, List.map_append, List.append_assoc] <;> rfl
theorem no_twin {ts pat : List Str} {i c : Nat} (nt : NoTwin ts pat) (h : (colsOf pat)[i]? = some c) (hz : pat.getD c "" ∉ ts) : pat.getD c "" ∉ termsIn ts pat ((colsOf pat).take i) := fun m => by
  unfold termsIn at m
  rcases List.mem_append.mp m with m | m
  · exact hz m
  · have e : newsIn ts pat (colsOf pat) = (newsIn ts pat ((colsOf pat).take i) ++ [c]) ++ newsIn ts pat ((colsOf pat).drop (i + 1)) := by
      rw [← (out_step h hz).2.1]
      unfold newsIn
      rw [← List.filter_append, List.take_append_drop]
    unfold NoTwin at nt
    rw [e, List.map_append, List.map_append] at nt
    have := (List.nodup_append.mp nt).1
    exact (List.nodup_append.mp this).2.2 _ m _ (List.mem_singleton.mpr rfl) rfl
theorem cnt_le {ts pat : List Str} {cs : List Nat} {i : Nat} (h : pat.length ≤ 4) (hc : cs.length ≤ 3) : (oldsIn ts pat (cs.take i)).length ≤ 3 ∧ (newsIn ts pat (cs.take i)).length ≤ 3 := by
  have h1 : (cs.take i).length ≤ 3 := by
    rw [List.length_take]
    omega
  exact ⟨Nat.le_trans (List.length_filter_le _ _) h1, Nat.le_trans (List.length_filter_le _ _) h1⟩
section
variable {P : Program} {w : World} {K : PySem.W.Frag} {mg : Str → Option Value} {base : Heap}
def spStepInit (C : Addr) : Sp := fun vs H Q _ => ∃ (r dx p t q : Addr) (pat ts : List Str) (us : List V) (prs : List (List Str)), vs = [.ref r, .ref p, .ref t, .ref q] ∧ H r = some (.ins C dx []) ∧ (H p = some (.tup (pat.map V.str)) ∧ 1 ≤ pat.length ∧ pat.length ≤ 4) ∧
  (H t = some (.lst (ts.map V.str)) ∧ ts.length ≤ 1000) ∧ (H q = some (.lst us) ∧ PaL H us prs ∧ (∀ x ∈ prs, ∃ a b, x = [a, b]) ∧ prs.length ≤ 1000) ∧ NoTwin ts pat ∧ ∀ G, Sb r H G → StepNew C H G r pat ts prs → Q .non G
theorem scStepInit : FnScope ["self", "pattern", "terms", "pairs", "column", "term", "ready", "pair"] ["self", "pattern", "terms", "pairs"] (defScope sStepInit) := ⟨rfl, rfl, rfl, by decide +kernel, rfl, by decide +kernel, by decide +kernel⟩
theorem ok_stepInit {f C fK fN fP : Addr} {fd dK dN dP : FuncData} (F : Fun K "__init__" "Step.__init__" sStepInit f fd) (B : Bp mg) (rg : mg "range" = none) (R : SC K C) (GK : FnOk P w K mg base CX0 1 fK dK ["pattern"] (spKindOf K)) (kK : PySem.W.keepIn K (.ref fK) = true) (gK : mg "kind_of" = some (.ref fK)) (bK : Binds K dK ["pattern"] [])
    (GN : FnOk P w K mg base CX0 1 fN dN ["terms", "pair"] (spKnows K)) (kN : PySem.W.keepIn K (.ref fN) = true) (gN : mg "_knows" = some (.ref fN)) (bN : Binds K dN ["terms", "pair"] [])
    (GP : FnOk P w K mg base CX0 1 fP dP ["terms", "pairs"] (spPlacesOf K)) (kP : PySem.W.keepIn K (.ref fP) = true) (gP : mg "_places_of_pairs" = some (.ref fP)) (bP : Binds K dP ["terms", "pairs"] []) :
    FnOk P w K mg base CX0 2 f fd ["self", "pattern", "terms", "pairs"] (spStepInit C) := by
  refine F.ok scStepInit (fun vs H Q E h => ?_) (fun cdv A outer s H vs Q E hr h => ?_)
  · obtain ⟨r, dx, p, t, q, pat, ts, us, prs, rfl, _⟩ := h
    rfl
  · obtain ⟨r, dx, p, t, q, pat, ts, us, prs, rfl, er, ⟨ep, hp1, hp4⟩, ⟨et, htl⟩, ⟨eq, hq, hq2, hql⟩, nt, q0⟩ := h
    have hr1 : Room 1 _ := hr.mono (by decide)
    refine ⟨_, pss_cons (ps_fld (pv 0) (by exact (pe_call GK hr1 (by rfl) gK kK bK .nil pass0 (pa_cons (pv 1) pa_nil))) rfl)
      (pss_cons (ps_fld (pv 0) (pe_lst pa_nil) rfl)
      (pss_cons (ps_fld (pv 0) (pe_lst pa_nil) rfl)
      (pss_cons (ps_fld (pv 0) (pe_lst pa_nil) rfl)
      (pss_cons (ps_fld (pv 0) (pe_lst pa_nil) rfl)
      (pss_cons (ps_fld (pv 0) (pe_callTy call_list_of (by rfl) B.lst PyProof.Rows.boot_list (pa_cons (pv 2) pa_nil)) rfl)
      (pss_cons (ps_for PassesOwn.never rfl (pi_range2 (by rfl) rg (pa_cons pe_int (pa_cons (pe_callB call_len_seq (by rfl) B.len PySem.boot_len (pa_cons (pv 1) pa_nil)) pa_nil))) (pg_name (i := 4) scStepInit.nd rfl (Or.inl rfl))
        (pss_cons (ps_set (i := 5) scStepInit.nd rfl (Or.inl rfl) (pe_ix ix_tup (pv 1) (pv 4) (fun _ _ => rfl)))
        (pss_one (ps_if (pt_cmpR op_in_seq (pv 5) (pv 2) (by rfl))
          (pss_cons (ps_expr (pe_bm PySem.F.plainAttrs_list PySem.F.slot_list_append PySem.F.type_list_append mt_append (pe_fld (pv 0) rfl) (pa_cons (pv 4) pa_nil)))
          (pss_one (ps_expr (pe_bm PySem.F.plainAttrs_list PySem.F.slot_list_append PySem.F.type_list_append mt_append (pe_fld (pv 0) rfl) (pa_cons (pe_bm PySem.F.plainAttrs_list PySem.F.slot_list_index PySem.F.type_list_index mt_index (pv 2) (pa_cons (pv 5) pa_nil)) pa_nil)))))
          (pss_one (ps_if (pt_cmpR op_in_seq (pv 5) (pe_fld (pv 0) rfl) (by rfl))
            (pss_one ps_never)
            (pss_cons (ps_expr (pe_bm PySem.F.plainAttrs_list PySem.F.slot_list_append PySem.F.type_list_append mt_append (pe_fld (pv 0) rfl) (pa_cons (pv 4) pa_nil)))
            (pss_one (ps_expr (pe_bm PySem.F.plainAttrs_list PySem.F.slot_list_append PySem.F.type_list_append mt_append (pe_fld (pv 0) rfl) (pa_cons (pv 5) pa_nil)))))))))))
      (pss_cons (by exact (ps_setLc (i := 6) (own := [("pair", 7)]) (g := gName 7) (tt := tAnd (tB (tCall (spKnows K) [] E0 (tCons (tFld K (tVar 0) "terms") (tCons (tVar 7) tNil)))) (tNot (tB (tCall (spKnows K) [] E0 (tCons (tVar 2) (tCons (tVar 7) tNil)))))) (te := tVar 7) rfl scStepInit.nd rfl rfl (sw_true rfl rfl rfl (by decide +kernel))
          (pi_list (pv 3))
          (blkOk_by (own := [("pair", 7)]) (N := ["self", "pattern", "terms", "pairs", "column", "term", "ready", "pair"]) (sc := defScope sStepInit) (by decide +kernel))
          (fun _ _ _ _ _ => pg_name (i := 7) scStepInit.nd rfl (Or.inl rfl))
          (fun _ _ _ _ _ => pts_one (by exact (PW.pt (pw_and (pt_val (by exact (pe_call GN hr1 (by rfl) gN kN bN .nil pass0 (pa_cons (pe_fld (pv 0) rfl) (pa_cons (pv 7) pa_nil))))) (pw_and1 (pt_not (pt_val (by exact (pe_call GN hr1 (by rfl) gN kN bN .nil pass0 (pa_cons (pv 2) (pa_cons (pv 7) pa_nil)))))))))))
          (fun _ _ _ _ _ => by exact (pv 7))))
      (pss_one (ps_fld (pv 0) (by exact (pe_call GP hr1 (by rfl) gP kP bP .nil pass0 (pa_cons (pe_fld (pv 0) rfl) (pa_cons (pv 6) pa_nil)))) rfl))))))))), ?_⟩
    refine ⟨_, rfl, p, pat, rfl, ep, hp1, by omega, fun k nk => ⟨_, rfl, r, C, dx, [], rfl, same_new nk _ _ er, R.cl, R.n1, (by show 0 < 1000; decide), ?_⟩⟩
    obtain ⟨⟨kr, kH⟩, s1, e1, ek, _⟩ := newF (fs' := putF "kind" (V.ref k) []) (o := .tup ((kindK pat).map kV)) (Sb.refl r H) er nk
    replace e1 : upd (upd H k (.tup ((kindK pat).map kV))) r (.ins C dx (putF "kind" (V.ref k) [])) r = some (.ins C dx [("kind", .ref k)]) := e1
    generalize upd (upd H k (.tup ((kindK pat).map kV))) r (.ins C dx (putF "kind" (V.ref k) [])) = G1 at s1 e1 ek ⊢
    refine ⟨by show 0 ≤ _; exact Nat.zero_le _, fun o no => ⟨_, rfl, r, C, dx, _, rfl, same_new no _ _ e1, R.cl, R.n2, (by show 1 < 1000; decide), ?_⟩⟩
    rw [sF2]
    obtain ⟨⟨or_, oH⟩, s2, e2, eo, k2⟩ := newF (fs' := [("kind", V.ref k), ("olds", V.ref o)]) (o := .lst []) s1 e1 no
    obtain ⟨ko, ek⟩ := k2 _ _ kr ek
    generalize upd (upd G1 o (.lst [])) r (.ins C dx [("kind", V.ref k), ("olds", V.ref o)]) = G2 at s2 e2 eo ek ⊢
    clear k2
    refine ⟨by show 0 ≤ _; exact Nat.zero_le _, fun pl np => ⟨_, rfl, r, C, dx, _, rfl, same_new np _ _ e2, R.cl, R.n3, (by show 2 < 1000; decide), ?_⟩⟩
    rw [sF3]
    obtain ⟨⟨pr_, pH⟩, s3, e3, epl, k3⟩ := newF (fs' := [("kind", V.ref k), ("olds", V.ref o), ("places", V.ref pl)]) (o := .lst []) s2 e2 np
    obtain ⟨kp, ek⟩ := k3 _ _ kr ek
    obtain ⟨op, eo⟩ := k3 _ _ or_ eo
    generalize upd (upd G2 pl (.lst [])) r (.ins C dx [("kind", V.ref k), ("olds", V.ref o), ("places", V.ref pl)]) = G3 at s3 e3 eo ek epl ⊢
    clear k3
    refine ⟨by show 0 ≤ _; exact Nat.zero_le _, fun n nn => ⟨_, rfl, r, C, dx, _, rfl, same_new nn _ _ e3, R.cl, R.n4, (by show 3 < 1000; decide), ?_⟩⟩
    rw [sF4]
    obtain ⟨⟨nr_, nH⟩, s4, e4, en, k4⟩ := newF (fs' := [("kind", V.ref k), ("olds", V.ref o), ("places", V.ref pl), ("news", V.ref n)]) (o := .lst []) s3 e3 nn
    obtain ⟨kn, ek⟩ := k4 _ _ kr ek
    obtain ⟨on, eo⟩ := k4 _ _ or_ eo
    obtain ⟨pn, epl⟩ := k4 _ _ pr_ epl
    generalize upd (upd G3 n (.lst [])) r (.ins C dx [("kind", V.ref k), ("olds", V.ref o), ("places", V.ref pl), ("news", V.ref n)]) = G4 at s4 e4 eo ek epl en ⊢
    clear k4
    refine ⟨by show 0 ≤ _; exact Nat.zero_le _, fun tw ntw => ⟨_, rfl, r, C, dx, _, rfl, same_new ntw _ _ e4, R.cl, R.n5, (by show 4 < 1000; decide), ?_⟩⟩
    rw [sF5]
    obtain ⟨⟨tr_, tH⟩, s5, e5, etw, k5⟩ := newF (fs' := [("kind", V.ref k), ("olds", V.ref o), ("places", V.ref pl), ("news", V.ref n), ("twins", V.ref tw)]) (o := .lst []) s4 e4 ntw
    obtain ⟨kt, ek⟩ := k5 _ _ kr ek
    obtain ⟨ot, eo⟩ := k5 _ _ or_ eo
    obtain ⟨pt, epl⟩ := k5 _ _ pr_ epl
    obtain ⟨nt_, en⟩ := k5 _ _ nr_ en
    generalize upd (upd G4 tw (.lst [])) r (.ins C dx [("kind", V.ref k), ("olds", V.ref o), ("places", V.ref pl), ("news", V.ref n), ("twins", V.ref tw)]) = G5 at s5 e5 eo ek epl en etw ⊢
    clear k5
    have tr : t ≠ r := fun z => by rw [z, er] at et; cases et
    have pr : p ≠ r := fun z => by rw [z, er] at ep; cases ep
    have qr : q ≠ r := fun z => by rw [z, er] at eq; cases eq
    refine ⟨_, rfl, t, _, rfl, .inl (SqL.of (s5 _ _ tr et)), fun l nl => ⟨_, rfl, r, C, dx, _, rfl, same_new nl _ _ e5, R.cl, R.n6, (by show 5 < 1000; decide), ?_⟩⟩
    rw [sF6]
    obtain ⟨⟨lr_, lH⟩, s6, e6, el, k6⟩ := newF (fs' := stF6 k o pl n tw l) (o := .lst (ts.map V.str)) s5 e5 nl
    obtain ⟨kl, ek⟩ := k6 _ _ kr ek
    obtain ⟨ol, eo⟩ := k6 _ _ or_ eo
    obtain ⟨pl_, epl⟩ := k6 _ _ pr_ epl
    obtain ⟨nl_, en⟩ := k6 _ _ nr_ en
    obtain ⟨tl_, etw⟩ := k6 _ _ tr_ etw
    generalize upd (upd G5 l (.lst (ts.map V.str))) r (.ins C dx (stF6 k o pl n tw l)) = G6 at s6 e6 eo ek epl en etw el ⊢
    clear k6 e1 e2 e3 e4 e5 s1 s2 s3 s4 s5
    have S0 : St6 C H G6 r dx k o pl n tw l (kindK pat) [] [] [] ts := ⟨s6, e6, ek, eo, epl, en, etw, el, ⟨kH, oH, pH, nH, tH, lH⟩, by simp [Ne.symm kr, Ne.symm or_, Ne.symm pr_, Ne.symm nr_, Ne.symm tr_, Ne.symm lr_, ko, kp, kn, kt, kl, op, on, ot, ol, pn, pt, pl_, nt_, nl_, tl_]⟩
    clear s6 e6 eo ek epl en etw el
    have hcols : ∀ i, i < pat.length - 1 → (colsOf pat)[i]? = some (1 + i) := fun i hi => by
      unfold colsOf
      rw [List.getElem?_range' hi]
      simp
    have hlen : (colsOf pat).length = pat.length - 1 := List.length_range'
    refine ⟨_, rfl, p, _, rfl, .inr (SqT.of (S0.sb _ _ pr ep)), 1, _, rfl, ⟨by decide, by decide, by rw [List.length_map]; omega, by rw [List.length_map]; exact Int.lt_of_le_of_lt (by omega : _ ≤ (4 : Int)) (by decide)⟩, ?_⟩
    have hcount : (((pat.map V.str).length : Int) - 1).toNat = pat.length - 1 := by
      rw [List.length_map]
      omega
    rw [hcount]
    refine for_range (lo := 1) (n := pat.length - 1) (fun i σ G => ∃ (o4 o5 : Option V), σ = [some (.ref r), some (.ref p), some (.ref t), some (.ref q), o4, o5, none, none] ∧
      St6 C H G r dx k o pl n tw l (kindK pat) (oldsIn ts pat ((colsOf pat).take i)) (placesIn ts pat ((colsOf pat).take i)) (newsIn ts pat ((colsOf pat).take i)) (termsIn ts pat ((colsOf pat).take i))) ⟨none, none, rfl, ?_⟩ ?_ ?_
    · have e0 : termsIn ts pat ((colsOf pat).take 0) = ts := List.append_nil ts
      rw [e0]
      exact S0
    · rintro i σ G hi ⟨o4, o5, rfl, S⟩
      have hci := hcols i hi
      have ec : (1 : Int) + ((i : Nat) : Int) = ((1 + i : Nat) : Int) := by omega
      rw [ec]
      generalize 1 + i = c at hci ec
      have hc4 : c < pat.length := by
        have := List.mem_of_getElem? hci
        unfold colsOf at this
        have := List.mem_range'_1.mp this
        omega
      have ep1 := S.sb _ _ pr ep
      have et1 := S.sb _ _ tr et
      refine ⟨_, rfl, _, rfl, p, _, _, _, rfl, rfl, SqT.of ep1, atI_nat (getD_str hc4), ?_⟩
      obtain ⟨c1, c2⟩ := cnt_le (ts := ts) (cs := colsOf pat) (i := i) hp4 (by rw [hlen]; omega)
      have big3 : ∀ m, m ≤ 3 → m < sizeLine := fun m hm => Nat.lt_of_le_of_lt hm (by decide)
      refine ⟨_, rfl, _, rfl, t, _, rfl, .inl (SqL.of et1), rfl, flat_strs _, _, rfl, ?_⟩
      rw [inV_strs]
      by_cases hz : pat.getD c "" ∈ ts
      · rw [decide_eq_true hz]
        obtain ⟨i1, i2, i3, i4⟩ := in_step hci hz
        refine iteT ?_
        refine ⟨_, rfl, r, C, dx, _, .ref o, rfl, S.er, R.cl, R.n2, sl2, .inl ⟨rfl, _, SqL.of S.eo⟩, _, rfl, o, _, _, rfl, rfl, S.eo, by rw [List.length_map]; exact big3 _ c1, ?_⟩
        have S1 := S.olds c
        have et2 := S1.sb _ _ tr et
        obtain ⟨x1, x2⟩ := idx_at hz
        refine ⟨_, rfl, r, C, dx, _, .ref pl, rfl, S1.er, R.cl, R.n3, sl3, .inl ⟨rfl, _, SqL.of S1.ep⟩, _, rfl, .inl ⟨rfl, _, SqL.of et2⟩, _, rfl, t, ts.map V.str, .str (pat.getD c ""), pos1 ts (pat.getD c ""), .str (pat.getD c ""), rfl, rfl, SqL.of et2, rfl, flat_strs _, x1, by
          show (pat.getD c "" == pat.getD c "") = true
          exact beq_self_eq_true _, x2, pl, _, _, rfl, rfl, S1.ep, by
          rw [List.length_map]
          unfold placesIn
          rw [List.length_map]
          exact big3 _ c1, ?_⟩
        have S2 := S1.places (pos1 ts (pat.getD c ""))
        refine ⟨_, _, rfl, ?_⟩
        rw [i1, i2, i3, i4]
        exact S2
      · rw [decide_eq_false hz]
        obtain ⟨i1, i2, i3, i4⟩ := out_step hci hz
        refine iteF ?_
        refine ⟨_, rfl, _, rfl, r, C, dx, _, .ref l, rfl, S.er, R.cl, R.n6, sl6, l, _, rfl, .inl (SqL.of S.el), rfl, flat_strs _, _, rfl, ?_⟩
        rw [inV_strs, decide_eq_false (no_twin nt hci hz)]
        refine iteF ?_
        refine ⟨_, rfl, r, C, dx, _, .ref n, rfl, S.er, R.cl, R.n4, sl4, .inl ⟨rfl, _, SqL.of S.en⟩, _, rfl, n, _, _, rfl, rfl, S.en, by rw [List.length_map]; exact big3 _ c2, ?_⟩
        have S1 := S.news c
        refine ⟨_, rfl, r, C, dx, _, .ref l, rfl, S1.er, R.cl, R.n6, sl6, .inl ⟨rfl, _, SqL.of S1.el⟩, _, rfl, l, _, _, rfl, rfl, S1.el, by
          rw [List.length_map]
          unfold termsIn
          rw [List.length_append, List.length_map]
          exact Nat.lt_of_le_of_lt (by omega : _ ≤ 1003) (by decide), ?_⟩
        have S2 := S1.terms (pat.getD c "")
        refine ⟨_, _, rfl, ?_⟩
        rw [i1, i2, i3, i4]
        exact S2
    · rintro σ G ⟨o4, o5, rfl, S⟩
      rw [← hlen, List.take_length] at S
      have hp1' := hq.sbo er S.sb
      have eq1 := S.sb _ _ qr eq
      have et1 := S.sb _ _ tr et
      have hul := hq.len
      show tSeq _ _ _ _ _
      refine ⟨_, rfl, q, rfl, ⟨_, SqL.of eq1⟩, fun D nD => ?_⟩
      refine lc_list (K := K) (a := q) (xs := us) (fun j H' => Same G H' ∧ ∃ ws : List V, H' D = some (.lst ws) ∧ PaL H' ws (readyOf ts (stepTerms ts pat) (prs.take j))) ⟨same_new nD, [], upd_same, .nil⟩ (fun i H' _ y => SqL.of (y.1 _ _ eq1)) ?_ ?_
      · rintro j v H2 hj ⟨s2, ws, e2, hw⟩
        obtain ⟨b, pr1, rfl, hpj, eb⟩ := hp1'.at_ hj
        obtain ⟨x, y, rfl⟩ := hq2 pr1 (List.mem_of_getElem? hpj)
        have jl := (List.getElem?_eq_some_iff.mp hpj).1
        have eb2 := s2 _ _ eb
        have S2 := S.same s2
        have lenw : ws.length < sizeLine := by
          have h1 := hw.len
          have h2 : (readyOf ts (stepTerms ts pat) (prs.take j)).length ≤ (prs.take j).length := List.length_filter_le _ _
          rw [List.length_take] at h2
          exact Nat.lt_of_le_of_lt (by omega : _ ≤ 1000) (by decide)
        have ft := filter_take (f := fun p : List Str => (decide (p.getD 0 "" ∈ stepTerms ts pat) && decide (p.getD 1 "" ∈ stepTerms ts pat)) && !(decide (p.getD 0 "" ∈ ts) && decide (p.getD 1 "" ∈ ts))) hpj
        have fx : ([x, y] : List Str).getD 0 "" = x := rfl
        have fy : ([x, y] : List Str).getD 1 "" = y := rfl
        rw [fx, fy] at ft
        replace ft : readyOf ts (stepTerms ts pat) (prs.take (j + 1)) = readyOf ts (stepTerms ts pat) (prs.take j) ++ if ((decide (x ∈ stepTerms ts pat) && decide (y ∈ stepTerms ts pat)) && !(decide (x ∈ ts) && decide (y ∈ ts))) = true then [[x, y]] else [] := ft
        have keep : ((decide (x ∈ stepTerms ts pat) && decide (y ∈ stepTerms ts pat)) && !(decide (x ∈ ts) && decide (y ∈ ts))) = false → Same G H2 ∧ ∃ ws : List V, H2 D = some (.lst ws) ∧ PaL H2 ws (readyOf ts (stepTerms ts pat) (prs.take (j + 1))) := fun h => by
          rw [ft, h, if_neg Bool.false_ne_true, List.append_nil]
          exact ⟨s2, ws, e2, hw⟩
        refine ⟨rfl, ?_⟩
        refine ⟨_, rfl, r, C, dx, _, .ref l, rfl, S2.er, R.cl, R.n6, sl6, _, rfl, ?_⟩
        dsimp only [tNil]
        refine ⟨l, b, stepTerms ts pat, x, y, rfl, SqL.of S2.el, eb2, _, rfl, ?_⟩
        cases h1 : (decide (x ∈ stepTerms ts pat) && decide (y ∈ stepTerms ts pat)) with
        | false =>
          refine iteF (iteF ?_)
          exact keep (by rw [h1, Bool.false_and])
        | true =>
          refine iteT ?_
          refine ⟨_, rfl, _, rfl, ?_⟩
          dsimp only [tNil]
          refine ⟨t, b, ts, x, y, rfl, SqL.of (s2 _ _ et1), eb2, _, rfl, ?_⟩
          cases h2 : (decide (x ∈ ts) && decide (y ∈ ts)) with
          | true =>
            refine iteF ?_
            exact keep (by rw [h1, h2] <;> rfl)
          | false =>
            refine iteT ⟨_, rfl, ws, e2, lenw, same_put s2 nD, _, upd_same, ?_⟩
            rw [ft, h1, h2]
            exact (hw.over e2).app (.cons (by rw [upd_ne (fun z => by rw [z, e2] at eb2; cases eb2)]; exact eb2) .nil)
      · rintro H2 ⟨s2, ws, e2, hw⟩
        rw [hul, List.take_length] at hw
        have S2 := S.same s2
        have lenr : (readyOf ts (stepTerms ts pat) prs).length ≤ 1000 := Nat.le_trans (List.length_filter_le _ _) hql
        have inr_ : ∀ z ∈ readyOf ts (stepTerms ts pat) prs, PairIn (stepTerms ts pat) z := fun z hz => by
          obtain ⟨m, hb⟩ := List.mem_filter.mp hz
          obtain ⟨x, y, rfl⟩ := hq2 z m
          rw [Bool.and_eq_true, Bool.and_eq_true] at hb
          exact ⟨x, y, rfl, of_decide_eq_true hb.1.1, of_decide_eq_true hb.1.2⟩
        refine ⟨_, rfl, r, C, dx, _, .ref l, rfl, S2.er, R.cl, R.n6, sl6, _, rfl, ?_⟩
        dsimp only [tNil]
        refine ⟨l, D, stepTerms ts pat, ws, _, rfl, SqL.of S2.el, SqL.of e2, hw, inr_, lenr, fun pa G3 zs npa s3 epa hz => ⟨_, rfl, r, C, dx, _, rfl, s3 _ _ S2.er, R.cl, R.n7, (by show 6 < 1000; decide), ?_⟩⟩
        rw [sF7]
        have S3 := S2.same s3
        have par : pa ≠ r := fun z => by rw [z, s3 _ _ S2.er] at epa; cases epa
        have paH : H pa = none := by
          cases g : H pa with
          | none => rfl
          | some u =>
            rw [S2.sb _ _ par g] at npa
            cases npa
        have nd' := S3.nd
        simp only [List.nodup_cons, List.mem_cons, List.not_mem_nil, or_false, not_or] at nd'
        obtain ⟨⟨x1, x2, x3, x4, x5, x6⟩, _⟩ := nd'
        have over : ∀ {vs : List V} {zs : List (Nat × Nat)}, IJs G3 vs zs → IJs (upd G3 r (.ins C dx (stF k o pl n tw l pa))) vs zs := by
          intro vs zs h
          induction h with
          | nil => exact .nil
          | cons e _ ih => exact .cons (by rw [upd_ne (fun z => by rw [z, S3.er] at e; cases e)]; exact e) ih
        refine q0 _ (S3.sb.trans Sb.upd) ⟨dx, k, o, pl, n, tw, l, pa, zs, upd_same, ?_, ?_, ?_, ?_, ?_, ?_, ?_, over hz, S3.fr.2.1, S3.fr.2.2.1, S3.fr.2.2.2.1, S3.fr.2.2.2.2.1, S3.fr.2.2.2.2.2, paH⟩
        · rw [upd_ne (Ne.symm x1)]; exact S3.ek
        · rw [upd_ne (Ne.symm x2)]; exact S3.eo
        · rw [upd_ne (Ne.symm x3)]; exact S3.ep
        · rw [upd_ne (Ne.symm x4)]; exact S3.en
        · rw [upd_ne (Ne.symm x5)]; exact S3.et
        · rw [upd_ne (Ne.symm x6)]; exact S3.el
        · rw [upd_ne par]; exact epa
end
end Nv
set_option maxHeartbeats 4000000
namespace Nv
open PySem PySem.Spec PyProof.Rows L2
/-! # a shelf grows -/
theorem pick_snoc {key : List Str → List L2.Key} {k : List L2.Key} {us : List V} {ps : List (List Str)} {u : V} {p : List Str} (h : us.length = ps.length) :
    pick key k (us ++ [u]) (ps ++ [p]) = if key p = k then pick key k us ps ++ [u] else pick key k us ps := by
  unfold pick
  rw [List.zip_append h, List.filter_append, List.map_append]
  by_cases e : key p = k
  · rw [if_pos e]
    have : ([u].zip [p]).filter (fun z => decide (key z.2 = k)) = [(u, p)] := List.filter_cons_of_pos (by exact decide_eq_true e)
    rw [this] <;> rfl
  · rw [if_neg e]
    have : ([u].zip [p]).filter (fun z => decide (key z.2 = k)) = [] := List.filter_cons_of_neg (by simpa using e)
    rw [this]
    exact List.append_nil _
section
variable {key : List Str → List L2.Key} {H0 H G : Hp} {d : Addr} {us : List V} {ps : List (List Str)} {u : V} {p : List Str}
theorem Shelf.same (S : Shelf key H0 H d us ps) (s : Same H G) : Shelf key H0 G d us ps := by
  obtain ⟨kvs, e1, e2, e3, e4, e5⟩ := S
  exact ⟨kvs, s _ _ e1, e2, fun k v h => (by
    obtain ⟨l, h1, h2, h3⟩ := e3 k v h
    exact ⟨l, h1, h2, s _ _ h3⟩), e4, e5⟩
/-- the key is there -/
theorem Shelf.more {kvs : List (List L2.Key × V)} {l : Addr} (hlen : us.length = ps.length) (e1 : G d = some (.dT kvs)) (e2 : kvs.length ≤ ps.length) (e3 : ∀ k v, valV kvs k = some v → ∃ l, v = .ref l ∧ H0 l = none ∧ G l = some (.lst (pick key k us ps)))
    (e4 : ∀ k, valV kvs k = none → pick key k us ps = []) (e5 : ∀ k k' l, valV kvs k = some (.ref l) → valV kvs k' = some (.ref l) → k = k') (hv : valV kvs (key p) = some (.ref l)) :
    Shelf key H0 (upd G l (.lst (pick key (key p) us ps ++ [u]))) d (us ++ [u]) (ps ++ [p]) := by
  obtain ⟨l', z, nl, el⟩ := e3 _ _ hv
  cases z
  have ld : l ≠ d := fun z => by rw [z, e1] at el; cases el
  refine ⟨kvs, by rw [upd_ne (Ne.symm ld)]; exact e1, by rw [List.length_append]; omega, fun k v hk => ?_, fun k hk => ?_, e5⟩
  · obtain ⟨l2, rfl, n2, el2⟩ := e3 _ _ hk
    refine ⟨l2, rfl, n2, ?_⟩
    rw [pick_snoc hlen]
    by_cases z : key p = k
    · subst z
      rw [hv] at hk
      cases hk
      rw [upd_same, if_pos rfl]
    · rw [if_neg z, upd_ne (fun y => z (e5 _ _ l hv (by rw [← y]; exact hk)))]
      exact el2
  · rw [pick_snoc hlen, if_neg (fun z => by rw [← z, hv] at hk; cases hk)]
    exact e4 k hk
/-- it is new -/
theorem Shelf.fresh {kvs : List (List L2.Key × V)} {n : Addr} (hlen : us.length = ps.length) (e1 : G d = some (.dT (putK kvs (key p) (.ref n)))) (e2 : kvs.length ≤ ps.length) (e3 : ∀ k v, valV kvs k = some v → ∃ l, v = .ref l ∧ l ≠ n ∧ H0 l = none ∧ G l = some (.lst (pick key k us ps)))
    (e4 : ∀ k, valV kvs k = none → pick key k us ps = []) (e5 : ∀ k k' l, valV kvs k = some (.ref l) → valV kvs k' = some (.ref l) → k = k') (hn : valV kvs (key p) = none) (nd : n ≠ d) (nH : H0 n = none) :
    Shelf key H0 (upd G n (.lst [u])) d (us ++ [u]) (ps ++ [p]) := by
  refine ⟨putK kvs (key p) (.ref n), by rw [upd_ne (Ne.symm nd)]; exact e1, ?_, fun k v hk => ?_, fun k hk => ?_, fun k k' l h1 h2 => ?_⟩
  · have := put_len (kvs := kvs) (k := key p) (v := .ref n)
    rw [List.length_append, List.length_singleton]
    omega
  · rw [valV_put hn] at hk
    rw [pick_snoc hlen]
    by_cases z : k = key p
    · rw [if_pos z] at hk
      cases hk
      refine ⟨n, rfl, nH, ?_⟩
      rw [upd_same, if_pos z.symm, z, e4 _ hn] <;> rfl
    · rw [if_neg z] at hk
      obtain ⟨l2, rfl, ln, n2, el2⟩ := e3 _ _ hk
      refine ⟨l2, rfl, n2, ?_⟩
      rw [if_neg (fun y => z y.symm), upd_ne ln]
      exact el2
  · rw [valV_put hn] at hk
    by_cases z : k = key p
    · rw [if_pos z] at hk
      cases hk
    · rw [if_neg z] at hk
      rw [pick_snoc hlen, if_neg (fun y => z y.symm)]
      exact e4 k hk
  · rw [valV_put hn] at h1 h2
    have old : ∀ k, valV kvs k ≠ some (.ref n) := fun k z => by
      obtain ⟨l2, y, ln, _⟩ := e3 _ _ z
      cases y
      exact ln rfl
    by_cases z : k = key p
    · by_cases z2 : k' = key p
      · rw [z, z2]
      · rw [if_pos z] at h1
        rw [if_neg z2] at h2
        cases h1
        exact absurd h2 (old _)
    · rw [if_neg z] at h1
      by_cases z2 : k' = key p
      · rw [if_pos z2] at h2
        cases h2
        exact absurd h1 (old _)
      · rw [if_neg z2] at h2
        exact e5 _ _ _ h1 h2
end
def keyO (cs : List Nat) (p : List Str) : List L2.Key := cs.map fun c => .inr (p.getD c "")
def selT (cs : List Nat) (p : List Str) : List Str := cs.map fun c => p.getD c ""
theorem keyO_v {cs : List Nat} {p : List Str} : (keyO cs p).map kV = (selT cs p).map V.str := by
  unfold keyO selT
  rw [List.map_map, List.map_map] <;> rfl
/-- [x[c] for c in cs] -/
theorem lc_sel {K : PySem.W.Frag} {L : Addr} {cs : List Nat} {p : List Str} {g : TG} {te : TE} {vs : List Nat} {σ : L2.St} {H1 : Hp} {D : Addr} {Qd : Hp → Prop} (nD : H1 D = none) (eL : SqL K H1 L (cs.map natV)) (hl : cs.length ≤ 1000)
    (hs : ∀ (c : Nat) (H2 : Hp) (R : VK), c ∈ cs → Same H1 H2 → R (.str (p.getD c "")) H2 → g (natV c) (wipe σ vs) H2 fun σ2 H3 => wipe σ2 vs = wipe σ vs ∧ te σ2 H3 R)
    (hd : ∀ G, Same H1 G → G D = some (.lst ((selT cs p).map V.str)) → Qd G) :
    ∃ W : Nat → Nat → Hp → Prop, (∃ m, W 0 m (upd H1 D (.lst []))) ∧ ∀ i m H, W i m H →
    ((Itl K L).stop i H ∧ Qd H) ∨ ((Itl K L).go i H ∧ ∃ Nx : Hp → Prop, (∀ H', Nx H' → ∃ m', m' < m ∧ W (i + 1) m' H') ∧ ∀ x H', (Itl K L).yld i H x H' → g x (wipe σ vs) H' fun σ2 H2 => wipe σ2 vs = wipe σ vs ∧ tYes σ2 H2 fun b H3 =>
      if b = true then te σ2 H3 fun y H4 => ∃ acc, H4 D = some (.lst acc) ∧ acc.length < sizeLine ∧ Nx (upd H4 D (.lst (acc ++ [y]))) else Nx H3) := by
  refine lc_list (K := K) (a := L) (xs := cs.map natV) (fun i H' => Same H1 H' ∧ H' D = some (.lst ((selT (cs.take i) p).map V.str))) ⟨same_new nD, upd_same⟩ (fun i H' _ y => y.1.seq eL) ?_ ?_
  · rintro i v H2 hi ⟨s2, e2⟩
    rw [List.getElem?_map] at hi
    obtain ⟨c, hc, rfl⟩ := Option.map_eq_some_iff.mp hi
    refine hs c H2 (fun y H4 => ∃ acc, H4 D = some (.lst acc) ∧ acc.length < sizeLine ∧ (Same H1 (upd H4 D (.lst (acc ++ [y]))) ∧ upd H4 D (.lst (acc ++ [y])) D = some (.lst ((selT (cs.take (i + 1)) p).map V.str)))) (List.mem_of_getElem? hc) s2 ⟨_, e2, ?_, same_put s2 nD, ?_⟩
    · unfold selT
      rw [List.length_map, List.length_map, List.length_take]
      exact Nat.lt_of_le_of_lt (by omega : _ ≤ 1000) (by decide)
    · rw [upd_same]
      unfold selT
      rw [take_one hc, List.map_append, List.map_append] <;> rfl
  · rintro H2 ⟨s2, e2⟩
    rw [List.length_map, List.take_length] at e2
    exact hd H2 s2 e2
end Nv
set_option maxHeartbeats 4000000
namespace Nv
open PySem PySem.Spec PyProof.Rows L2
/-! # Step.onward -/
theorem PaL.overX {H : Hp} {D : Addr} {u o : HO} {vs : List V} {ps : List (List Str)} (h : PaL H vs ps) (e : H D = some u) (hu : ∀ xs, u ≠ .tup xs) : PaL (upd H D o) vs ps := by
  induction h with
  | nil => exact .nil
  | cons e1 _ ih => exact .cons (by rw [upd_ne (fun z => by rw [z, e] at e1; cases e1; exact hu _ rfl)]; exact e1) ih
theorem pick_pal {key : List Str → List L2.Key} {k : List L2.Key} {f : List Str → List Str} {H : Hp} : ∀ {ps : List (List Str)} {ms : List V}, PaL H ms (ps.map f) → PaL H (pick key k ms ps) ((ps.filter fun p => decide (key p = k)).map f)
  | [], _, h => by
    cases h
    exact .nil
  | p :: ps, _, h => by
    cases h with
    | @cons t _ us _ e h =>
      have ih := pick_pal (key := key) (k := k) h
      unfold pick at ih ⊢
      rw [List.zip_cons_cons]
      by_cases z : key p = k
      · rw [List.filter_cons_of_pos (by exact decide_eq_true z), List.filter_cons_of_pos (by exact decide_eq_true z)]
        exact .cons e ih
      · rw [List.filter_cons_of_neg (by simpa using z), List.filter_cons_of_neg (by simpa using z)]
        exact ih
theorem flatM_len {α β : Type} {f : α → List β} {m : Nat} (h : ∀ x, (f x).length ≤ m) : ∀ l : List α, (l.flatMap f).length ≤ l.length * m
  | [] => Nat.zero_le _
  | x :: l => by
    have := flatM_len h l
    have h1 := h x
    rw [List.flatMap_cons, List.length_append, List.length_cons, Nat.succ_mul]
    omega
theorem keyR_v {cs : List Nat} {p : List Str} : (cs.map fun c => (Sum.inr (p.getD c "") : L2.Key)).map kV = (selT cs p).map V.str := by
  unfold selT
  rw [List.map_map, List.map_map] <;> rfl
/-- the key of a row: the texts at its places -/
def keyR (pl : List Nat) (row : List Str) : List L2.Key := pl.map fun c => .inr (row.getD c "")
/-- what a row is led on to -/
def onRow (ol pl nw : List Nat) (facts : List (List Str)) (row : List Str) : List (List Str) := (facts.filter fun p => decide (keyO ol p = keyR pl row)).map fun p => row ++ selT nw p
def onw (pat ts : List Str) (prs rws facts : List (List Str)) : List (List Str) :=
  keepA ((readyOf ts (stepTerms ts pat) prs).map (ijOf (stepTerms ts pat))) (rws.flatMap (onRow (oldsIn ts pat (colsOf pat)) (placesIn ts pat (colsOf pat)) (newsIn ts pat (colsOf pat)) facts))
section
variable {P : Program} {w : World} {K : PySem.W.Frag} {mg : Str → Option Value} {base : Heap}
def spOnward (K : PySem.W.Frag) (C : Addr) : Sp := fun vs H Q _ => ∃ (r a b : Addr) (pat ts : List Str) (prs : List (List Str)) (us fs : List V) (rws facts : List (List Str)), vs = [.ref r, .ref a, .ref b] ∧ StepAt C H r pat ts prs ∧ (pat.length ≤ 4 ∧ ts.length ≤ 900) ∧ (∀ x ∈ prs, ∃ y z, x = [y, z]) ∧
  (H a = some (.lst us) ∧ PaL H us rws ∧ (∀ x ∈ rws, x.length = ts.length) ∧ rws.length ≤ 100000) ∧ (SqL K H b fs ∧ PaL H fs facts ∧ (∀ x ∈ facts, x.length = pat.length) ∧ facts.length ≤ 1000) ∧ rws.length * facts.length ≤ 100000 ∧
  ∀ (r' : Addr) (H' : Hp) (us' : List V), (r' = a ∨ H r' = none) → Same H H' → H' r' = some (.lst us') → PaL H' us' (onw pat ts prs rws facts) → Q (.ref r') H'
abbrev scLonger : Scope := { kind := .function, names := [(".0", .local), ("row", .cell), ("more", .local), ("tuple", .globalImplicit), ("places", .cell), ("shelf", .cell)], isGenerator := false, isCoroutine := false }
abbrev nOnward : List Str := ["self", "rows", "facts", "shelf", "fact", "one", "other", "column", "key", "places", "longer", "row", "more", "place"]
theorem scOnward : FnScope nOnward ["self", "rows", "facts"] (defScope sOnward) := ⟨rfl, rfl, rfl, by decide +kernel, rfl, by decide +kernel, by decide +kernel⟩
theorem ok_onward {f C fA : Addr} {fd dA : FuncData} (F : Fun K "onward" "Step.onward" sOnward f fd) (B : Bp mg) (R : SC K C)
    (GA : FnOk P w K mg base CX0 1 fA dA ["rows", "apart"] (spKeptApart K)) (kA : PySem.W.keepIn K (.ref fA) = true) (gA : mg "_kept_apart" = some (.ref fA)) (bA : Binds K dA ["rows", "apart"] []) :
    FnOk P w K mg base CX0 2 f fd ["self", "rows", "facts"] (spOnward K C) := by
  refine F.ok scOnward (fun vs H Q E h => ?_) (fun cdv A outer s H vs Q E hr h => ?_)
  · obtain ⟨r, a, b, pat, ts, prs, us, fs, rws, facts, rfl, _⟩ := h
    rfl
  · obtain ⟨r, a, b, pat, ts, prs, us, fs, rws, facts, rfl, hst, ⟨hp4, htl⟩, hprs, ⟨ea, hrw, hrl, hrn⟩, ⟨eb, hfs, hfl, hfn⟩, hprod, q⟩ := h
    have hu : (A.deeper (envOfC "Step.onward" (defScope sOnward) s.heap.objs.size f cdv)).units + 1 < cLine := Nat.lt_of_le_of_lt (Nat.add_le_add_left (by decide : 1 ≤ 64) _) hr.units
    refine ⟨_, pss_cons (ps_if (pt_not (pt_truth (pv 1) (by intro _; rfl))) (pss_one (ps_ret (pv 1))) pss_nil)
      (pss_cons (ps_set (i := 3) scOnward.nd rfl (Or.inr rfl) pe_dnewT)
      (pss_cons (ps_for PassesOwn.never rfl (pi_list (pv 2)) (pg_name (i := 4) scOnward.nd rfl (Or.inr rfl))
        (pss_one (ps_if (pt_val (pe_callB (cr_all rfl) (by rfl) B.all bootAll (pa_cons (by exact (pe_lc (own := [("one", 5), ("other", 6)]) (g := gTup K 2 (gCons (gName 5) (gCons (gName 6) gNil))) (tt := tYes) (te := tOp rEq (tOp (rIxT K) (tVar 4) (tVar 5)) (tOp (rIxT K) (tVar 4) (tVar 6))) rfl scOnward.nd (pi_list (pe_fld (pv 0) rfl))
            (blkOk_by (own := [("one", 5), ("other", 6)]) (N := nOnward) (sc := defScope sOnward) (by decide +kernel))
            (fun _ _ _ _ _ => pg_tup rfl (pgs_cons (pg_name (i := 5) scOnward.nd rfl (Or.inl rfl)) (pgs_cons (pg_name (i := 6) scOnward.nd rfl (Or.inl rfl)) pgs_nil))) (fun _ _ _ _ _ => pts_nil)
            (fun _ _ _ _ _ => by exact (pe_cmpR op_eq (pe_ix ix_tup (pv 4) (pv 5) (fun _ _ => rfl)) (pe_ix ix_tup (pv 4) (pv 6) (fun _ _ => rfl)) (nomark _))))) pa_nil)))
          (pss_cons (ps_set (i := 8) scOnward.nd rfl (Or.inl rfl) (pe_callTy call_tuple_of (by rfl) B.tup PyProof.Rows.boot_tuple (pa_cons (by exact (pe_lc (own := [("column", 7)]) (g := gName 7) (tt := tYes) (te := tOp (rIxT K) (tVar 4) (tVar 7)) rfl scOnward.nd (pi_list (pe_fld (pv 0) rfl))
            (blkOk_by (own := [("column", 7)]) (N := nOnward) (sc := defScope sOnward) (by decide +kernel))
            (fun _ _ _ _ _ => pg_name (i := 7) scOnward.nd rfl (Or.inl rfl)) (fun _ _ _ _ _ => pts_nil)
            (fun _ _ _ _ _ => by exact (pe_ix ix_tup (pv 4) (pv 7) (fun _ _ => rfl))))) pa_nil)))
          (pss_one (ps_expr (pe_bm PySem.F.plainAttrs_list PySem.F.slot_list_append PySem.F.type_list_append mt_append
            (pe_bm PySem.F.plainAttrs_dict PySem.F.slot_dict_setdefault PySem.F.type_dict_setdefault (mt_setdT hu) (pv 3) (pa_cons (pv 8) (pa_cons (pe_lst pa_nil) pa_nil)))
            (pa_cons (pe_callTy call_tuple_of (by rfl) B.tup PyProof.Rows.boot_tuple (pa_cons (by exact (pe_lc (own := [("column", 7)]) (g := gName 7) (tt := tYes) (te := tOp (rIxT K) (tVar 4) (tVar 7)) rfl scOnward.nd (pi_list (pe_fld (pv 0) rfl))
            (blkOk_by (own := [("column", 7)]) (N := nOnward) (sc := defScope sOnward) (by decide +kernel))
            (fun _ _ _ _ _ => pg_name (i := 7) scOnward.nd rfl (Or.inl rfl)) (fun _ _ _ _ _ => pts_nil)
            (fun _ _ _ _ _ => by exact (pe_ix ix_tup (pv 4) (pv 7) (fun _ _ => rfl))))) pa_nil)) pa_nil)))))
          pss_nil)))
      (pss_cons (ps_set (i := 9) scOnward.nd rfl (Or.inr rfl) (pe_fld (pv 0) rfl))
      (pss_cons (by exact (ps_setLc2 (i := 10) (own := [("row", 11), ("more", 12)]) (vs1 := [12]) (g := gName 11) (g1 := gName 12) (tt := tYes) (tt1 := tYes)
          (wi1 := iList K (tDGet2 (tVar 3) (tCB (fun xs H Q => ∃ p ys, xs = [.ref p] ∧ ((SqL K H p ys ∧ ∀ l, H l = none → Q (.ref l) (upd H l (.tup ys))) ∨ (SqT K H p ys ∧ Q (.ref p) H))) (tCons (tLc (iList K (tVar 9)) (gName 13) tYes (tOp (rIxT K) (tVar 11) (tVar 13)) [13]) tNil)) (tLst tNil)))
          (te := tOp (rCatA K) (tVar 11) (tVar 12)) rfl scOnward.nd rfl rfl (sw_true rfl rfl rfl (by decide +kernel)) (pi_list (pv 1))
          (blkOk_by (own := [("row", 11), ("more", 12)]) (N := nOnward) (sc := defScope sOnward) (by decide +kernel)) (by decide)
          (fun _ _ _ _ _ => pg_name (i := 11) scOnward.nd rfl (Or.inr rfl)) (fun _ _ _ _ _ => pts_nil)
          (fun _ _ _ _ _ => by exact (pi_list (pe_dget2 hu (pv 3) (pe_callTy call_tuple_of (by rfl) B.tup PyProof.Rows.boot_tuple (pa_cons (by exact (pe_lc (own := [("place", 13)]) (g := gName 13) (tt := tYes) (te := tOp (rIxT K) (tVar 11) (tVar 13)) rfl scOnward.nd (pi_list (pv 9))
            (show BlkOk nOnward scLonger _ [("place", 13)] from blkOk_by (by decide +kernel))
            (fun _ _ _ _ _ => pg_name (i := 13) scOnward.nd rfl (Or.inl rfl)) (fun _ _ _ _ _ => pts_nil)
            (fun _ _ _ _ _ => by exact (pe_ix ix_tup (pv 11) (pv 13) (fun _ _ => rfl))))) pa_nil)) (pe_lst pa_nil) ⟨rfl, rfl, rfl, rfl⟩)))
          (fun _ _ _ _ _ => pg_name (i := 12) scOnward.nd rfl (Or.inl rfl)) (fun _ _ _ _ _ => pts_nil) (fun _ _ _ _ _ => by exact (pe_op op_catA (pv 11) (pv 12)))))
      (pss_one (ps_ret (by exact (pe_call GA hr (by rfl) gA kA bA .nil pass0 (pa_cons (pv 10) (pa_cons (pe_fld (pv 0) rfl) pa_nil)))))))))), ?_⟩
    have hul := hrw.len
    have hfsl := hfs.len
    refine ⟨_, rfl, !us.isEmpty, .inl ⟨us, SqL.of ea, rfl⟩, ?_⟩
    by_cases hu0 : us = []
    · subst hu0
      cases hrw
      exact iteT ⟨_, rfl, q a H [] (.inl rfl) (Same.refl H) ea (by
        have e : onw pat ts prs [] facts = [] := by
          unfold onw
          have : ∀ ijs, keepA ijs [] = [] := fun ijs => by
            induction ijs with
            | nil => rfl
            | cons z ijs ih => exact ih
          exact this _
        rw [e]
        exact .nil)⟩
    have hemp : us.isEmpty = false := by
      cases us with
      | nil => exact absurd rfl hu0
      | cons _ _ => rfl
    rw [hemp]
    refine iteF ?_
    obtain ⟨dx, k, o, pl, n, tw, l, ap, zs, e0, ek, eo, epl, en, etw, el, eap, hij⟩ := hst
    have lk2 : (stF k o pl n tw l ap).lookup ("olds" : Str) = some (V.ref o) := (lk_no (by decide +kernel)).trans lk_yes
    have lk3 : (stF k o pl n tw l ap).lookup ("places" : Str) = some (V.ref pl) := (lk_no (by decide +kernel)).trans ((lk_no (by decide +kernel)).trans lk_yes)
    have lk4 : (stF k o pl n tw l ap).lookup ("news" : Str) = some (V.ref n) := (lk_no (by decide +kernel)).trans ((lk_no (by decide +kernel)).trans ((lk_no (by decide +kernel)).trans lk_yes))
    have lk5 : (stF k o pl n tw l ap).lookup ("twins" : Str) = some (V.ref tw) := (lk_no (by decide +kernel)).trans ((lk_no (by decide +kernel)).trans ((lk_no (by decide +kernel)).trans ((lk_no (by decide +kernel)).trans lk_yes)))
    have lk7 : (stF k o pl n tw l ap).lookup ("apart" : Str) = some (V.ref ap) := (lk_no (by decide +kernel)).trans ((lk_no (by decide +kernel)).trans ((lk_no (by decide +kernel)).trans ((lk_no (by decide +kernel)).trans ((lk_no (by decide +kernel)).trans ((lk_no (by decide +kernel)).trans lk_yes)))))
    have colO : ∀ c ∈ oldsIn ts pat (colsOf pat), c < pat.length ∧ pat.getD c "" ∈ ts := fun c hc => by
      obtain ⟨m, hd⟩ := List.mem_filter.mp hc
      have := List.mem_range'_1.mp m
      exact ⟨by omega, of_decide_eq_true hd⟩
    have colN : ∀ c ∈ newsIn ts pat (colsOf pat), c < pat.length := fun c hc => by
      obtain ⟨m, _⟩ := List.mem_filter.mp hc
      have := List.mem_range'_1.mp m
      omega
    have lenC : (colsOf pat).length ≤ 3 := by
      unfold colsOf
      rw [List.length_range']
      omega
    have lenO : (oldsIn ts pat (colsOf pat)).length ≤ 3 := Nat.le_trans (List.length_filter_le _ _) lenC
    have lenN : (newsIn ts pat (colsOf pat)).length ≤ 3 := Nat.le_trans (List.length_filter_le _ _) lenC
    have plR : ∀ c ∈ placesIn ts pat (colsOf pat), c < ts.length := fun c hc => by
      obtain ⟨x, hx, rfl⟩ := List.mem_map.mp hc
      exact (List.getElem?_eq_some_iff.mp (pos1_at (colO x hx).2).1).1
    have lenP : (placesIn ts pat (colsOf pat)).length ≤ 3 := by
      unfold placesIn
      rw [List.length_map]
      exact lenO
    unfold onw at q
    have hterms : (stepTerms ts pat).length = ts.length + (newsIn ts pat (colsOf pat)).length := by
      unfold stepTerms termsIn
      rw [List.length_append, List.length_map]
    have hijs : ∀ z ∈ (readyOf ts (stepTerms ts pat) prs).map (ijOf (stepTerms ts pat)), z.1 < (stepTerms ts pat).length ∧ z.2 < (stepTerms ts pat).length := fun z hz => by
      obtain ⟨x, hx, rfl⟩ := List.mem_map.mp hz
      obtain ⟨m, hb⟩ := List.mem_filter.mp hx
      obtain ⟨y, z, rfl⟩ := hprs x m
      rw [Bool.and_eq_true, Bool.and_eq_true] at hb
      exact ⟨(List.getElem?_eq_some_iff.mp (pos1_at (of_decide_eq_true hb.1.1)).1).1, (List.getElem?_eq_some_iff.mp (pos1_at (of_decide_eq_true hb.1.2)).1).1⟩
    generalize (readyOf ts (stepTerms ts pat) prs).map (ijOf (stepTerms ts pat)) = ijs at hij q hijs
    rw [hterms] at hijs
    generalize stepTerms ts pat = sts at el hterms
    generalize oldsIn ts pat (colsOf pat) = ol at eo q colO lenO
    generalize placesIn ts pat (colsOf pat) = pls at epl q plR lenP
    generalize newsIn ts pat (colsOf pat) = nw at en q colN lenN hijs hterms
    show tSeq _ _ _ _ _
    refine fun d nd => ?_
    refine ⟨_, rfl, b, rfl, ⟨_, (same_new nd).seq eb⟩, for_list (K := K) (a := b) (xs := fs) (fun i σ G => ∃ (o4 o8 : Option V) (ms : List V), σ = [some (.ref r), some (.ref a), some (.ref b), some (.ref d), o4, none, none, none, o8, none, none, none, none, none] ∧ Same H G ∧
      Shelf (keyO ol) H G d ms (facts.take i) ∧ PaL G ms ((facts.take i).map (selT nw))) ⟨none, none, [], rfl, same_new nd, ?_, .nil⟩ (fun i σ G _ z => ?_) ?_ ?_⟩
    · exact ⟨[], upd_same, Nat.zero_le _, fun k v h => (by cases h), fun k _ => rfl, fun k k' l h => (by cases h)⟩
    · obtain ⟨_, _, _, _, sm, _⟩ := z
      exact sm.seq eb
    · rintro i v σ G hi ⟨o4, o8, ms, rfl, sm, S, hm⟩
      obtain ⟨t, p, rfl, hpi, et⟩ := hfs.at_ hi
      have pl_ := hfl p (List.mem_of_getElem? hpi)
      have il := (List.getElem?_eq_some_iff.mp hpi).1
      have mlen : ms.length = (facts.take i).length := by rw [hm.len, List.length_map]
      refine ⟨_, rfl, r, C, dx, _, .ref tw, rfl, sm _ _ e0, R.cl, R.n5, lk5, tw, rfl, ⟨_, SqL.of (sm _ _ etw)⟩, fun D nD => ?_⟩
      refine lc_list (K := K) (a := tw) (xs := []) (fun i H' => Same G H' ∧ H' D = some (.lst [])) ⟨same_new nD, upd_same⟩ (fun i H' _ y => SqL.of (y.1 _ _ (sm _ _ etw))) (fun i y H3 hi => by simp at hi) ?_
      rintro G1 ⟨s1, e1⟩
      refine ⟨D, [], rfl, SqL.of e1, _, rfl, iteT ?_⟩
      have sm1 := sm.trans s1
      replace S := S.same s1
      replace hm := hm.same s1
      clear s1 e1 sm
      show tSeq _ _ _ _ _
      refine ⟨_, rfl, r, C, dx, _, .ref o, rfl, sm1 _ _ e0, R.cl, R.n2, lk2, o, rfl, ⟨_, SqL.of (sm1 _ _ eo)⟩, fun D2 nD2 => ?_⟩
      refine lc_sel (p := p) nD2 (SqL.of (sm1 _ _ eo)) (by omega) (fun c H2 Rr hc s2 hR => ⟨rfl, _, rfl, _, rfl, t, _, _, _, rfl, rfl, SqT.of (s2 _ _ (sm1 _ _ et)), atI_nat (getD_str (by rw [pl_]; exact (colO c hc).1)), hR⟩) fun G2 s2 e2 => ?_
      refine ⟨D2, _, rfl, .inl ⟨SqL.of e2, fun kt nkt => ?_⟩⟩
      have s3 : Same G1 (upd G2 kt (.tup ((selT ol p).map V.str))) := s2.trans (same_new nkt)
      have ekt : upd G2 kt (.tup ((selT ol p).map V.str)) kt = some (.tup ((selT ol p).map V.str)) := upd_same
      generalize upd G2 kt (.tup ((selT ol p).map V.str)) = G3 at s3 ekt ⊢
      have sm3 := sm1.trans s3
      replace S := S.same s3
      replace hm := hm.same s3
      clear s2 e2 s3 sm1
      obtain ⟨kvs, f1, f2, f3, f4, f5⟩ := S
      refine ⟨_, rfl, .inr (.inr (.inl ⟨rfl, .inr ⟨kvs, f1⟩⟩)), _, rfl, ?_⟩
      refine ⟨by show 0 ≤ _; exact Nat.zero_le _, fun n0 nn => ?_⟩
      have s4 : Same G3 (upd G3 n0 (.lst [])) := same_new nn
      have en0 : upd G3 n0 (.lst []) n0 = some (.lst []) := upd_same
      have nd0 : n0 ≠ d := fun z => by rw [z, f1] at nn; cases nn
      generalize upd G3 n0 (.lst []) = G4 at s4 en0 ⊢
      have kl : kvs.length < sizeLine := by
        rw [List.length_take] at f2
        exact Nat.lt_of_le_of_lt (by omega : _ ≤ 1000) (by decide)
      have plen : ∀ k, (pick (keyO ol) k ms (facts.take i)).length < sizeLine := fun k => by
        have := pick_len (key := keyO ol) (k := k) (us := ms) (ps := facts.take i)
        rw [mlen, List.length_take] at this
        exact Nat.lt_of_le_of_lt (by omega : _ ≤ 1000) (by decide)
      have sm4 := sm3.trans s4
      have hm4 := hm.same s4
      refine ⟨d, kt, kvs, keyO ol p, .ref n0, rfl, rfl, s4 _ _ f1, by rw [keyO_v]; exact s4 _ _ ekt, kl, fun v hv => ?_, fun hn => ?_⟩
      · obtain ⟨l0, rfl, nl0, el0⟩ := f3 _ _ hv
        refine ⟨.inl ⟨rfl, _, SqL.of (s4 _ _ el0)⟩, ?_⟩
        refine ⟨_, rfl, r, C, dx, _, .ref n, rfl, sm4 _ _ e0, R.cl, R.n4, lk4, n, rfl, ⟨_, SqL.of (sm4 _ _ en)⟩, fun D3 nD3 => ?_⟩
        refine lc_sel (p := p) nD3 (SqL.of (sm4 _ _ en)) (by omega) (fun c H2 Rr hc s2 hR => ⟨rfl, _, rfl, _, rfl, t, _, _, _, rfl, rfl, SqT.of (s2 _ _ (sm4 _ _ et)), atI_nat (getD_str (by rw [pl_]; exact colN c hc)), hR⟩) fun G5 s5 e5 => ?_
        refine ⟨D3, _, rfl, .inl ⟨SqL.of e5, fun mt nmt => ?_⟩⟩
        have s6 : Same G4 (upd G5 mt (.tup ((selT nw p).map V.str))) := s5.trans (same_new nmt)
        have emt : upd G5 mt (.tup ((selT nw p).map V.str)) mt = some (.tup ((selT nw p).map V.str)) := upd_same
        generalize upd G5 mt (.tup ((selT nw p).map V.str)) = G6 at s6 emt ⊢
        have sG : Same G3 G6 := s4.trans s6
        have el6 := sG _ _ el0
        refine ⟨l0, _, _, rfl, rfl, el6, plen _, ?_⟩
        refine ⟨some (.ref t), some (.ref kt), ms ++ [.ref mt], rfl, same_put (sm3.trans sG) nl0, ?_, ?_⟩
        · rw [take_one hpi]
          exact Shelf.more mlen (sG _ _ f1) f2 (fun k v h => by
            obtain ⟨l1, h1, h2, h3⟩ := f3 k v h
            exact ⟨l1, h1, h2, sG _ _ h3⟩) f4 f5 hv
        · rw [take_one hpi, List.map_append]
          exact ((hm.same sG).over el6).app (.cons (by rw [upd_ne (fun z => by rw [z, el6] at emt; cases emt)]; exact emt) .nil)
      · have ed : upd G4 d (.dT (putK kvs (keyO ol p) (.ref n0))) d = some (.dT (putK kvs (keyO ol p) (.ref n0))) := upd_same
        have oth : ∀ b u, b ≠ d → G4 b = some u → upd G4 d (.dT (putK kvs (keyO ol p) (.ref n0))) b = some u := fun b u hb e => by rw [upd_ne hb]; exact e
        have sH : Same H (upd G4 d (.dT (putK kvs (keyO ol p) (.ref n0)))) := same_put sm4 nd
        have hm5 : PaL (upd G4 d (.dT (putK kvs (keyO ol p) (.ref n0)))) ms ((facts.take i).map (selT nw)) := hm4.overX (s4 _ _ f1) fun xs z => by cases z
        generalize upd G4 d (.dT (putK kvs (keyO ol p) (.ref n0))) = G5 at ed oth sH hm5 ⊢
        have en5 := oth _ _ nd0 en0
        refine ⟨.inl ⟨rfl, _, SqL.of en5⟩, ?_⟩
        refine ⟨_, rfl, r, C, dx, _, .ref n, rfl, sH _ _ e0, R.cl, R.n4, lk4, n, rfl, ⟨_, SqL.of (sH _ _ en)⟩, fun D3 nD3 => ?_⟩
        refine lc_sel (p := p) nD3 (SqL.of (sH _ _ en)) (by omega) (fun c H2 Rr hc s2 hR => ⟨rfl, _, rfl, _, rfl, t, _, _, _, rfl, rfl, SqT.of (s2 _ _ (sH _ _ et)), atI_nat (getD_str (by rw [pl_]; exact colN c hc)), hR⟩) fun G6 s5 e5 => ?_
        refine ⟨D3, _, rfl, .inl ⟨SqL.of e5, fun mt nmt => ?_⟩⟩
        have s6 : Same G5 (upd G6 mt (.tup ((selT nw p).map V.str))) := s5.trans (same_new nmt)
        have emt : upd G6 mt (.tup ((selT nw p).map V.str)) mt = some (.tup ((selT nw p).map V.str)) := upd_same
        generalize upd G6 mt (.tup ((selT nw p).map V.str)) = G7 at s6 emt ⊢
        have en7 := s6 _ _ en5
        have nH : H n0 = none := sm3.free nn
        refine ⟨n0, _, _, rfl, rfl, en7, by decide, ?_⟩
        refine ⟨some (.ref t), some (.ref kt), ms ++ [.ref mt], rfl, same_put (sH.trans s6) nH, ?_, ?_⟩
        · rw [take_one hpi]
          exact Shelf.fresh mlen (s6 _ _ ed) f2 (fun k v h => by
            obtain ⟨l1, h1, h2, h3⟩ := f3 k v h
            refine ⟨l1, h1, fun z => ?_, h2, s6 _ _ (oth _ _ (fun z => ?_) (s4 _ _ h3))⟩
            · rw [z, nn] at h3
              cases h3
            · rw [z, f1] at h3
              cases h3) f4 f5 hn nd0 nH
        · rw [take_one hpi, List.map_append]
          exact ((hm5.same s6).over en7).app (.cons (by rw [upd_ne (fun z => by rw [z, en7] at emt; cases emt)]; exact emt) .nil)
    · rintro σ G ⟨o4, o8, ms, rfl, sm, S, hm⟩
      rw [hfsl, List.take_length] at S hm
      obtain ⟨kvs, f1, f2, f3, f4, f5⟩ := S
      refine ⟨_, rfl, r, C, dx, _, .ref pl, rfl, sm _ _ e0, R.cl, R.n3, lk3, ?_⟩
      show tSeq _ _ _ _ _
      refine ⟨_, rfl, a, rfl, ⟨_, SqL.of (sm _ _ ea)⟩, fun D nD => ?_⟩
      have orl : ∀ row, (onRow ol pls nw facts row).length ≤ facts.length := fun row => by
        unfold onRow
        rw [List.length_map]
        exact List.length_filter_le _ _
      refine walk_any (walk_list (K := K) (a := a) (xs := us)) (fun i H' => Same G H' ∧ ∃ ws : List V, H' D = some (.lst ws) ∧ PaL H' ws ((rws.take i).flatMap (onRow ol pls nw facts))) ⟨same_new nD, [], upd_same, .nil⟩ (fun i H' _ y => SqL.of (y.1 _ _ (sm _ _ ea))) ?_ ?_
      · rintro i v H1 H1' hi ⟨s1, ws, e1, hw⟩ ⟨rfl, hv⟩
        obtain ⟨t, row, rfl, hri, et⟩ := hrw.at_ hv
        have rl := hrl row (List.mem_of_getElem? hri)
        have il := (List.getElem?_eq_some_iff.mp hri).1
        have et1 := s1 _ _ (sm _ _ et)
        have hacc : ((rws.take i).flatMap (onRow ol pls nw facts)).length + (onRow ol pls nw facts row).length ≤ 100000 := by
          have h1 := flatM_len orl (rws.take (i + 1))
          rw [take_one hri, List.flatMap_append, List.length_append, List.length_append, List.length_singleton, List.length_take] at h1
          have h2 : [row].flatMap (onRow ol pls nw facts) = onRow ol pls nw facts row := List.append_nil _
          rw [h2] at h1
          refine Nat.le_trans h1 (Nat.le_trans (Nat.mul_le_mul_right _ ?_) hprod)
          omega
        have hnext : (rws.take (i + 1)).flatMap (onRow ol pls nw facts) = (rws.take i).flatMap (onRow ol pls nw facts) ++ onRow ol pls nw facts row := by
          rw [take_one hri, List.flatMap_append]
          exact congrArg _ (List.append_nil _)
        rw [hnext]
        generalize (rws.take i).flatMap (onRow ol pls nw facts) = acc at hw hacc ⊢
        show gName 11 _ _ _ _
        refine ⟨rfl, ?_⟩
        refine ⟨_, rfl, d, rfl, .inr ⟨kvs, .inl (s1 _ _ f1)⟩, _, rfl, pl, rfl, ⟨_, SqL.of (s1 _ _ (sm _ _ epl))⟩, fun D2 nD2 => ?_⟩
        refine lc_sel (p := row) nD2 (SqL.of (s1 _ _ (sm _ _ epl))) (by omega) (fun c H2 Rr hc s2 hR => ⟨rfl, _, rfl, _, rfl, t, _, _, _, rfl, rfl, SqT.of (s2 _ _ et1), atI_nat (getD_str (by rw [rl]; exact plR c hc)), hR⟩) fun G2 s2 e2 => ?_
        refine ⟨D2, _, rfl, .inl ⟨SqL.of e2, fun kt nkt => ?_⟩⟩
        have s3 : Same H1' (upd G2 kt (.tup ((selT pls row).map V.str))) := s2.trans (same_new nkt)
        have ekt : upd G2 kt (.tup ((selT pls row).map V.str)) kt = some (.tup ((selT pls row).map V.str)) := upd_same
        generalize upd G2 kt (.tup ((selT pls row).map V.str)) = G3 at s3 ekt ⊢
        refine ⟨by show 0 ≤ _; exact Nat.zero_le _, fun n0 nn => ?_⟩
        have s4 : Same G3 (upd G3 n0 (.lst [])) := same_new nn
        have en0 : upd G3 n0 (.lst []) n0 = some (.lst []) := upd_same
        generalize upd G3 n0 (.lst []) = G4 at s4 en0 ⊢
        have s14 := s3.trans s4
        have sG4 := s1.trans s14
        refine ⟨valV kvs (keyR pls row), DGet.t (sG4 _ _ f1) (by unfold keyR; rw [keyR_v]; exact s4 _ _ ekt), ?_⟩
        have eD3 : G3 D = some (.lst ws) := s3 _ _ e1
        obtain ⟨L0, ys, hL, eL, nL, hy⟩ : ∃ (L0 : Addr) (ys : List V), (valV kvs (keyR pls row)).getD (.ref n0) = .ref L0 ∧ G4 L0 = some (.lst ys) ∧ L0 ≠ D ∧ PaL G4 ys ((facts.filter fun p => decide (keyO ol p = keyR pls row)).map (selT nw)) := by
          have hpick := pick_pal (key := keyO ol) (k := keyR pls row) (f := selT nw) (hm.same sG4)
          cases hval : valV kvs (keyR pls row) with
          | none =>
            rw [f4 _ hval] at hpick
            exact ⟨n0, [], rfl, en0, (fun z => by rw [z, eD3] at nn; cases nn), hpick⟩
          | some v =>
            obtain ⟨l0, rfl, _, el0⟩ := f3 _ _ hval
            exact ⟨l0, _, rfl, sG4 _ _ el0, (fun z => by rw [z, nD] at el0; cases el0), hpick⟩
        rw [hL]
        have hor : onRow ol pls nw facts row = ((facts.filter fun p => decide (keyO ol p = keyR pls row)).map (selT nw)).map fun x => row ++ x := by
          unfold onRow
          rw [List.map_map] <;> rfl
        rw [hor] at hacc ⊢
        have hq3 : ∀ x ∈ (facts.filter fun p => decide (keyO ol p = keyR pls row)).map (selT nw), x.length ≤ 3 := fun x hx => by
          obtain ⟨y, _, rfl⟩ := List.mem_map.mp hx
          unfold selT
          rw [List.length_map]
          exact lenN
        generalize (facts.filter fun p => decide (keyO ol p = keyR pls row)).map (selT nw) = qs at hy hacc hq3 ⊢
        refine ⟨L0, rfl, ⟨_, SqL.of eL⟩, ?_⟩
        have hyl := hy.len
        refine walk_any (walk_list (K := K) (a := L0) (xs := ys)) (fun j H' => Same G H' ∧ H' L0 = some (.lst ys) ∧ PaL H' ys qs ∧ ∃ ws : List V, H' D = some (.lst ws) ∧ PaL H' ws (acc ++ (qs.take j).map fun x => row ++ x)) ⟨sG4, eL, hy, ws, s14 _ _ e1, by rw [List.take_zero, List.map_nil, List.append_nil]; exact hw.same s14⟩ (fun j H' _ z => SqL.of z.2.1) ?_ ?_
        · rintro j x H2 H2' hj ⟨sj, eLj, hyj, wsj, ej, hwj⟩ ⟨rfl, hx⟩
          obtain ⟨m, qx, rfl, hqj, em⟩ := hyj.at_ hx
          have jl := (List.getElem?_eq_some_iff.mp hqj).1
          have etj := sj _ _ (sm _ _ et)
          have fin : ∀ (y : Addr) (H4 : Hp), Same H2' H4 → H4 y = some (.tup ((row ++ qx).map V.str)) → ∃ acc', H4 D = some (.lst acc') ∧ acc'.length < sizeLine ∧ (Same G (upd H4 D (.lst (acc' ++ [.ref y]))) ∧ upd H4 D (.lst (acc' ++ [.ref y])) L0 = some (.lst ys) ∧ PaL (upd H4 D (.lst (acc' ++ [.ref y]))) ys qs ∧
              ∃ ws : List V, upd H4 D (.lst (acc' ++ [.ref y])) D = some (.lst ws) ∧ PaL (upd H4 D (.lst (acc' ++ [.ref y]))) ws (acc ++ (qs.take (j + 1)).map fun x => row ++ x)) := fun y H4 s4 ey => by
            have e4 := s4 _ _ ej
            refine ⟨wsj, e4, ?_, same_put (sj.trans s4) nD, by rw [upd_ne nL]; exact s4 _ _ eLj, (hyj.same s4).over e4, _, upd_same, ?_⟩
            · rw [hwj.len, List.length_append, List.length_map, List.length_take]
              rw [List.length_map] at hacc
              exact Nat.lt_of_le_of_lt (by omega : _ ≤ 100000) (by decide)
            · rw [take_one hqj, List.map_append, ← List.append_assoc]
              exact ((hwj.same s4).over e4).app (.cons (by rw [upd_ne (fun z => by rw [z, e4] at ey; cases ey)]; exact ey) .nil)
          show gName 12 _ _ _ _
          refine ⟨rfl, _, rfl, _, rfl, t, m, _, _, rfl, rfl, SqT.of etj, SqT.of em, ?_, fun z => ?_, fun z1 z2 => ?_, fun z1 z2 p2 np2 => ?_⟩
          · have h3 := hq3 qx (List.mem_of_getElem? hqj)
            rw [List.length_map, List.length_map, rl]
            exact Nat.le_trans (by omega : _ ≤ 903) (by decide)
          · have rz : row = [] := List.map_eq_nil_iff.mp z
            refine fin m H2' (Same.refl _) ?_
            rw [rz]
            exact em
          · have qz : qx = [] := List.map_eq_nil_iff.mp z2
            refine fin t H2' (Same.refl _) ?_
            rw [qz, List.append_nil]
            exact etj
          · refine fin p2 _ (same_new np2) ?_
            rw [upd_same, List.map_append]
        · rintro H2 ⟨sj, eLj, hyj, wsj, ej, hwj⟩
          rw [hyl, List.take_length] at hwj
          exact ⟨sj, wsj, ej, hwj⟩
      · rintro H1 ⟨s1, ws, e1, hw⟩
        rw [hul, List.take_length] at hw
        have sH1 := sm.trans s1
        show tSeq _ _ _ _ _
        refine ⟨_, rfl, _, rfl, r, C, dx, _, .ref ap, rfl, sH1 _ _ e0, R.cl, R.n7, lk7, ?_⟩
        dsimp only [tNil]
        have hrow : ∀ p ∈ rws.flatMap (onRow ol pls nw facts), p.length = ts.length + nw.length := fun p hp => by
          obtain ⟨row, hr1, hp2⟩ := List.mem_flatMap.mp hp
          obtain ⟨x, _, rfl⟩ := List.mem_map.mp hp2
          unfold selT
          rw [List.length_append, List.length_map, hrl row hr1]
        refine ⟨D, ap, ws, zs, _, ijs, rfl, e1, hw, SqL.of (sH1 _ _ eap), hij.same sH1, fun p hp z hz => by rw [hrow p hp]; exact hijs z hz, ?_, fun r' H' us' nw s2 e2 h2 => ?_⟩
        · exact Nat.le_trans (flatM_len orl rws) hprod
        · exact q r' H' us' (.inr (nw.elim (fun z => z ▸ sm.free nD) fun z => sH1.free z)) (sH1.trans s2) e2 h2
end
end Nv
set_option maxHeartbeats 4000000
namespace Nv
open PySem PySem.Spec PyProof.Rows L2
/-! # Plan, made -/
abbrev sPlanInit : Stmt := inClass cPlan 0
abbrev sRows : Stmt := inClass cPlan 1
def planT (known : List Str) (ps : List (List Str)) : List Str := ps.foldl (fun ts p => stepTerms ts p) known
def planOf : List Str → List (List Str) → List (List Str × List Str)
  | _, [] => []
  | ts, p :: ps => (p, ts) :: planOf (stepTerms ts p) ps
theorem planOf_snoc : ∀ (ts : List Str) (ps : List (List Str)) (p : List Str), planOf ts (ps ++ [p]) = planOf ts ps ++ [(p, planT ts ps)]
  | _, [], _ => rfl
  | ts, q :: ps, p => by
    show (q, ts) :: planOf (stepTerms ts q) (ps ++ [p]) = _
    rw [planOf_snoc] <;> rfl
theorem planT_snoc (ts : List Str) (ps : List (List Str)) (p : List Str) : planT ts (ps ++ [p]) = stepTerms (planT ts ps) p := by
  unfold planT
  rw [List.foldl_append] <;> rfl
theorem planOf_len : ∀ (ps : List (List Str)) (ts : List Str), (planOf ts ps).length = ps.length
  | [], _ => rfl
  | p :: ps, ts => by
    show (planOf (stepTerms ts p) ps).length + 1 = ps.length + 1
    rw [planOf_len]
theorem planOf_app : ∀ (ps qs : List (List Str)) (ts : List Str) (z : List Str × List Str), z ∈ planOf ts ps → z ∈ planOf ts (ps ++ qs)
  | [], _, _, _, h => (by cases h)
  | p :: ps, qs, ts, z, h => by
    rcases List.mem_cons.mp h with rfl | h
    · exact List.mem_cons_self
    · exact List.mem_cons_of_mem _ (planOf_app ps qs _ z h)
theorem planOf_mem {ps : List (List Str)} {ts p : List Str} {i : Nat} (h : ps[i]? = some p) : (p, planT ts (ps.take i)) ∈ planOf ts ps := by
  have h1 : (p, planT ts (ps.take i)) ∈ planOf ts (ps.take (i + 1)) := by
    rw [take_one h, planOf_snoc]
    exact List.mem_append_right _ (List.mem_singleton.mpr rfl)
  have h2 := planOf_app (ps.take (i + 1)) (ps.drop (i + 1)) ts _ h1
  rwa [List.take_append_drop] at h2
theorem stepTerms_len {ts p : List Str} (h : p.length ≤ 4) : (stepTerms ts p).length ≤ ts.length + 3 := by
  unfold stepTerms termsIn newsIn
  rw [List.length_append, List.length_map]
  have h1 : ((colsOf p).filter fun c => !decide (p.getD c "" ∈ ts)).length ≤ (colsOf p).length := List.length_filter_le _ _
  have h2 : (colsOf p).length = p.length - 1 := List.length_range'
  omega
theorem planT_len : ∀ {ps : List (List Str)} {ts : List Str}, (∀ p ∈ ps, p.length ≤ 4) → (planT ts ps).length ≤ ts.length + 3 * ps.length
  | [], _, _ => Nat.le_refl _
  | p :: ps, ts, h => by
    have h1 := planT_len (ps := ps) (ts := stepTerms ts p) fun q hq => h q (List.mem_cons_of_mem _ hq)
    have h2 := stepTerms_len (ts := ts) (h p List.mem_cons_self)
    show (planT (stepTerms ts p) ps).length ≤ _
    rw [List.length_cons]
    omega
def knB (known p : List Str) : Bool := decide (p.getD 0 "" ∈ known) && decide (p.getD 1 "" ∈ known)
abbrev pnF (a s t : Addr) : Flds := [("apart", .ref a), ("steps", .ref s), ("terms", .ref t)]
theorem pF2 {a s : Addr} : putF "steps" (V.ref s) ([("apart", V.ref a)] : Flds) = ([("apart", V.ref a), ("steps", V.ref s)] : Flds) := putF_new (ns := ["apart"]) rfl (by decide +kernel)
theorem pF3 {a s t : Addr} : putF "terms" (V.ref t) ([("apart", V.ref a), ("steps", V.ref s)] : Flds) = pnF a s t := putF_new (ns := ["apart", "steps"]) rfl (by decide +kernel)
theorem pF4 {a s t t' : Addr} : putF "terms" (V.ref t') (pnF a s t) = pnF a s t' := by
  have n1 : ¬ (("apart" : Str) = "terms") := by decide +kernel
  have n2 : ¬ (("steps" : Str) = "terms") := by decide +kernel
  unfold pnF putF
  rw [if_neg n1]
  unfold putF
  rw [if_neg n2]
  unfold putF
  rw [if_pos rfl]
theorem pl1 {a s t : Addr} : (pnF a s t).lookup ("apart" : Str) = some (V.ref a) := lk_yes
theorem pl2 {a s t : Addr} : (pnF a s t).lookup ("steps" : Str) = some (V.ref s) := (lk_no (by decide +kernel)).trans lk_yes
theorem pl3 {a s t : Addr} : (pnF a s t).lookup ("terms" : Str) = some (V.ref t) := (lk_no (by decide +kernel)).trans ((lk_no (by decide +kernel)).trans lk_yes)
theorem sl6' {k o p n t l a : Addr} : (stF k o p n t l a).lookup ("terms" : Str) = some (V.ref l) := (lk_no (by decide +kernel)).trans ((lk_no (by decide +kernel)).trans ((lk_no (by decide +kernel)).trans ((lk_no (by decide +kernel)).trans ((lk_no (by decide +kernel)).trans lk_yes))))
structure PNC (K : PySem.W.Frag) (C : Addr) : Prop where
  cl : Cls K C
  n1 : NoAttr K C "apart"
  n2 : NoAttr K C "steps"
  n3 : NoAttr K C "terms"
/-- the plan stands at r -/
def PlanAt (CS C : Addr) (G : Hp) (r : Addr) (pats prs : List (List Str)) (known : List Str) : Prop := ∃ (dx ap st tl : Addr) (zs : List V) (ss : List Addr), G r = some (.ins C dx (pnF ap st tl)) ∧ G ap = some (.lst zs) ∧ IJs G zs ((prs.filter (knB known)).map (ijOf known)) ∧
  G st = some (.lst (ss.map V.ref)) ∧ All2 (fun a (z : List Str × List Str) => StepAt CS G a z.1 z.2 prs) ss (planOf known pats)
/-- made since H0 -/
def PlanNew (CS C : Addr) (H0 G : Hp) (r : Addr) (pats prs : List (List Str)) (known : List Str) : Prop := ∃ (dx ap st tl : Addr) (zs : List V) (ss : List Addr), G r = some (.ins C dx (pnF ap st tl)) ∧ G ap = some (.lst zs) ∧ IJs G zs ((prs.filter (knB known)).map (ijOf known)) ∧
  G st = some (.lst (ss.map V.ref)) ∧ All2 (fun a (z : List Str × List Str) => StepNew CS H0 G a z.1 z.2 prs) ss (planOf known pats) ∧ H0 st = none
theorem PlanNew.at_ {CS C : Addr} {H0 G : Hp} {r : Addr} {pats prs : List (List Str)} {known : List Str} (h : PlanNew CS C H0 G r pats prs known) : PlanAt CS C G r pats prs known := by
  obtain ⟨dx, ap, st, tl, zs, ss, h1, h2, h3, h4, h5, _⟩ := h
  exact ⟨dx, ap, st, tl, zs, ss, h1, h2, h3, h4, h5.imp fun _ _ z => z.at_⟩
theorem PlanAt.same {CS C : Addr} {G G1 : Hp} {r : Addr} {pats prs : List (List Str)} {known : List Str} (h : PlanAt CS C G r pats prs known) (s : Same G G1) : PlanAt CS C G1 r pats prs known := by
  obtain ⟨dx, ap, st, tl, zs, ss, h1, h2, h3, h4, h5⟩ := h
  exact ⟨dx, ap, st, tl, zs, ss, s _ _ h1, s _ _ h2, h3.same s, s _ _ h4, h5.imp fun _ _ z => z.same s⟩
theorem madeN {H : Hp} {x dx C : Addr} (nx : H x = none) (nd : H dx = none) (ne : dx ≠ x) : Same H (upd (upd H dx (.own x)) x (.ins C dx [])) := (same_new nd).trans (same_new (by rw [upd_ne (Ne.symm ne)]; exact nx))
theorem madeS {H H2 : Hp} {x dx C : Addr} (nx : H x = none) (nd : H dx = none) (ne : dx ≠ x) (sb : Sb x (upd (upd H dx (.own x)) x (.ins C dx [])) H2) : Same H H2 := fun b o e => sb b o (ne_of_none e nx) (madeN nx nd ne b o e)
theorem same_none {H G : Hp} (s : Same H G) {x : Addr} (n : G x = none) : H x = none := by
  cases g : H x with
  | none => rfl
  | some u =>
    rw [s _ _ g] at n
    cases n
theorem upd_none {H : Hp} {a x : Addr} {o : HO} (n : upd H a o x = none) : H x = none := by
  unfold upd at n
  by_cases e : x = a
  · rw [if_pos e] at n
    cases n
  · rwa [if_neg e] at n
theorem All2.snoc {α β : Type} {R : α → β → Prop} {xs : List α} {ys : List β} {x : α} {y : β} (h : All2 R xs ys) (e : R x y) : All2 R (xs ++ [x]) (ys ++ [y]) := by
  induction h with
  | nil => exact .cons e .nil
  | cons h1 _ ih => exact .cons h1 ih
section
variable {P : Program} {w : World} {K : PySem.W.Frag} {mg : Str → Option Value} {base : Heap}
def spPlanInit (CS C : Addr) : Sp := fun vs H Q _ => ∃ (r dx p q t : Addr) (us uq : List V) (pats prs : List (List Str)) (known : List Str), vs = [.ref r, .ref p, .ref q, .ref t] ∧ H r = some (.ins C dx []) ∧ (H p = some (.lst us) ∧ PaL H us pats ∧ (∀ x ∈ pats, 1 ≤ x.length ∧ x.length ≤ 4) ∧ pats.length ≤ 100) ∧
  (H q = some (.lst uq) ∧ PaL H uq prs ∧ (∀ x ∈ prs, ∃ a b, x = [a, b]) ∧ prs.length ≤ 1000) ∧ (H t = some (.lst (known.map V.str)) ∧ known.length ≤ 500) ∧ (∀ z ∈ planOf known pats, NoTwin z.2 z.1) ∧ ∀ G, Sb r H G → PlanNew CS C H G r pats prs known → Q .non G
theorem scPlanInit : FnScope ["self", "patterns", "pairs", "known", "pair", "pattern", "step"] ["self", "patterns", "pairs", "known"] (defScope sPlanInit) := ⟨rfl, rfl, rfl, by decide +kernel, rfl, by decide +kernel, by decide +kernel⟩
theorem ok_planInit {f C CS fS fN fP : Addr} {fd dS dN dP : FuncData} (F : Fun K "__init__" "Plan.__init__" sPlanInit f fd) (B : Bp mg) (R : PNC K C) (RS : SC K CS)
    (GS : FnOk P w K mg base CX0 2 fS dS ["self", "pattern", "terms", "pairs"] (spStepInit CS)) (MS : Mk K CS fS) (gS : mg "Step" = some (.ref CS)) (bS : Binds K dS ["self", "pattern", "terms", "pairs"] [])
    (GN : FnOk P w K mg base CX0 1 fN dN ["terms", "pair"] (spKnows K)) (kN : PySem.W.keepIn K (.ref fN) = true) (gN : mg "_knows" = some (.ref fN)) (bN : Binds K dN ["terms", "pair"] [])
    (GP : FnOk P w K mg base CX0 1 fP dP ["terms", "pairs"] (spPlacesOf K)) (kP : PySem.W.keepIn K (.ref fP) = true) (gP : mg "_places_of_pairs" = some (.ref fP)) (bP : Binds K dP ["terms", "pairs"] []) :
    FnOk P w K mg base CX0 4 f fd ["self", "patterns", "pairs", "known"] (spPlanInit CS C) := by
  refine F.ok scPlanInit (fun vs H Q E h => ?_) (fun cdv A outer s H vs Q E hr h => ?_)
  · obtain ⟨r, dx, p, q, t, us, uq, pats, prs, known, rfl, _⟩ := h
    rfl
  · obtain ⟨r, dx, p, q, t, us, uq, pats, prs, known, rfl, er', ⟨ep, hp, hpl, hpn⟩, ⟨eq, hq, hq2, hqn⟩, ⟨et, htn⟩, nt, q0⟩ := h
    have hr1 : Room 1 _ := hr.mono (by decide)
    refine ⟨_, pss_cons (ps_fld (pv 0) (by exact (pe_call GP hr1 (by rfl) gP kP bP .nil pass0 (pa_cons (pv 3) (pa_cons (by exact (pe_lc (own := [("pair", 4)]) (g := gName 4) (tt := tB (tCall (spKnows K) [] E0 (tCons (tVar 3) (tCons (tVar 4) tNil)))) (te := tVar 4) rfl scPlanInit.nd (pi_list (pv 2))
          (blkOk_by (own := [("pair", 4)]) (N := ["self", "patterns", "pairs", "known", "pair", "pattern", "step"]) (sc := defScope sPlanInit) (by decide +kernel))
          (fun _ _ _ _ _ => pg_name (i := 4) scPlanInit.nd rfl (Or.inl rfl)) (fun _ _ _ _ _ => pts_one (by exact (pt_val (by exact (pe_call GN hr1 (by rfl) gN kN bN .nil pass0 (pa_cons (pv 3) (pa_cons (pv 4) pa_nil)))))))
          (fun _ _ _ _ _ => by exact (pv 4)))) pa_nil)))) rfl)
      (pss_cons (ps_fld (pv 0) (pe_lst pa_nil) rfl)
      (pss_cons (ps_fld (pv 0) (pe_callTy call_list_of (by rfl) B.lst PyProof.Rows.boot_list (pa_cons (pv 3) pa_nil)) rfl)
      (pss_one (ps_for PassesOwn.never rfl (pi_list (pv 1)) (pg_name (i := 5) scPlanInit.nd rfl (Or.inl rfl))
        (pss_cons (ps_set (i := 6) scPlanInit.nd rfl (Or.inl rfl) (by exact (pe_make MS GS hr (by rfl) gS bS .nil pass0 (pa_cons (pv 5) (pa_cons (pe_fld (pv 0) rfl) (pa_cons (pv 2) pa_nil))))))
        (pss_cons (ps_expr (pe_bm PySem.F.plainAttrs_list PySem.F.slot_list_append PySem.F.type_list_append mt_append (pe_fld (pv 0) rfl) (pa_cons (pv 6) pa_nil)))
        (pss_one (ps_fld (pv 0) (pe_fld (pv 6) rfl) rfl)))))))), ?_⟩
    have tr : t ≠ r := fun z => by rw [z, er'] at et; cases et
    have pr : p ≠ r := fun z => by rw [z, er'] at ep; cases ep
    have qr : q ≠ r := fun z => by rw [z, er'] at eq; cases eq
    have hul := hq.len
    have hpl' := hp.len
    refine ⟨_, rfl, _, rfl, q, rfl, ⟨_, SqL.of eq⟩, fun D nD => ?_⟩
    refine lc_list (K := K) (a := q) (xs := uq) (fun j H' => Same H H' ∧ ∃ ws : List V, H' D = some (.lst ws) ∧ PaL H' ws ((prs.take j).filter (knB known))) ⟨same_new nD, [], upd_same, .nil⟩ (fun i H' _ y => SqL.of (y.1 _ _ eq)) ?_ ?_
    · rintro j v H2 hj ⟨s2, ws, e2, hw⟩
      obtain ⟨b, p1, rfl, hpj, eb⟩ := hq.at_ hj
      obtain ⟨x, y, rfl⟩ := hq2 p1 (List.mem_of_getElem? hpj)
      have jl := (List.getElem?_eq_some_iff.mp hpj).1
      have eb2 := s2 _ _ eb
      have lenw : ws.length < sizeLine := by
        have h1 := hw.len
        have h2 : ((prs.take j).filter (knB known)).length ≤ (prs.take j).length := List.length_filter_le _ _
        rw [List.length_take] at h2
        exact Nat.lt_of_le_of_lt (by omega : _ ≤ 1000) (by decide)
      have ft := filter_take (f := knB known) hpj
      have fk : knB known [x, y] = (decide (x ∈ known) && decide (y ∈ known)) := rfl
      rw [fk] at ft
      refine ⟨rfl, _, rfl, _, rfl, ?_⟩
      dsimp only [tNil]
      refine ⟨t, b, known, x, y, rfl, SqL.of (s2 _ _ et), eb2, _, rfl, ?_⟩
      cases hb : (decide (x ∈ known) && decide (y ∈ known)) with
      | true =>
        rw [hb, if_pos rfl] at ft
        refine iteT ⟨_, rfl, ws, e2, lenw, same_put s2 nD, _, upd_same, ?_⟩
        rw [ft]
        exact (hw.over e2).app (.cons (by rw [upd_ne (fun z => by rw [z, e2] at eb2; cases eb2)]; exact eb2) .nil)
      | false =>
        rw [hb, if_neg Bool.false_ne_true, List.append_nil] at ft
        refine iteF ⟨s2, ws, e2, ?_⟩
        rw [ft]
        exact hw
    · rintro H2 ⟨s2, ws, e2, hw⟩
      rw [hul, List.take_length] at hw
      have inr_ : ∀ z ∈ prs.filter (knB known), PairIn known z := fun z hz => by
        obtain ⟨m, hb⟩ := List.mem_filter.mp hz
        obtain ⟨x, y, rfl⟩ := hq2 z m
        unfold knB at hb
        rw [Bool.and_eq_true] at hb
        exact ⟨x, y, rfl, of_decide_eq_true hb.1, of_decide_eq_true hb.2⟩
      dsimp only [tNil]
      refine ⟨t, D, known, ws, _, rfl, SqL.of (s2 _ _ et), SqL.of e2, hw, inr_, Nat.le_trans (List.length_filter_le _ _) hqn, fun pa G1 zs npa s1 epa hz => ⟨_, rfl, r, C, dx, [], rfl, s1 _ _ (s2 _ _ er'), R.cl, R.n1, (by show 0 < 1000; decide), ?_⟩⟩
      have sG1 := s2.trans s1
      have er1 := sG1 _ _ er'
      have par : pa ≠ r := fun z => by rw [z, er1] at epa; cases epa
      have pH : H pa = none := s2.free npa
      have f1 : Sb r H (upd G1 r (.ins C dx (putF "apart" (V.ref pa) []))) := (Sb.of sG1).trans Sb.upd
      have e1 : upd G1 r (.ins C dx (putF "apart" (V.ref pa) [])) r = some (.ins C dx [("apart", .ref pa)]) := upd_same
      have epa1 : upd G1 r (.ins C dx (putF "apart" (V.ref pa) [])) pa = some (.lst zs) := by rw [upd_ne par]; exact epa
      have hz1 : IJs (upd G1 r (.ins C dx (putF "apart" (V.ref pa) []))) zs ((prs.filter (knB known)).map (ijOf known)) := hz.over er1 fun xs z => by cases z
      generalize upd G1 r (.ins C dx (putF "apart" (V.ref pa) [])) = G2 at f1 e1 epa1 hz1 ⊢
      refine ⟨by show 0 ≤ _; exact Nat.zero_le _, fun st nst => ⟨_, rfl, r, C, dx, _, rfl, same_new nst _ _ e1, R.cl, R.n2, (by show 1 < 1000; decide), ?_⟩⟩
      rw [pF2]
      obtain ⟨⟨sr, sH⟩, s2', e2', est, k2⟩ := newF (fs' := [("apart", V.ref pa), ("steps", V.ref st)]) (o := .lst []) f1 e1 nst
      obtain ⟨pst, epa2⟩ := k2 _ _ par epa1
      have hz2 : IJs (upd (upd G2 st (.lst [])) r (.ins C dx [("apart", V.ref pa), ("steps", V.ref st)])) zs ((prs.filter (knB known)).map (ijOf known)) := (hz1.same (same_new nst)).over (same_new nst _ _ e1) fun xs z => by cases z
      generalize upd (upd G2 st (.lst [])) r (.ins C dx [("apart", V.ref pa), ("steps", V.ref st)]) = G3 at s2' e2' est epa2 hz2 ⊢
      refine ⟨_, rfl, t, _, rfl, .inl (SqL.of (s2' _ _ tr et)), fun tl ntl => ⟨_, rfl, r, C, dx, _, rfl, same_new ntl _ _ e2', R.cl, R.n3, (by show 2 < 1000; decide), ?_⟩⟩
      rw [pF3]
      obtain ⟨⟨tlr, tlH⟩, s3', e3', etl, k3⟩ := newF (fs' := pnF pa st tl) (o := .lst (known.map V.str)) s2' e2' ntl
      obtain ⟨ptl, epa3⟩ := k3 _ _ par epa2
      obtain ⟨stl, est3⟩ := k3 _ _ sr est
      have hz3 : IJs (upd (upd G3 tl (.lst (known.map V.str))) r (.ins C dx (pnF pa st tl))) zs ((prs.filter (knB known)).map (ijOf known)) := (hz2.same (same_new ntl)).over (same_new ntl _ _ e2') fun xs z => by cases z
      generalize upd (upd G3 tl (.lst (known.map V.str))) r (.ins C dx (pnF pa st tl)) = G4 at s3' e3' etl epa3 est3 hz3 ⊢
      clear k2 k3 e1 e2' f1 s2' hz hz1 hz2 epa epa1 epa2 est
      refine ⟨_, rfl, p, rfl, ⟨_, SqL.of (s3' _ _ pr ep)⟩, for_list (K := K) (a := p) (xs := us) (fun i σ G => ∃ (o5 o6 : Option V) (tl : Addr) (ss : List Addr), σ = [some (.ref r), some (.ref p), some (.ref q), some (.ref t), none, o5, o6] ∧ Sb r H G ∧ G r = some (.ins C dx (pnF pa st tl)) ∧ G pa = some (.lst zs) ∧
        IJs G zs ((prs.filter (knB known)).map (ijOf known)) ∧ G st = some (.lst (ss.map V.ref)) ∧ All2 (fun a (z : List Str × List Str) => StepNew CS G4 G a z.1 z.2 prs) ss (planOf known (pats.take i)) ∧ G tl = some (.lst ((planT known (pats.take i)).map V.str)) ∧ ∀ x, G x = none → G4 x = none)
        ⟨none, none, tl, [], rfl, s3', e3', epa3, hz3, est3, .nil, etl, fun x h => h⟩ (fun i σ G _ z => ?_) ?_ ?_⟩
      · obtain ⟨_, _, _, _, _, sb, _⟩ := z
        exact SqL.of (sb _ _ pr ep)
      · rintro i v σ G hi ⟨o5, o6, tl, ss, rfl, sb, er, epa, hz, est, hss, etl, dom⟩
        obtain ⟨b, pat, rfl, hpi, eb⟩ := hp.at_ hi
        have il := (List.getElem?_eq_some_iff.mp hpi).1
        have br : b ≠ r := fun z => by rw [z] at eb; rw [er'] at eb; cases eb
        obtain ⟨h1, h4⟩ := hpl pat (List.mem_of_getElem? hpi)
        have tsl : (planT known (pats.take i)).length ≤ 1000 := by
          have := planT_len (ps := pats.take i) (ts := known) fun x hx => (hpl x (List.mem_of_mem_take hx)).2
          rw [List.length_take] at this
          omega
        have hnt : NoTwin (planT known (pats.take i)) pat := by
          exact nt _ (planOf_mem hpi)
        have ssl : ss.length ≤ 100 := by
          rw [hss.len, planOf_len, List.length_take]
          omega
        refine ⟨_, rfl, _, rfl, r, C, dx, _, .ref tl, rfl, er, R.cl, R.n3, pl3, _, rfl, ?_⟩
        dsimp only [tNil]
        intro x dx' nx ndx ne
        have U := madeN (C := CS) nx ndx ne
        refine ⟨x, dx', b, tl, q, pat, _, uq, prs, rfl, upd_same, ⟨U _ _ (sb _ _ br eb), h1, h4⟩, ⟨U _ _ etl, tsl⟩, ⟨U _ _ (sb _ _ qr eq), (hq.sbo er' sb).same U, hq2, hqn⟩, hnt, fun G' sx SN => ⟨rfl, ?_⟩⟩
        have sG := madeS nx ndx ne sx
        have SN4 : StepNew CS G4 G' x pat (planT known (pats.take i)) prs := SN.less fun y hy => dom y (same_none U hy)
        have hss' : All2 (fun a (z : List Str × List Str) => StepNew CS G4 G' a z.1 z.2 prs) ss (planOf known (pats.take i)) := hss.imp fun _ _ z => z.same sG
        have hall := hss'.snoc (x := x) (y := (pat, planT known (pats.take i))) SN4
        rw [← planOf_snoc, ← take_one hpi] at hall
        have er1 := sG _ _ er
        have est1 := sG _ _ est
        refine ⟨_, rfl, r, C, dx, _, .ref st, rfl, er1, R.cl, R.n2, pl2, .inl ⟨rfl, _, SqL.of est1⟩, _, rfl, st, _, _, rfl, rfl, est1, by rw [List.length_map]; exact Nat.lt_of_le_of_lt ssl (by decide), ?_⟩
        have sbG := sb.trans (Sb.of sG)
        have str : st ≠ r := sr
        have hall2 : All2 (fun a (z : List Str × List Str) => StepNew CS G4 (upd G' st (.lst (ss.map V.ref ++ [.ref x]))) a z.1 z.2 prs) (ss ++ [x]) (planOf known (pats.take (i + 1))) := hall.imp fun _ _ z => z.list (by rw [est3]; exact fun y => nomatch y) est1
        have SN2 : StepNew CS G4 (upd G' st (.lst (ss.map V.ref ++ [.ref x]))) x pat (planT known (pats.take i)) prs := SN4.list (by rw [est3]; exact fun y => nomatch y) est1
        have sb2 : Sb r H (upd G' st (.lst (ss.map V.ref ++ [.ref x]))) := sbG.put sH
        have er2 : upd G' st (.lst (ss.map V.ref ++ [.ref x])) r = some (.ins C dx (pnF pa st tl)) := by rw [upd_ne (Ne.symm str)]; exact er1
        have epa2 : upd G' st (.lst (ss.map V.ref ++ [.ref x])) pa = some (.lst zs) := by rw [upd_ne pst]; exact sG _ _ epa
        have hz2 : IJs (upd G' st (.lst (ss.map V.ref ++ [.ref x]))) zs ((prs.filter (knB known)).map (ijOf known)) := (hz.same sG).over est1 fun xs z => by cases z
        have est2 : upd G' st (.lst (ss.map V.ref ++ [.ref x])) st = some (.lst ((ss ++ [x]).map V.ref)) := by rw [upd_same, List.map_append] <;> rfl
        have dom2 : ∀ y, upd G' st (.lst (ss.map V.ref ++ [.ref x])) y = none → G4 y = none := fun y hy => dom y (same_none sG (upd_none hy))
        generalize upd G' st (.lst (ss.map V.ref ++ [.ref x])) = G5 at hall2 SN2 sb2 er2 epa2 hz2 est2 dom2 ⊢
        obtain ⟨dx3, k3, o3, p3, n3, t3, l3, a3, z3, g1, g2, g3, g4, g5, g6, g7, g8, g9, g10⟩ := id SN2
        refine ⟨_, rfl, x, CS, dx3, _, .ref l3, rfl, g1, RS.cl, RS.n6, sl6', _, rfl, r, C, dx, _, rfl, er2, R.cl, R.n3, (by show 3 < 1000; decide), ?_⟩
        rw [pF4]
        have lr : l3 ≠ r := fun z => by rw [z, er2] at g7; cases g7
        refine ⟨some (.ref b), some (.ref x), l3, ss ++ [x], rfl, sb2.trans Sb.upd, upd_same, by rw [upd_ne par]; exact epa2, hz2.over er2 fun xs z => (by cases z), by rw [upd_ne str]; exact est2, hall2.imp fun _ _ z => z.inst er2 (by show 3 ≠ 7; decide), ?_, fun y hy => dom2 y (upd_none hy)⟩
        rw [upd_ne lr, take_one hpi, planT_snoc]
        exact g7
      · rintro σ G ⟨o5, o6, tl, ss, rfl, sb, er, epa, hz, est, hss, etl, dom⟩
        rw [hpl', List.take_length] at hss
        refine q0 G sb ⟨dx, pa, st, tl, zs, ss, er, epa, hz, est, hss.imp fun _ _ z => z.less fun x nx => ?_, sH⟩
        have xr : x ≠ r := fun y => by rw [y, e3'] at nx; cases nx
        cases g : H x with
        | none => rfl
        | some u =>
          rw [s3' _ _ xr g] at nx
          cases nx
end
end Nv
set_option maxHeartbeats 4000000
namespace Nv
open PySem PySem.Spec PyProof.Rows L2
/-! # Plan.rows -/
def ofKind (pat : List Str) (ps : List (List Str)) : List (List Str) := ps.filter fun p => decide (kindK p = kindK pat)
def stepR (prs : List (List Str)) (rws : List (List Str)) (z : (List Str × List Str) × List (List Str)) : List (List Str) := onw z.1.1 z.1.2 prs rws (ofKind z.1.1 z.2)
def rowsF (known : List Str) (pats prs : List (List Str)) (pss : List (List (List Str))) (first : List Str) : List (List Str) :=
  ((planOf known pats).zip pss).foldl (stepR prs) (keepA ((prs.filter (knB known)).map (ijOf known)) [first])
theorem planOf_at : ∀ {ps : List (List Str)} {ts : List Str} {i : Nat} {z : List Str × List Str}, (planOf ts ps)[i]? = some z → ∃ p, ps[i]? = some p ∧ z = (p, planT ts (ps.take i))
  | [], _, i, _, h => by cases i <;> cases h
  | p :: ps, ts, 0, z, h => by
    cases h
    exact ⟨p, rfl, rfl⟩
  | p :: ps, ts, i + 1, z, h => planOf_at (ps := ps) (ts := stepTerms ts p) (i := i) h
/-- a shelf by kinds stands at v -/
def ShelfV (H : Hp) (v : V) (ps : List (List Str)) : Prop := ∃ (d : Addr) (us : List V) (H0 : Hp), v = .ref d ∧ Shelf kindK H0 H d us ps ∧ PaL H us ps ∧ (∀ p ∈ ps, FactOk p)
theorem ShelfV.same {H H' : Hp} {v : V} {ps : List (List Str)} (h : ShelfV H v ps) (s : Same H H') : ShelfV H' v ps := by
  obtain ⟨d, us, H0, e, S, hp, ok⟩ := h
  exact ⟨d, us, H0, e, S.same s, hp.same s, ok⟩
theorem kind_len {p q : List Str} (hp : 1 ≤ p.length) (hq : 1 ≤ q.length) (h : kindK p = kindK q) : p.length = q.length := by
  cases p with
  | nil => exact absurd hp (by decide)
  | cons a p =>
    cases q with
    | nil => exact absurd hq (by decide)
    | cons b q =>
      unfold kindK at h
      injection h with _ h
      injection h with h _
      injection h with h
      rw [List.length_cons, List.length_cons]
      omega
theorem onw_len {pat ts : List Str} {prs rws facts : List (List Str)} : (onw pat ts prs rws facts).length ≤ rws.length * facts.length := by
  unfold onw
  refine Nat.le_trans (keepA_len _ _) (flatM_len (fun row => ?_) rws)
  unfold onRow
  rw [List.length_map]
  exact List.length_filter_le _ _
theorem onw_wide {pat ts : List Str} {prs rws facts : List (List Str)} (h : ∀ x ∈ rws, x.length = ts.length) : ∀ x ∈ onw pat ts prs rws facts, x.length = (stepTerms ts pat).length := fun x hx => by
  unfold onw at hx
  obtain ⟨row, hr1, hp2⟩ := List.mem_flatMap.mp (keepA_sub _ hx)
  obtain ⟨y, _, rfl⟩ := List.mem_map.mp hp2
  unfold selT stepTerms termsIn
  rw [List.length_append, List.length_append, List.length_map, List.length_map, h row hr1]
section
variable {P : Program} {w : World} {K : PySem.W.Frag} {mg : Str → Option Value} {base : Heap}
def spRows (K : PySem.W.Frag) (CS C : Addr) : Sp := fun vs H Q _ => ∃ (r f b : Addr) (pats prs : List (List Str)) (known first : List Str) (ys : List V) (pss : List (List (List Str))) (m : Nat), vs = [.ref r, .ref f, .ref b] ∧ PlanAt CS C H r pats prs known ∧
  ((∀ x ∈ pats, 1 ≤ x.length ∧ x.length ≤ 4) ∧ pats.length ≤ 100 ∧ known.length ≤ 500) ∧ (∀ x ∈ prs, ∃ y z, x = [y, z]) ∧ (H f = some (.tup (first.map V.str)) ∧ first.length = known.length) ∧
  (H b = some (.lst ys) ∧ All2 (ShelfV H) ys pss ∧ pss.length = pats.length) ∧ ((∀ ps ∈ pss, ps.length ≤ m) ∧ 1 ≤ m ∧ m ≤ 1000 ∧ m ^ pats.length ≤ 100000) ∧
  ∀ (r' : Addr) (H' : Hp) (us' : List V), Same H H' → H' r' = some (.lst us') → PaL H' us' (rowsF known pats prs pss first) → Q (.ref r') H'
theorem scRows : FnScope ["self", "first", "shelves", "rows", "step", "shelf"] ["self", "first", "shelves"] (defScope sRows) := ⟨rfl, rfl, rfl, by decide +kernel, rfl, by decide +kernel, by decide +kernel⟩
theorem ok_rows {f C CS fO fA : Addr} {fd dO dA : FuncData} (F : Fun K "rows" "Plan.rows" sRows f fd) (zp : mg "zip" = none) (R : PNC K C) (RS : SC K CS)
    (GO : FnOk P w K mg base CX0 2 fO dO ["self", "rows", "facts"] (spOnward K CS)) (mO : Meth K CS "onward" fO) (bO : Binds K dO ["self", "rows", "facts"] [])
    (GA : FnOk P w K mg base CX0 1 fA dA ["rows", "apart"] (spKeptApart K)) (kA : PySem.W.keepIn K (.ref fA) = true) (gA : mg "_kept_apart" = some (.ref fA)) (bA : Binds K dA ["rows", "apart"] []) :
    FnOk P w K mg base CX0 3 f fd ["self", "first", "shelves"] (spRows K CS C) := by
  refine F.ok scRows (fun vs H Q E h => ?_) (fun cdv A outer s H vs Q E hr h => ?_)
  · obtain ⟨r, f, b, pats, prs, known, first, ys, pss, m, rfl, _⟩ := h
    rfl
  · obtain ⟨r, f, b, pats, prs, known, first, ys, pss, m, rfl, hpa, ⟨hpl, hpn, hkn⟩, hprs, ⟨ef, hfl⟩, ⟨eb, hys, hyl⟩, ⟨hm1, hm2, hm3, hm4⟩, q⟩ := h
    have hr1 : Room 1 _ := hr.mono (by decide)
    have hu : (A.deeper (envOfC "Plan.rows" (defScope sRows) s.heap.objs.size f cdv)).units + 1 < cLine := Nat.lt_of_le_of_lt (Nat.add_le_add_left (by decide : 1 ≤ 64) _) hr.units
    refine ⟨_, pss_cons (ps_set (i := 3) scRows.nd rfl (Or.inl rfl) (by exact (pe_call GA hr1 (by rfl) gA kA bA .nil pass0 (pa_cons (pe_lst (pa_cons (pv 1) pa_nil)) (pa_cons (pe_fld (pv 0) rfl) pa_nil)))))
      (pss_cons (ps_for PassesOwn.never rfl (pi_zip (by rfl) zp (pa_cons (pe_fld (pv 0) rfl) (pa_cons (pv 2) pa_nil))) (pg_tup rfl (pgs_cons (pg_name (i := 4) scRows.nd rfl (Or.inl rfl)) (pgs_cons (pg_name (i := 5) scRows.nd rfl (Or.inl rfl)) pgs_nil)))
        (pss_one (ps_set (i := 3) scRows.nd rfl (Or.inl rfl) (by exact (pe_meth (pv 4) RS.cl mO GO hr bO .nil pass0 (pa_cons (pv 3) (pa_cons (pe_dget2 hu (pv 5) (pe_fld (pv 4) rfl) (pe_lst pa_nil) ⟨rfl, rfl, rfl, rfl⟩) pa_nil)))))))
      (pss_one (ps_ret (pv 3)))), ?_⟩
    obtain ⟨dx, ap, st, tl, zs, ss, er, eap, hij, est, hss⟩ := hpa
    have hssl := hss.len
    rw [planOf_len] at hssl
    have hysl := hys.len
    have hijs : ∀ z ∈ (prs.filter (knB known)).map (ijOf known), z.1 < known.length ∧ z.2 < known.length := fun z hz => by
      obtain ⟨x, hx, rfl⟩ := List.mem_map.mp hz
      obtain ⟨mx, hb⟩ := List.mem_filter.mp hx
      obtain ⟨y, z, rfl⟩ := hprs x mx
      unfold knB at hb
      rw [Bool.and_eq_true] at hb
      exact ⟨(List.getElem?_eq_some_iff.mp (pos1_at (of_decide_eq_true hb.1)).1).1, (List.getElem?_eq_some_iff.mp (pos1_at (of_decide_eq_true hb.2)).1).1⟩
    unfold rowsF at q
    refine ⟨_, rfl, by show 1 ≤ _; decide, fun l nl => ⟨_, rfl, r, C, dx, _, .ref ap, rfl, same_new nl _ _ er, R.cl, R.n1, pl1, ?_⟩⟩
    dsimp only [tNil]
    have sl : Same H (upd H l (.lst [V.ref f])) := same_new nl
    refine ⟨l, ap, [.ref f], zs, [first], _, rfl, upd_same, .cons (sl _ _ ef) .nil, SqL.of (sl _ _ eap), hij.same sl, fun p hp z hz => ?_, by show 1 ≤ _; decide, fun r1 G1 us1 _ s1 e1 h1 => ?_⟩
    · rw [List.mem_singleton.mp hp, hfl]
      exact hijs z hz
    have sG := sl.trans s1
    clear s1 sl
    have w0 : ∀ x ∈ keepA ((prs.filter (knB known)).map (ijOf known)) [first], x.length = known.length := fun x hx => by
      rw [List.mem_singleton.mp (keepA_sub _ hx)]
      exact hfl
    have l0 : (keepA ((prs.filter (knB known)).map (ijOf known)) [first]).length ≤ 1 := keepA_len _ _
    generalize keepA ((prs.filter (knB known)).map (ijOf known)) [first] = init at h1 q w0 l0
    show tSeq _ _ _ _ _
    refine ⟨_, rfl, r, C, dx, _, .ref st, rfl, sG _ _ er, R.cl, R.n2, pl2, _, rfl, st, b, _, _, rfl, SqL.of (sG _ _ est), SqL.of (sG _ _ eb), RZ.for_zipL (K := K) (a := st) (b := b) (xs := ss.map V.ref) (ys := ys) (by rw [List.length_map]; omega)
      (fun i σ G => ∃ (ri : Addr) (ui : List V) (o4 o5 : Option V), σ = [some (.ref r), some (.ref f), some (.ref b), some (.ref ri), o4, o5] ∧ Same H G ∧ G ri = some (.lst ui) ∧ PaL G ui ((((planOf known pats).zip pss).take i).foldl (stepR prs) init) ∧
        (∀ x ∈ (((planOf known pats).zip pss).take i).foldl (stepR prs) init, x.length = (planT known (pats.take i)).length) ∧ ((((planOf known pats).zip pss).take i).foldl (stepR prs) init).length ≤ m ^ i)
      ⟨r1, us1, none, none, rfl, sG, e1, h1, w0, l0⟩ (fun i σ G z => ?_) ?_ ?_⟩
    · obtain ⟨_, _, _, _, _, s, _⟩ := z
      exact ⟨SqL.of (s _ _ est), SqL.of (s _ _ eb)⟩
    · rintro i x y T σ G hx hy ⟨ri, ui, o4, o5, rfl, sm, eri, hui, hw, hc⟩ nT
      rw [List.getElem?_map] at hx
      obtain ⟨sa, hsa, rfl⟩ := Option.map_eq_some_iff.mp hx
      obtain ⟨z, hz, hst⟩ := hss.at_ hsa
      obtain ⟨pat, hpi, rfl⟩ := planOf_at hz
      obtain ⟨ps, hps, hsh⟩ := hys.at_ hy
      obtain ⟨hp1, hp4⟩ := hpl pat (List.mem_of_getElem? hpi)
      have il := (List.getElem?_eq_some_iff.mp hpi).1
      have sT : Same G (upd G T (.tup [.ref sa, y])) := same_new nT
      have eT : upd G T (.tup [.ref sa, y]) T = some (.tup [.ref sa, y]) := upd_same
      generalize upd G T (.tup [.ref sa, y]) = G2 at sT eT ⊢
      have sm2 := sm.trans sT
      have hst2 := hst.same sm2
      obtain ⟨d, us, H0, rfl, S, hus, hok⟩ := hsh.same sm2
      obtain ⟨kvs, f1, f2, f3, f4, f5⟩ := S
      refine ⟨T, _, rfl, SqT.of eT, rfl, _, _, rfl, _, _, rfl, rfl, ?_⟩
      obtain ⟨dxs, k, o, pl, n, tw, l3, a3, z3, g1, g2, _⟩ := id hst2
      have lkO : (stF k o pl n tw l3 a3).lookup ("onward" : Str) = none := (lk_no (by decide +kernel)).trans ((lk_no (by decide +kernel)).trans ((lk_no (by decide +kernel)).trans ((lk_no (by decide +kernel)).trans ((lk_no (by decide +kernel)).trans ((lk_no (by decide +kernel)).trans ((lk_no (by decide +kernel)).trans rfl))))))
      refine ⟨_, rfl, sa, dxs, _, rfl, g1, lkO, _, rfl, _, rfl, d, rfl, .inr ⟨kvs, .inl f1⟩, _, rfl, sa, CS, dxs, _, .ref k, rfl, g1, RS.cl, RS.n1, lk_yes, by show 0 ≤ _; exact Nat.zero_le _, fun n0 nn => ⟨valV kvs (kindK pat), DGet.t (same_new nn _ _ f1) (same_new nn _ _ g2), ?_⟩⟩
      have s4 : Same G2 (upd G2 n0 (.lst [])) := same_new nn
      have en0 : upd G2 n0 (.lst []) n0 = some (.lst []) := upd_same
      generalize upd G2 n0 (.lst []) = G4 at s4 en0 ⊢
      obtain ⟨L0, fs, hL, eL, hy⟩ : ∃ (L0 : Addr) (fs : List V), (valV kvs (kindK pat)).getD (.ref n0) = .ref L0 ∧ G4 L0 = some (.lst fs) ∧ PaL G4 fs (ofKind pat ps) := by
        have hpick := pick_pal (key := kindK) (k := kindK pat) (f := fun x => x) (ps := ps) (by rw [List.map_id']; exact hus.same s4)
        rw [List.map_id'] at hpick
        cases hval : valV kvs (kindK pat) with
        | none =>
          rw [f4 _ hval] at hpick
          exact ⟨n0, [], rfl, en0, hpick⟩
        | some v =>
          obtain ⟨l0, rfl, _, el0⟩ := f3 _ _ hval
          exact ⟨l0, _, rfl, s4 _ _ el0, hpick⟩
      rw [hL]
      have sm4 := sm2.trans s4
      have zi : ((planOf known pats).zip pss)[i]? = some ((pat, planT known (pats.take i)), ps) := List.getElem?_zip_eq_some.mpr ⟨hz, hps⟩
      have tsl : (planT known (pats.take i)).length ≤ 900 := by
        have := planT_len (ps := pats.take i) (ts := known) fun x hx => (hpl x (List.mem_of_mem_take hx)).2
        rw [List.length_take] at this
        omega
      have okl : (ofKind pat ps).length ≤ m := Nat.le_trans (List.length_filter_le _ _) (hm1 ps (List.mem_of_getElem? hps))
      have hprod : ((((planOf known pats).zip pss).take i).foldl (stepR prs) init).length * (ofKind pat ps).length ≤ m ^ (i + 1) := by
        rw [Nat.pow_succ]
        exact Nat.mul_le_mul hc okl
      have hpow : ∀ j, j ≤ pats.length → m ^ j ≤ 100000 := fun j hj => Nat.le_trans (Nat.pow_le_pow_right hm2 hj) hm4
      have hnext : (((planOf known pats).zip pss).take (i + 1)).foldl (stepR prs) init = onw pat (planT known (pats.take i)) prs ((((planOf known pats).zip pss).take i).foldl (stepR prs) init) (ofKind pat ps) := by
        rw [take_one zi, List.foldl_append] <;> rfl
      refine ⟨sa, ri, L0, pat, planT known (pats.take i), prs, ui, fs, _, ofKind pat ps, rfl, hst2.same s4, ⟨hp4, tsl⟩, hprs, ⟨s4 _ _ (sT _ _ eri), (hui.same sT).same s4, hw, Nat.le_trans hc (hpow i (by omega))⟩, ⟨SqL.of eL, hy, fun x hx => ?_, by omega⟩, Nat.le_trans hprod (hpow (i + 1) (by omega)), fun r2 G5 us2 _ s5 e5 h5 => ?_⟩
      · obtain ⟨mx, hk⟩ := List.mem_filter.mp hx
        exact kind_len (hok x mx).1.1 hp1 (of_decide_eq_true hk)
      · refine ⟨r2, us2, some (.ref sa), some (.ref d), rfl, sm4.trans s5, e5, ?_, ?_, ?_⟩
        · rw [hnext]
          exact h5
        · rw [hnext, take_one hpi, planT_snoc]
          exact onw_wide hw
        · rw [hnext]
          exact Nat.le_trans onw_len hprod
    · rintro σ G ⟨ri, ui, o4, o5, rfl, sm, eri, hui, hw, hc⟩
      rw [List.length_map, hssl] at hui
      have e : ((planOf known pats).zip pss).take pats.length = (planOf known pats).zip pss := List.take_of_length_le (by rw [List.length_zip, planOf_len]; omega)
      rw [e] at hui
      exact ⟨_, rfl, q ri G ui sm eri hui⟩
end
end Nv
set_option maxHeartbeats 4000000
namespace Nv
open PySem PySem.Spec PyProof.Rows L2
/-! # names_in, met -/
/-- the names among the terms ts, in ascending order -/
structure NamesOf (ts zs : List Str) : Prop where
  nd : zs.Nodup
  up : sortedS zs = true
  mem : ∀ z, z ∈ zs ↔ z ∈ ts ∧ IsNm z
def spNamesAmong (K : PySem.W.Frag) : Sp := fun vs H Q _ => ∃ (a : Addr) (ts : List Str), vs = [.ref a] ∧ SqL K H a (ts.map V.str) ∧ (∀ z ∈ ts, z.length ≤ 1000) ∧ ts.length ≤ 60 ∧
  ∀ (p : Addr) (H' : Hp) (zs : List Str), H p = none → Same H H' → H' p = some (.lst (zs.map V.str)) → NamesOf ts zs → Q (.ref p) H'
theorem NamesOf.len {ts zs : List Str} (h : NamesOf ts zs) : zs.length ≤ ts.length := pig zs ts h.nd fun z hz => ((h.mem z).mp hz).1
section
variable {P : Program} {w : World} {K : PySem.W.Frag} {mg : Str → Option Value} {base : Heap}
def spNamesIn (K : PySem.W.Frag) : Sp := fun vs H Q _ => ∃ (a b : Addr) (us uq : List V) (pats prs : List (List Str)), vs = [.ref a, .ref b] ∧ (SqL K H a us ∧ PaL H us pats ∧ (∀ x ∈ pats, PatOk x) ∧ pats.length ≤ 10) ∧ (SqL K H b uq ∧ PaL H uq prs ∧ (∀ x ∈ prs, PairOk x) ∧ prs.length ≤ 10) ∧
  ∀ (p : Addr) (H' : Hp) (zs : List Str), H p = none → Same H H' → H' p = some (.lst (zs.map V.str)) → NamesOf (tails pats ++ prs.flatten) zs → Q (.ref p) H'
theorem scNamesIn : FnScope ["patterns", "pairs"] ["patterns", "pairs"] (defScope sNamesIn) := ⟨rfl, rfl, rfl, by decide +kernel, rfl, by decide +kernel, by decide +kernel⟩
theorem ok_namesIn {f fA fT fS : Addr} {fd dA dT dS : FuncData} {k : Nat} (F : Fun K "names_in" "names_in" sNamesIn f fd) (h1 : 1 ≤ k)
    (GA : FnOk P w K mg base CX0 k fA dA ["terms"] (spNamesAmong K)) (kA : PySem.W.keepIn K (.ref fA) = true) (gA : mg "names_among" = some (.ref fA)) (bA : Binds K dA ["terms"] [])
    (GT : FnOk P w K mg base CX0 1 fT dT ["patterns"] (spTermsOf K)) (kT : PySem.W.keepIn K (.ref fT) = true) (gT : mg "terms_of" = some (.ref fT)) (bT : Binds K dT ["patterns"] [])
    (GS : FnOk P w K mg base CX0 1 fS dS ["pairs"] (spSides K)) (kS : PySem.W.keepIn K (.ref fS) = true) (gS : mg "sides_of" = some (.ref fS)) (bS : Binds K dS ["pairs"] []) :
    FnOk P w K mg base CX0 (k + 1) f fd ["patterns", "pairs"] (spNamesIn K) := by
  refine F.ok scNamesIn (fun vs H Q E h => ?_) (fun cdv A outer s H vs Q E hr h => ?_)
  · obtain ⟨a, b, us, uq, pats, prs, rfl, _⟩ := h
    rfl
  · obtain ⟨a, b, us, uq, pats, prs, rfl, ⟨ha, hp, hpo, hpl⟩, ⟨hb, hq, hqo, hql⟩, q⟩ := h
    have hr1 : Room 1 _ := hr.mono h1
    refine ⟨_, pss_one (ps_ret (by exact (pe_call GA hr (by rfl) gA kA bA .nil pass0 (pa_cons (pe_op op_cat (by exact (pe_call GT hr1 (by rfl) gT kT bT .nil pass0 (pa_cons (pv 0) pa_nil))) (by exact (pe_call GS hr1 (by rfl) gS kS bS .nil pass0 (pa_cons (pv 1) pa_nil)))) pa_nil)))), ?_⟩
    have two : ∀ x ∈ prs, x.length = 2 := fun x hx => by
      obtain ⟨y, z, rfl, _⟩ := hqo x hx
      rfl
    refine ⟨_, rfl, ?_⟩
    dsimp only [tNil]
    refine ⟨a, us, pats, rfl, ha, hp, hpo, by omega, fun p1 H1 n1 s1 e1 => ⟨_, rfl, ?_⟩⟩
    dsimp only [tNil]
    refine ⟨b, uq, prs, rfl, s1.seq hb, hq.same s1, two, by omega, fun p2 H2 n2 s2 e2 => ?_⟩
    have l1 := tails_len hpo
    have l2 := flat_len two
    refine ⟨p1, p2, _, _, rfl, rfl, s2 _ _ e1, e2, ?_, fun p3 n3 => ?_⟩
    · rw [List.length_map, List.length_map]
      exact Nat.le_trans (by omega : _ ≤ 50) (by decide)
    · have s3 : Same H (upd H2 p3 (.lst ((tails pats).map V.str ++ prs.flatten.map V.str))) := (s1.trans s2).trans (same_new n3)
      refine ⟨p3, tails pats ++ prs.flatten, rfl, SqL.of (by rw [upd_same, List.map_append]), fun z hz => ?_, by rw [List.length_append]; omega, fun p H' zs np sm e hn => q p H' zs (s3.free np) (s3.trans sm) e hn⟩
      rcases List.mem_append.mp hz with h | h
      · have := (tails_short hpo z h).2
        omega
      · obtain ⟨x, hx, hz⟩ := List.mem_flatten.mp h
        obtain ⟨y, y2, rfl, _, t1, t2, _⟩ := hqo x hx
        rcases List.mem_cons.mp hz with rfl | hz
        · have := tm_len t1; omega
        · rw [List.mem_singleton.mp hz]
          have := tm_len t2
          omega
end
end Nv
set_option maxHeartbeats 4000000
namespace Nv
open PySem PySem.Spec PyProof.Rows L2
/-! # met -/
theorem cut_n (n : Nat) (xv : List V) : cutV xv (some (n : Int)) none = xv.drop n := by
  unfold cutV
  have e : HT.sIx xv.length 0 (some (n : Int)) = min n xv.length := HT.sIx_nat xv.length 0 n
  rw [e, HT.sIx_none]
  by_cases h : n ≤ xv.length
  · rw [Nat.min_eq_left h, List.take_of_length_le (by rw [List.length_drop]; omega)]
  · rw [Nat.min_eq_right (by omega), Nat.sub_self, List.take_zero, List.drop_eq_nil_of_le (by omega)]
theorem foldR_len {prs : List (List Str)} {m : Nat} : ∀ (Z : List ((List Str × List Str) × List (List Str))) (r : List (List Str)), (∀ z ∈ Z, z.2.length ≤ m) → (Z.foldl (stepR prs) r).length ≤ r.length * m ^ Z.length
  | [], r, _ => by
    rw [List.length_nil, Nat.pow_zero, Nat.mul_one]
    exact Nat.le_refl _
  | z :: Z, r, h => by
    have h1 := foldR_len (prs := prs) Z (stepR prs r z) fun y hy => h y (List.mem_cons_of_mem _ hy)
    have h2 : (stepR prs r z).length ≤ r.length * m := Nat.le_trans onw_len (Nat.mul_le_mul_left _ (Nat.le_trans (List.length_filter_le _ _) (h z List.mem_cons_self)))
    refine Nat.le_trans h1 (Nat.le_trans (Nat.mul_le_mul_right _ h2) ?_)
    rw [List.length_cons, Nat.pow_succ, Nat.mul_assoc, Nat.mul_comm m]
    exact Nat.le_refl _
theorem rowsF_len {known first : List Str} {pats prs ps : List (List Str)} {m : Nat} (h : ps.length ≤ m) : (rowsF known pats prs (List.replicate pats.length ps) first).length ≤ m ^ pats.length := by
  unfold rowsF
  have h0 : (keepA ((prs.filter (knB known)).map (ijOf known)) [first]).length ≤ 1 := keepA_len _ _
  have h1 := foldR_len (prs := prs) (m := m) ((planOf known pats).zip (List.replicate pats.length ps)) (keepA ((prs.filter (knB known)).map (ijOf known)) [first]) fun z hz => by
    rw [(List.mem_replicate.mp (List.of_mem_zip hz).2).2]
    exact h
  have e : ((planOf known pats).zip (List.replicate pats.length ps)).length = pats.length := by rw [List.length_zip, planOf_len, List.length_replicate, Nat.min_self]
  rw [e] at h1
  refine Nat.le_trans h1 ?_
  have := Nat.mul_le_mul_right (m ^ pats.length) h0
  rwa [Nat.one_mul] at this
def metF (zs : List Str) (pats prs ps : List (List Str)) : List (List Str) := (rowsF zs pats prs (List.replicate pats.length ps) zs).map fun row => row.drop zs.length
section
variable {P : Program} {w : World} {K : PySem.W.Frag} {mg : Str → Option Value} {base : Heap}
def spMet (K : PySem.W.Frag) : Sp := fun vs H Q _ => ∃ (a b : Addr) (sv : V) (us uq : List V) (pats prs ps : List (List Str)) (m : Nat), vs = [.ref a, .ref b, sv] ∧ (H a = some (.lst us) ∧ PaL H us pats ∧ (∀ x ∈ pats, PatOk x) ∧ pats.length ≤ 10) ∧ (H b = some (.lst uq) ∧ PaL H uq prs ∧ (∀ x ∈ prs, PairOk x) ∧ prs.length ≤ 10) ∧
  (ShelfV H sv ps ∧ ps.length ≤ m ∧ 1 ≤ m ∧ m ≤ 1000 ∧ m ^ pats.length ≤ 100000) ∧ (∀ zs, NamesOf (tails pats ++ prs.flatten) zs → ∀ z ∈ planOf zs pats, NoTwin z.2 z.1) ∧
  ∀ (p : Addr) (H' : Hp) (us' : List V) (zs : List Str), H p = none → Same H H' → H' p = some (.lst us') → NamesOf (tails pats ++ prs.flatten) zs → PaL H' us' (metF zs pats prs ps) → Q (.ref p) H'
abbrev nMet : List Str := ["told", "pairs", "shelf", "names", "plan", "row", "_"]
theorem scMet : FnScope nMet ["told", "pairs", "shelf"] (defScope sMet) := ⟨rfl, rfl, rfl, by decide +kernel, rfl, by decide +kernel, by decide +kernel⟩
theorem ok_met {f fN fP fR C CS : Addr} {fd dN dP dR : FuncData} (F : Fun K "met" "met" sMet f fd) (B : Bp mg) (R : PNC K C)
    (GN : FnOk P w K mg base CX0 3 fN dN ["patterns", "pairs"] (spNamesIn K)) (kN : PySem.W.keepIn K (.ref fN) = true) (gN : mg "names_in" = some (.ref fN)) (bN : Binds K dN ["patterns", "pairs"] [])
    (GP : FnOk P w K mg base CX0 4 fP dP ["self", "patterns", "pairs", "known"] (spPlanInit CS C)) (MP : Mk K C fP) (gP : mg "Plan" = some (.ref C)) (bP : Binds K dP ["self", "patterns", "pairs", "known"] [])
    (GR : FnOk P w K mg base CX0 3 fR dR ["self", "first", "shelves"] (spRows K CS C)) (mR : Meth K C "rows" fR) (bR : Binds K dR ["self", "first", "shelves"] []) :
    FnOk P w K mg base CX0 6 f fd ["told", "pairs", "shelf"] (spMet K) := by
  refine F.ok scMet (fun vs H Q E h => ?_) (fun cdv A outer s H vs Q E hr h => ?_)
  · obtain ⟨a, b, sv, us, uq, pats, prs, ps, m, rfl, _⟩ := h
    rfl
  · obtain ⟨a, b, sv, us, uq, pats, prs, ps, m, rfl, ⟨ea, hp, hpo, hpl⟩, ⟨eb, hq, hqo, hql⟩, ⟨hs, hm1, hm2, hm3, hm4⟩, hnt, q⟩ := h
    have hr3 : Room 3 _ := hr.mono (by decide)
    refine ⟨_, pss_cons (ps_set (i := 3) scMet.nd rfl (Or.inr rfl) (by exact (pe_call GN hr3 (by rfl) gN kN bN .nil pass0 (pa_cons (pv 0) (pa_cons (pv 1) pa_nil)))))
      (pss_cons (ps_set (i := 4) scMet.nd rfl (Or.inl rfl) (by exact (pe_make MP GP hr (by rfl) gP bP .nil pass0 (pa_cons (pv 0) (pa_cons (pv 1) (pa_cons (pv 3) pa_nil))))))
      (pss_one (ps_ret (by exact (pe_lc (own := [("row", 5)]) (g := gName 5) (tt := tYes) (te := tSl (rSlA K) (tVar 5) (tPart (tCB (fun xs H Q => ∃ x n, xs = [x] ∧ LenV K x H n ∧ Q (.int n) H) (tCons (tVar 3) tNil))) tNoPart) rfl scMet.nd
          (pi_list (by exact (pe_meth (pv 4) R.cl mR GR hr3 bR .nil pass0 (pa_cons (pe_callTy call_tuple_of (by rfl) B.tup PyProof.Rows.boot_tuple (pa_cons (pv 3) pa_nil)) (pa_cons (by exact (pe_lc (own := [("_", 6)]) (g := gName 6) (tt := tYes) (te := tVar 2) rfl scMet.nd (pi_list (pv 0))
            (blkOk_by (own := [("_", 6)]) (N := nMet) (sc := defScope sMet) (by decide +kernel))
            (fun _ _ _ _ _ => pg_name (i := 6) scMet.nd rfl (Or.inl rfl)) (fun _ _ _ _ _ => pts_nil) (fun _ _ _ _ _ => by exact (pv 2)))) pa_nil)))))
          (blkOk_by (own := [("row", 5)]) (N := nMet) (sc := defScope sMet) (by decide +kernel))
          (fun _ _ _ _ _ => pg_name (i := 5) scMet.nd rfl (Or.inl rfl)) (fun _ _ _ _ _ => pts_nil)
          (fun _ _ _ _ _ => by exact (pe_slice sl_tupA (pv 5) (po_some (pe_callB call_len (by rfl) B.len PySem.boot_len (pa_cons (pv 3) pa_nil))) po_none))))))), ?_⟩
    have patl : ∀ x ∈ pats, 1 ≤ x.length ∧ x.length ≤ 4 := fun x hx => by
      obtain ⟨w, ts, rfl, _, h3, _⟩ := hpo x hx
      rw [List.length_cons]
      omega
    have prl : ∀ x ∈ prs, ∃ y z, x = [y, z] := fun x hx => by
      obtain ⟨y, z, e, _⟩ := hqo x hx
      exact ⟨y, z, e⟩
    have hul := hp.len
    refine ⟨_, rfl, _, rfl, ?_⟩
    dsimp only [tNil]
    refine ⟨a, b, us, uq, pats, prs, rfl, ⟨SqL.of ea, hp, hpo, hpl⟩, ⟨SqL.of eb, hq, hqo, hql⟩, fun p1 H1 zs n1 s1 e1 hz => ?_⟩
    have zl : zs.length ≤ 50 := by
      have h1 := hz.len
      have l1 := tails_len hpo
      have l2 := flat_len (qs := prs) fun x hx => by
        obtain ⟨y, z, rfl⟩ := prl x hx
        rfl
      rw [List.length_append] at h1
      omega
    show tSeq _ _ _ _ _
    refine ⟨_, rfl, _, rfl, _, rfl, ?_⟩
    dsimp only [tNil]
    intro x dx nx ndx ne
    have U := madeN (C := C) nx ndx ne
    refine ⟨x, dx, a, b, p1, us, uq, pats, prs, zs, rfl, upd_same, ⟨U _ _ (s1 _ _ ea), (hp.same s1).same U, patl, by omega⟩, ⟨U _ _ (s1 _ _ eb), (hq.same s1).same U, prl, by omega⟩, ⟨U _ _ e1, by omega⟩, hnt zs hz, fun G sb PN => ⟨rfl, ?_⟩⟩
    have PA := PN.at_
    have sG1 := madeS nx ndx ne sb
    have sG := s1.trans sG1
    obtain ⟨dxp, ap, st, tl, az, ss, er, _⟩ := id PA
    have lkR : (pnF ap st tl).lookup ("rows" : Str) = none := (lk_no (by decide +kernel)).trans ((lk_no (by decide +kernel)).trans ((lk_no (by decide +kernel)).trans rfl))
    refine ⟨_, rfl, x, dxp, _, rfl, er, lkR, _, rfl, p1, _, rfl, .inl ⟨SqL.of (sG1 _ _ e1), fun ft nft => ?_⟩⟩
    have s2 : Same G (upd G ft (.tup (zs.map V.str))) := same_new nft
    have eft : upd G ft (.tup (zs.map V.str)) ft = some (.tup (zs.map V.str)) := upd_same
    generalize upd G ft (.tup (zs.map V.str)) = G2 at s2 eft ⊢
    have sG2 := sG.trans s2
    refine ⟨_, rfl, a, rfl, ⟨_, SqL.of (sG2 _ _ ea)⟩, fun D nD => ?_⟩
    refine lc_list (K := K) (a := a) (xs := us) (fun i H' => Same G2 H' ∧ H' D = some (.lst (List.replicate i sv))) ⟨same_new nD, upd_same⟩ (fun i H' _ y => SqL.of (y.1 _ _ (sG2 _ _ ea))) ?_ ?_
    · rintro i v H2 hi ⟨s3, e3⟩
      have il := (List.getElem?_eq_some_iff.mp hi).1
      refine ⟨rfl, _, rfl, _, e3, ?_, same_put s3 nD, ?_⟩
      · rw [List.length_replicate]
        exact Nat.lt_of_le_of_lt (by omega : _ ≤ 1000) (by decide)
      · rw [upd_same, List.replicate_succ']
    · rintro H2 ⟨s3, e3⟩
      have sH2 := sG2.trans s3
      dsimp only [tNil]
      have allS : ∀ n : Nat, All2 (ShelfV H2) (List.replicate n sv) (List.replicate n ps) := fun n => by
        induction n with
        | zero => exact .nil
        | succ n ih =>
          rw [List.replicate_succ, List.replicate_succ]
          exact .cons (hs.same sH2) ih
      rw [hul] at e3
      refine ⟨x, ft, D, pats, prs, zs, zs, _, List.replicate pats.length ps, m, rfl, (PA.same s2).same s3, ⟨patl, by omega, by omega⟩, prl, ⟨s3 _ _ eft, rfl⟩, ⟨e3, allS _, List.length_replicate⟩, ⟨fun y hy => by rw [(List.mem_replicate.mp hy).2]; exact hm1, hm2, hm3, hm4⟩, fun r' G5 us' s5 e5 h5 => ?_⟩
      have sG5 := sH2.trans s5
      have e1' : G5 p1 = some (.lst (zs.map V.str)) := s5 _ _ (s3 _ _ (s2 _ _ (sG1 _ _ e1)))
      refine ⟨r', rfl, ⟨_, SqL.of e5⟩, fun D2 nD2 => ?_⟩
      have hul5 := h5.len
      have rl : (rowsF zs pats prs (List.replicate pats.length ps) zs).length ≤ 100000 := Nat.le_trans (rowsF_len hm1) hm4
      refine lc_list (K := K) (a := r') (xs := us') (fun i H' => Same G5 H' ∧ ∃ ws : List V, H' D2 = some (.lst ws) ∧ PaL H' ws (((rowsF zs pats prs (List.replicate pats.length ps) zs).take i).map fun row => row.drop zs.length)) ⟨same_new nD2, [], upd_same, .nil⟩ (fun i H' _ y => SqL.of (y.1 _ _ e5)) ?_ ?_
      · rintro i v H3 hi ⟨s6, ws, e6, hw⟩
        obtain ⟨t, row, rfl, hri, et⟩ := h5.at_ hi
        have il := (List.getElem?_eq_some_iff.mp hri).1
        have et6 := s6 _ _ et
        have fin : ∀ (y : Addr) (H4 : Hp), Same H3 H4 → H4 y = some (.tup ((row.drop zs.length).map V.str)) → ∃ acc', H4 D2 = some (.lst acc') ∧ acc'.length < sizeLine ∧ (Same G5 (upd H4 D2 (.lst (acc' ++ [.ref y]))) ∧ ∃ ws : List V, upd H4 D2 (.lst (acc' ++ [.ref y])) D2 = some (.lst ws) ∧
            PaL (upd H4 D2 (.lst (acc' ++ [.ref y]))) ws (((rowsF zs pats prs (List.replicate pats.length ps) zs).take (i + 1)).map fun row => row.drop zs.length)) := fun y H4 s4 ey => by
          have e4 := s4 _ _ e6
          refine ⟨ws, e4, ?_, same_put (s6.trans s4) nD2, _, upd_same, ?_⟩
          · rw [hw.len, List.length_map, List.length_take]
            exact Nat.lt_of_le_of_lt (by omega : _ ≤ 100000) (by decide)
          · rw [take_one hri, List.map_append]
            exact ((hw.same s4).over e4).app (.cons (by rw [upd_ne (fun z => by rw [z, e4] at ey; cases ey)]; exact ey) .nil)
        refine ⟨rfl, _, rfl, _, rfl, _, _, rfl, .inl ⟨_, SqL.of (s6 _ _ e1'), rfl⟩, _, rfl, t, _, rfl, SqT.of et6, fun hw => ?_, fun hw p2 np2 => ?_⟩
        · rw [List.length_map, List.length_map] at hw
          have e0 := HT.sIx_nat row.length 0 zs.length
          rw [e0] at hw
          have hd : row.drop zs.length = row := by
            rcases Nat.eq_zero_or_pos row.length with h | h
            · rw [List.length_eq_zero_iff.mp h] <;> exact List.drop_nil
            · have : zs.length = 0 := by
                have := hw.1
                omega
              rw [this] <;> rfl
          refine fin t H3 (Same.refl _) ?_
          rw [hd]
          exact et6
        · refine fin p2 _ (same_new np2) ?_
          rw [upd_same, List.length_map, cut_n, List.map_drop]
      · rintro H3 ⟨s6, ws, e6, hw⟩
        rw [hul5, List.take_length] at hw
        exact q D2 H3 ws zs (sG5.free nD2) (sG5.trans s6) e6 hz hw
end
end Nv
set_option maxHeartbeats 4000000
namespace Nv
open PySem PySem.Spec PyProof.Rows L2
/-! # the names are told by what they stand in; no twins; matches have names -/
theorem rise_pw : ∀ (l : List Str) (p : Str), risingS p l = true → (p :: l).Pairwise (fun a b => a.cps.toList ≤ b.cps.toList)
  | [], p, _ => List.pairwise_singleton _ _
  | x :: r, p, h => by
    have h : (!ltCps x.cps.toList p.cps.toList && risingS x r) = true := h
    rw [Bool.and_eq_true, ltCps_eq] at h
    have h2 := rise_pw r x h.2
    have px : p.cps.toList ≤ x.cps.toList := List.not_lt.mp (by simpa using h.1)
    refine List.pairwise_cons.mpr ⟨fun y hy => ?_, h2⟩
    rcases List.mem_cons.mp hy with rfl | hy
    · exact px
    · exact List.le_trans px ((List.pairwise_cons.mp h2).1 y hy)
theorem sorted_pw {l : List Str} (h : sortedS l = true) : l.Pairwise (fun a b => a.cps.toList ≤ b.cps.toList) := by
  cases l with
  | nil => exact .nil
  | cons x r => exact rise_pw r x h
theorem str_of_list {a b : Str} (h : a.cps.toList = b.cps.toList) : a = b := by
  rw [str_eta a, str_eta b, h]
theorem NamesOf.uniq {ts zs zs' : List Str} (h : NamesOf ts zs) (h' : NamesOf ts zs') : zs = zs' :=
  List.Perm.eq_of_pairwise (le := fun a b : Str => a.cps.toList ≤ b.cps.toList) (fun a b _ _ x y => str_of_list (List.le_antisymm x y)) (sorted_pw h.up) (sorted_pw h'.up) ((List.perm_ext_iff_of_nodup h.nd h'.nd).mpr fun z => (h.mem z).trans (h'.mem z).symm)
theorem cols_get {pat : List Str} : (colsOf pat).map (fun c => pat.getD c "") = pat.drop 1 := by
  unfold colsOf
  refine List.ext_getElem? fun i => ?_
  rw [List.getElem?_map, List.getElem?_drop]
  by_cases h : i < pat.length - 1
  · rw [List.getElem?_range' h, Nat.one_mul]
    show some (pat.getD (1 + i) "") = _
    rw [List.getD_eq_getElem?_getD, List.getElem?_eq_getElem (by omega)] <;> rfl
  · rw [List.getElem?_eq_none (by rw [List.length_range']; omega), List.getElem?_eq_none (by omega)] <;> rfl
theorem noTwin_of {ts pat : List Str} (h : (pat.drop 1).Nodup) : NoTwin ts pat := by
  unfold NoTwin newsIn
  rw [← cols_get] at h
  exact h.sublist ((List.filter_sublist).map _)
theorem stepT_le {ts p : List Str} : ts.length ≤ (stepTerms ts p).length := by
  unfold stepTerms termsIn
  rw [List.length_append]
  exact Nat.le_add_right _ _
theorem planT_le : ∀ {ps : List (List Str)} {ts : List Str}, ts.length ≤ (planT ts ps).length
  | [], _ => Nat.le_refl _
  | p :: ps, ts => Nat.le_trans stepT_le (planT_le (ps := ps) (ts := stepTerms ts p))
theorem stepT_more {ts p : List Str} {x : Str} (hx : x ∈ p.drop 1) (hn : x ∉ ts) : ts.length < (stepTerms ts p).length := by
  unfold stepTerms termsIn newsIn
  rw [List.length_append, List.length_map]
  rw [← cols_get] at hx
  obtain ⟨c, hc, e⟩ := List.mem_map.mp hx
  have : c ∈ (colsOf p).filter fun c => !decide (p.getD c "" ∈ ts) := List.mem_filter.mpr ⟨hc, by rw [e, decide_eq_false hn] <;> rfl⟩
  have := List.length_pos_of_mem this
  omega
theorem planT_more {ts p : List Str} {ps : List (List Str)} {x : Str} (hx : x ∈ p.drop 1) (hn : x ∉ ts) : ts.length < (planT ts (p :: ps)).length := Nat.lt_of_lt_of_le (stepT_more hx hn) (planT_le (ps := ps) (ts := stepTerms ts p))
theorem fold_wide {prs : List (List Str)} : ∀ (pats : List (List Str)) (ts : List Str) (pss : List (List (List Str))) (r : List (List Str)), pss.length = pats.length → (∀ x ∈ r, x.length = ts.length) → ∀ x ∈ ((planOf ts pats).zip pss).foldl (stepR prs) r, x.length = (planT ts pats).length
  | [], ts, pss, r, _, h => h
  | p :: pats, ts, [], r, hl, h => by cases hl
  | p :: pats, ts, q :: pss, r, hl, h => fold_wide pats (stepTerms ts p) pss (stepR prs r ((p, ts), q)) (Nat.succ.inj hl) (onw_wide h)
theorem metF_wide {zs : List Str} {pats prs ps : List (List Str)} : ∀ x ∈ metF zs pats prs ps, x.length = (planT zs pats).length - zs.length := fun x hx => by
  unfold metF at hx
  obtain ⟨row, hr, rfl⟩ := List.mem_map.mp hx
  rw [List.length_drop]
  unfold rowsF at hr
  rw [fold_wide pats zs _ _ List.length_replicate (fun y hy => by rw [List.mem_singleton.mp (keepA_sub _ hy)]) row hr]
/-- patterns, pairs of which matches have names: no variable twice in one, the first one has one -/
structure Mat (pats : List (List Str)) : Prop where
  nt : ∀ p ∈ pats, (p.drop 1).Nodup
  vr : ∃ p ps x, pats = p :: ps ∧ x ∈ p.drop 1 ∧ IsVr x
theorem plan_nt : ∀ {pats : List (List Str)} {ts : List Str}, (∀ p ∈ pats, (p.drop 1).Nodup) → ∀ z ∈ planOf ts pats, NoTwin z.2 z.1
  | [], _, _, z, hz => by cases hz
  | p :: pats, ts, h, z, hz => by
    rcases List.mem_cons.mp hz with rfl | hz
    · exact noTwin_of (h p List.mem_cons_self)
    · exact plan_nt (fun q hq => h q (List.mem_cons_of_mem _ hq)) z hz
theorem Mat.ne {pats prs ps : List (List Str)} {ts zs : List Str} (m : Mat pats) (h : NamesOf ts zs) : ∀ x ∈ metF zs pats prs ps, x ≠ [] := fun x hx e => by
  obtain ⟨p, qs, y, rfl, hy, vy⟩ := m.vr
  have h1 := metF_wide x hx
  have h2 := planT_more (ps := qs) hy (fun z => nm_not_vr ((h.mem y).mp z).2 vy : y ∉ zs)
  rw [e, List.length_nil] at h1
  omega
end Nv
set_option maxHeartbeats 4000000
namespace Nv
open PySem PySem.Spec PyProof.Rows L2
/-! # what the law's bodies, gaps and bars are good for -/
theorem hm_iff {ts : List Str} {ps : List (List Str)} : hasMore ts ps = false ↔ ∀ y ∈ ts, IsVr y → y ∈ tails ps := by
  unfold hasMore
  rw [List.any_eq_false]
  constructor
  · intro h y hy v
    have h1 := h y (varsIn_mem.mpr ⟨hy, v⟩)
    by_cases h2 : y ∈ varsIn (tails ps)
    · exact (varsIn_mem.mp h2).1
    · rw [decide_eq_false h2] at h1
      exact absurd rfl h1
  · intro h y hy
    obtain ⟨h1, h2⟩ := varsIn_mem.mp hy
    rw [decide_eq_true (varsIn_mem.mpr ⟨h y h1 h2, h2⟩)]
    exact fun z => nomatch z
theorem vr_X : IsVr "X" := by decide +kernel
theorem vr_Y : IsVr "Y" := by decide +kernel
theorem nm_a : IsNm "a" := by decide +kernel
theorem nm_q : IsNm "q" := by decide +kernel
theorem nm_r : IsNm "r" := by decide +kernel
theorem nm_rain : IsNm "rain" := by decide +kernel
theorem tmP {t : Str} (ht : t = "X" ∨ t = "Y" ∨ t = "a") : IsVr t ∨ IsNm t := by
  rcases ht with rfl | rfl | rfl
  · exact .inl vr_X
  · exact .inl vr_Y
  · exact .inr nm_a
theorem body3_pat {t : Str} (ht : t = "X" ∨ t = "Y" ∨ t = "a") : ∀ p ∈ body3 t, PatOk p ∧ (p.drop 1).Nodup ∧ 2 ≤ p.length := fun p hp => by
  have nxy : (["X", "Y"] : List Str).Nodup := by decide +kernel
  have nyx : (["Y", "X"] : List Str).Nodup := by decide +kernel
  rcases List.mem_cons.mp hp with rfl | hp
  · refine ⟨⟨"way", ["X", "Y"], rfl, nm_way, by show 2 ≤ 3; decide, fun x hx => ?_⟩, nxy, by show 2 ≤ 3; decide⟩
    rcases List.mem_cons.mp hx with rfl | hx
    · exact .inl vr_X
    · rw [List.mem_singleton.mp hx]
      exact .inl vr_Y
  rcases List.mem_cons.mp hp with rfl | hp
  · refine ⟨⟨"p", [t], rfl, nm_p, by show 1 ≤ 3; decide, fun x hx => ?_⟩, (by simp), by show 2 ≤ 2; decide⟩
    rw [List.mem_singleton.mp hx]
    exact tmP ht
  rw [List.mem_singleton.mp hp]
  refine ⟨⟨"way", ["Y", "X"], rfl, nm_way, by show 2 ≤ 3; decide, fun x hx => ?_⟩, nyx, by show 2 ≤ 3; decide⟩
  rcases List.mem_cons.mp hx with rfl | hx
  · exact .inl vr_Y
  · rw [List.mem_singleton.mp hx]
    exact .inl vr_X
structure BodyP (ps : List (List Str)) : Prop where
  pat : ∀ p ∈ ps, PatOk p
  two : ∀ p ∈ ps, 2 ≤ p.length
  mat : Mat ps
  len : ps.length = 1 ∨ ps.length = 2 ∨ ps.length = 3
  x : ("X" : Str) ∈ tails ps
  y : ("Y" : Str) ∈ tails ps
theorem BodyOk.p {ps : List (List Str)} (h : BodyOk ps) : BodyP ps := by
  obtain ⟨t, j, ht, hj, rfl⟩ := h
  have g := body3_pat ht
  have hd : ∃ rest : List (List Str), (body3 t).take j = (["way", "X", "Y"] : List Str) :: rest := by
    rcases hj with rfl | rfl | rfl <;> exact ⟨_, rfl⟩
  obtain ⟨rest, e⟩ := hd
  have tl : ∀ z : Str, z ∈ (["X", "Y"] : List Str) → z ∈ tails ((body3 t).take j) := fun z hz => by
    rw [e]
    unfold tails
    rw [List.map_cons, List.flatten_cons]
    exact List.mem_append.mpr (.inl hz)
  refine ⟨fun p hp => (g p (List.mem_of_mem_take hp)).1, fun p hp => (g p (List.mem_of_mem_take hp)).2.2, ⟨fun p hp => (g p (List.mem_of_mem_take hp)).2.1, ⟨_, rest, "X", e, ?_, vr_X⟩⟩, ?_, tl _ (by simp), tl _ (by simp)⟩
  · exact List.mem_cons_self
  · rcases hj with rfl | rfl | rfl
    · exact .inl rfl
    · exact .inr (.inl rfl)
    · exact .inr (.inr rfl)
theorem GapsOk.pair {qs : List (List Str)} (h : GapsOk qs) : (∀ q ∈ qs, PairOk q) ∧ qs.length ≤ 2 ∧ ∀ z ∈ qs.flatten, z = "X" ∨ z = "Y" ∨ z = "a" := by
  have p1 : PairOk ["X", "Y"] := ⟨_, _, rfl, by decide +kernel, .inr vr_X, .inr vr_Y, .inl vr_X⟩
  have p2 : PairOk ["X", "a"] := ⟨_, _, rfl, by decide +kernel, .inr vr_X, .inl nm_a, .inl vr_X⟩
  rcases h with rfl | rfl | rfl
  · exact ⟨(fun _ h => nomatch h), (by show 0 ≤ 2; decide), (fun _ h => nomatch h)⟩
  · refine ⟨fun q hq => by rw [List.mem_singleton.mp hq]; exact p1, by show 1 ≤ 2; decide, fun z hz => ?_⟩
    rcases List.mem_cons.mp (show z ∈ (["X", "Y"] : List Str) from hz) with rfl | hz
    · exact .inl rfl
    · exact .inr (.inl (List.mem_singleton.mp hz))
  · refine ⟨fun q hq => ?_, by show 2 ≤ 2; decide, fun z hz => ?_⟩
    · rcases List.mem_cons.mp hq with rfl | hq
      · exact p2
      · rw [List.mem_singleton.mp hq]
        exact p1
    · rcases List.mem_cons.mp (show z ∈ (["X", "a", "X", "Y"] : List Str) from hz) with rfl | hz
      · exact .inl rfl
      rcases List.mem_cons.mp hz with rfl | hz
      · exact .inr (.inr rfl)
      rcases List.mem_cons.mp hz with rfl | hz
      · exact .inl rfl
      exact .inr (.inl (List.mem_singleton.mp hz))
theorem BarsOk.pat {ds : List (List Str)} (h : BarsOk ds) : (∀ p ∈ ds, PatOk p) ∧ ds.length ≤ 2 ∧ ∀ z ∈ tails ds, z = "X" := by
  obtain ⟨j, hj, rfl⟩ := h
  have g : ∀ p ∈ ([["rain"], ["q", "X"]] : List (List Str)), PatOk p ∧ ∀ z ∈ p.tail, z = "X" := fun p hp => by
    rcases List.mem_cons.mp hp with rfl | hp
    · exact ⟨⟨"rain", [], rfl, nm_rain, (by show 0 ≤ 3; decide), (fun _ h => nomatch h)⟩, (fun _ h => nomatch h)⟩
    · rw [List.mem_singleton.mp hp]
      refine ⟨⟨"q", ["X"], rfl, nm_q, by show 1 ≤ 3; decide, fun x hx => ?_⟩, fun z hz => List.mem_singleton.mp hz⟩
      rw [List.mem_singleton.mp hx]
      exact .inl vr_X
  refine ⟨fun p hp => (g p (List.mem_of_mem_take hp)).1, ?_, fun z hz => ?_⟩
  · rw [List.length_take]
    exact Nat.min_le_right _ _
  · unfold tails at hz
    obtain ⟨l, hl, hz⟩ := List.mem_flatten.mp hz
    obtain ⟨p, hp, rfl⟩ := List.mem_map.mp hl
    exact (g p (List.mem_of_mem_take hp)).2 z hz
def theRule (ps qs ds : List (List Str)) : Rl := ⟨"r", ["q", "X"], ps, qs, ds⟩
theorem head_ok : PatOk ["q", "X"] := ⟨"q", ["X"], rfl, nm_q, by show 1 ≤ 3; decide, fun x hx => by rw [List.mem_singleton.mp hx]; exact .inl vr_X⟩
section
variable {ps qs ds : List (List Str)} (b : BodyOk ps) (g : GapsOk qs) (d : BarsOk ds)
include b g d
theorem rule_ok : (theRule ps qs ds).Ok := by
  have hl := b.p.len
  have h2 := g.pair.2.1
  have h3 := d.pat.2.1
  exact ⟨nm_r, head_ok, b.p.pat, by show ps.length ≤ 300; omega, g.pair.1, by show qs.length ≤ 300; omega, d.pat.1, by show ds.length ≤ 300; omega⟩
theorem rule_clo : Clo (theRule ps qs ds) := by
  have gx : ∀ z : Str, z = "X" ∨ z = "Y" ∨ z = "a" → IsVr z → z ∈ tails ps := fun z hz v => by
    rcases hz with rfl | rfl | rfl
    · exact b.p.x
    · exact b.p.y
    · exact absurd v (nm_not_vr nm_a)
  refine ⟨hm_iff.mpr fun y hy _ => ?_, hm_iff.mpr fun y hy v => gx y (g.pair.2.2 y hy) v, hm_iff.mpr fun y hy v => ?_⟩
  · rw [List.mem_singleton.mp (show y ∈ (["X"] : List Str) from hy)]
    exact b.p.x
  · rw [d.pat.2.2 y hy]
    exact b.p.x
end
section
variable {ps qs : List (List Str)} (b : BodyOk ps) (g : GapsOk qs) {j : Nat}
include b g
theorem q_ok : (⟨(["X", "Y"] : List Str).take j, ps, qs⟩ : Ql).Ok := by
  have hl := b.p.len
  have h2 := g.pair.2.1
  refine ⟨fun y hy => ?_, ?_, b.p.pat, by show ps.length ≤ 300; omega, g.pair.1, by show qs.length ≤ 300; omega⟩
  · rcases List.mem_cons.mp (List.mem_of_mem_take hy) with rfl | hy
    · exact vr_X
    · rw [List.mem_singleton.mp hy]
      exact vr_Y
  · show ((["X", "Y"] : List Str).take j).length ≤ 300
    rw [List.length_take]
    exact Nat.le_trans (Nat.min_le_right _ _) (by show 2 ≤ 300; decide)
theorem q_clo : QClo ⟨(["X", "Y"] : List Str).take j, ps, qs⟩ := by
  refine ⟨hm_iff.mpr fun y hy v => ?_, hm_iff.mpr fun y hy v => ?_⟩
  · rcases List.mem_cons.mp (List.mem_of_mem_take (show y ∈ (["X", "Y"] : List Str).take j from hy)) with rfl | hy
    · exact b.p.x
    · rw [List.mem_singleton.mp hy]
      exact b.p.y
  · rcases g.pair.2.2 y hy with rfl | rfl | rfl
    · exact b.p.x
    · exact b.p.y
    · exact absurd v (nm_not_vr nm_a)
end
end Nv
set_option maxHeartbeats 4000000
namespace Nv
open PySem PySem.Spec PyProof.Rows L2
/-! # calls by keywords alone: defs, methods -/
theorem fun_kbn {K : PySem.W.Frag} {x qual : Str} {st : Stmt} {f : Addr} {fd : FuncData} {ps : List Str} (F : Fun K x qual st f fd) (n : Nat) (ks : List Str) (g : {α : Type} → List α → List α → List α)
    (hrel : ∀ {vs zs : List V} {us ws : List Value}, Vals vs us → Vals zs ws → Vals (g vs zs) (g us ws))
    (h : ∀ (kV doc pm : Value) (an : Option Addr) (cdv ct : Value) (us ws : List Value), us.length = n → ws.length = ks.length → bindArgs (PySem.W.fnOf x qual (defArgs st) (defBody st) (defScope st) .none kV doc pm an cdv ct) ⟨us, ks.zip ws⟩ = pure (ps.zip (g us ws))) :
    KBn K fd ps n ks (fun us ws => g us ws) (fun vs zs => g vs zs) := by
  obtain ⟨oc, od, kV, doc, pm, an, cdv, ct, osl, rfl, lk, hcd⟩ := F.ex
  exact ⟨fun s us ws _ l1 l2 => .of_eq (h kV doc pm an cdv ct us ws l1 l2), fun a b => hrel a b⟩
section
variable {X : Cx} {CX : CXT} {k n : Nat} {f C : Addr} {fd : FuncData} {ps ks : List Str} {sp : Sp} {E : XK} {x m : Str} {p pos apos : Pos} {o : Expr} {kws : List Keyword} {ta : TE} {tk : TA} {g : List Value → List Value → List Value} {gV : List V → List V → List V}
/-- f(k = v, ..) -/
theorem pe_callK0 (F : FnOk X.prog X.w X.K X.mg X.base CX k f fd ps sp) (hr : Room k X.A) (hg : Gl X x) (hm : X.mg x = some (.ref f)) (hk : PySem.W.keepIn X.K (.ref f) = true) (hb : KBn X.K fd ps 0 ks g gV) (hx : Passes CX X E)
    (hkw : PK X kws tk) (hall : (backToKw pos (keywordEach kws X.env)).all (·.1.isSome) = true := by rfl) (hks : (backToKw pos (keywordEach kws X.env)).filterMap (·.1) = ks := by rfl)
    (hdb : (x == ("__debug__" : Str)) = false := by decide)
    (hpl : ((backTo pos (starEach [] X.env)).any (·.1) || (backToKw pos (keywordEach kws X.env)).any (·.1.isNone)) = false := by rfl) :
    PE X (.Call (.Name x p) [] kws pos) (tCallN 0 ks.length sp gV E tNil tk) := by
  refine ⟨fun pins s σ H Q I h => ?_⟩
  refine wpAny_Call_Name_kw (ld_glob I hg hm ?_ hdb)
  refine PySem.W.callWith_KW0 (h₀ := X.base) I.ok.mod.kin hk hall (thn (hkw.run pos pins s σ H _ I h) fun ws s2 ⟨zs, H2, I2, rz, l1, l2, q2⟩ => ⟨I2.kIn, ?_⟩) hpl
  rw [hks]
  exact run_fnN (us := []) (vs := []) F hr hb hx I2 .nil rz rfl l2 q2
/-- o.m(k = v, ..) -/
def tMethK (C : Addr) (m : Str) (n : Nat) (sp : Sp) (gV : List V → List V → List V) (E : XK) (ta : TE) (tk : TA) : TE := fun σ H Q => ta σ H fun x H1 => ∃ a dx fs, x = .ref a ∧ H1 a = some (.ins C dx fs) ∧ fs.lookup m = none ∧ tk σ H1 fun zs H2 => zs.length = n ∧ sp (gV [x] zs) H2 Q E
theorem pe_methK0 {pl : Sem Bool} (he : PE X o ta) (c : Cls X.K C) (hm : Meth X.K C m f) (F : FnOk X.prog X.w X.K X.mg X.base CX k f fd ps sp) (hr : Room k X.A) (hb : KBn X.K fd ps 1 ks g gV) (hx : Passes CX X E)
    (hkw : PK X kws tk) (hall : (backToKw pos (keywordEach kws X.env)).all (·.1.isSome) = true := by rfl) (hks : (backToKw pos (keywordEach kws X.env)).filterMap (·.1) = ks := by rfl)
    (hpl : ((backTo pos (starEach [] X.env)).any (·.1) || (backToKw pos (keywordEach kws X.env)).any (·.1.isNone)) = false := by rfl)
    (ht : eval (.Call (.Attribute o m apos) [] kws pos) X.env = (do
      let ov ← eval o X.env
      standAt apos.atName
      let (f, first) ← holding [ov] (getMethod ov m pl)
      callWith pos f first (backTo pos (starEach [] X.env)) (backToKw pos (keywordEach kws X.env))) := by rfl) :
    PE X (.Call (.Attribute o m apos) [] kws pos) (tMethK C m ks.length sp gV E ta tk) := by
  refine ⟨fun pins s σ H Q I h => ?_⟩
  refine PySem.W.methodCall_KW (pl := pl) (thn (he.run pins s σ H _ I h) fun u s1 ⟨x, H1, I1, rx, a, dx, fs, ex, ea, l, q⟩ => ?_) ht
  subst ex
  obtain rfl : u = Value.ref a := rx
  refine getmeth_ok I1 ea c hm l ?_
  refine PySem.W.callWith_KW0 (first := [.ref a]) (h₀ := X.base) I1.ok.mod.kin hm.kp hall (thn (hkw.run pos pins s1 σ H1 _ I1 q) fun ws s2 ⟨zs, H2, I2, rz, l2, q2⟩ => ⟨I2.kIn, ?_⟩) hpl
  rw [hks]
  exact run_fnN (us := [.ref a]) (vs := [.ref a]) F hr hb hx I2 (.cons rfl .nil) rz rfl l2 q2
end
end Nv
set_option maxHeartbeats 4000000
namespace Nv
open PySem PySem.Spec PyProof.Rows L2
/-! # _law_made_right -/
section
variable (P : Program) (w : World) (K : PySem.W.Frag) (mg : Str → Option Value) (base : Heap)
/-- a class made by its name, by place and by keywords (in the other order) -/
structure MadeA (C : Addr) (x : Str) (k : Nat) (ps ks : List Str) (sp : Sp) : Prop where
  ex : ∃ f fd g, FnOk P w K mg base CX0 k f fd ps sp ∧ Mk K C f ∧ mg x = some (.ref C) ∧ Binds K fd ps [] ∧ KBn K fd ps 1 ks g (fun vs zs => vs ++ zs.reverse)
structure OwnA (C : Addr) (x : Str) (k : Nat) (ps : List Str) (sp : Sp) : Prop where
  ex : ∃ f fd, FnOk P w K mg base CX0 k f fd ps sp ∧ PySem.W.findIn K (.ref C) x = some (some (.ref f)) ∧ PySem.W.isFn K (.ref f) = true ∧ Binds K fd ps []
structure MethKA (C : Addr) (x : Str) (k : Nat) (ps ks : List Str) (sp : Sp) : Prop where
  ex : ∃ f fd g, FnOk P w K mg base CX0 k f fd ps sp ∧ Meth K C x f ∧ KBn K fd ps 1 ks g (fun vs zs => vs ++ zs.reverse)
end
section
variable {P : Program} {w : World} {K : PySem.W.Frag} {mg : Str → Option Value} {base : Heap}
def spMadeRight : Sp := fun vs H Q _ => ∃ (tb tg td tt : Addr) (us uq ud : List V) (ps qs ds : List (List Str)) (j : Nat), vs = [.ref tb, .ref tg, .ref td, .ref tt] ∧ BodyOk ps ∧ GapsOk qs ∧ BarsOk ds ∧ (H tb = some (.lst us) ∧ PaL H us ps) ∧ (H tg = some (.lst uq) ∧ PaL H uq qs) ∧ (H td = some (.lst ud) ∧ PaL H ud ds) ∧
  H tt = some (.lst ((([("X" : Str), "Y"]).take j).map V.str)) ∧ ∀ H', Same H H' → Q (.bl true) H'
theorem scMadeRight : FnScope ["_law_body", "_law_gaps", "_law_bars", "_law_tops", "_law_made", "_law_whole"] ["_law_body", "_law_gaps", "_law_bars", "_law_tops"] (defScope sMadeRight) := ⟨rfl, rfl, rfl, by decide +kernel, rfl, by decide +kernel, by decide +kernel⟩
theorem ok_madeRight {f CR CQ CB : Addr} {fd : FuncData} (F : Fun K "_law_made_right" "_law_made_right" sMadeRight f fd) (RR : RC K CR) (IR : IC K CR) (RQ : QC K CQ) (IQ : IC K CQ) (cB : Cls K CB) (IB : IC K CB) (nB : NoAttr K CB "_rules")
    (MR : MadeA P w K mg base CR "Rule" 5 ["self", "label", "head", "told", "pairs", "denied"] ["denied", "pairs", "told", "head", "label"] (spRuleInit CR))
    (MQ : MadeA P w K mg base CQ "Question" 5 ["self", "columns", "told", "pairs"] ["pairs", "told", "columns"] (spQInit CQ))
    (MB : MadeA P w K mg base CB "Book" 3 ["self", "rules"] ["rules"] (spBookInit CR CB))
    (ER : OwnA P w K mg base CR "__eq__" 1 ["self", "other"] (spRuleEq K CR)) (nR : PySem.W.findIn K (.ref CR) "__ne__" = some (some (.builtin "object.__ne__")))
    (EQ : OwnA P w K mg base CQ "__eq__" 1 ["self", "other"] (spQEq K CQ)) (nQ : PySem.W.findIn K (.ref CQ) "__ne__" = some (some (.builtin "object.__ne__")))
    (EB : OwnA P w K mg base CB "__eq__" 3 ["self", "other"] (spBookEq K CR CB))
    (BR : MethKA P w K mg base CB "rule" 4 ["self", "label"] ["label"] (spBookRule CR CB)) (BW : MethKA P w K mg base CB "without" 5 ["self", "label"] ["label"] (spBookWithout CR CB)) :
    FnOk P w K mg base CX0 7 f fd ["_law_body", "_law_gaps", "_law_bars", "_law_tops"] spMadeRight := by
  obtain ⟨fR, dR, gvR, GR, mkR, gR, bR, kR⟩ := MR.ex
  obtain ⟨fQ, dQ', gvQ, GQ, mkQ, gQ, bQ, kQ⟩ := MQ.ex
  obtain ⟨fB, dB, gvB, GB, mkB, gB, bB, kB⟩ := MB.ex
  obtain ⟨fe, de, Ge, se, ie, be⟩ := ER.ex
  obtain ⟨fq, dq, Gq, sq, iq, bq⟩ := EQ.ex
  obtain ⟨fb, db, Gb, sb, ib, bb⟩ := EB.ex
  obtain ⟨f5, d5, g5, G5, m5, k5⟩ := BR.ex
  obtain ⟨f6, d6, g6, G6, m6, k6⟩ := BW.ex
  refine F.ok scMadeRight (fun vs H Q E h => ?_) (fun cdv A outer s H vs Q E hr h => ?_)
  · obtain ⟨tb, tg, td, tt, us, uq, ud, ps, qs, ds, j, rfl, _⟩ := h
    rfl
  · obtain ⟨tb, tg, td, tt, us, uq, ud, ps, qs, ds, j, rfl, hb, hg, hd, ⟨eb, pb⟩, ⟨eg, pg⟩, ⟨ed, pd⟩, ett, q⟩ := h
    have hr1 : Room 1 _ := hr.mono (by decide)
    have hr2 : Room 2 _ := hr.mono (by decide)
    have hr3 : Room 3 _ := hr.mono (by decide)
    have hr4 : Room 4 _ := hr.mono (by decide)
    have hr5 : Room 5 _ := hr.mono (by decide)
    refine ⟨_, pss_cons (ps_set (i := 4) scMadeRight.nd rfl (Or.inl rfl) (by exact (pe_make mkR GR hr (by rfl) gR bR .nil pass0 (pa_cons pe_str (pa_cons (pe_tup (pa_cons pe_str (pa_cons pe_str pa_nil))) (pa_cons (pv 0) (pa_cons (pv 1) (pa_cons (pv 2) pa_nil))))))))
      (pss_cons (ps_if (pt_cmpR (op_ownNe Ge hr2 se nR IR.hm ie be) (by exact (pe_makeK0 mkR GR hr (by rfl) gR kR pass0 (pk_cons (pv 2) (pk_cons (pv 1) (pk_cons (pv 0) (pk_cons (pe_tup (pa_cons pe_str (pa_cons pe_str pa_nil))) (pk_cons pe_str pk_nil))))))) (pv 4) (nomark _)) (pss_one (ps_ret pe_bl)) pss_nil)
      (pss_cons (ps_if (pt_cmpR (op_ownNe Gq hr2 sq nQ IQ.hm iq bq) (by exact (pe_makeK0 mkQ GQ hr (by rfl) gQ kQ pass0 (pk_cons (pv 1) (pk_cons (pv 0) (pk_cons (pv 3) pk_nil))))) (by exact (pe_make mkQ GQ hr (by rfl) gQ bQ .nil pass0 (pa_cons (pv 3) (pa_cons (pv 0) (pa_cons (pv 1) pa_nil))))) (nomark _)) (pss_one (ps_ret pe_bl)) pss_nil)
      (pss_cons (ps_set (i := 5) scMadeRight.nd rfl (Or.inl rfl) (by exact (pe_makeK0 mkB GB hr4 (by rfl) gB kB pass0 (pk_cons (pe_lst (pa_cons (pv 4) pa_nil)) pk_nil))))
      (pss_one (ps_ret (pe_and (pe_cmpR (op_ownEq Gb hr3 sb ib bb) (pv 5) (by exact (pe_make mkB GB hr4 (by rfl) gB bB .nil pass0 (pa_cons (pe_lst (pa_cons (pv 4) pa_nil)) pa_nil))) (nomark _))
        (pe_and (pe_cmpR (op_ownEq Ge hr1 se ie be) (by exact (pe_methK0 (pv 5) cB m5 G5 hr4 k5 pass0 (pk_cons pe_str pk_nil))) (pv 4) (nomark _))
        (pe_one (pe_cmpR (op_ownEq Gb hr3 sb ib bb) (by exact (pe_methK0 (pv 5) cB m6 G6 hr5 k6 pass0 (pk_cons pe_str pk_nil))) (by exact (pe_make mkB GB hr4 (by rfl) gB bB .nil pass0 (pa_cons (pe_lst pa_nil) pa_nil))) (nomark _)))))))))), ?_⟩
    have ok := rule_ok hb hg hd
    have clo := rule_clo hb hg hd
    have lq : qs.length ≤ 300 := by have := hg.pair.2.1; omega
    have ld : ds.length ≤ 300 := by have := hd.pat.2.1; omega
    refine ⟨by show 2 ≤ _; decide, fun th nth => ?_⟩
    have s1 : Same H (upd H th (.tup [.str "q", .str "X"])) := same_new nth
    have eth : upd H th (.tup [.str "q", .str "X"]) th = some (.tup [.str "q", .str "X"]) := upd_same
    generalize upd H th (.tup [.str "q", .str "X"]) = H1 at s1 eth ⊢
    refine ⟨_, rfl, _, rfl, _, rfl, ?_⟩
    dsimp only [tNil]
    intro x dx nx ndx ne
    refine mk_rule (y := theRule ps qs ds) ok clo nx ndx eth (s1 _ _ eb) (pb.same s1) (opt_of (s1 _ _ eg) (pg.same s1) lq) (opt_of (s1 _ _ ed) (pd.same s1) ld) fun H2 s2 ra => ⟨rfl, ?_⟩
    have s02 := s1.trans s2
    have raR := ra.ra
    show tSeq _ _ _ _ _
    refine ⟨_, rfl, _, rfl, _, rfl, by show 2 ≤ _; decide, fun th2 nth2 => ?_⟩
    have s3 : Same H2 (upd H2 th2 (.tup [.str "q", .str "X"])) := same_new nth2
    have eth2 : upd H2 th2 (.tup [.str "q", .str "X"]) th2 = some (.tup [.str "q", .str "X"]) := upd_same
    generalize upd H2 th2 (.tup [.str "q", .str "X"]) = H3 at s3 eth2 ⊢
    have s03 := s02.trans s3
    refine ⟨rfl, rfl, ?_⟩
    intro x2 dx2 nx2 ndx2 ne2
    show spRuleInit CR [.ref x2, .str "r", .ref th2, .ref tb, .ref tg, .ref td] _ _ _
    refine mk_rule (y := theRule ps qs ds) ok clo nx2 ndx2 eth2 (s03 _ _ eb) (pb.same s03) (opt_of (s03 _ _ eg) (pg.same s03) lq) (opt_of (s03 _ _ ed) (pd.same s03) ld) fun H4 s4 ra2 => ⟨rfl, ?_⟩
    have s04 := s03.trans s4
    have raR4 := (raR.same s3).same s4
    refine ⟨_, rfl, ne_rules RR IR ra2.ra ok raR4 ok ?_⟩
    rw [decide_eq_true rfl]
    refine ⟨_, rfl, iteF ?_⟩
    show tSeq _ _ _ _ _
    -- the questions
    have qk := q_ok (j := j) hb hg
    have qc := q_clo (j := j) hb hg
    refine ⟨_, rfl, _, rfl, _, rfl, ?_⟩
    refine ⟨rfl, rfl, ?_⟩
    intro y1 dy1 ny1 ndy1 ney1
    show spQInit CQ [.ref y1, .ref tt, .ref tb, .ref tg] _ _ _
    refine mk_q (y := ⟨(["X", "Y"] : List Str).take j, ps, qs⟩) qk qc ny1 ndy1 (s04 _ _ ett) (s04 _ _ eb) (pb.same s04) (opt_of (s04 _ _ eg) (pg.same s04) lq) fun H5 s5 qa1 => ⟨rfl, ?_⟩
    have s05 := s04.trans s5
    refine ⟨_, rfl, _, rfl, _, rfl, ?_⟩
    dsimp only [tNil]
    intro y2 dy2 ny2 ndy2 ney2
    refine mk_q (y := ⟨(["X", "Y"] : List Str).take j, ps, qs⟩) qk qc ny2 ndy2 (s05 _ _ ett) (s05 _ _ eb) (pb.same s05) (opt_of (s05 _ _ eg) (pg.same s05) lq) fun H6 s6 qa2 => ⟨rfl, ?_⟩
    have s06 := s05.trans s6
    refine ne_qs RQ IQ (qa1.ra.same s6) qk qa2.ra qk ?_
    rw [decide_eq_true rfl]
    refine ⟨_, rfl, iteF ?_⟩
    show tSeq _ _ _ _ _
    -- the book
    have raR6 := (raR4.same s5).same s6
    clear qa1 qa2 ra2 ra s1 s2 s3 s4 s5 s6 s02 s03 s04 s05
    refine ⟨_, rfl, by show 1 ≤ _; decide, fun l1 n1 => ?_⟩
    have s7 : Same H6 (upd H6 l1 (.lst [.ref x])) := same_new n1
    have el1 : upd H6 l1 (.lst [.ref x]) l1 = some (.lst ([x].map V.ref)) := upd_same
    generalize upd H6 l1 (.lst [.ref x]) = H7 at s7 el1 ⊢
    refine ⟨rfl, rfl, ?_⟩
    intro b1 db1 nb1 ndb1 neb1
    have ras7 : RAs CR H7 [x] [theRule ps qs ds] := .cons (raR6.same s7) .nil
    show spBookInit CR CB [.ref b1, .ref l1] _ _ _
    refine mk_book (xs := [theRule ps qs ds]) nb1 ndb1 el1 ras7 (by simp) (by show 1 ≤ 100; decide) fun H8 s8 ba => ⟨rfl, ?_⟩
    have oks : ∀ y ∈ [theRule ps qs ds], y.Ok := fun y hy => by rw [List.mem_singleton.mp hy]; exact ok
    have s68 := s7.trans s8
    have ras8 := ras7.same s8
    have baB := ba.ba
    -- what is told
    refine ⟨_, rfl, _, rfl, by show 1 ≤ _; decide, fun l2 n2 => ?_⟩
    have s9 : Same H8 (upd H8 l2 (.lst [.ref x])) := same_new n2
    have el2 : upd H8 l2 (.lst [.ref x]) l2 = some (.lst ([x].map V.ref)) := upd_same
    generalize upd H8 l2 (.lst [.ref x]) = H9 at s9 el2 ⊢
    dsimp only [tNil]
    intro b2 db2 nb2 ndb2 neb2
    refine mk_book (xs := [theRule ps qs ds]) nb2 ndb2 el2 (ras8.same s9) (by simp) (by show 1 ≤ 100; decide) fun H10 s10 ba2 => ⟨rfl, ?_⟩
    have s810 := s9.trans s10
    refine eq_books cB IB (baB.same s810) (ras8.same s810) oks ba2.ba (ras8.same s810) oks fun H11 s11 => ?_
    rw [decide_eq_true rfl]
    refine ⟨_, rfl, iteT ?_⟩
    have s811 := s810.trans s11
    obtain ⟨dxb, lb, ebk, _⟩ := id (baB.same s811)
    refine ⟨_, rfl, b1, dxb, _, rfl, ebk, (lk_no (by decide +kernel)), rfl, ?_⟩
    refine ⟨b1, "r", [x], [theRule ps qs ds], 0, x, rfl, baB.same s811, ras8.same s811, (by show 1 ≤ 1000; decide), by simp, rfl, rfl, fun H12 s12 => ?_⟩
    have s812 := s811.trans s12
    have raR12 := ((raR6.same s68).same s812)
    refine ⟨_, rfl, eq_rules RR IR raR12 ok raR12 ok ?_⟩
    rw [decide_eq_true rfl]
    refine ⟨_, rfl, iteT ?_⟩
    obtain ⟨dxc, lc, ebc, _⟩ := id (baB.same s812)
    refine ⟨_, rfl, b1, dxc, _, rfl, ebc, (lk_no (by decide +kernel)), rfl, ?_⟩
    refine ⟨b1, "r", [x], [theRule ps qs ds], 0, rfl, baB.same s812, ras8.same s812, (by show 1 ≤ 100; decide), by simp, rfl, fun b3 H13 n3 ba3 s13 => ?_⟩
    refine ⟨by show 0 ≤ _; exact Nat.zero_le _, fun l3 n3' => ?_⟩
    have s14 : Same H13 (upd H13 l3 (.lst [])) := same_new n3'
    have el3 : upd H13 l3 (.lst []) l3 = some (.lst (([] : List Addr).map V.ref)) := upd_same
    generalize upd H13 l3 (.lst []) = H14 at s14 el3 ⊢
    dsimp only [tNil]
    intro b4 db4 nb4 ndb4 neb4
    refine mk_book (xs := ([] : List Rl)) nb4 ndb4 el3 .nil (by simp) (by show 0 ≤ 100; decide) fun H15 s15 ba4 => ⟨rfl, ?_⟩
    have s1315 := s14.trans s15
    refine eq_books cB IB (ba3.same s1315) (xs := []) .nil (fun _ h => nomatch h) ba4.ba (ys := []) .nil (fun _ h => nomatch h) fun H16 s16 => ?_
    rw [decide_eq_true rfl]
    exact q H16 ((((s06.trans s68).trans s812).trans (s13.trans s1315)).trans s16)
end
end Nv
set_option maxHeartbeats 4000000
namespace Nv
open PySem PySem.Spec PyProof.Rows L2
/-! # sorted of a list of tuples of texts -/
def encT (p : List Str) : PyData := .tuple (p.map PyData.str)
/-- the list in ascending order -/
def sortT (ps : List (List Str)) : List (List Str) := ps.mergeSort (PySem.W.dataLe false encT)
theorem alike_strs : ∀ p q : List Str, PySem.W.alikeAll (p.map PyData.str) (q.map PyData.str) = true
  | [], _ => by unfold PySem.W.alikeAll; rfl
  | _ :: _, [] => by unfold PySem.W.alikeAll; rfl
  | x :: p, y :: q => by
    show (PySem.W.alike (.str x) (.str y) && PySem.W.alikeAll (p.map PyData.str) (q.map PyData.str)) = true
    rw [alike_strs p q] <;> rfl
theorem encT_depth (p : List Str) : (encT p).depth ≤ 1 := by
  have h : ∀ p : List Str, PyData.depthAll (p.map PyData.str) = 0 := fun p => by
    induction p with
    | nil => rfl
    | cons x p ih =>
      show max 0 (PyData.depthAll (p.map PyData.str)) = 0
      rw [ih] <;> rfl
  show PyData.depthAll (p.map PyData.str) + 1 ≤ 1
  rw [h]
  exact Nat.le_refl _
theorem reads_strs {h : Heap} : ∀ {p : List Str} {us : List Value}, Vals (p.map V.str) us → ∃ as, ReadsAll h us (p.map PyData.str) as
  | [], _, .nil => ⟨[], .nil⟩
  | x :: p, _, .cons r t => by
    obtain ⟨k, rfl⟩ := r
    obtain ⟨as, ih⟩ := reads_strs (h := h) t
    exact ⟨_, .cons (.str x k) ih⟩
/-- refs of tuples, item by item -/
def RefT (H : Hp) (v : Value) (p : List Str) : Prop := ∃ a, v = .ref a ∧ H a = some (.tup (p.map V.str))
theorem refT_of {H : Hp} : ∀ {us : List V} {ps : List (List Str)} {its : List Value}, PaL H us ps → Vals us its → PySem.W.EachIs (RefT H) its ps
  | _, _, _, .nil, .nil => .nil
  | _, _, _, .cons e h, .cons r t => by
    cases r
    exact .cons ⟨_, rfl, e⟩ (refT_of h t)
theorem refT_back {H : Hp} : ∀ {out : List Value} {ps : List (List Str)}, PySem.W.EachIs (RefT H) out ps → ∃ us, Vals us out ∧ PaL H us ps
  | _, _, .nil => ⟨[], .nil, .nil⟩
  | _, _, .cons ⟨a, e, h⟩ t => by
    obtain ⟨us, h1, h2⟩ := refT_back t
    subst e
    exact ⟨.ref a :: us, .cons rfl h1, .cons h h2⟩
def rSortTx (K : PySem.W.Frag) : List V → Hp → VK → Prop := fun vs H Q => ∃ (a : Addr) (us : List V) (ps : List (List Str)), vs = [V.ref a] ∧ SqL K H a us ∧ PaL H us ps ∧ (∀ p ∈ ps, p ≠ []) ∧
  ∀ (p : Addr) (us' : List V), H p = none → PaL H us' (sortT ps) → us'.length = ps.length → Q (.ref p) (upd H p (.lst us'))
theorem cr_sortTx {X : Cx} (hu : X.A.units + 64 < cLine) : CallR X (.builtin "sorted") (rSortTx X.K) := by
  intro pins s σ H vs us0 Q I r h
  obtain ⟨a, us, ps, rfl, hs, hp, hne, q⟩ := h
  rw [Vals.ref1 r]
  obtain ⟨its, rv, pl, hz⟩ := I.list hs
  have e := refT_of hp rv
  have hl := hp.len
  have er : PySem.W.EachIs (fun v b => ∃ as, Reads s.heap v (encT b) as) its ps := e.mono fun v b ⟨t, ev, et⟩ => by
    subst ev
    obtain ⟨its2, r2, ⟨o, ho, hc, n, hd⟩, _⟩ := I.tuple (SqT.of (K := X.K) et)
    obtain ⟨as, h2⟩ := reads_strs (h := s.heap) r2
    exact ⟨as, .tuple ho hc hd (by simpa using h2)⟩
  refine PySem.W.sorted_data (enc := encT) (R := RefT H) (bs := ps) pl.isList e er (fun d hd d' hd' => ?_) (.inl fun d hd => ?_) (by rw [← hl]; exact hz) (fun b _ => ?_) fun out ho eo => ?_
  · obtain ⟨x, _, rfl⟩ := List.mem_map.mp hd
    obtain ⟨y, _, rfl⟩ := List.mem_map.mp hd'
    exact alike_strs x y
  · obtain ⟨x, hx, rfl⟩ := List.mem_map.mp hd
    cases x with
    | nil => exact absurd rfl (hne _ hx)
    | cons y x => exact ⟨_, _, rfl⟩
  · have := encT_depth b
    omega
  · obtain ⟨us', h1, h2⟩ := refT_back eo
    have hlen : us'.length = ps.length := by rw [h1.length, ho]
    obtain ⟨ep, he'⟩ := PyProof.Rows.sortedAll_at s.heap its out.toArray
    exact ⟨.ref _, upd H (s.heap.objs.size + 1) (.lst us'), I.laid (t' := s.toks) (fun _ _ => PyProof.Rows.sortedAll_old) (Nat.le_succ _) ⟨by rw [hlen, ← hl]; exact hz, out, ep, h1, he'⟩, rfl, q _ us' (I.hok.fresh (Nat.le_succ _)) h2 hlen⟩
end Nv
set_option maxHeartbeats 4000000
namespace Nv
open PySem PySem.Spec PyProof.Rows L2
/-! # a set of texts that can be walked -/
def txt : Value → Str
  | .str x _ => x
  | _ => ""
def RowS (w : World) (e : Int × Value) : Prop := ∃ (x : Str) (k : Tok), e = (hashStr w x, .str x k)
/-- the set at a has just the texts L, each once -/
def SetS (w : World) (h : Heap) (a : Addr) (L : List Str) : Prop := ∃ o es ep t, h.get? a = some o ∧ o.ExactSet ∧ o.data = .set es ep t ∧
  ((∀ e ∈ es.toList, RowS w e) ∧ (es.toList.map fun e => txt e.2).Perm L ∧ L.Nodup) ∧ es.size < scanBound ∧ t.fits es.size = true ∧ Ris t.place.toList ∧ (w.params.followText "set-order" = true ∨ t.led = true)
section
variable {P : Program} {w : World} {A : Around} {E : Value → Shared → Prop} {s : Shared} {a : Addr} {L : List Str}
theorem SetS.move {h h' : Heap} (R : SetS w h a L) (k : ∀ o, h.get? a = some o → h'.get? a = some o) : SetS w h' a L := by
  obtain ⟨o, es, ep, t, ho, r⟩ := R
  exact ⟨o, es, ep, t, k o ho, r⟩
theorem rowsS_els {es : List (Int × Value)} (g : ∀ e ∈ es, RowS w e) : ElemsOf (PySem.strKind P w) es := fun e he => by
  obtain ⟨x, k, rfl⟩ := g e he
  exact ⟨⟨x, strKind_is _ _ _ _, rfl⟩, rfl⟩
theorem rowS_is {e : Int × Value} (g : RowS w e) (x : Str) : (PySem.strKind P w).is x e.2 = true ↔ txt e.2 = x := by
  obtain ⟨y, k, rfl⟩ := g
  refine ⟨fun h => ((PySem.strKind P w).inj _ _ _ (strKind_is _ _ _ _) h), fun h => ?_⟩
  cases h
  exact strKind_is _ _ _ _
theorem gaveS (b : Bool) {Q : Unit → Shared → Prop} (q : Q () s) : wpAny (model P w) A (match b with | true => rule "set.scan.the-table-gave-way" | false => pure ()) Q E s := by
  cases b
  · exact wpAny_pure q
  · exact wpAny_rule q
theorem putS {h : Heap} {o : Obj} {es es' : Array (Int × Value)} {ep : Nat} {t t' : SetTable} (ho : h.get? a = some o) (hd : o.data = .set es ep t) : (h.update a (Obj.putSet es' t')).get? a = some { o with data := .set es' (ep + 1) t' } := by
  have e := putSet_of es' t' hd
  rw [← e]
  exact Heap.get?_update_self _ ho (by rw [e] <;> rfl)
theorem fixS {es : Array (Int × Value)} (hp : (∀ e ∈ es.toList, RowS w e) ∧ (es.toList.map fun e => txt e.2).Perm L ∧ L.Nodup) {es' : Array (Int × Value)} (p : es'.toList.Perm es.toList) : (∀ e ∈ es'.toList, RowS w e) ∧ (es'.toList.map fun e => txt e.2).Perm L ∧ L.Nodup :=
  ⟨fun e he => hp.1 e (p.mem_iff.mp he), (p.map _).trans hp.2.1, hp.2.2⟩
theorem sizeS {es : Array (Int × Value)} (hp : (∀ e ∈ es.toList, RowS w e) ∧ (es.toList.map fun e => txt e.2).Perm L ∧ L.Nodup) : es.size = L.length := by
  rw [← hp.2.1.length_eq, List.length_map, Array.length_toList]
theorem findS {es : Array (Int × Value)} (hp : (∀ e ∈ es.toList, RowS w e) ∧ (es.toList.map fun e => txt e.2).Perm L ∧ L.Nodup) (x : Str) :
    (x ∈ L ∧ ∃ j, es.toList.findIdx? (fun e => (PySem.strKind P w).is x e.2) = some j) ∨ (x ∉ L ∧ es.toList.findIdx? (fun e => (PySem.strKind P w).is x e.2) = none) := by
  have mem : x ∈ L ↔ ∃ e ∈ es.toList, txt e.2 = x := by rw [← hp.2.1.mem_iff, List.mem_map]
  cases h : es.toList.findIdx? (fun e => (PySem.strKind P w).is x e.2) with
  | some j =>
    obtain ⟨lt, y, _⟩ := List.findIdx?_eq_some_iff_getElem.mp h
    exact .inl ⟨mem.mpr ⟨_, List.getElem_mem lt, (rowS_is (P := P) (hp.1 _ (List.getElem_mem lt)) x).mp y⟩, j, rfl⟩
  | none =>
    refine .inr ⟨fun m => ?_, rfl⟩
    obtain ⟨e, he, y⟩ := mem.mp m
    have := List.findIdx?_eq_none_iff.mp h e he
    rw [(rowS_is (P := P) (hp.1 e he) x).mpr y] at this
    cases this
theorem newS {es es' : Array (Int × Value)} {x : Str} {k : Tok} (hp : (∀ e ∈ es.toList, RowS w e) ∧ (es.toList.map fun e => txt e.2).Perm L ∧ L.Nodup) (out : x ∉ L) (p : es'.toList.Perm (es.push (hashStr w x, .str x k)).toList) :
    (∀ e ∈ es'.toList, RowS w e) ∧ (es'.toList.map fun e => txt e.2).Perm (x :: L) ∧ (x :: L).Nodup := by
  have p2 : es'.toList.Perm ((hashStr w x, Value.str x k) :: es.toList) := by
    rw [Array.toList_push] at p
    exact p.trans (List.perm_append_singleton _ _)
  refine ⟨fun e he => ?_, (p2.map fun e : Int × Value => txt e.2).trans (hp.2.1.cons x), List.nodup_cons.mpr ⟨out, hp.2.2⟩⟩
  rcases List.mem_cons.mp (p2.mem_iff.mp he) with h | h
  · exact ⟨x, k, h⟩
  · exact hp.1 e h
/-- the new table is stored, and laid again where it is too full -/
theorem tailS {g : Bool → Sem Unit} (hg : ∀ (b : Bool) (s1 : Shared) (Q' : Unit → Shared → Prop), Q' () s1 → wpAny (model P w) A (g b) Q' E s1) {M : List Str} {o : Obj} {es en : Array (Int × Value)} {ep : Nat} {t t2 : SetTable} {wd : Bool} {Q : Option Bool → Shared → Prop}
    (ho : s.heap.get? a = some o) (hex : o.ExactSet) (hd : o.data = .set es ep t) (pN : (∀ e ∈ en.toList, RowS w e) ∧ (en.toList.map fun e => txt e.2).Perm M ∧ M.Nodup) (few : M.length < scanBound)
    (f2 : t2.fits en.size = true) (r2 : Ris t2.place.toList) (l2 : w.params.followText "set-order" = true ∨ t2.led = true)
    (q : ∀ h', Heap.SameBut a s.heap h' → SetS w h' a M → Q (some true) { s with heap := h' }) :
    wpAny (model P w) A (storeSet a en t2 >>= fun _ => if (!wd && t2.tooFull) = true then (do
      g (relayAll t2 en (SetTable.grown en.size)).2.2
      storeSet a (relayAll t2 en (SetTable.grown en.size)).1 (relayAll t2 en (SetTable.grown en.size)).2.1
      pure (some true)) else pure (some true)) Q E s := by
  have small : en.size < scanBound := by rw [sizeS pN]; exact few
  refine wpAny_bind (wpAny_storeSet_of ho hd ?_ (fits_of_scanBound small))
  have o1 := putS (es' := en) (t' := t2) ho hd
  have b1 := Heap.SameBut.update s.heap a (Obj.putSet en t2)
  cases c : (!wd && t2.tooFull) with
  | false =>
    simp only [Bool.false_eq_true, if_false]
    exact wpAny_pure (q _ b1 ⟨_, en, _, t2, o1, hex, rfl, pN, small, f2, r2, l2⟩)
  | true =>
    simp only [if_true]
    have pR := fixS pN (relayAll_perm t2 en (SetTable.grown en.size))
    have fR := relayAll_fits t2 en (SetTable.grown en.size)
    have rR := relayAll_ris t2 en (SetTable.grown en.size)
    have lR := relayAll_led t2 en (SetTable.grown en.size)
    generalize relayAll t2 en (SetTable.grown en.size) = Z at pR fR rR lR ⊢
    obtain ⟨e3, t3, gv3⟩ := Z
    dsimp only at pR fR rR lR ⊢
    have small3 : e3.size < scanBound := by rw [sizeS pR]; exact few
    refine wpAny_bind (hg _ _ _ (wpAny_bind (wpAny_storeSet_of o1 rfl ?_ (fits_of_scanBound small3))))
    exact wpAny_pure (q _ (b1.trans (Heap.SameBut.update _ a _)) ⟨_, e3, _, t3, putS (es' := e3) (t' := t3) o1 rfl, hex, rfl, pR, small3, fR, rR, l2.imp id fun h => lR.trans h⟩)
theorem addHashS {x : Str} {k : Tok} {Q : Bool → Shared → Prop} (R : SetS w s.heap a L) (few : L.length + 1 < scanBound)
    (q : ∀ (b : Bool) (h' : Heap), Heap.SameBut a s.heap h' → SetS w h' a (if x ∈ L then L else x :: L) → Q b { s with heap := h' }) : wpAny (model P w) A (setAddHashed a (.str x k) (hashStr w x)) Q E s := by
  have keep := R
  obtain ⟨o, es, ep, t, ho, hex, hd, hp, hb, hf, hr, hl⟩ := R
  have els : ElemsOf (PySem.strKind P w) es.toList := rowsS_els hp.1
  unfold setAddHashed
  refine wpAny_holding ?_
  show wpAny _ _ (setAddHashedIn a (.str x k) (hashStr w x) (99999 + 1)) _ _ _
  unfold setAddHashedIn
  refine wpAny_bind (wpAny_setState_of ho hd hf ?_)
  dsimp only
  rw [byScan_of (knd := PySem.strKind P w) rfl hb els, if_pos rfl]
  unfold setAddByScan
  refine wpAny_bind (wpAny_bind (wpAny_rule (wpAny_bind (wpAny_setScan_of (knd := PySem.strKind P w) (k := x) (strKind_is _ _ _ _) ho hd hf els ?_))))
  rcases findS (P := P) hp x with ⟨mem, j, e⟩ | ⟨out, e⟩
  · rw [e]
    rw [if_pos mem] at q
    exact wpAny_pure (wpAny_pure (q false s.heap (Heap.SameBut.refl a s.heap) keep))
  rw [e]
  rw [if_neg out] at q
  dsimp only
  have pN := newS hp out (layNew_perm t es (hashStr w x) (.str x k))
  have fN := layNew_fits t es (hashStr w x) (.str x k)
  have rN := layNew_ris t es (hashStr w x) (.str x k) hr
  have lN := layNew_led t es (hashStr w x) (.str x k)
  generalize layNew t es (hashStr w x) (.str x k) = Z at pN fN rN lN ⊢
  obtain ⟨en, tn, wd, gv⟩ := Z
  dsimp only at pN fN rN lN ⊢
  have few2 : (x :: L).length < scanBound := few
  have lN2 : w.params.followText "set-order" = true ∨ tn.led = true := hl.imp id fun h => lN.trans h
  have sc : (Value.str x k).scannable = true := rfl
  refine wpAny_bind (gaveS gv ?_)
  split
  · refine wpAny_bind ?_
    rw [hashByValue_scannable 8 sc]
    refine wpAny_pure ?_
    refine tailS (fun b s1 Q' h => gaveS b h) ho hex hd pN few2 ?_ ?_ ?_ fun h' sb r => wpAny_pure (q true h' sb r)
    · split
      · exact fN
      · exact SetTable.fits_plain_off fN
    · split <;> exact rN
    · split <;> exact lN2
  · refine wpAny_bind (wpAny_pure ?_)
    simp only [↓reduceIte]
    exact tailS (fun b s1 Q' h => gaveS b h) ho hex hd pN few2 fN rN lN2 fun h' sb r => wpAny_pure (q true h' sb r)
end
end Nv
set_option maxHeartbeats 4000000
namespace Nv
open PySem PySem.Spec PyProof.Rows L2
/-! # sorted of a set of texts; its own thing in the purse of objects -/
theorem strs_txt {w : World} : ∀ {es : List (Int × Value)}, (∀ e ∈ es, RowS w e) → StrsAre (es.map (·.2)) (es.map fun e => txt e.2)
  | [], _ => .nil
  | e :: es, g => by
    obtain ⟨x, k, h⟩ := g e List.mem_cons_self
    subst h
    exact .cons x k (strs_txt fun e he => g e (List.mem_cons_of_mem _ he))
theorem strs_perm : ∀ {vs us : List Value}, vs.Perm us → ∀ {zs : List Str}, StrsAre us zs → ∃ ys, StrsAre vs ys ∧ ys.Perm zs := fun {vs us} h => by
  induction h with
  | nil =>
    intro zs r
    exact ⟨zs, r, .refl _⟩
  | cons v p ih =>
    intro zs r
    cases r with
    | cons x k r =>
      obtain ⟨ys, h1, h2⟩ := ih r
      exact ⟨x :: ys, .cons x k h1, h2.cons x⟩
  | swap v u l =>
    intro zs r
    cases r with
    | cons x k r =>
      cases r with
      | cons y j r => exact ⟨y :: x :: _, .cons y j (.cons x k r), .swap x y _⟩
  | trans p1 p2 i1 i2 =>
    intro zs r
    obtain ⟨ys, h1, h2⟩ := i2 r
    obtain ⟨xs, h3, h4⟩ := i1 h1
    exact ⟨xs, h3, h4.trans h2⟩
theorem vals_strs : ∀ {us : List Value} {zs : List Str}, StrsAre us zs → Vals (zs.map V.str) us
  | _, _, .nil => .nil
  | _, _, .cons x k r => .cons ⟨k, rfl⟩ (vals_strs r)
section
variable {P : Program} {w : World} {A : Around} {E : Value → Shared → Prop} {s : Shared} {a : Addr} {L : List Str}
theorem sortedSet {Q : Value → Shared → Prop} (R : SetS w s.heap a L) (hh : A.handled = none)
    (q : ∀ s' p (out : Array Value) (c : Nat) (zs : List Str), (∀ b o, s.heap.get? b = some o → s'.heap.get? b = some o) → s'.gens = s.gens → s'.os = s.os → s.heap.objs.size ≤ p → s'.heap.get? p = some (seqObj "list" out c) →
      StrsAre out.toList zs → sortedS zs = true → zs.Perm L → Q (.ref p) s') : wpAny (model P w) A (call (.builtin "sorted") [.ref a]) Q E s := by
  obtain ⟨o, es, ep, t, ho, hex, hd, hp, hb, hf, hr, hl⟩ := R
  refine Calls.call_function_entry kind_sorted plain_sorted entry_sorted (args_sorted1 _) ?_
  unfold Builtin.«sorted»
  refine wpAny_bind (m := checkCount "sorted" 1 1 _) (wpAny_pure (wpAny_bind (collect_set (A := A.in1) hh ⟨o, ho, hex.1, hd⟩ hf hb hr hl fun s1 vs k1 z1 g1 o1 pm => ?_)))
  obtain ⟨ys, sv, py⟩ := strs_perm pm (strs_txt hp.1)
  have few : vs.length ≤ sizeLine := by
    rw [pm.length_eq, List.length_map, Array.length_toList]
    exact fits_of_scanBound hb
  refine wpAny_bind (wpAny_newList ?_ few)
  have lay : (s1.heap.push (seqObj "list" vs.toArray 0)).get? s1.heap.objs.size = some (seqObj "list" vs.toArray 0) := Heap.get?_push_size _ rfl
  refine wpAny_bind (wpAny_holding (wpAny_call_entry slot_list_sort ⟨_, lay, rfl⟩ entry_list_sort (list_sort_treeKAny strKind_oneLt lay sv.keysOf (fun v1 v2 rest e => keyKind_strs (by rw [← e]; exact sv)) few fun st' p1 up => ⟨_, rfl, ?_⟩) (args_list_sort _)))
  obtain ⟨zs, h1, h2, h3⟩ := sorted_out_str sv p1 up
  obtain ⟨c, at'⟩ := sortedHeap_at (vs := vs) (out := (arrOf st').map (·.2)) lay
  refine wpAny_pure ⟨_, rfl, q _ s1.heap.objs.size _ c zs (fun b u e => ?_) g1 o1 z1 at' h1 h3 ((h2.trans py).trans hp.2.1)⟩
  have e1 := k1 b u e
  have lt := Heap.lt_size e1
  refine Eq.trans (sortedHeap_old (Nat.ne_of_lt lt) ?_) (Heap.get?_push_of_some _ e1)
  rw [size_push']
  exact Nat.lt_succ_of_lt lt
/-! ## the tracked thing -/
/-- the set of texts at a -/
def SetSO (w : World) (a : Addr) (L : List Str) : HO := .ext fun h => SetS w h a L
theorem setSO_is {H : Hp} {h : Heap} (R : SetS w h a L) : ObjOk P w H h a (SetSO w a L) := ⟨R, (by obtain ⟨o, _, _, _, ho, _⟩ := R; exact ⟨o, ho⟩), fun h1 h2 p k => SetS.move p k⟩
theorem setS_new {h : Heap} (b : Bool) (hb : w.params.followText "set-order" = true ∨ b = true) : SetS w (h.push { cls := .type "set", dict := none, data := .set #[] 0 (.fresh 0 0 b) }) h.objs.size [] :=
  ⟨_, #[], 0, .fresh 0 0 b, Heap.get?_push_size _ rfl, ⟨rfl, rfl, rfl⟩, rfl, ⟨fun e he => (by simp at he), List.Perm.refl _, List.nodup_nil⟩, by decide, rfl, List.Pairwise.nil, hb⟩
end
section
variable {X : Cx}
theorem setSO_at {pins : List (Addr × Obj)} {σ : L2.St} {H : Hp} {s : Shared} {a : Addr} {L : List Str} (I : Inv X pins σ H s) (ha : H a = some (SetSO X.w a L)) : SetS X.w s.heap a L := (I.hok a _ ha).1
/-- s.add(text) -/
theorem addSO {pins : List (Addr × Obj)} {σ : L2.St} {H : Hp} {s : Shared} {E : Value → Shared → Prop} {a : Addr} {L : List Str} {x : Str} {k : Tok} {Q : Value → Shared → Prop} (I : Inv X pins σ H s) (ha : H a = some (SetSO X.w a L)) (few : L.length + 1 < scanBound)
    (q : ∀ s', Inv X pins σ (upd H a (SetSO X.w a (if x ∈ L then L else x :: L))) s' → Q .none s') : wpAny (model X.prog X.w) X.A (call (.builtin "set.add") [.ref a, .str x k]) Q E s := by
  have R := setSO_at I ha
  have ty : s.TypeIs (.ref a) "set" := by
    obtain ⟨o, _, _, _, ho, hex, _⟩ := R
    exact ⟨o, ho, hex.1⟩
  refine wpAny_call_entry F.slot_set_add ty F.entry_set_add ?_ (F.args_set_add_2 _ _)
  unfold Builtin.«set.add» Builtin.Frozenset.oneOther
  simp only [List.isEmpty_nil, bind_assoc]
  unfold Builtin.Frozenset.addrOf setAdd
  refine wpAny_bind (wpAny_pure ?_)
  try dsimp only
  refine wpAny_bind (wpAny_pure ?_)
  try dsimp only
  refine wpAny_bind (wpAny_holding (wpAny_bind ((PySem.strKind X.prog X.w).pyHash (k := x) (strKind_is _ _ _ _) (addHashS (s := { s with toks := s.toks + 1 }) R few fun b h' sb R2 => ?_))))
  have there : ∃ u, h'.get? a = some u := by
    obtain ⟨o, _, _, _, ho, _⟩ := R2
    exact ⟨o, ho⟩
  exact wpAny_pure ⟨_, rfl, q _ (I.write (e := a) (t' := s.toks + 1) (by rw [ha]; trivial) (.inl rfl) (fun c u hc hu => (sb.2 c hc).trans hu) there (setSO_is R2))⟩
end
end Nv
set_option maxHeartbeats 4000000
namespace Nv
open PySem PySem.Spec PyProof.Rows L2
/-! # {text for target in iter if ..} -/
section
variable {X : Cx}
/-- D is the new set; W: what holds at each turn; m falls -/
def tSs (w : World) (wi : TI) (g : TG) (tt : TT) (te : TE) (vs : List Nat) : TE := fun σ H Q => wi σ H fun J H1 => ∀ D, H1 D = none →
  ∃ W : Nat → Nat → Hp → Prop, (∃ m, W 0 m (upd H1 D (SetSO w D []))) ∧
    ∀ i m H, W i m H → (J.stop i H ∧ Q (.ref D) H) ∨
      (J.go i H ∧ ∃ Nx : Hp → Prop, (∀ H', Nx H' → ∃ m', m' < m ∧ W (i + 1) m' H') ∧
        ∀ x H', J.yld i H x H' → g x (wipe σ vs) H' fun σ2 H2 => wipe σ2 vs = wipe σ vs ∧ tt σ2 H2 fun b H3 =>
          if b = true then te σ2 H3 fun y H4 => ∃ (c : Str) (L : List Str), y = .str c ∧ H4 D = some (SetSO w D L) ∧ L.length + 1 < scanBound ∧ Nx (upd H4 D (SetSO w D (if c ∈ L then L else c :: L)))
          else Nx H3)
theorem pe_ss {elt tg iter : Expr} {ifs : List Expr} {scope : Scope} {own : List (Str × Nat)} {pos : Pos} {wi : TI} {g : TG} {tt : TT} {te : TE} (calm : X.calm = true) (nd : X.N.Nodup) (pI : PI X tg iter wi) (ok : BlkOk X.N X.env.scope scope own)
    (pG : ∀ (s : Shared) (H : Hp) (C : Addr) (cl : List (Str × Addr)) (fp : List Addr), PG (X.blk s H scope (compEnvC scope cl C X.env) fp) tg g)
    (pT : ∀ (s : Shared) (H : Hp) (C : Addr) (cl : List (Str × Addr)) (fp : List Addr), PTs (X.blk s H scope (compEnvC scope cl C X.env) fp) ifs tt)
    (pE : ∀ (s : Shared) (H : Hp) (C : Addr) (cl : List (Str × Addr)) (fp : List Addr), PE (X.blk s H scope (compEnvC scope cl C X.env) fp) elt te)
    (fd : ∀ x, foldedSetIterable iter X.env x = pure x := by intro _; rfl) : PE X (.SetComp elt [⟨tg, iter, ifs, 0⟩] scope pos) (tSs X.w wi g tt te (own.map (·.2))) := by
  refine ⟨fun pins s σ H Q I want => ?_⟩
  have cells : ∀ y ∈ scope.names, y.2 = .free → ∃ c, X.env.cells.lookup y.1 = some c := fun y hy e => I.ok.has _ (ok.free y hy e)
  rw [PpSet.eval_SetComp]
  refine wpAny_comprehension_free (use := none) rfl fd (closure_ok cells) ok.kind (fun y hy e => by rw [ok.uniq y hy, e]) (thn (pI.run pins s σ H _ I want) fun xv s1 hx => thn hx fun itv s2 got => ?_)
  obtain ⟨it, fp, tn, J, H2, rfl, I2, T, st2, out2, more⟩ := got
  refine PpSet.newSet_ok (newEnv_comp ?_)
  have fresh : H2 s2.heap.objs.size = none := I2.hok.fresh (Nat.le_refl _)
  obtain ⟨W, ⟨m0, w0⟩, turn⟩ := more s2.heap.objs.size fresh
  generalize eD : s2.heap.objs.size = D at fresh w0 turn ⊢
  -- s3: the set is there, empty
  generalize e3 : ({ s2 with heap := s2.heap.push { cls := .type "set", dict := none, data := .set #[] 0 (.fresh 0 0 (!X.w.params.followText "set-order")) } } : Shared) = s3
  have ext3 : ∀ b o, s2.heap.get? b = some o → s3.heap.get? b = some o := fun b o e => by
    rw [← e3]
    exact Heap.get?_push_of_some _ e
  have long3 : s2.heap.objs.size < s3.heap.objs.size := by
    rw [← e3]
    show _ < (s2.heap.push _).objs.size
    rw [Heap.size_push]
    exact Nat.lt_succ_self _
  generalize eH : upd H2 D (SetSO X.w D []) = H3 at w0
  have I3 : Inv X pins σ H3 s3 := by
    rw [← e3, ← eH]
    refine I2.laid (t' := s2.toks) (fun b o e => Heap.get?_push_of_some _ e) (Nat.le_of_eq eD) (setSO_is ?_)
    rw [← eD]
    exact setS_new _ (by cases X.w.params.followText "set-order" <;> simp)
  have below : ∀ b ∈ fp, b < s2.heap.objs.size := fun b hb => (T.obj _ _ st2 b hb).elim fun o h => Heap.lt_size h.1
  have out3 : ∀ b ∈ fp, FpOk X pins H3 b ∧ b < s3.heap.objs.size := fun b hb => by
    refine ⟨⟨?_, (out2 b hb).2⟩, Nat.lt_trans (below b hb) long3⟩
    rw [← eH, upd_ne (Nat.ne_of_lt (eD ▸ below b hb))]
    exact (out2 b hb).1
  have dark : ∀ b ∈ fp, H3 b = none := fun b hb => (out3 b hb).1.1
  have st3 : tn 0 s3.heap := T.keep _ _ _ st2 fun b _ o e => ext3 b o e
  have I4 := block_start I3 ok nd out3
  have gG := pG s3 H3 s3.heap.objs.size (cellsFrom (s3.heap.objs.size + 1) scope.names (cloFrom X.env.cells scope.names [])) fp
  have gT := pT s3 H3 s3.heap.objs.size (cellsFrom (s3.heap.objs.size + 1) scope.names (cloFrom X.env.cells scope.names [])) fp
  have gE := pE s3 H3 s3.heap.objs.size (cellsFrom (s3.heap.objs.size + 1) scope.names (cloFrom X.env.cells scope.names [])) fp
  show codeAny _ _ (.compStart (.SetComp elt [⟨tg, iter, ifs, 0⟩] scope pos) 0 (.ref it) (.ref D) (compEnvC scope (cellsFrom (s3.heap.objs.size + 1) scope.names (cloFrom X.env.cells scope.names [])) s3.heap.objs.size X.env)) (compPost (model X.prog X.w) X.A X.xe none _ (.ref D) s3.heap.objs.size) { s3 with heap := pushCells (s3.heap.push { cls := .type "dict", data := .dict #[] }) scope.names }
  generalize eC : compEnvC scope (cellsFrom (s3.heap.objs.size + 1) scope.names (cloFrom X.env.cells scope.names [])) s3.heap.objs.size X.env = ce at I4 gG gT gE ⊢
  have place : ce.locals = s3.heap.objs.size := by rw [← eC] <;> rfl
  generalize e4 : ({ s3 with heap := pushCells (s3.heap.push { cls := .type "dict", data := .dict #[] }) scope.names } : Shared) = s4 at I4 ⊢
  have st4 : tn 0 s4.heap := T.keep _ _ _ st3 fun b _ o e => by
    rw [← e4]
    exact pushCells_keeps _ _ _ _ (Heap.get?_push_of_some _ e)
  have fpo : ∀ {σ' : L2.St} {H' : Hp} {s' : Shared}, Inv (X.blk s3 H3 scope ce fp) [] σ' H' s' → (∀ b ∈ fp, H' b = none) → ∀ b ∈ fp, FpOk (X.blk s3 H3 scope ce fp) [] H' b := fun {σ' H' s'} J' n' b hb =>
    ⟨n' b hb, (J'.ok.exf b hb).1, J'.ok.exfs b hb, .inl hb, fun x c e => (J'.ok.exf b hb).2 x c e, fun p hp => absurd (show p ∈ ([] : List (Addr × Obj)) ++ [] from hp) (by simp)⟩
  refine PpSet.codeAny_compStart_set ?loop (T.self X.A 0 _ _ _ st4 ?loop)
  case loop =>
    refine PpSet.compLoopS_any (fun m s' => ∃ i H', W i m H' ∧ (∀ b ∈ fp, H' b = none) ∧ tn i s'.heap ∧ Inv (X.blk s3 H3 scope ce fp) [] (wipe σ (own.map (·.2))) H' s') ?_ m0 ⟨0, H3, w0, dark, st4, I4⟩
    intro m s5 hyp
    obtain ⟨i, H5, w5, n5, st5, I5⟩ := hyp
    rcases turn i m H5 w5 with ⟨stop, fin⟩ | ⟨go, Nx, onward, step⟩
    · refine thnF (T.done (X.blk s3 H3 scope ce fp) rfl rfl rfl calm i [] s5 _ H5 (fun _ _ => False) I5 (fpo I5 n5) st5 stop) fun r s6 ⟨er, I6⟩ => ?_
      subst er
      have I7 : Inv X pins σ H5 s6 := I3.call' (ch := fp) I6.os I6.base I6.hok I6.bare fun b hb => ⟨(out3 b hb).1.2.2.2.1, (out3 b hb).1.2.1, (out3 b hb).1.2.2.2.2.1, (out3 b hb).1.2.2.2.2.2⟩
      have nC : H5 s3.heap.objs.size = none := place ▸ (show H5 ce.locals = none from I6.free)
      obtain ⟨k, hk, _⟩ := I6.loc
      have hk : s6.heap.Ns s3.heap.objs.size k := place ▸ (show s6.heap.Ns ce.locals k from hk)
      have far := I3.fpOk (Nat.le_refl _) nC
      refine ⟨k, hk, fun h2 sb => ?_⟩
      obtain ⟨f0, f1, f2, f3, f4, f5⟩ := far
      exact ⟨.ref D, H5, I7.turned (t' := s6.toks) (fun b o hb e => (sb.2 b hb).trans e) f0 f1 f3 f4 f5, rfl, fin⟩
    refine thnF (T.item (X.blk s3 H3 scope ce fp) rfl rfl rfl calm i [] s5 _ H5 (fun _ _ => False) I5 (fpo I5 n5) st5 go) fun r s6 ⟨u, er, h6⟩ => ?_
    subst er
    refine thnF h6 fun _ s7 ⟨x, H7, I7, r7, y7, st7, n7⟩ => ?_
    refine thnF (gG.run _ s7 _ H7 x u _ (I7.pinned (fpo I7 n7) (T.obj _ _ st7)) r7 (step x H7 y7)) fun _ s8 ⟨σ8, H8, I8, w8, q8⟩ => ?_
    refine thnF (gT.run _ s8 σ8 H8 _ I8 q8) fun b s9 ⟨H9, I9, q9⟩ => ?_
    have over : ∀ {s' : Shared} {H' : Hp}, Nx H' → Inv (X.blk s3 H3 scope ce fp) ([] ++ pinsAt fp s7.heap) σ8 H' s' →
        ∃ m', m' < m ∧ ∃ i H', W i m' H' ∧ (∀ b ∈ fp, H' b = none) ∧ tn i s'.heap ∧ Inv (X.blk s3 H3 scope ce fp) [] (wipe σ (own.map (·.2))) H' s' := fun {s' H'} nx J' => by
      obtain ⟨m', lt, w'⟩ := onward H' nx
      have kept : ∀ b ∈ fp, ∀ o, s7.heap.get? b = some o → s'.heap.get? b = some o ∧ H' b = none := fun b hb o e => by
        have z := J'.pin (b, o) (List.mem_append_right _ (List.mem_append_right _ (mem_pinsAt hb e)))
        exact ⟨z.1, z.2.1⟩
      refine ⟨m', lt, i + 1, H', w', fun b hb => (T.obj _ _ st7 b hb).elim fun o h => (kept b hb o h.1).2, T.keep _ _ _ st7 fun b hb o e => (kept b hb o e).1, (J'.unpinned (pins := [])).weak (by rw [← w8, wipe_length]) fun j v e => ?_⟩
      rw [← w8] at e
      exact (wipe_some e).1
    cases b
    · simp only [Bool.false_eq_true, if_false] at q9 ⊢
      exact over q9 I9
    · simp only [if_true] at q9 ⊢
      refine thnF (gE.run _ s9 σ8 H9 _ I9 q9) fun z s10 ⟨y, H10, I10, r10, c, L, ey, eL, few, nx⟩ => ?_
      subst ey
      obtain ⟨k, rfl⟩ := (show ∃ k, z = Value.str c k from r10)
      exact addSO (X := X.blk s3 H3 scope ce fp) I10 eL few fun s11 I11 => over nx I11
end
end Nv
set_option maxHeartbeats 4000000
namespace Nv
open PySem PySem.Spec PyProof.Rows L2
/-! # sorted of a set of texts as a call; the walk over a list; names_among -/
def rSortS (w : World) : List V → Hp → VK → Prop := fun vs H Q => ∃ (a : Addr) (L : List Str), vs = [V.ref a] ∧ H a = some (SetSO w a L) ∧ L.length ≤ 60 ∧
  ∀ (p : Addr) (zs : List Str), H p = none → zs.Perm L → L.Nodup → sortedS zs = true → Q (.ref p) (upd H p (.lst (zs.map V.str)))
theorem cr_sortS {X : Cx} (calm : X.calm = true) : CallR X (.builtin "sorted") (rSortS X.w) := by
  intro pins s σ H vs us0 Q I r h
  obtain ⟨a, L, rfl, ha, few, q⟩ := h
  rw [Vals.ref1 r]
  have R := setSO_at I ha
  have nd : L.Nodup := by
    obtain ⟨_, _, _, _, _, _, _, hp, _⟩ := R
    exact hp.2.2
  refine sortedSet R (I.ok.hd calm) fun s' p out c zs kk hg ho hp hl hz up pm => ?_
  have I1 : Inv X pins σ (upd H p (.lst (zs.map V.str))) { s with heap := s'.heap, toks := s.toks } := I.laid (t' := s.toks) kk hp ⟨by rw [List.length_map, pm.length_eq]; exact Nat.le_trans few (by decide), out.toList, c, vals_strs hz, by simpa using hl⟩
  have I2 : Inv X pins σ (upd H p (.lst (zs.map V.str))) s' := I1.call' (ch := []) ho (Un.kept fun _ _ e => e) (I1.hok.kept fun _ _ e => e) (by rw [hg]; exact I1.bare) (fun _ z => nomatch z)
  exact ⟨.ref p, _, I2, rfl, q p zs (I.hok.fresh hp) pm nd up⟩
/-- the walk over a list that the turns leave as it is -/
theorem ss_list {w : World} {K : PySem.W.Frag} {a : Addr} {xs : List V} {g : TG} {tt : TT} {te : TE} {vs : List Nat} {σ : L2.St} {H1 : Hp} {D : Addr} {Qd : Hp → Prop} (St : Nat → Hp → Prop) (start : St 0 (upd H1 D (SetSO w D []))) (same : ∀ i H, i ≤ xs.length → St i H → SqL K H a xs)
    (turn : ∀ i x H, xs[i]? = some x → St i H → g x (wipe σ vs) H fun σ2 H2 => wipe σ2 vs = wipe σ vs ∧ tt σ2 H2 fun b H3 =>
      if b = true then te σ2 H3 fun y H4 => ∃ (c : Str) (L : List Str), y = .str c ∧ H4 D = some (SetSO w D L) ∧ L.length + 1 < scanBound ∧ St (i + 1) (upd H4 D (SetSO w D (if c ∈ L then L else c :: L)))
      else St (i + 1) H3) (last : ∀ H, St xs.length H → Qd H) :
    ∃ W : Nat → Nat → Hp → Prop, (∃ m, W 0 m (upd H1 D (SetSO w D []))) ∧
      ∀ i m H, W i m H → ((Itl K a).stop i H ∧ Qd H) ∨
        ((Itl K a).go i H ∧ ∃ Nx : Hp → Prop, (∀ H', Nx H' → ∃ m', m' < m ∧ W (i + 1) m' H') ∧
          ∀ x H', (Itl K a).yld i H x H' → g x (wipe σ vs) H' fun σ2 H2 => wipe σ2 vs = wipe σ vs ∧ tt σ2 H2 fun b H3 =>
            if b = true then te σ2 H3 fun y H4 => ∃ (c : Str) (L : List Str), y = .str c ∧ H4 D = some (SetSO w D L) ∧ L.length + 1 < scanBound ∧ Nx (upd H4 D (SetSO w D (if c ∈ L then L else c :: L)))
            else Nx H3) := by
  refine ⟨fun i m H => i + m = xs.length ∧ St i H, ⟨xs.length, Nat.zero_add _, start⟩, fun i m H ⟨em, st⟩ => ?_⟩
  have le : i ≤ xs.length := by omega
  have lst := same i H le st
  cases m with
  | zero =>
    have e : i = xs.length := em
    exact .inl ⟨⟨xs, lst, Nat.le_of_eq e.symm⟩, last H (e ▸ st)⟩
  | succ m =>
    have lt : i < xs.length := by omega
    have hx : xs[i]? = some xs[i] := List.getElem?_eq_getElem lt
    refine .inr ⟨⟨xs, xs[i], lst, hx⟩, St (i + 1), fun H' h => ⟨m, Nat.lt_succ_self m, by omega, h⟩, fun x H' y => ?_⟩
    obtain ⟨rfl, y⟩ := y
    exact turn i x _ (y xs lst) st
end Nv
set_option maxHeartbeats 4000000
namespace Nv
open PySem PySem.Spec PyProof.Rows L2
/-! # names_among -/
theorem bootSorted : bootBuiltins "sorted" = some (.builtin "sorted") := by decide +kernel
section
variable {P : Program} {w : World} {K : PySem.W.Frag} {mg : Str → Option Value} {base : Heap}
theorem scNamesAmong : FnScope ["terms", "term"] ["terms"] (defScope sNamesAmong) := ⟨rfl, rfl, rfl, by decide +kernel, rfl, by decide +kernel, by decide +kernel⟩
theorem ok_namesAmong {f fN : Addr} {fd dN : FuncData} (F : Fun K "names_among" "names_among" sNamesAmong f fd) (ms : mg "sorted" = none)
    (GN : FnOk P w K mg base CX0 1 fN dN ["value"] (spTxt K fun z => decide (IsNm z))) (kN : PySem.W.keepIn K (.ref fN) = true) (gN : mg "is_name" = some (.ref fN)) (bN : Binds K dN ["value"] []) :
    FnOk P w K mg base CX0 2 f fd ["terms"] (spNamesAmong K) := by
  refine F.ok scNamesAmong (fun vs H Q E h => ?_) (fun cdv A outer s H vs Q E hr h => ?_)
  · obtain ⟨a, ts, rfl, _⟩ := h
    rfl
  · obtain ⟨a, ts, rfl, ha, short, few, q⟩ := h
    have hr1 : Room 1 _ := hr.mono (by decide)
    refine ⟨_, pss_one (ps_ret (pe_callB (cr_sortS rfl) (by rfl) ms bootSorted (pa_cons (by exact (pe_ss (own := [("term", 1)]) (g := gName 1) (te := tVar 1) rfl scNamesAmong.nd (pi_list (pv 0))
      (blkOk_by (own := [("term", 1)]) (N := ["terms", "term"]) (sc := defScope sNamesAmong) (by decide +kernel))
      (fun _ _ _ _ _ => pg_name (i := 1) scNamesAmong.nd rfl (Or.inl rfl))
      (fun _ _ _ _ _ => pts_one (by exact (pt_val (by exact (pe_call GN hr1 (by rfl) gN kN bN .nil pass0 (pa_cons (pv 1) pa_nil))))))
      (fun _ _ _ _ _ => by exact (pv 1)))) pa_nil))), ?_⟩
    refine ⟨_, rfl, a, rfl, ⟨_, ha⟩, fun D nD => ?_⟩
    refine ss_list (K := K) (a := a) (xs := ts.map V.str) (fun i H' => Same H H' ∧ ∃ L : List Str, H' D = some (SetSO w D L) ∧ L.length ≤ i ∧ ∀ z, z ∈ L ↔ z ∈ ts.take i ∧ IsNm z)
      ⟨same_new nD, [], upd_same, Nat.le_refl _, fun z => by simp⟩ (fun i H' _ y => y.1.seq ha) ?_ ?_
    · rintro i x H1 hi ⟨s1, L, e1, l1, m1⟩
      obtain ⟨z, hz, rfl⟩ := at_map hi
      have hi2 : i < ts.length := (List.getElem?_eq_some_iff.mp hz).1
      refine ⟨rfl, _, rfl, ?_⟩
      dsimp only [tNil]
      refine spTxt.yes (short z (List.mem_of_getElem? hz)) fun H2 s2 => ?_
      have e2 := s2 _ _ e1
      have s12 := s1.trans s2
      have tk : ∀ y, y ∈ ts.take (i + 1) ↔ y ∈ ts.take i ∨ y = z := fun y => by rw [take_one hz, List.mem_append, List.mem_singleton]
      refine ⟨_, rfl, ?_⟩
      by_cases nz : IsNm z
      · rw [decide_eq_true nz]
        simp only [if_true]
        refine ⟨_, rfl, z, L, rfl, e2, by unfold scanBound; omega, same_put s12 nD, _, upd_same, ?_, fun y => ?_⟩
        · split
          · omega
          · rw [List.length_cons]
            omega
        · rw [tk]
          by_cases mz : z ∈ L
          · rw [if_pos mz, m1]
            refine ⟨fun h => ⟨.inl h.1, h.2⟩, fun h => ⟨h.1.elim id fun e => e ▸ ((m1 z).mp mz).1, h.2⟩⟩
          · rw [if_neg mz, List.mem_cons, m1]
            refine ⟨fun h => ?_, fun h => ?_⟩
            · rcases h with rfl | h
              · exact ⟨.inr rfl, nz⟩
              · exact ⟨.inl h.1, h.2⟩
            · rcases h.1 with k | k
              · exact .inr ⟨k, h.2⟩
              · exact .inl k
      · rw [decide_eq_false nz]
        simp only [Bool.false_eq_true, if_false]
        refine ⟨s12, L, e2, by omega, fun y => ?_⟩
        rw [tk, m1]
        refine ⟨fun h => ⟨.inl h.1, h.2⟩, fun h => ⟨h.1.elim id fun e => absurd (e ▸ h.2) nz, h.2⟩⟩
    · rintro H1 ⟨s1, L, e1, l1, m1⟩
      rw [List.length_map] at l1 m1
      rw [List.take_length] at m1
      refine ⟨D, L, rfl, e1, by omega, fun p zs np pm nd up => q p _ zs (s1.free np) (s1.trans (same_new np)) upd_same ⟨pm.nodup_iff.mpr nd, up, fun z => by rw [pm.mem_iff, m1]⟩⟩
end
end Nv
set_option maxHeartbeats 4000000
namespace Nv
open PySem PySem.Spec PyProof.Rows L2
/-! # need_fact, need_store, where they let pass -/
section
variable {P : Program} {w : World} {K : PySem.W.Frag} {mg : Str → Option Value} {base : Heap}
def spNeedFact (K : PySem.W.Frag) : Sp := fun vs H Q _ => ∃ (v : V) (o : Option (List (Option Str))), vs = [v] ∧ Tp K H v o ∧ factB o = true ∧ ∀ H', Same H H' → Q .non H'
def spNeedStore (K : PySem.W.Frag) : Sp := fun vs H Q _ => ∃ (v : V) (o : Option (List (Option (List (Option Str))))), vs = [v] ∧ Tps K H v o ∧ (∀ ls, o = some ls → ls.length < 64) ∧ storeB o = true ∧ ∀ H', Same H H' → Q .non H'
theorem scNeedFact : FnScope ["value"] ["value"] (defScope sNeedFact) := ⟨rfl, rfl, rfl, by decide +kernel, rfl, by decide +kernel, by decide +kernel⟩
theorem scNeedStore : FnScope ["value"] ["value"] (defScope sNeedStore) := ⟨rfl, rfl, rfl, by decide +kernel, rfl, by decide +kernel, by decide +kernel⟩
theorem ok_needFact {f fI : Addr} {fd dI : FuncData} (F : Fun K "need_fact" "need_fact" sNeedFact f fd)
    (GI : FnOk P w K mg base CX0 3 fI dI ["value"] (spTup K factB)) (kI : PySem.W.keepIn K (.ref fI) = true) (gI : mg "is_fact" = some (.ref fI)) (bI : Binds K dI ["value"] []) :
    FnOk P w K mg base CX0 4 f fd ["value"] (spNeedFact K) := by
  refine F.ok scNeedFact (fun vs H Q E h => ?_) (fun cdv A outer s H vs Q E hr h => ?_)
  · obtain ⟨v, o, rfl, _⟩ := h
    rfl
  · obtain ⟨v, o, rfl, h, good, q⟩ := h
    refine ⟨_, pss_one (ps_if (pt_not (pt_val (by exact (pe_call GI hr (by rfl) gI kI bI .nil pass0 (pa_cons (pv 0) pa_nil))))) (pss_one ps_never) pss_nil), ?_⟩
    refine ⟨_, rfl, ?_⟩
    dsimp only [tNil]
    refine ⟨v, o, rfl, h, fun H' s' => ?_⟩
    rw [good]
    exact ⟨true, rfl, iteF (q H' s')⟩
theorem ok_needStore {f fI : Addr} {fd dI : FuncData} (F : Fun K "need_store" "need_store" sNeedStore f fd)
    (GI : FnOk P w K mg base CX0 4 fI dI ["value"] (spIsStore K)) (kI : PySem.W.keepIn K (.ref fI) = true) (gI : mg "is_store" = some (.ref fI)) (bI : Binds K dI ["value"] []) :
    FnOk P w K mg base CX0 5 f fd ["value"] (spNeedStore K) := by
  refine F.ok scNeedStore (fun vs H Q E h => ?_) (fun cdv A outer s H vs Q E hr h => ?_)
  · obtain ⟨v, o, rfl, _⟩ := h
    rfl
  · obtain ⟨v, o, rfl, h, few, good, q⟩ := h
    refine ⟨_, pss_one (ps_if (pt_not (pt_val (by exact (pe_call GI hr (by rfl) gI kI bI .nil pass0 (pa_cons (pv 0) pa_nil))))) (pss_one ps_never) pss_nil), ?_⟩
    refine ⟨_, rfl, ?_⟩
    dsimp only [tNil]
    refine ⟨v, o, rfl, h, few, fun H' s' => ?_⟩
    rw [good]
    exact ⟨true, rfl, iteF (q H' s')⟩
end
end Nv
set_option maxHeartbeats 4000000
namespace Nv
open PySem PySem.Spec PyProof.Rows L2
/-! # filled -/
/-- the dict b gives each text z its sub z -/
def SubAt (H : Hp) (b : Addr) (sub : Str → Str) : Prop := ∃ kvs : List (L2.Key × V), H b = some (.dK kvs) ∧ ∀ z : Str, (valV kvs (.inr z)).getD (.str z) = .str (sub z)
def fillT (sub : Str → Str) (p : List Str) : List Str := p.take 1 ++ (p.drop 1).map sub
section
variable {P : Program} {w : World} {K : PySem.W.Frag} {mg : Str → Option Value} {base : Heap}
def spFilled (K : PySem.W.Frag) : Sp := fun vs H Q _ => ∃ (t b : Addr) (p : List Str) (sub : Str → Str), vs = [.ref t, .ref b] ∧ H t = some (.tup (p.map V.str)) ∧ 2 ≤ p.length ∧ p.length ≤ 4 ∧ SubAt H b sub ∧
  ∀ (r : Addr) (H' : Hp), H r = none → Same H H' → H' r = some (.tup ((fillT sub p).map V.str)) → Q (.ref r) H'
theorem scFilled : FnScope ["pattern", "binding", "term"] ["pattern", "binding"] (defScope sFilled) := ⟨rfl, rfl, rfl, by decide +kernel, rfl, by decide +kernel, by decide +kernel⟩
theorem ok_filled {f : Addr} {fd : FuncData} (F : Fun K "filled" "filled" sFilled f fd) (B : Bp mg) : FnOk P w K mg base CX0 1 f fd ["pattern", "binding"] (spFilled K) := by
  refine F.ok scFilled (fun vs H Q E h => ?_) (fun cdv A outer s H vs Q E hr h => ?_)
  · obtain ⟨t, b, p, sub, rfl, _⟩ := h
    rfl
  · obtain ⟨t, b, p, sub, rfl, et, h2, h4, hb, q⟩ := h
    have hu : (A.deeper (envOfC "filled" (defScope sFilled) s.heap.objs.size f cdv)).units + 1 < cLine := Nat.lt_of_le_of_lt (Nat.add_le_add_left (by decide : 1 ≤ 64) _) hr.units
    refine ⟨_, pss_one (ps_ret (pe_op op_catT (pe_slice sl_tup (pv 0) po_none (po_some pe_int))
      (pe_callTy call_tuple_of (by rfl) B.tup PyProof.Rows.boot_tuple (pa_cons (by exact (pe_lc (own := [("term", 2)]) (g := gName 2) (tt := tYes) (te := tDGet2 (tVar 1) (tVar 2) (tVar 2)) rfl scFilled.nd (pi_tup (pe_slice sl_tup (pv 0) (po_some pe_int) po_none))
        (blkOk_by (own := [("term", 2)]) (N := ["pattern", "binding", "term"]) (sc := defScope sFilled) (by decide +kernel))
        (fun _ _ _ _ _ => pg_name (i := 2) scFilled.nd rfl (Or.inl rfl)) (fun _ _ _ _ _ => pts_nil)
        (fun _ _ _ _ _ => by exact (pe_dget2 hu (pv 1) (pv 2) (pv 2) ⟨rfl, rfl, rfl, rfl⟩)))) pa_nil)))), ?_⟩
    have few : p.length ≤ 1000 := by omega
    have cut0 : HT.sIx (p.map V.str).length (p.map V.str).length (some 1) = 1 := by
      have e := HT.sIx_nat (p.map V.str).length (p.map V.str).length 1
      rw [show ((1 : Nat) : Int) = 1 by rfl] at e
      rw [e, List.length_map]
      omega
    have cut2 : HT.sIx (p.map V.str).length 0 (some 1) = 1 := by
      have e := HT.sIx_nat (p.map V.str).length 0 1
      rw [show ((1 : Nat) : Int) = 1 by rfl] at e
      rw [e, List.length_map]
      omega
    have hd1 : cutV (p.map V.str) none (some 1) = (p.take 1).map V.str := by
      unfold cutV
      rw [cut0, HT.sIx_none, List.drop_zero, Nat.sub_zero, List.map_take]
    have tl1 : cutV (p.map V.str) (some 1) none = (p.drop 1).map V.str := by
      unfold cutV
      rw [cut2, HT.sIx_none, List.take_of_length_le (by rw [List.length_drop]; exact Nat.le_refl _), List.map_drop]
    refine ⟨_, rfl, 1, rfl, t, _, rfl, SqT.of et, ?_, fun t1 n1 => ?_⟩
    · rintro ⟨_, h⟩
      rw [cut0, List.length_map] at h
      omega
    rw [hd1]
    have s1 : Same H (upd H t1 (.tup ((p.take 1).map V.str))) := same_new n1
    have e1 : upd H t1 (.tup ((p.take 1).map V.str)) t1 = some (.tup ((p.take 1).map V.str)) := upd_same
    generalize upd H t1 (.tup ((p.take 1).map V.str)) = H1 at s1 e1 ⊢
    refine ⟨_, rfl, 1, rfl, t, _, rfl, SqT.of (s1 _ _ et), ?_, fun t2 n2 => ?_⟩
    · rintro ⟨h, _⟩
      rw [cut2] at h
      omega
    rw [tl1]
    have s2 : Same H1 (upd H1 t2 (.tup ((p.drop 1).map V.str))) := same_new n2
    have e2 : upd H1 t2 (.tup ((p.drop 1).map V.str)) t2 = some (.tup ((p.drop 1).map V.str)) := upd_same
    generalize upd H1 t2 (.tup ((p.drop 1).map V.str)) = H2 at s2 e2 ⊢
    have s12 := s1.trans s2
    obtain ⟨kvs, eb, hsub⟩ := hb
    refine ⟨t2, rfl, ⟨_, SqT.of e2⟩, fun D nD => ?_⟩
    refine lc_tup (K := K) (a := t2) (xs := (p.drop 1).map V.str) (fun i H' => Same H2 H' ∧ H' D = some (.lst ((((p.drop 1).take i).map sub).map V.str))) ⟨same_new nD, upd_same⟩ (fun i H' _ y => SqT.of (y.1 _ _ e2)) ?_ ?_
    · rintro i x H3 hi ⟨s3, e3⟩
      obtain ⟨z, hz, rfl⟩ := at_map hi
      have eb3 := s3 _ _ (s12 _ _ eb)
      refine ⟨rfl, _, rfl, b, rfl, .inl ⟨kvs, .inl eb3⟩, _, rfl, _, rfl, _, DGet.k (k := .inr z) eb3, ?_⟩
      rw [hsub]
      refine ⟨_, e3, ?_, same_put s3 nD, ?_⟩
      · rw [List.length_map, List.length_map, List.length_take, List.length_drop]
        exact Nat.lt_of_le_of_lt (by omega : _ ≤ 1000) (by decide)
      · rw [upd_same, take_one hz, List.map_append, List.map_append] <;> rfl
    · rintro H3 ⟨s3, e3⟩
      rw [List.length_map, List.take_length] at e3
      refine ⟨D, _, rfl, .inl ⟨SqL.of e3, fun t3 n3 => ?_⟩⟩
      have s4 : Same H3 (upd H3 t3 (.tup (((p.drop 1).map sub).map V.str))) := same_new n3
      refine ⟨t1, t3, _, _, rfl, rfl, SqT.of (s4 _ _ (s3 _ _ (s2 _ _ e1))), SqT.of upd_same, ?_, ?_, ?_, fun _ r nr => ?_⟩
      · intro h
        have := congrArg List.length h
        rw [List.length_map, List.length_take, List.length_nil] at this
        omega
      · rw [List.length_map, List.length_map, List.length_map, List.length_take, List.length_drop]
        exact Nat.le_trans (by omega : _ ≤ 1000) (by decide)
      · intro h
        have := congrArg List.length h
        rw [List.length_map, List.length_map, List.length_drop, List.length_nil] at this
        omega
      · refine q r _ ?_ (((s12.trans s3).trans s4).trans (same_new nr)) (by rw [upd_same]; unfold fillT; rw [List.map_append])
        exact ((s12.trans s3).trans s4).free nr
end
end Nv
set_option maxHeartbeats 4000000
namespace Nv
open PySem PySem.Spec PyProof.Rows L2
/-! # _sum_along -/
/-- the choice of the places, each a bit -/
def bitsOf (os : List Nat) : Nat := os.foldl (fun c o => c ||| 2 ^ o) 0
def sumA (ns : List Int) (os : List Nat) : Int := ((List.range os.length).map fun i => ns.getD (bitsOf (os.take (i + 1))) 0).foldl (· + ·) 0
theorem bits_snoc {os : List Nat} {i o : Nat} (h : os[i]? = some o) : bitsOf (os.take (i + 1)) = bitsOf (os.take i) ||| 2 ^ o := by
  rw [take_one h]
  unfold bitsOf
  rw [List.foldl_append] <;> rfl
theorem bits_lt {m : Nat} : ∀ (os : List Nat) (c : Nat), c < 2 ^ m → (∀ o ∈ os, o < m) → os.foldl (fun c o => c ||| 2 ^ o) c < 2 ^ m
  | [], c, h, _ => h
  | o :: os, c, h, k => bits_lt os _ (Nat.or_lt_two_pow h (Nat.pow_lt_pow_right (by decide) (k o List.mem_cons_self))) fun x hx => k x (List.mem_cons_of_mem _ hx)
theorem sumA_snoc {ns : List Int} {os : List Nat} {i o : Nat} (h : os[i]? = some o) : sumA ns (os.take (i + 1)) = sumA ns (os.take i) + ns.getD (bitsOf (os.take (i + 1))) 0 := by
  have hi := (List.getElem?_eq_some_iff.mp h).1
  unfold sumA
  rw [List.length_take, List.length_take, Nat.min_eq_left (by omega), Nat.min_eq_left (by omega), List.range_succ, List.map_append, List.foldl_append]
  have e : (List.range i).map (fun j => ns.getD (bitsOf ((os.take (i + 1)).take (j + 1))) 0) = (List.range i).map fun j => ns.getD (bitsOf ((os.take i).take (j + 1))) 0 := by
    refine List.map_congr_left fun j hj => ?_
    have := List.mem_range.mp hj
    rw [List.take_take, List.take_take, Nat.min_eq_left (by omega), Nat.min_eq_left (by omega)]
  rw [e]
  show List.foldl (· + ·) 0 _ + ns.getD (bitsOf ((os.take (i + 1)).take (i + 1))) 0 = _
  rw [List.take_take, Nat.min_self]
section
variable {P : Program} {w : World} {K : PySem.W.Frag} {mg : Str → Option Value} {base : Heap}
def spSumAlong (K : PySem.W.Frag) : Sp := fun vs H Q _ => ∃ (a b : Addr) (os : List Nat) (ns : List Int) (m : Nat), vs = [.ref a, .ref b] ∧ SqL K H a (os.map natV) ∧ SqL K H b (ns.map V.int) ∧ (∀ o ∈ os, o < m) ∧ ns.length = 2 ^ m ∧ m ≤ 20 ∧ os.length ≤ 1000 ∧
  Q (.int (sumA ns os)) H
theorem scSumAlong : FnScope ["order", "numbers", "choice", "total", "place"] ["order", "numbers"] (defScope sSumAlong) := ⟨rfl, rfl, rfl, by decide +kernel, rfl, by decide +kernel, by decide +kernel⟩
theorem ok_sumAlong {f : Addr} {fd : FuncData} (F : Fun K "_sum_along" "_sum_along" sSumAlong f fd) : FnOk P w K mg base CX0 1 f fd ["order", "numbers"] (spSumAlong K) := by
  refine F.ok scSumAlong (fun vs H Q E h => ?_) (fun cdv A outer s H vs Q E hr h => ?_)
  · obtain ⟨a, b, os, ns, m, rfl, _⟩ := h
    rfl
  · obtain ⟨a, b, os, ns, m, rfl, ha, hb, hos, hns, hm, few, q⟩ := h
    refine ⟨_, pss_cons (ps_set (i := 2) scSumAlong.nd rfl (Or.inl rfl) pe_int)
      (pss_cons (ps_set (i := 3) scSumAlong.nd rfl (Or.inl rfl) pe_int)
      (pss_cons (ps_for PassesOwn.never rfl (pi_list (pv 0)) (pg_name (i := 4) scSumAlong.nd rfl (Or.inl rfl))
        (pss_cons (ps_set (i := 2) scSumAlong.nd rfl (Or.inl rfl) (pe_op op_or (pv 2) (pe_op op_oneShl pe_int (pv 4))))
        (pss_one (ps_set (i := 3) scSumAlong.nd rfl (Or.inl rfl) (pe_op op_add (pv 3) (pe_ix ix_list (pv 1) (pv 2) (fun _ _ => rfl)))))))
      (pss_one (ps_ret (pv 3))))), ?_⟩
    refine ⟨_, rfl, a, rfl, ⟨_, ha⟩, for_list (K := K) (a := a) (xs := os.map natV) (fun i σ G => ∃ o4 : Option V, σ = [some (.ref a), some (.ref b), some (.int (bitsOf (os.take i) : Nat)), some (.int (sumA ns (os.take i))), o4] ∧ G = H) ⟨none, rfl, rfl⟩ (fun i σ G _ z => ?_) ?_ ?_⟩
    · obtain ⟨_, _, rfl⟩ := z
      exact ha
    · rintro i v σ G hi ⟨o4, rfl, rfl⟩
      rw [List.getElem?_map] at hi
      obtain ⟨o, ho, rfl⟩ := Option.map_eq_some_iff.mp hi
      have om := hos o (List.mem_of_getElem? ho)
      have eb : Builtin.bitOr (bitsOf (os.take i) : Nat) (2 ^ o) = ((bitsOf (os.take (i + 1)) : Nat) : Int) := by
        rw [bits_snoc ho, bitOr_nn (Int.natCast_nonneg _) (by exact_mod_cast Nat.zero_le (2 ^ o))]
        congr 1
      have lt : bitsOf (os.take (i + 1)) < ns.length := by
        rw [hns]
        exact bits_lt _ 0 (Nat.two_pow_pos m) fun x hx => hos x (List.mem_of_mem_take hx)
      have at' : (ns.map V.int)[bitsOf (os.take (i + 1))]? = some (V.int (ns.getD (bitsOf (os.take (i + 1))) 0)) := by
        rw [List.getElem?_map, List.getElem?_eq_getElem lt, List.getD_eq_getElem?_getD, List.getElem?_eq_getElem lt] <;> rfl
      refine ⟨_, rfl, _, rfl, o, rfl, rfl, by omega, _, _, rfl, rfl, ?_⟩
      dsimp only
      rw [eb]
      refine ⟨_, rfl, _, rfl, _, rfl, b, _, _, _, rfl, rfl, hb, atI_nat at', _, _, rfl, rfl, ?_⟩
      refine ⟨some (natV o), ?_, rfl⟩
      rw [sumA_snoc ho] <;> rfl
    · rintro σ G ⟨o4, rfl, rfl⟩
      rw [List.length_map, List.take_length]
      exact ⟨_, rfl, q⟩
end
end Nv
set_option maxHeartbeats 4000000
namespace Nv
open PySem PySem.Spec PyProof.Rows L2
/-! # _chosen -/
/-- those whose bits c has -/
def pickB {α : Type} (c : Nat) (xs : List α) : List α := (xs.zipIdx.filter fun z => c / 2 ^ z.2 % 2 == 1).map (·.1)
theorem pickB_snoc {α : Type} {c : Nat} {xs : List α} {i : Nat} {x : α} (h : xs[i]? = some x) : pickB c (xs.take (i + 1)) = pickB c (xs.take i) ++ (if c / 2 ^ i % 2 == 1 then [x] else []) := by
  have hi := (List.getElem?_eq_some_iff.mp h).1
  rw [take_one h]
  unfold pickB
  rw [List.zipIdx_append, List.filter_append, List.map_append, List.length_take, Nat.min_eq_left (by omega)]
  congr 1
  show ((List.filter _ [(x, 0 + i)])).map _ = _
  rw [Nat.zero_add]
  by_cases z : (c / 2 ^ i % 2 == 1) = true
  · rw [if_pos z, List.filter_cons_of_pos (by exact z)] <;> rfl
  · rw [if_neg z, List.filter_cons_of_neg (by exact z)] <;> rfl
theorem pickB_len {α : Type} (c : Nat) (xs : List α) : (pickB c xs).length ≤ xs.length := by
  unfold pickB
  rw [List.length_map]
  exact Nat.le_trans (List.length_filter_le _ _) (by rw [List.length_zipIdx]; exact Nat.le_refl _)
section
variable {P : Program} {w : World} {K : PySem.W.Frag} {mg : Str → Option Value} {base : Heap}
def spChosen (K : PySem.W.Frag) : Sp := fun vs H Q _ => ∃ (a : Addr) (us : List V) (c : Nat), vs = [.ref a, .int (c : Nat)] ∧ SqL K H a us ∧ us.length ≤ 1000 ∧
  ∀ (p : Addr) (H' : Hp), H p = none → Same H H' → H' p = some (.lst (pickB c us)) → Q (.ref p) H'
abbrev tBit (K : PySem.W.Frag) : TT := fun σ H Q => tOp (fun x y H Q => ∃ n : Nat, x = .int (n : Int) ∧ y = .int 1 ∧ Q (.int ((n % 2 : Nat) : Int)) H) (tOp (rI (fun _ j => 0 ≤ j) fun i j => .int (i / 2 ^ j.toNat)) (tVar 1) (tVar 3)) (tC (.int 1)) σ H fun x H' => ∃ k, TruV K x H' k ∧ Q k H'
theorem scChosen : FnScope ["told", "choice", "pattern", "place"] ["told", "choice"] (defScope sChosen) := ⟨rfl, rfl, rfl, by decide +kernel, rfl, by decide +kernel, by decide +kernel⟩
theorem ok_chosen {f : Addr} {fd : FuncData} (F : Fun K "_chosen" "_chosen" sChosen f fd) (en : mg "enumerate" = none) : FnOk P w K mg base CX0 1 f fd ["told", "choice"] (spChosen K) := by
  refine F.ok scChosen (fun vs H Q E h => ?_) (fun cdv A outer s H vs Q E hr h => ?_)
  · obtain ⟨a, us, c, rfl, _⟩ := h
    rfl
  · obtain ⟨a, us, c, rfl, ha, few, q⟩ := h
    refine ⟨_, pss_one (ps_ret (by exact (pe_lc (own := [("pattern", 2), ("place", 3)]) (g := gTup K 2 (gCons (gName 3) (gCons (gName 2) gNil))) (tt := tBit K) (te := tVar 2) rfl scChosen.nd (pi_enum (by rfl) en (pa_cons (pv 0) pa_nil))
      (blkOk_by (own := [("pattern", 2), ("place", 3)]) (N := ["told", "choice", "pattern", "place"]) (sc := defScope sChosen) (by decide +kernel))
      (fun _ _ _ _ _ => pg_tup rfl (pgs_cons (pg_name (i := 3) scChosen.nd rfl (Or.inl rfl)) (pgs_cons (pg_name (i := 2) scChosen.nd rfl (Or.inl rfl)) pgs_nil)))
      (fun _ _ _ _ _ => pts_one (by exact (pt_truth (pe_op op_odd (pe_op op_shr (pv 1) (pv 3)) pe_int) (by intro _; rfl))))
      (fun _ _ _ _ _ => by exact (pv 2))))), ?_⟩
    refine ⟨_, rfl, a, us, rfl, ha, fun D nD => ?_⟩
    refine lc_it (walk_enum (K := K) (a := a) (xs := us)) (fun i H' => Same H H' ∧ H' D = some (.lst (pickB c (us.take i)))) ⟨same_new nD, upd_same⟩ (fun i H' _ z => z.1.seq ha) ?_ ?_
    · rintro i y G1 G2 hi ⟨s1, e1⟩ ⟨T, y1, y2, rfl, nT, rfl, q1, q2⟩
      obtain rfl : V.int (i : Nat) = y1 := Option.some.inj q1
      replace q2 : us[i]? = some y2 := q2
      have s2 : Same H (upd G1 T (.tup [.int (i : Nat), y2])) := s1.trans (same_new nT)
      have e2 : upd G1 T (.tup [.int (i : Nat), y2]) D = some (.lst (pickB c (us.take i))) := same_new nT _ _ e1
      have eT : upd G1 T (.tup [.int (i : Nat), y2]) T = some (.tup [.int (i : Nat), y2]) := upd_same
      generalize upd G1 T (.tup [.int (i : Nat), y2]) = G at s2 e2 eT ⊢
      have long : (pickB c (us.take i)).length < sizeLine := by
        have := pickB_len c (us.take i)
        rw [List.length_take] at this
        exact Nat.lt_of_le_of_lt (by omega : _ ≤ 1000) (by decide)
      refine ⟨T, _, rfl, SqT.of eT, rfl, _, _, rfl, _, _, rfl, rfl, rfl, ?_⟩
      refine ⟨_, rfl, _, rfl, _, _, rfl, rfl, Int.natCast_nonneg i, c / 2 ^ i, ?_, rfl, _, rfl, ?_⟩
      · show V.int ((c : Int) / 2 ^ ((i : Int)).toNat) = V.int ((c / 2 ^ i : Nat) : Int)
        rw [Int.toNat_natCast, Int.natCast_ediv, Int.natCast_pow] <;> rfl
      rw [pickB_snoc q2]
      have eb : (((c / 2 ^ i % 2 : Nat) : Int) != 0) = (c / 2 ^ i % 2 == 1) := by
        have := Nat.mod_two_eq_zero_or_one (c / 2 ^ i)
        rcases this with h | h <;> rw [h] <;> rfl
      rw [eb]
      cases z : (c / 2 ^ i % 2 == 1) with
      | true =>
        simp only [if_true]
        exact ⟨_, rfl, _, e2, long, same_put s2 nD, upd_same⟩
      | false =>
        simp only [Bool.false_eq_true, if_false, List.append_nil]
        exact ⟨s2, e2⟩
    · rintro H1 ⟨s1, e1⟩
      rw [List.take_length] at e1
      exact q D H1 nD s1 e1
end
end Nv
set_option maxHeartbeats 4000000
namespace Nv
open PySem PySem.Spec PyProof.Rows L2
/-! # _stands -/
section
variable {P : Program} {w : World} {K : PySem.W.Frag} {mg : Str → Option Value} {base : Heap}
def spStands (K : PySem.W.Frag) : Sp := fun vs H Q _ => ∃ (t a b : Addr) (us : List V) (x : List Str) (ps : List (List Str)) (sub : Str → Str), vs = [.ref t, .ref a, .ref b] ∧ H t = some (.tup (x.map V.str)) ∧ (SqL K H a us ∧ PaL H us ps ∧ (∀ p ∈ ps, 2 ≤ p.length ∧ p.length ≤ 4) ∧ ps.length ≤ 100) ∧ SubAt H b sub ∧
  SeqAt.shaped (dT x) = true ∧ SeqAt.shaped (dL (ps.map (fillT sub))) = true ∧ ∀ H', Same H H' → Q (.bl ((ps.map (fillT sub)).any fun p => PyData.eqv (dT p) (dT x))) H'
theorem scStands : FnScope ["fact", "told", "binding", "pattern"] ["fact", "told", "binding"] (defScope sStands) := ⟨rfl, rfl, rfl, by decide +kernel, rfl, by decide +kernel, by decide +kernel⟩
theorem ok_stands {f fF : Addr} {fd dF : FuncData} (F : Fun K "_stands" "_stands" sStands f fd)
    (GF : FnOk P w K mg base CX0 1 fF dF ["pattern", "binding"] (spFilled K)) (kF : PySem.W.keepIn K (.ref fF) = true) (gF : mg "filled" = some (.ref fF)) (bF : Binds K dF ["pattern", "binding"] []) :
    FnOk P w K mg base CX0 2 f fd ["fact", "told", "binding"] (spStands K) := by
  refine F.ok scStands (fun vs H Q E h => ?_) (fun cdv A outer s H vs Q E hr h => ?_)
  · obtain ⟨t, a, b, us, x, ps, sub, rfl, _⟩ := h
    rfl
  · obtain ⟨t, a, b, us, x, ps, sub, rfl, et, ⟨ha, hp, hl, few⟩, hb, s1, s2, q⟩ := h
    have hr1 : Room 1 _ := hr.mono (by decide)
    have hu : (A.deeper (envOfC "_stands" (defScope sStands) s.heap.objs.size f cdv)).units + 65 < cLine := by have := hr.un; omega
    refine ⟨_, pss_one (ps_ret (by exact (pe_cmpR (op_inD hu) (pv 0) (by exact (pe_lc (own := [("pattern", 3)]) (g := gName 3) (tt := tYes) rfl scStands.nd (pi_list (pv 1))
      (blkOk_by (own := [("pattern", 3)]) (N := ["fact", "told", "binding", "pattern"]) (sc := defScope sStands) (by decide +kernel))
      (fun _ _ _ _ _ => pg_name (i := 3) scStands.nd rfl (Or.inl rfl)) (fun _ _ _ _ _ => pts_nil)
      (fun _ _ _ _ _ => by exact (pe_call GF hr1 (by rfl) gF kF bF .nil pass0 (pa_cons (pv 3) (pa_cons (pv 2) pa_nil)))))) (by rfl)))), ?_⟩
    refine ⟨_, rfl, _, rfl, a, rfl, ⟨_, ha⟩, fun D nD => ?_⟩
    refine lc_list (K := K) (a := a) (xs := us) (fun i H' => Same H H' ∧ ∃ zs : List V, H' D = some (.lst zs) ∧ PaL H' zs ((ps.take i).map (fillT sub))) ⟨same_new nD, [], upd_same, .nil⟩ (fun i H' _ y => y.1.seq ha) ?_ ?_
    · rintro i v H1 hi ⟨s3, zs, e1, hz⟩
      obtain ⟨c, p, rfl, hpi, ec⟩ := hp.at_ hi
      have hpl := hl p (List.mem_of_getElem? hpi)
      refine ⟨rfl, _, rfl, ?_⟩
      dsimp only [tNil]
      obtain ⟨kvs, eb, hsub⟩ := hb
      refine ⟨_, rfl, c, b, p, sub, rfl, s3 _ _ ec, hpl.1, hpl.2, ⟨kvs, s3 _ _ eb, hsub⟩, fun r G nr sG er => ?_⟩
      have l1 := hz.len
      rw [List.length_map, List.length_take] at l1
      refine ⟨zs, sG _ _ e1, Nat.lt_of_le_of_lt (by omega : _ ≤ 100) (by decide), same_put (s3.trans sG) nD, _, upd_same, ?_⟩
      rw [take_one hpi, List.map_append]
      have rD : r ≠ D := fun z => by
        rw [z, sG _ _ e1] at er
        cases er
      exact ((hz.same sG).over (sG _ _ e1)).app (.cons (by rw [upd_ne rD]; exact er) .nil)
    · rintro H1 ⟨s3, zs, e1, hz⟩
      rw [hp.len, List.take_length] at hz
      exact ⟨dT x, (ps.map (fillT sub)).map dT, dp_T (s3 _ _ et), dp_L (SqL.of e1) hz, s1, s2, (by rw [List.any_map]; exact q H1 s3)⟩
end
end Nv
set_option maxHeartbeats 4000000
namespace Nv
open PySem PySem.Spec PyProof.Rows L2
/-! # need_question, where it lets pass -/
section
variable {P : Program} {w : World} {K : PySem.W.Frag} {mg : Str → Option Value} {base : Heap}
def spNeedQ (C : Addr) : Sp := fun vs H Q _ => ∃ (r dx : Addr) (fs : List (Str × V)), vs = [.ref r] ∧ H r = some (.ins C dx fs) ∧ Q .non H
theorem scNeedQ : FnScope ["value"] ["value"] (defScope sNeedQuestion) := ⟨rfl, rfl, rfl, by decide +kernel, rfl, by decide +kernel, by decide +kernel⟩
theorem ok_needQ {f C : Addr} {fd : FuncData} (F : Fun K "need_question" "need_question" sNeedQuestion f fd) (B : Bp mg) (cl : Cls K C) (I : IC K C) (gQ : mg "Question" = some (.ref C)) :
    FnOk P w K mg base CX0 1 f fd ["value"] (spNeedQ C) := by
  refine F.ok scNeedQ (fun vs H Q E h => ?_) (fun cdv A outer s H vs Q E hr h => ?_)
  · obtain ⟨r, dx, fs, rfl, _⟩ := h
    rfl
  · obtain ⟨r, dx, fs, rfl, e, q⟩ := h
    refine ⟨_, pss_one (ps_if (pt_not (pt_val (pe_callB call_isi (by rfl) B.isi bootIsi (pa_cons (pv 0) (pa_cons (pe_glob (v := V.ref C) (by rfl) gQ rfl) pa_nil))))) (pss_one ps_never) pss_nil), ?_⟩
    refine ⟨_, rfl, _, _, _, _, true, rfl, .own _, .base (.ins e cl I.ha I.hn I.ht I.hm), I.me, ?_⟩
    exact ⟨true, rfl, iteF q⟩
end
end Nv
set_option maxHeartbeats 4000000
namespace Nv
open PySem PySem.Spec PyProof.Rows L2
/-! # variables, matches, count_matches -/
section
variable (P : Program) (w : World) (K : PySem.W.Frag) (mg : Str → Option Value) (base : Heap)
/-- a property that tells a list of its own in a new one -/
structure PropL (C : Addr) (x f : Str) : Prop where
  ex : ∃ p g fd, PropOf K C x p g ∧ FnOk P w K mg base CX0 1 g fd ["self"] (spGetL C f) ∧ Binds K fd ["self"] []
/-- a def of the text by its name -/
structure CallA (x : Str) (k : Nat) (ps : List Str) (sp : Sp) : Prop where
  ex : ∃ f fd, FnOk P w K mg base CX0 k f fd ps sp ∧ PySem.W.keepIn K (.ref f) = true ∧ mg x = some (.ref f) ∧ Binds K fd ps []
end
/-- a store at b -/
structure StoreAt (H : Hp) (b : Addr) (us : List V) (ps : List (List Str)) : Prop where
  at_ : H b = some (.lst us)
  pal : PaL H us ps
  ok : ∀ p ∈ ps, FactOk p
  nd : ps.Nodup
  few : ps.length < 64
theorem StoreAt.same {H H' : Hp} {b : Addr} {us : List V} {ps : List (List Str)} (h : StoreAt H b us ps) (s : Same H H') : StoreAt H' b us ps := ⟨s _ _ h.at_, h.pal.same s, h.ok, h.nd, h.few⟩
theorem FactOk.small {p : List Str} (h : FactOk p) : p.length ≤ 1000 ∧ ∀ x ∈ p, x.length ≤ 1000 := ⟨by have := h.1.2; omega, fun x hx => by have := (h.2 x hx).2.1; omega⟩
theorem StoreAt.tps {K : PySem.W.Frag} {H : Hp} {b : Addr} {us : List V} {ps : List (List Str)} (h : StoreAt H b us ps) : Tps K H (.ref b) (some (ps.map fun q => some (q.map some))) :=
  ⟨b, us, rfl, h.at_, h.pal.tps fun p hp => (h.ok p hp).small, by rw [List.length_map]; have := h.few; omega⟩
theorem storeB_of {ps : List (List Str)} (ok : ∀ p ∈ ps, FactOk p) (nd : ps.Nodup) : storeB (some (ps.map fun q => some (q.map some))) = true := by
  show ((ps.map _).all factB && decide (ps.map _).Nodup) = true
  rw [Bool.and_eq_true]
  refine ⟨?_, decide_eq_true ((map_inj_nd fun x y e => some_map_inj e).mpr nd)⟩
  rw [List.all_map, List.all_eq_true]
  exact fun p hp => factB_strs.trans (decide_eq_true (ok p hp))
theorem StoreAt.need {K : PySem.W.Frag} {H : Hp} {b : Addr} {us : List V} {ps : List (List Str)} {Q : VK} {E : XK} (h : StoreAt H b us ps) (q : ∀ H', Same H H' → Q .non H') : spNeedStore K [.ref b] H Q E :=
  ⟨.ref b, _, rfl, h.tps, fun ls e => by cases e; rw [List.length_map]; exact h.few, storeB_of h.ok h.nd, q⟩
section
variable {P : Program} {w : World} {K : PySem.W.Frag} {mg : Str → Option Value} {base : Heap}
def spVarsQ (CQ : Addr) : Sp := fun vs H Q _ => ∃ (r : Addr) (x : Ql), vs = [.ref r] ∧ QA CQ H r x ∧ x.Ok ∧
  ∀ (p : Addr) (H' : Hp), Same H H' → H' p = some (.lst ((varsIn (tails x.ps)).map V.str)) → Q (.ref p) H'
theorem scVarsQ : FnScope ["question"] ["question"] (defScope sVarsQ) := ⟨rfl, rfl, rfl, by decide +kernel, rfl, by decide +kernel, by decide +kernel⟩
theorem ok_varsQ {f CQ : Addr} {fd : FuncData} (F : Fun K "variables" "variables" sVarsQ f fd) (R : QC K CQ) (T : PropL P w K mg base CQ "told" "_told")
    (GN : CallA P w K mg base "need_question" 1 ["value"] (spNeedQ CQ)) (GV : CallA P w K mg base "variables_of" 3 ["patterns"] (spVarsOf K)) :
    FnOk P w K mg base CX0 4 f fd ["question"] (spVarsQ CQ) := by
  obtain ⟨pt, gt, dt, PO, PF, PB⟩ := T.ex
  obtain ⟨fN, dN, GN, kN, gN, bN⟩ := GN.ex
  obtain ⟨fV, dV, GV, kV, gV, bV⟩ := GV.ex
  refine F.ok scVarsQ (fun vs H Q E h => ?_) (fun cdv A outer s H vs Q E hr h => ?_)
  · obtain ⟨r, x, rfl, _⟩ := h
    rfl
  · obtain ⟨r, x, rfl, hq, ok, q⟩ := h
    have hr1 : Room 1 _ := hr.mono (by decide)
    have hr2 : Room 2 _ := hr.mono (by decide)
    refine ⟨_, pss_cons (ps_expr (by exact (pe_call GN hr1 (by rfl) gN kN bN .nil pass0 (pa_cons (pv 0) pa_nil))))
      (pss_one (ps_ret (by exact (pe_call GV hr (by rfl) gV kV bV .nil pass0 (pa_cons (pe_prop (pv 0) R.cl PO PF hr2 PB .nil pass0 rfl) pa_nil))))), ?_⟩
    obtain ⟨dx, l1, l2, l3, us, us2, e, e1, ⟨e2, p2⟩, e3, p3⟩ := id hq
    refine ⟨_, rfl, ?_⟩
    dsimp only [tNil]
    refine ⟨r, dx, _, rfl, e, ?_⟩
    refine ⟨_, rfl, r, dx, _, rfl, e, r, dx, l2, _, us, rfl, e, qk2, e2, fun p np => ?_⟩
    dsimp only [tNil]
    have s1 : Same H (upd H p (.lst us)) := same_new np
    have ep : upd H p (.lst us) p = some (.lst us) := upd_same
    generalize upd H p (.lst us) = H1 at s1 ep ⊢
    refine ⟨p, us, x.ps, rfl, SqL.of ep, p2.same s1, ok.ps, by have := ok.pl; omega, fun p' H' n' s' e' => q p' H' (s1.trans s') e'⟩
def spMatches (CQ : Addr) : Sp := fun vs H Q _ => ∃ (r b : Addr) (x : Ql) (us : List V) (ps : List (List Str)) (m : Nat), vs = [.ref r, .ref b] ∧ (QA CQ H r x ∧ x.Ok ∧ x.ps.length ≤ 10 ∧ x.qs.length ≤ 10 ∧ Mat x.ps) ∧ StoreAt H b us ps ∧ (ps.length ≤ m ∧ 1 ≤ m ∧ m ≤ 1000 ∧ m ^ x.ps.length ≤ 100000) ∧
  ∀ (p : Addr) (H' : Hp) (us' : List V) (zs : List Str), Same H H' → H' p = some (.lst us') → PaL H' us' (sortT (metF zs x.ps x.qs ps)) → NamesOf (tails x.ps ++ x.qs.flatten) zs → Q (.ref p) H'
theorem scMatches : FnScope ["question", "store"] ["question", "store"] (defScope sMatches) := ⟨rfl, rfl, rfl, by decide +kernel, rfl, by decide +kernel, by decide +kernel⟩
theorem ok_matches {f CQ : Addr} {fd : FuncData} (F : Fun K "matches" "matches" sMatches f fd) (R : QC K CQ) (T : PropL P w K mg base CQ "told" "_told") (T2 : PropL P w K mg base CQ "pairs" "_pairs") (so : mg "sorted" = none)
    (GN : CallA P w K mg base "need_question" 1 ["value"] (spNeedQ CQ)) (GS : CallA P w K mg base "need_store" 5 ["value"] (spNeedStore K))
    (GM : CallA P w K mg base "met" 6 ["told", "pairs", "shelf"] (spMet K)) (GB : CallA P w K mg base "by_kind" 2 ["facts"] (spByKind K)) :
    FnOk P w K mg base CX0 7 f fd ["question", "store"] (spMatches CQ) := by
  obtain ⟨pt, gt, dt, PO, PF, PB⟩ := T.ex
  obtain ⟨pt2, gt2, dt2, PO2, PF2, PB2⟩ := T2.ex
  obtain ⟨fN, dN, GN, kN, gN, bN⟩ := GN.ex
  obtain ⟨fS, dS, GS, kS, gS, bS⟩ := GS.ex
  obtain ⟨fM, dM, GM, kM, gM, bM⟩ := GM.ex
  obtain ⟨fB, dB, GB, kB, gB, bB⟩ := GB.ex
  refine F.ok scMatches (fun vs H Q E h => ?_) (fun cdv A outer s H vs Q E hr h => ?_)
  · obtain ⟨r, b, x, us, ps, m, rfl, _⟩ := h
    rfl
  · obtain ⟨r, b, x, us, ps, m, rfl, ⟨hq, ok, hl1, hl2, mat⟩, st, ⟨m1, m2, m3, m4⟩, q⟩ := h
    have hr1 : Room 1 _ := hr.mono (by decide)
    have hr2 : Room 2 _ := hr.mono (by decide)
    have hr5 : Room 5 _ := hr.mono (by decide)
    have hu : (A.deeper (envOfC "matches" (defScope sMatches) s.heap.objs.size f cdv)).units + 64 < cLine := hr.units
    refine ⟨_, pss_cons (ps_expr (by exact (pe_call GN hr1 (by rfl) gN kN bN .nil pass0 (pa_cons (pv 0) pa_nil))))
      (pss_cons (ps_expr (by exact (pe_call GS hr5 (by rfl) gS kS bS .nil pass0 (pa_cons (pv 1) pa_nil))))
      (pss_one (ps_ret (pe_callB (cr_sortTx hu) (by rfl) so bootSorted (pa_cons (by exact (pe_call GM hr (by rfl) gM kM bM .nil pass0 (pa_cons (pe_prop (pv 0) R.cl PO PF hr2 PB .nil pass0 rfl) (pa_cons (pe_prop (pv 0) R.cl PO2 PF2 hr2 PB2 .nil pass0 rfl) (pa_cons (by exact (pe_call GB hr2 (by rfl) gB kB bB .nil pass0 (pa_cons (pv 1) pa_nil))) pa_nil))))) pa_nil))))), ?_⟩
    obtain ⟨dx, l1, l2, l3, u2, u3, e, e1, ⟨e2, p2⟩, e3, p3⟩ := id hq
    refine ⟨_, rfl, ?_⟩
    dsimp only [tNil]
    refine ⟨r, dx, _, rfl, e, ?_⟩
    refine ⟨_, rfl, ?_⟩
    dsimp only [tNil]
    refine st.need fun H1 s1 => ?_
    refine ⟨_, rfl, r, dx, _, rfl, s1 _ _ e, r, dx, l2, _, u2, rfl, s1 _ _ e, qk2, s1 _ _ e2, fun a na => ?_⟩
    have s2 : Same H (upd H1 a (.lst u2)) := s1.trans (same_new na)
    have ea : upd H1 a (.lst u2) a = some (.lst u2) := upd_same
    generalize upd H1 a (.lst u2) = H2 at s2 ea ⊢
    refine ⟨_, rfl, r, dx, _, rfl, s2 _ _ e, r, dx, l3, _, u3, rfl, s2 _ _ e, qk3, s2 _ _ e3, fun c nc => ?_⟩
    have s3 : Same H2 (upd H2 c (.lst u3)) := same_new nc
    have ec : upd H2 c (.lst u3) c = some (.lst u3) := upd_same
    generalize upd H2 c (.lst u3) = H3 at s3 ec ⊢
    have s03 := s2.trans s3
    refine ⟨_, rfl, ?_⟩
    dsimp only [tNil]
    have st3 := st.same s03
    refine ⟨b, us, ps, rfl, SqL.of st3.at_, st3.pal, st3.ok, by have := st.few; omega, fun d H4 nd s4 sh => ?_⟩
    have s04 := s03.trans s4
    refine ⟨a, c, .ref d, u2, u3, x.ps, x.qs, ps, m, rfl, ⟨s4 _ _ (s3 _ _ ea), p2.same s04, ok.ps, hl1⟩, ⟨s4 _ _ ec, p3.same s04, ok.qs, hl2⟩, ⟨⟨d, us, H3, rfl, sh, st.pal.same s04, st.ok⟩, m1, m2, m3, m4⟩, fun zs hz => plan_nt mat.nt, fun p H5 us' zs np s5 e5 hz h5 => ?_⟩
    refine ⟨p, us', _, rfl, SqL.of e5, h5, mat.ne hz, fun p' us2 np' h2 _ => ?_⟩
    have s6 : Same H5 (upd H5 p' (.lst us2)) := same_new np'
    exact q p' _ us2 zs ((s04.trans s5).trans s6) upd_same (h2.same s6) hz
def spCount (CQ : Addr) : Sp := fun vs H Q _ => ∃ (r b : Addr) (x : Ql) (us : List V) (ps : List (List Str)) (m : Nat), vs = [.ref r, .ref b] ∧ (QA CQ H r x ∧ x.Ok ∧ x.ps.length ≤ 10 ∧ x.qs.length ≤ 10 ∧ Mat x.ps) ∧ StoreAt H b us ps ∧ (ps.length ≤ m ∧ 1 ≤ m ∧ m ≤ 1000 ∧ m ^ x.ps.length ≤ 100000) ∧
  ∀ (H' : Hp) (zs : List Str), Same H H' → NamesOf (tails x.ps ++ x.qs.flatten) zs → Q (.int (((sortT (metF zs x.ps x.qs ps)).length : Nat) : Int)) H'
theorem scCount : FnScope ["question", "store"] ["question", "store"] (defScope sCount) := ⟨rfl, rfl, rfl, by decide +kernel, rfl, by decide +kernel, by decide +kernel⟩
theorem ok_count {f CQ : Addr} {fd : FuncData} (F : Fun K "count_matches" "count_matches" sCount f fd) (B : Bp mg) (GM : CallA P w K mg base "matches" 7 ["question", "store"] (spMatches CQ)) :
    FnOk P w K mg base CX0 8 f fd ["question", "store"] (spCount CQ) := by
  obtain ⟨fM, dM, GM, kM, gM, bM⟩ := GM.ex
  refine F.ok scCount (fun vs H Q E h => ?_) (fun cdv A outer s H vs Q E hr h => ?_)
  · obtain ⟨r, b, x, us, ps, m, rfl, _⟩ := h
    rfl
  · obtain ⟨r, b, x, us, ps, m, rfl, hq, st, hm, q⟩ := h
    refine ⟨_, pss_one (ps_ret (pe_callB call_len (by rfl) B.len PySem.boot_len (pa_cons (by exact (pe_call GM hr (by rfl) gM kM bM .nil pass0 (pa_cons (pv 0) (pa_cons (pv 1) pa_nil)))) pa_nil))), ?_⟩
    refine ⟨_, rfl, _, rfl, ?_⟩
    dsimp only [tNil]
    refine ⟨r, b, x, us, ps, m, rfl, hq, st, hm, fun p H' us' zs s' e' h' hz => ⟨_, _, rfl, .inl ⟨_, SqL.of e', rfl⟩, ?_⟩⟩
    rw [h'.len]
    exact q H' zs s' hz
end
end Nv
set_option maxHeartbeats 4000000
namespace Nv
open PySem PySem.Spec PyProof.Rows L2
/-! # met_numbers, partials -/
/-- the rows behind the first i patterns -/
def rowsUpto (zs : List Str) (pats prs ps : List (List Str)) (i : Nat) : List (List Str) := (((planOf zs pats).zip (List.replicate pats.length ps)).take i).foldl (stepR prs) [zs]
def numsF (zs : List Str) (pats prs ps : List (List Str)) : List Int := (List.range pats.length).map fun i => (((rowsUpto zs pats prs ps (i + 1)).length : Nat) : Int)
section
variable {P : Program} {w : World} {K : PySem.W.Frag} {mg : Str → Option Value} {base : Heap}
def spMetNumbers (K : PySem.W.Frag) : Sp := fun vs H Q _ => ∃ (a b : Addr) (sv : V) (us uq : List V) (pats prs ps : List (List Str)) (m : Nat), vs = [.ref a, .ref b, sv] ∧ (H a = some (.lst us) ∧ PaL H us pats ∧ (∀ x ∈ pats, PatOk x) ∧ pats.length ≤ 10) ∧ (H b = some (.lst uq) ∧ PaL H uq prs ∧ (∀ x ∈ prs, PairOk x) ∧ prs.length ≤ 10) ∧
  (ShelfV H sv ps ∧ ps.length ≤ m ∧ 1 ≤ m ∧ m ≤ 1000 ∧ m ^ pats.length ≤ 100000) ∧ (∀ zs, NamesOf (tails pats ++ prs.flatten) zs → ∀ z ∈ planOf zs pats, NoTwin z.2 z.1) ∧
  ∀ (p : Addr) (H' : Hp) (zs : List Str), Same H H' → H' p = some (.lst ((numsF zs pats prs ps).map V.int)) → NamesOf (tails pats ++ prs.flatten) zs → Q (.ref p) H'
abbrev nMetN : List Str := ["told", "pairs", "shelf", "names", "rows", "numbers", "step"]
theorem scMetNumbers : FnScope nMetN ["told", "pairs", "shelf"] (defScope sMetNumbers) := ⟨rfl, rfl, rfl, by decide +kernel, rfl, by decide +kernel, by decide +kernel⟩
theorem ok_metNumbers {f C CS fP : Addr} {fd dP : FuncData} (F : Fun K "met_numbers" "met_numbers" sMetNumbers f fd) (B : Bp mg) (R : PNC K C) (RS : SC K CS)
    (GN : CallA P w K mg base "names_in" 3 ["patterns", "pairs"] (spNamesIn K))
    (GP : FnOk P w K mg base CX0 4 fP dP ["self", "patterns", "pairs", "known"] (spPlanInit CS C)) (MP : Mk K C fP) (gP : mg "Plan" = some (.ref C)) (bP : Binds K dP ["self", "patterns", "pairs", "known"] [])
    {fO : Addr} {dO : FuncData} (GO : FnOk P w K mg base CX0 2 fO dO ["self", "rows", "facts"] (spOnward K CS)) (mO : Meth K CS "onward" fO) (bO : Binds K dO ["self", "rows", "facts"] []) :
    FnOk P w K mg base CX0 6 f fd ["told", "pairs", "shelf"] (spMetNumbers K) := by
  obtain ⟨fN, dN, GN, kN, gN, bN⟩ := GN.ex
  refine F.ok scMetNumbers (fun vs H Q E h => ?_) (fun cdv A outer s H vs Q E hr h => ?_)
  · obtain ⟨a, b, sv, us, uq, pats, prs, ps, m, rfl, _⟩ := h
    rfl
  · obtain ⟨a, b, sv, us, uq, pats, prs, ps, m, rfl, ⟨ea, hp, hpo, hpl⟩, ⟨eb, hq, hqo, hql⟩, ⟨hs, hm1, hm2, hm3, hm4⟩, hnt, q⟩ := h
    have hr2 : Room 2 _ := hr.mono (by decide)
    have hr3 : Room 3 _ := hr.mono (by decide)
    have hr5 : Room 5 _ := hr.mono (by decide)
    have hu : (A.deeper (envOfC "met_numbers" (defScope sMetNumbers) s.heap.objs.size f cdv)).units + 1 < cLine := Nat.lt_of_le_of_lt (Nat.add_le_add_left (by decide : 1 ≤ 64) _) hr.units
    refine ⟨_, pss_cons (ps_set (i := 3) scMetNumbers.nd rfl (Or.inl rfl) (by exact (pe_call GN hr3 (by rfl) gN kN bN .nil pass0 (pa_cons (pv 0) (pa_cons (pv 1) pa_nil)))))
      (pss_cons (ps_set (i := 4) scMetNumbers.nd rfl (Or.inl rfl) (pe_lst (pa_cons (pe_callTy call_tuple_of (by rfl) B.tup PyProof.Rows.boot_tuple (pa_cons (pv 3) pa_nil)) pa_nil)))
      (pss_cons (ps_set (i := 5) scMetNumbers.nd rfl (Or.inl rfl) (pe_lst pa_nil))
      (pss_cons (ps_for PassesOwn.never rfl (pi_list (pe_fld (by exact (pe_make MP GP hr5 (by rfl) gP bP .nil pass0 (pa_cons (pv 0) (pa_cons (pv 1) (pa_cons (pv 3) pa_nil))))) rfl)) (pg_name (i := 6) scMetNumbers.nd rfl (Or.inl rfl))
        (pss_cons (ps_set (i := 4) scMetNumbers.nd rfl (Or.inl rfl) (by exact (pe_meth (pv 6) RS.cl mO GO hr2 bO .nil pass0 (pa_cons (pv 4) (pa_cons (pe_dget2 hu (pv 2) (pe_fld (pv 6) rfl) (pe_lst pa_nil) ⟨rfl, rfl, rfl, rfl⟩) pa_nil)))))
        (pss_one (ps_expr (pe_bm PySem.F.plainAttrs_list PySem.F.slot_list_append PySem.F.type_list_append mt_append (pv 5) (pa_cons (pe_callB call_len (by rfl) B.len PySem.boot_len (pa_cons (pv 4) pa_nil)) pa_nil))))))
      (pss_one (ps_ret (pv 5)))))), ?_⟩
    have patl : ∀ x ∈ pats, 1 ≤ x.length ∧ x.length ≤ 4 := fun x hx => by
      obtain ⟨w, ts, rfl, _, h3, _⟩ := hpo x hx
      rw [List.length_cons]
      omega
    have prl : ∀ x ∈ prs, ∃ y z, x = [y, z] := fun x hx => by
      obtain ⟨y, z, e, _⟩ := hqo x hx
      exact ⟨y, z, e⟩
    refine ⟨_, rfl, _, rfl, ?_⟩
    dsimp only [tNil]
    refine ⟨a, b, us, uq, pats, prs, rfl, ⟨SqL.of ea, hp, hpo, hpl⟩, ⟨SqL.of eb, hq, hqo, hql⟩, fun p1 H1 zs n1 s1 e1 hz => ?_⟩
    have zl : zs.length ≤ 50 := by
      have h1 := hz.len
      have l1 := tails_len hpo
      have l2 := flat_len (qs := prs) fun x hx => by
        obtain ⟨y, z, rfl⟩ := prl x hx
        rfl
      rw [List.length_append] at h1
      omega
    show tSeq _ _ _ _ _
    refine ⟨_, rfl, p1, _, rfl, .inl ⟨SqL.of e1, fun ft nft => ?_⟩⟩
    have s2 : Same H (upd H1 ft (.tup (zs.map V.str))) := s1.trans (same_new nft)
    have e12 := same_new (o := .tup (zs.map V.str)) nft _ _ e1
    have eft : upd H1 ft (.tup (zs.map V.str)) ft = some (.tup (zs.map V.str)) := upd_same
    generalize upd H1 ft (.tup (zs.map V.str)) = H2 at s2 e12 eft ⊢
    refine ⟨by show 1 ≤ _; decide, fun r0 nr0 => ?_⟩
    have s3 : Same H2 (upd H2 r0 (.lst [.ref ft])) := same_new nr0
    have er0 : upd H2 r0 (.lst [.ref ft]) r0 = some (.lst [.ref ft]) := upd_same
    generalize upd H2 r0 (.lst [.ref ft]) = H3 at s3 er0 ⊢
    show tSeq _ _ _ _ _
    refine ⟨by show 0 ≤ _; exact Nat.zero_le _, fun nl nnl => ?_⟩
    have s4 : Same H3 (upd H3 nl (.lst [])) := same_new nnl
    have enl : upd H3 nl (.lst []) nl = some (.lst []) := upd_same
    have s04 := (s2.trans s3).trans s4
    have nlH : H nl = none := (s2.trans s3).free nnl
    have r0nl : r0 ≠ nl := fun y => by rw [← y, er0] at nnl; cases nnl
    have nlH3 : ∀ {c : Addr} {o : HO}, H3 c = some o → c ≠ nl := fun e y => by rw [y, nnl] at e; cases e
    generalize upd H3 nl (.lst []) = H4 at s4 enl s04 ⊢
    show tSeq _ _ _ _ _
    refine ⟨_, rfl, _, rfl, _, rfl, ?_⟩
    dsimp only [tNil]
    intro x dx nx ndx ne
    have U := madeN (C := C) nx ndx ne
    refine ⟨x, dx, a, b, p1, us, uq, pats, prs, zs, rfl, upd_same, ⟨U _ _ (s04 _ _ ea), (hp.same s04).same U, patl, by omega⟩, ⟨U _ _ (s04 _ _ eb), (hq.same s04).same U, prl, by omega⟩, ⟨U _ _ (s4 _ _ (s3 _ _ e12)), by omega⟩, hnt zs hz, fun G sb PN => ⟨rfl, ?_⟩⟩
    have sG1 := madeS nx ndx ne sb
    have sG := s04.trans sG1
    obtain ⟨dxp, ap, st, tl, az, ss, er, _, _, est, hss, nst⟩ := PN
    have enl0 : upd (upd H4 dx (.own x)) x (.ins C dx []) nl = some (.lst []) := U _ _ enl
    have stn : st ≠ nl := fun y => by rw [y, enl0] at nst; cases nst
    have enlG := sG1 _ _ enl
    have er0G := sG1 _ _ (s4 _ _ er0)
    have eftG := sG1 _ _ (s4 _ _ (s3 _ _ eft))
    have hssl := hss.len
    rw [planOf_len] at hssl
    have nn0 : upd (upd H4 dx (.own x)) x (.ins C dx []) nl ≠ none := by rw [enl0]; exact fun y => nomatch y
    generalize upd (upd H4 dx (.own x)) x (.ins C dx []) = H0 at hss nn0
    have hsG := hs.same sG
    have lim : ∀ j, j ≤ pats.length → m ^ j ≤ 100000 := fun j hj => Nat.le_trans (Nat.pow_le_pow_right hm2 hj) hm4
    clear U sb enl0 nst s1 s2 s3 s4 e1 e12 enl er0 eft nnl nft nr0 nx ndx ne
    refine ⟨x, C, dxp, _, .ref st, rfl, er, R.cl, R.n2, pl2, st, rfl, ⟨_, SqL.of est⟩, ?_⟩
    show ∃ W : Nat → Nat → L2.St → Hp → Prop, (∃ m, W 0 m [some (.ref a), some (.ref b), some sv, some (.ref p1), some (.ref r0), some (.ref nl), none] G) ∧ _
    refine for_list (D := { nx := tRet (tVar 5) { nx := fun x H' => Q V.non H', rt := Q }, rt := Q }) (K := K) (a := st) (xs := ss.map V.ref)
      (fun i σ G' => ∃ (ri : Addr) (ui : List V) (o6 : Option V), σ = [some (.ref a), some (.ref b), some sv, some (.ref p1), some (.ref ri), some (.ref nl), o6] ∧ Sb nl G G' ∧ ri ≠ nl ∧ G' ri = some (.lst ui) ∧ PaL G' ui (rowsUpto zs pats prs ps i) ∧
        (∀ y ∈ rowsUpto zs pats prs ps i, y.length = (planT zs (pats.take i)).length) ∧ (rowsUpto zs pats prs ps i).length ≤ m ^ i ∧ G' nl = some (.lst (((numsF zs pats prs ps).take i).map V.int)) ∧ All2 (fun a (z : List Str × List Str) => StepNew CS H0 G' a z.1 z.2 prs) ss (planOf zs pats))
      ⟨r0, [.ref ft], none, rfl, Sb.refl _ _, r0nl, er0G, .cons eftG .nil, fun y hy => by rw [List.mem_singleton.mp hy] <;> rfl, Nat.le_refl _, enlG, hss⟩ (fun i σ G' _ z => ?_) ?_ ?_
    · obtain ⟨_, _, _, _, sb', _⟩ := z
      exact SqL.of (sb' _ _ stn est)
    · rintro i v σ G1 hi ⟨ri, ui, o6, rfl, sb1, rin, eri, hui, hw, hc, enl1, hst1⟩
      rw [List.getElem?_map] at hi
      obtain ⟨sa, hsa, rfl⟩ := Option.map_eq_some_iff.mp hi
      obtain ⟨z, hz', hst⟩ := hst1.at_ hsa
      obtain ⟨pat, hpi, rfl⟩ := planOf_at hz'
      obtain ⟨hp1, hp4⟩ := patl pat (List.mem_of_getElem? hpi)
      have il := (List.getElem?_eq_some_iff.mp hpi).1
      have sh : ShelfV G1 sv ps := by
        obtain ⟨d, us, H00, e0, ⟨kvs, f1, f2, f3, f4, f5⟩, hus, hok⟩ := hs
        have k : ∀ {c : Addr} {o : HO}, H c = some o → G1 c = some o := fun e => sb1 _ _ (fun y => by rw [y, nlH] at e; cases e) (sG _ _ e)
        exact ⟨d, us, H00, e0, ⟨kvs, k f1, f2, fun kk vv hv => by
          obtain ⟨l, q1, q2, q3⟩ := f3 kk vv hv
          exact ⟨l, q1, q2, k q3⟩, f4, f5⟩, hus.same fun c o e => k e, hok⟩
      obtain ⟨d, us0, H00, rfl, S, hus, hok⟩ := sh
      obtain ⟨kvs, f1, f2, f3, f4, f5⟩ := S
      obtain ⟨dxs, k, o, pl, n, tw, l3, a3, z3, g1, g2, _⟩ := id hst
      have lkO : (stF k o pl n tw l3 a3).lookup ("onward" : Str) = none := (lk_no (by decide +kernel)).trans ((lk_no (by decide +kernel)).trans ((lk_no (by decide +kernel)).trans ((lk_no (by decide +kernel)).trans ((lk_no (by decide +kernel)).trans ((lk_no (by decide +kernel)).trans ((lk_no (by decide +kernel)).trans rfl))))))
      refine ⟨_, rfl, sa, dxs, _, rfl, g1, lkO, _, rfl, _, rfl, d, rfl, .inr ⟨kvs, .inl f1⟩, _, rfl, sa, CS, dxs, _, .ref k, rfl, g1, RS.cl, RS.n1, lk_yes, by show 0 ≤ _; exact Nat.zero_le _, fun n0 nn => ⟨valV kvs (kindK pat), DGet.t (same_new nn _ _ f1) (same_new nn _ _ g2), ?_⟩⟩
      have t4 : Same G1 (upd G1 n0 (.lst [])) := same_new nn
      have en0 : upd G1 n0 (.lst []) n0 = some (.lst []) := upd_same
      have n0l : n0 ≠ nl := fun y => by rw [y, enl1] at nn; cases nn
      generalize upd G1 n0 (.lst []) = G4 at t4 en0 ⊢
      obtain ⟨L0, fs, hL, eL, hy⟩ : ∃ (L0 : Addr) (fs : List V), (valV kvs (kindK pat)).getD (.ref n0) = .ref L0 ∧ G4 L0 = some (.lst fs) ∧ PaL G4 fs (ofKind pat ps) := by
        have hpick := pick_pal (key := kindK) (k := kindK pat) (f := fun x => x) (ps := ps) (by rw [List.map_id']; exact hus.same t4)
        rw [List.map_id'] at hpick
        cases hval : valV kvs (kindK pat) with
        | none =>
          rw [f4 _ hval] at hpick
          exact ⟨n0, [], rfl, en0, hpick⟩
        | some v =>
          obtain ⟨l0, rfl, _, el0⟩ := f3 _ _ hval
          exact ⟨l0, _, rfl, t4 _ _ el0, hpick⟩
      rw [hL]
      have zi : ((planOf zs pats).zip (List.replicate pats.length ps))[i]? = some ((pat, planT zs (pats.take i)), ps) := List.getElem?_zip_eq_some.mpr ⟨hz', by rw [List.getElem?_replicate, if_pos il]⟩
      have tsl : (planT zs (pats.take i)).length ≤ 900 := by
        have := planT_len (ps := pats.take i) (ts := zs) fun x hx => (patl x (List.mem_of_mem_take hx)).2
        rw [List.length_take] at this
        omega
      have okl : (ofKind pat ps).length ≤ m := Nat.le_trans (List.length_filter_le _ _) hm1
      have hprod : (rowsUpto zs pats prs ps i).length * (ofKind pat ps).length ≤ m ^ (i + 1) := by
        rw [Nat.pow_succ]
        exact Nat.mul_le_mul hc okl
      have hnext : rowsUpto zs pats prs ps (i + 1) = onw pat (planT zs (pats.take i)) prs (rowsUpto zs pats prs ps i) (ofKind pat ps) := by
        unfold rowsUpto
        rw [take_one zi, List.foldl_append] <;> rfl
      refine ⟨sa, ri, L0, pat, planT zs (pats.take i), prs, ui, fs, _, ofKind pat ps, rfl, hst.at_.same t4, ⟨hp4, tsl⟩, prl, ⟨t4 _ _ eri, hui.same t4, hw, Nat.le_trans hc (lim i (by omega))⟩, ⟨SqL.of eL, hy, fun x hx => ?_, by omega⟩, Nat.le_trans hprod (lim (i + 1) (by omega)), fun r2 G5 us2 nw s5 e5 h5 => ?_⟩
      · obtain ⟨mx, hk⟩ := List.mem_filter.mp hx
        exact kind_len (hok x mx).1.1 hp1 (of_decide_eq_true hk)
      · have s15 := t4.trans s5
        have enl5 := s15 _ _ enl1
        have hnum : (numsF zs pats prs ps)[i]? = some (((rowsUpto zs pats prs ps (i + 1)).length : Nat) : Int) := by
          unfold numsF
          rw [List.getElem?_map, List.getElem?_range il] <;> rfl
        show tSeq _ _ _ _ _
        refine ⟨_, rfl, .inl ⟨rfl, _, SqL.of enl5⟩, _, rfl, _, _, rfl, .inl ⟨_, SqL.of e5, rfl⟩, nl, _, _, rfl, rfl, enl5, ?_, ?_⟩
        · rw [List.length_map, List.length_take]
          exact Nat.lt_of_le_of_lt (by omega : _ ≤ 10) (by decide)
        rw [← hnext] at h5
        have r2n : r2 ≠ nl := fun y => by
          rcases nw with z | z
          · exact rin (z ▸ y)
          · rw [y, t4 _ _ enl1] at z
            cases z
        refine ⟨r2, us2, some (.ref sa), rfl, (sb1.trans (Sb.of s15)).trans Sb.upd, r2n, by rw [upd_ne r2n]; exact e5, h5.over enl5, ?_, ?_, ?_, hst1.imp fun _ _ z => (z.same s15).list nn0 enl5⟩
        · rw [hnext, take_one hpi, planT_snoc]
          exact onw_wide hw
        · rw [hnext]
          exact Nat.le_trans onw_len hprod
        · rw [upd_same, h5.len, take_one hnum, List.map_append] <;> rfl
    · rintro σ G1 ⟨ri, ui, o6, rfl, sb1, rin, eri, hui, hw, hc, enl1, hst1⟩
      rw [List.length_map, hssl] at enl1
      have e : (numsF zs pats prs ps).take pats.length = numsF zs pats prs ps := List.take_of_length_le (by unfold numsF; rw [List.length_map, List.length_range]; exact Nat.le_refl _)
      rw [e] at enl1
      exact ⟨_, rfl, q nl G1 zs (fun c o ec => sb1 _ _ (fun y => by rw [y, nlH] at ec; cases ec) (sG _ _ ec)) enl1 hz⟩
end
end Nv
set_option maxHeartbeats 4000000
namespace Nv
open PySem PySem.Spec PyProof.Rows L2
section
variable {P : Program} {w : World} {K : PySem.W.Frag} {mg : Str → Option Value} {base : Heap}
def spPartials (CQ : Addr) : Sp := fun vs H Q _ => ∃ (r b : Addr) (x : Ql) (us : List V) (ps : List (List Str)) (m : Nat), vs = [.ref r, .ref b] ∧ (QA CQ H r x ∧ x.Ok ∧ x.ps.length ≤ 10 ∧ x.qs.length ≤ 10 ∧ Mat x.ps) ∧ StoreAt H b us ps ∧ (ps.length ≤ m ∧ 1 ≤ m ∧ m ≤ 1000 ∧ m ^ x.ps.length ≤ 100000) ∧
  ∀ (p : Addr) (H' : Hp) (zs : List Str), Same H H' → H' p = some (.lst ((numsF zs x.ps x.qs ps).map V.int)) → NamesOf (tails x.ps ++ x.qs.flatten) zs → Q (.ref p) H'
theorem scPartials : FnScope ["question", "store"] ["question", "store"] (defScope sPartials) := ⟨rfl, rfl, rfl, by decide +kernel, rfl, by decide +kernel, by decide +kernel⟩
theorem ok_partials {f CQ : Addr} {fd : FuncData} (F : Fun K "partials" "partials" sPartials f fd) (R : QC K CQ) (T : PropL P w K mg base CQ "told" "_told") (T2 : PropL P w K mg base CQ "pairs" "_pairs")
    (GN : CallA P w K mg base "need_question" 1 ["value"] (spNeedQ CQ)) (GS : CallA P w K mg base "need_store" 5 ["value"] (spNeedStore K))
    (GM : CallA P w K mg base "met_numbers" 6 ["told", "pairs", "shelf"] (spMetNumbers K)) (GB : CallA P w K mg base "by_kind" 2 ["facts"] (spByKind K)) :
    FnOk P w K mg base CX0 7 f fd ["question", "store"] (spPartials CQ) := by
  obtain ⟨pt, gt, dt, PO, PF, PB⟩ := T.ex
  obtain ⟨pt2, gt2, dt2, PO2, PF2, PB2⟩ := T2.ex
  obtain ⟨fN, dN, GN, kN, gN, bN⟩ := GN.ex
  obtain ⟨fS, dS, GS, kS, gS, bS⟩ := GS.ex
  obtain ⟨fM, dM, GM, kM, gM, bM⟩ := GM.ex
  obtain ⟨fB, dB, GB, kB, gB, bB⟩ := GB.ex
  refine F.ok scPartials (fun vs H Q E h => ?_) (fun cdv A outer s H vs Q E hr h => ?_)
  · obtain ⟨r, b, x, us, ps, m, rfl, _⟩ := h
    rfl
  · obtain ⟨r, b, x, us, ps, m, rfl, ⟨hq, ok, hl1, hl2, mat⟩, st, ⟨m1, m2, m3, m4⟩, q⟩ := h
    have hr1 : Room 1 _ := hr.mono (by decide)
    have hr2 : Room 2 _ := hr.mono (by decide)
    have hr5 : Room 5 _ := hr.mono (by decide)
    refine ⟨_, pss_cons (ps_expr (by exact (pe_call GN hr1 (by rfl) gN kN bN .nil pass0 (pa_cons (pv 0) pa_nil))))
      (pss_cons (ps_expr (by exact (pe_call GS hr5 (by rfl) gS kS bS .nil pass0 (pa_cons (pv 1) pa_nil))))
      (pss_one (ps_ret (by exact (pe_call GM hr (by rfl) gM kM bM .nil pass0 (pa_cons (pe_prop (pv 0) R.cl PO PF hr2 PB .nil pass0 rfl) (pa_cons (pe_prop (pv 0) R.cl PO2 PF2 hr2 PB2 .nil pass0 rfl) (pa_cons (by exact (pe_call GB hr2 (by rfl) gB kB bB .nil pass0 (pa_cons (pv 1) pa_nil))) pa_nil)))))))), ?_⟩
    obtain ⟨dx, l1, l2, l3, u2, u3, e, e1, ⟨e2, p2⟩, e3, p3⟩ := id hq
    refine ⟨_, rfl, ?_⟩
    dsimp only [tNil]
    refine ⟨r, dx, _, rfl, e, ?_⟩
    refine ⟨_, rfl, ?_⟩
    dsimp only [tNil]
    refine st.need fun H1 s1 => ?_
    refine ⟨_, rfl, r, dx, _, rfl, s1 _ _ e, r, dx, l2, _, u2, rfl, s1 _ _ e, qk2, s1 _ _ e2, fun a na => ?_⟩
    have s2 : Same H (upd H1 a (.lst u2)) := s1.trans (same_new na)
    have ea : upd H1 a (.lst u2) a = some (.lst u2) := upd_same
    generalize upd H1 a (.lst u2) = H2 at s2 ea ⊢
    refine ⟨_, rfl, r, dx, _, rfl, s2 _ _ e, r, dx, l3, _, u3, rfl, s2 _ _ e, qk3, s2 _ _ e3, fun c nc => ?_⟩
    have s3 : Same H2 (upd H2 c (.lst u3)) := same_new nc
    have ec : upd H2 c (.lst u3) c = some (.lst u3) := upd_same
    generalize upd H2 c (.lst u3) = H3 at s3 ec ⊢
    have s03 := s2.trans s3
    refine ⟨_, rfl, ?_⟩
    dsimp only [tNil]
    have st3 := st.same s03
    refine ⟨b, us, ps, rfl, SqL.of st3.at_, st3.pal, st3.ok, by have := st.few; omega, fun d H4 nd s4 sh => ?_⟩
    have s04 := s03.trans s4
    exact ⟨a, c, .ref d, u2, u3, x.ps, x.qs, ps, m, rfl, ⟨s4 _ _ (s3 _ _ ea), p2.same s04, ok.ps, hl1⟩, ⟨s4 _ _ ec, p3.same s04, ok.qs, hl2⟩, ⟨⟨d, us, H3, rfl, sh, st.pal.same s04, st.ok⟩, m1, m2, m3, m4⟩, fun zs hz => plan_nt mat.nt, fun p H5 zs s5 e5 hz => q p H5 zs (s04.trans s5) e5 hz⟩
end
end Nv
set_option maxHeartbeats 4000000
namespace Nv
open PySem PySem.Spec PyProof.Rows
/-! # itertools.permutations: what the table says of it -/
theorem pm_sl_next : Slot "itertools.permutations" "__next__" "itertools.permutations.__next__" := .of (owner := "itertools.permutations") (n := "__next__") (by rw [typeLookup_type, builtinLookup_eq_fast]; kernel_rfl) (by decide +kernel) (by decide +kernel) (by decide +kernel) (by first | exact .inl (by decide +kernel) | exact .inr (by decide +kernel)) (by rw [isSubtype_type]; kernel_rfl)
theorem pm_sl_iter : Slot "itertools.permutations" "__iter__" "itertools.permutations.__iter__" := .of (owner := "itertools.permutations") (n := "__iter__") (by rw [typeLookup_type, builtinLookup_eq_fast]; kernel_rfl) (by decide +kernel) (by decide +kernel) (by decide +kernel) (by first | exact .inl (by decide +kernel) | exact .inr (by decide +kernel)) (by rw [isSubtype_type]; kernel_rfl)
theorem pm_sl_init : Slot "itertools.permutations" "__init__" "object.__init__" := .of (owner := "object") (n := "__init__") (by rw [typeLookup_type, builtinLookup_eq_fast]; kernel_rfl) (by decide +kernel) (by decide +kernel) (by decide +kernel) (by first | exact .inl (by decide +kernel) | exact .inr (by decide +kernel)) (by rw [isSubtype_type]; kernel_rfl)
theorem pm_en_next : entryFor table "itertools.permutations.__next__" = some Builtin.«itertools.permutations.__next__» := entryFor_of_tree (by kernel_rfl)
theorem pm_en_new : entryFor table "itertools.permutations.__new__" = some Builtin.«itertools.permutations.__new__» := entryFor_of_tree (by kernel_rfl)
theorem pm_mro : mroOf (.type "itertools.permutations") = pure [.type "itertools.permutations", .type "object"] := by rw [mroOf_type]; kernel_rfl
theorem pm_lk_new : typeLookup (.type "itertools.permutations") "__new__" = pure (some (.builtin "itertools.permutations.__new__")) := by rw [typeLookup_type, builtinLookup_eq_fast]; kernel_rfl
theorem pm_called : TypeCalled "itertools.permutations" "itertools.permutations.__new__" "object.__init__" :=
  ⟨by decide +kernel, by decide +kernel, ⟨_, _, pm_mro⟩, madeBy_type pm_mro pm_lk_new (by decide +kernel), by decide +kernel, by rw [isSubtype_type]; kernel_rfl, pm_sl_init⟩
theorem pm_chk1 (a : Value) : checkTypeCall "itertools.permutations" ⟨[a], []⟩ = pure () := by kernel_rfl
theorem pm_chk2 (a : Value) : checkBuiltinCall "itertools.permutations.__new__" ⟨[.type "itertools.permutations", a], []⟩ = pure () := by kernel_rfl
theorem pm_sub : isSubtype (.type "itertools.permutations") (.type "itertools.permutations") = pure true := by rw [isSubtype_type]; kernel_rfl
end Nv
set_option maxHeartbeats 4000000
namespace Nv
open PySem PySem.Spec PyProof.Rows
theorem pm_ar_next (a : Value) : argsOk "itertools.permutations.__next__" ⟨[a], []⟩ := by
  unfold argsOk
  have h : Manifest.signature? "itertools.permutations.__next__" = (Manifest.sig_itertools_permutations).lookup "__next__" := signature?_of (n := "__next__".toList.reverse) (o := "itertools.permutations".toList.reverse) (by kernel_rfl) (by kernel_rfl)
  rw [h]
  kernel_rfl
theorem pm_ar_iter (a : Value) : argsOk "itertools.permutations.__iter__" ⟨[a], []⟩ := by
  unfold argsOk
  have h : Manifest.signature? "itertools.permutations.__iter__" = (Manifest.sig_itertools_permutations).lookup "__iter__" := signature?_of (n := "__iter__".toList.reverse) (o := "itertools.permutations".toList.reverse) (by kernel_rfl) (by kernel_rfl)
  rw [h]
  kernel_rfl
theorem pm_en_iter : entryFor table "itertools.permutations.__iter__" = some Builtin.«dict_keyiterator.__iter__» :=
  entryFor_alias (id' := "dict_keyiterator.__iter__") (by kernel_rfl) (by first | rfl | decide +kernel | (unfold String.splitOn; simp +decide [String.splitOnAux])) (by decide +kernel) (by kernel_rfl)
end Nv
set_option maxHeartbeats 4000000
namespace Nv
open PySem PySem.Spec PyProof.Rows L2
open PySem.Builtin.Itertools
theorem pm_bind (x : Value) : itBindNamed "permutations" ["iterable", "r"] 1 2 [x] [] = pure [some x, none] := by
  unfold itBindNamed
  simp only [List.zipIdx_cons, List.zipIdx_nil, List.forIn_cons, List.forIn_nil]
  rfl
theorem pm_class (x : Value) : itClassAndRest "permutations" ⟨[.type "itertools.permutations", x], []⟩ = (do
    if !(← isSubtype (.type "itertools.permutations") (.type "itertools.permutations")) then raiseError "TypeError" "" 
    return (Value.type "itertools.permutations", [x])) := by
  rfl
theorem pm_nodict : typeHasDict (.type "itertools.permutations") = false := by kernel_rfl
end Nv
set_option maxHeartbeats 4000000
namespace Nv
open PySem PySem.Spec PyProof.Rows L2
open PySem.Builtin.Itertools
theorem pm_class' (x : Value) : itClassAndRest "permutations" ⟨[.type "itertools.permutations", x], []⟩ = pure (Value.type "itertools.permutations", [x]) := by
  rfl
/-- its fields -/
def pmF (pool : Addr) (st n : Nat) (prev : Value) (nums : List Nat) : List Value := [Value.ref pool, rawInt st, rawInt n, prev] ++ nums.map fun (i : Nat) => rawInt i
/-- such an iterator: st 0 fresh, 1 under way, 2 ended -/
abbrev IsPm (h : Heap) (z pool : Addr) (st n : Nat) (prev : Value) (nums : List Nat) : Prop :=
  h.get? z = some { cls := .type "itertools.permutations", dict := none, data := .fields (pmF pool st n prev nums).toArray, slots := #[] }
def pm0 (n : Nat) : List Nat := List.range n ++ (List.range n).map fun i => n - i
theorem pm_new (r : Addr) (n : Nat) (t u v : Tok) : Meets (Builtin.«itertools.permutations.__new__» ⟨[.type "itertools.permutations", .ref r], []⟩) (fun A R s => A.handled = none ∧ IsRange s.heap r 0 n 1 t u v ∧ n ≤ 1000 ∧
    ∀ (h' : Heap) (tk : Nat) (items : Array Value), (∀ b o, s.heap.get? b = some o → h'.get? b = some o) → ItemsOf (fun i v => ∃ t, v = .int (0 + i * 1) t) items n →
      R (.ok (.ret (.ref (h'.push { cls := .type "tuple", data := .seq items }).objs.size))) { s with heap := (h'.push { cls := .type "tuple", data := .seq items }).push { cls := .type "itertools.permutations", data := .fields (pmF h'.objs.size 0 n .none (pm0 n)).toArray }, toks := tk }) :=
  .of_wp fun prog w A R s h => by
    obtain ⟨hh, hr, hn, q⟩ := h
    unfold Builtin.«itertools.permutations.__new__»
    rw [pm_class']
    simp only [pure_bind, pm_bind]
    have b0 : (n : Int) < 2 ^ 62 := by omega
    refine wpAny_bind (collect_range (n := n) hh hr (small_one (by omega) (by omega) (by omega) b0) ((rangeSize_nat 0 n).trans (by omega)) (by omega) fun h' tk acc hk ha => ?_)
    have hl : acc.toList.length = n := by simpa using ha.1
    show wpAny _ _ (if ((acc.toList.length : Nat) : Int) < 0 then _ else _) _ _ _
    rw [if_neg (by omega)]
    rw [if_neg (by unfold itTooMany; rw [hl, decide_eq_true_iff]; omega)]
    refine wpAny_bind (wpAny_newTuple ?_ (by rw [hl]; exact Nat.le_trans hn (by decide)))
    rw [hl]
    refine wpAny_bind ?_
    unfold itNewRecord
    rw [if_pos (by rw [pm_nodict] <;> rfl)]
    have e : ([Value.ref h'.objs.size, rawInt (if ((n : Nat) : Int).toNat > n then 2 else 0), rawInt ((((n : Nat) : Int).toNat : Nat) : Int), Value.none] ++ (List.range n).map (fun (i : Nat) => rawInt i) ++ (List.range ((n : Nat) : Int).toNat).map fun (i : Nat) => rawInt ((n : Int) - i)) = pmF h'.objs.size 0 n .none (pm0 n) := by
      rw [Int.toNat_natCast, if_neg (by omega)]
      unfold pmF pm0
      rw [List.map_append, List.append_assoc, List.map_map]
      congr 2
      refine List.map_congr_left fun i hi => ?_
      have := List.mem_range.mp hi
      show rawInt _ = rawInt ((n - i : Nat) : Int)
      congr 1
      omega
    rw [e]
    refine wpAny_newObj_type ?_ ?_
    · have ea : acc.toList.toArray = acc := by simp
      rw [ea]
      exact wpAny_pure ⟨_, rfl, q h' tk acc hk ha⟩
    · show (pmF h'.objs.size 0 n .none (pm0 n)).toArray.size ≤ _
      rw [List.size_toArray]
      unfold pmF pm0
      simp only [List.length_append, List.length_map, List.length_range, List.length_cons, List.length_nil]
      have : (3000 : Nat) ≤ sizeLine := by decide
      omega
end Nv
set_option maxHeartbeats 4000000
namespace Nv
open PySem PySem.Spec PyProof.Rows L2
open PySem.Builtin.Itertools
section
variable {prog : Program} {w : World} {A : Around} {E : Value → Shared → Prop} {s : Shared}
theorem call_pm {Q : Value → Shared → Prop} {r : Addr} {n : Nat} {t u v : Tok} (hh : A.handled = none) (hr : IsRange s.heap r 0 n 1 t u v) (hn : n ≤ 1000)
    (q : ∀ (h' : Heap) (tk : Nat) (items : Array Value), (∀ b o, s.heap.get? b = some o → h'.get? b = some o) → ItemsOf (fun i v => ∃ t, v = .int (0 + i * 1) t) items n →
      Q (.ref (h'.push { cls := .type "tuple", data := .seq items }).objs.size) { s with heap := (h'.push { cls := .type "tuple", data := .seq items }).push { cls := .type "itertools.permutations", data := .fields (pmF h'.objs.size 0 n .none (pm0 n)).toArray }, toks := tk }) :
    wpAny (model prog w) A (call (.type "itertools.permutations") [.ref r]) Q E s := by
  refine callType_new pm_called (by decide) (pm_chk1 _) (pm_chk2 _) (fun obj => F.args_object_init_2 obj _) pm_en_new (pm_new r n t u v) ⟨hh, hr, hn, fun h' tk items hk hi => ?_⟩
  exact ⟨⟨_, Heap.get?_push_size _ rfl, rfl⟩, q h' tk items hk hi⟩
theorem pm_iter {z pool : Addr} {st n : Nat} {prev : Value} {nums : List Nat} {Q : Value → Shared → Prop} (hz : IsPm s.heap z pool st n prev nums) (h : Q (.ref z) s) : wpAny (model prog w) A (pyIter (.ref z)) Q E s := by
  have hT : s.TypeIs (.ref z) "itertools.permutations" := ⟨_, hz, rfl⟩
  refine wpAny_pyIter_slot hT pm_sl_iter (wpAny_call_entry pm_sl_iter hT pm_en_iter ?_ (pm_ar_iter _))
  show wpAny _ _ (ret (.ref z)) _ _ s
  exact wpAny_pure ⟨_, rfl, "itertools.permutations", _, hT, pm_sl_next.lookup, h⟩
/-- what is told at a turn -/
def pmGot (ix : List Nat) (items : Array Value) : List Value := ix.map fun i => items.getD i .none
theorem pm_read {f : Value → Nat} (nums : List Nat) (hf : (fun (i : Nat) => f (rawInt i)) = fun i => i) : ((nums.map fun (i : Nat) => rawInt i).map f) = nums := by
  rw [List.map_map]
  show nums.map (fun (i : Nat) => f (rawInt i)) = nums
  rw [hf]
  exact List.map_id' _
theorem pmF_1 {pool : Addr} {st n k : Nat} {prev : Value} {nums : List Nat} : (pmF pool st n prev nums).toArray.setIfInBounds 1 (rawInt k) = (pmF pool k n prev nums).toArray := by simp [pmF]
theorem pmF_3 {pool : Addr} {st n : Nat} {prev x : Value} {nums : List Nat} : (pmF pool st n prev nums).toArray.setIfInBounds 3 x = (pmF pool st n x nums).toArray := by simp [pmF]
theorem pm_tell {z pool : Addr} {n : Nat} {prev : Value} {items : Array Value} {nums ix : List Nat} {Q : Value → Shared → Prop} {h0 : Heap} (hn : ix.length ≤ 1000) (hz : IsPm s.heap z pool 1 n prev nums) (hn2 : (ix.take n) = ix)
    (hQ : ∀ h', IsPm h' z pool 1 n (.ref s.heap.objs.size) nums → h'.get? s.heap.objs.size = some { cls := .type "tuple", data := .seq (pmGot ix items).toArray } → (∀ c o, c ≠ z → s.heap.get? c = some o → h'.get? c = some o) → Q (.ref s.heap.objs.size) { s with heap := h' }) :
    wpAny (model prog w) A (do
      let t ← newTuple (List.map (fun i => items.getD i Value.none) (List.take ((n : Int)).toNat ix))
      let before ← field (Value.ref z) 3
      setField (Value.ref z) 3 t
      letGo [before] [t]
      ret t) (fun fin s' => ∃ v, fin = .done (.ret v) ∧ Q v s') E s := by
  rw [Int.toNat_natCast, hn2]
  have zlt := Heap.lt_size hz
  refine wpAny_bind (wpAny_newTuple ?_ (by rw [List.length_map]; exact Nat.le_trans hn (by decide)))
  have hz1 : IsPm (s.heap.push { cls := .type "tuple", data := .seq (pmGot ix items).toArray }) z pool 1 n prev nums := Heap.get?_push_of_some _ hz
  refine wpAny_bind (wpAny_field hz1 rfl (x := prev) rfl ?_)
  refine wpAny_bind (wpAny_setField_rec hz1 (by simp [pmF]) fun h1 hz2 hs => ?_)
  rw [pmF_3] at hz2
  refine wpAny_bind (wpAny_letGo (wpAny_pure ⟨_, rfl, ?_⟩))
  exact hQ h1 hz2 (hs.extBut _ _ (Nat.ne_of_gt zlt) (Heap.get?_push_size _ rfl)) fun c o c1 e => hs.extBut _ _ c1 (Heap.get?_push_of_some _ e)
theorem pm_first {z pool : Addr} {n : Nat} {items : Array Value} {nums : List Nat} {prev : Value} {Q : Value → Shared → Prop} (hn : nums.length ≤ 1000) (hz : IsPm s.heap z pool 0 n prev nums) (hp : s.heap.get? pool = some { cls := .type "tuple", data := .seq items })
    (hQ : ∀ h', IsPm h' z pool 1 n (.ref s.heap.objs.size) nums → h'.get? s.heap.objs.size = some { cls := .type "tuple", data := .seq (pmGot (nums.take n) items).toArray } → (∀ c o, c ≠ z → s.heap.get? c = some o → h'.get? c = some o) → Q (.ref s.heap.objs.size) { s with heap := h' }) :
    wpAny (model prog w) A (Builtin.«itertools.permutations.__next__» ⟨[.ref z], []⟩) (fun fin s' => ∃ v, fin = .done (.ret v) ∧ Q v s') E s := by
  unfold Builtin.«itertools.permutations.__next__»
  refine wpAny_bind (m := slotArgs "__next__" 0 ⟨[.ref z], []⟩) (wpAny_pure ?_)
  show wpAny _ _ (field (.ref z) 0 >>= _) _ _ _
  refine wpAny_bind (wpAny_field hz rfl (x := .ref pool) rfl ?_)
  refine wpAny_bind ?_
  unfold itPoolItems
  refine wpAny_bind (wpAny_seqItems hp rfl ?_)
  refine wpAny_pure ?_
  refine wpAny_bind ?_
  unfold itIntField
  refine wpAny_bind (wpAny_field hz rfl (x := rawInt n) rfl ?_)
  refine wpAny_pure ?_
  refine wpAny_bind ?_
  unfold itNumbersFrom
  refine wpAny_bind (wpAny_load hz ?_)
  refine wpAny_pure ?_
  refine wpAny_bind (wpAny_bind (wpAny_field hz rfl (x := rawInt 0) rfl ?_))
  refine wpAny_pure ?_
  generalize hx : (List.drop 4 (pmF pool 0 n prev nums).toArray.toList).map _ = nn
  have en : nn = nums := by
    rw [← hx]
    exact pm_read nums rfl
  clear hx
  subst en
  refine wpAny_bind (m := setField (.ref z) 1 (rawInt 1)) (wpAny_setField_rec hz (by simp [pmF]) fun h1 hz1 hs => ?_)
  have e1 := pmF_1 (pool := pool) (st := 0) (n := n) (k := 1) (prev := prev) (nums := nn)
  rw [show rawInt ((1 : Nat) : Int) = rawInt 1 by rfl] at e1
  rw [e1] at hz1
  have zs : h1.objs.size = s.heap.objs.size := hs.1
  have e2 : (List.take n nn).take n = List.take n nn := by rw [List.take_take, Nat.min_self]
  have := pm_tell (prog := prog) (w := w) (A := A) (E := E) (s := { s with heap := h1 }) (ix := nn.take n) (items := items) (Q := Q) (h0 := h1) (by rw [List.length_take]; omega) hz1 e2 fun h' a b c => by
    dsimp only at a b c ⊢
    rw [zs] at a b ⊢
    exact hQ h' a b fun d o d1 e => c d o d1 (hs.extBut _ _ d1 e)
  rw [Int.toNat_natCast, e2] at this
  rw [Int.toNat_natCast]
  exact this
end
end Nv
set_option maxHeartbeats 4000000
namespace Nv
open PySem PySem.Spec PyProof.Rows L2
open PySem.Builtin.Itertools
section
variable {prog : Program} {w : World} {A : Around} {E : Value → Shared → Prop} {s : Shared}
theorem pm_set {z pool : Addr} {st n : Nat} {prev : Value} {nums nums' : List Nat} {Q : Unit → Shared → Prop} (hl : nums'.length ≤ 1000) (hz : IsPm s.heap z pool st n prev nums)
    (hQ : ∀ h1, IsPm h1 z pool st n prev nums' → Heap.SameBut z s.heap h1 → Q () { s with heap := h1 }) : wpAny (model prog w) A (itSetNumbersFrom (.ref z) 4 nums') Q E s := by
  have e : (fun fs : Array Value => fs.extract 0 4 ++ (nums'.map fun (n : Nat) => rawInt n).toArray) (pmF pool st n prev nums).toArray = (pmF pool st n prev nums').toArray := by simp [pmF]
  unfold itSetNumbersFrom
  refine wpAny_updateFields hz rfl (hQ _ ?_ (Heap.SameBut.update ..)) ?_
  · show (s.heap.update z _).get? z = _
    rw [Heap.get?_update_self _ hz rfl]
    show some (Obj.mk _ _ (.fields _) _) = _
    rw [e]
  · dsimp only at e
    rw [e, List.size_toArray]
    unfold pmF
    have : (1004 : Nat) ≤ sizeLine := by decide
    simp only [List.length_append, List.length_map, List.length_cons, List.length_nil]
    omega
theorem pm_stop {Q : Fin → Shared → Prop} (hh : A.handled = none) (hE : ∀ h' e, (∀ c o, s.heap.get? c = some o → h'.get? c = some o) → (∃ o, h'.get? e = some o ∧ o.cls = .type "StopIteration") → E (.ref e) { s with heap := h' }) : wpAny (model prog w) A (itStop : Sem Fin) Q E s := by
  unfold itStop
  show wpAny _ _ (newExc (.type "StopIteration") [] >>= _) _ _ _
  refine wpAny_bind ?_
  simp only [newExc, newTuple]
  refine wpAny_bind (wpAny_newObj_type ?_ (by size_fits))
  refine wpAny_bind (m := firstArgMember _ _) (wpAny_of_eq (a := Value.none) (by first | rfl | (simp only [firstArgMember]; rfl)) ?_)
  refine wpAny_newObj_type ?_ (by size_fits)
  simp only [raiseNew]
  refine wpAny_bind (wpAny_handled ?_)
  rw [hh]
  refine wpAny_bind (wpAny_pure (wpAny_throw ?_))
  exact hE _ _ (fun c o e => Heap.get?_push_of_some _ (Heap.get?_push_of_some _ e)) ⟨_, Heap.get?_push_size _ rfl, rfl⟩
theorem pm_more0 {z pool : Addr} {prev : Value} {items : Array Value} {Q : Value → Shared → Prop} (hz : IsPm s.heap z pool 1 2 prev [0, 1, 2, 1]) (hs : items.size = 2) (hp : s.heap.get? pool = some { cls := .type "tuple", data := .seq items })
    (hQ : ∀ h', IsPm h' z pool 1 2 (.ref s.heap.objs.size) [1, 0, 1, 1] → h'.get? s.heap.objs.size = some { cls := .type "tuple", data := .seq (pmGot [1, 0] items).toArray } → (∀ c o, c ≠ z → s.heap.get? c = some o → h'.get? c = some o) → Q (.ref s.heap.objs.size) { s with heap := h' }) :
    wpAny (model prog w) A (Builtin.«itertools.permutations.__next__» ⟨[.ref z], []⟩) (fun fin s' => ∃ v, fin = .done (.ret v) ∧ Q v s') E s := by
  unfold Builtin.«itertools.permutations.__next__»
  refine wpAny_bind (m := slotArgs "__next__" 0 ⟨[.ref z], []⟩) (wpAny_pure ?_)
  show wpAny _ _ (field (.ref z) 0 >>= _) _ _ _
  refine wpAny_bind (wpAny_field hz rfl (x := .ref pool) rfl ?_)
  refine wpAny_bind ?_
  unfold itPoolItems
  refine wpAny_bind (wpAny_seqItems hp rfl ?_)
  refine wpAny_pure ?_
  refine wpAny_bind ?_
  unfold itIntField
  refine wpAny_bind (wpAny_field hz rfl (x := rawInt 2) rfl ?_)
  refine wpAny_pure ?_
  refine wpAny_bind ?_
  unfold itNumbersFrom
  refine wpAny_bind (wpAny_load hz ?_)
  refine wpAny_pure ?_
  refine wpAny_bind (wpAny_bind (wpAny_field hz rfl (x := rawInt 1) rfl ?_))
  refine wpAny_pure ?_
  generalize hx : (List.drop 4 (pmF pool 1 2 prev [0, 1, 2, 1]).toArray.toList).map _ = nn
  have en : nn = [0, 1, 2, 1] := by
    rw [← hx]
    exact pm_read ([0, 1, 2, 1]) rfl
  clear hx
  subst en
  rw [hs]
  refine wpAny_bind (m := itSetNumbersFrom (.ref z) 4 ([1, 0] ++ [1, 1])) (pm_set (by decide) hz fun h1 hz1 hs1 => ?_)
  have zs : h1.objs.size = s.heap.objs.size := hs1.1
  refine pm_tell (s := { s with heap := h1 }) (n := 2) (ix := [1, 0]) (h0 := h1) (by decide) hz1 rfl fun h' a b c => ?_
  dsimp only at a b c ⊢
  rw [zs] at a b ⊢
  exact hQ h' a b fun d o d1 e => c d o d1 (hs1.extBut _ _ d1 e)
theorem pm_more1 {z pool : Addr} {prev : Value} {items : Array Value} {Q : Value → Shared → Prop} (hz : IsPm s.heap z pool 1 3 prev [0, 1, 2, 3, 2, 1]) (hs : items.size = 3) (hp : s.heap.get? pool = some { cls := .type "tuple", data := .seq items })
    (hQ : ∀ h', IsPm h' z pool 1 3 (.ref s.heap.objs.size) [0, 2, 1, 3, 1, 1] → h'.get? s.heap.objs.size = some { cls := .type "tuple", data := .seq (pmGot [0, 2, 1] items).toArray } → (∀ c o, c ≠ z → s.heap.get? c = some o → h'.get? c = some o) → Q (.ref s.heap.objs.size) { s with heap := h' }) :
    wpAny (model prog w) A (Builtin.«itertools.permutations.__next__» ⟨[.ref z], []⟩) (fun fin s' => ∃ v, fin = .done (.ret v) ∧ Q v s') E s := by
  unfold Builtin.«itertools.permutations.__next__»
  refine wpAny_bind (m := slotArgs "__next__" 0 ⟨[.ref z], []⟩) (wpAny_pure ?_)
  show wpAny _ _ (field (.ref z) 0 >>= _) _ _ _
  refine wpAny_bind (wpAny_field hz rfl (x := .ref pool) rfl ?_)
  refine wpAny_bind ?_
  unfold itPoolItems
  refine wpAny_bind (wpAny_seqItems hp rfl ?_)
  refine wpAny_pure ?_
  refine wpAny_bind ?_
  unfold itIntField
  refine wpAny_bind (wpAny_field hz rfl (x := rawInt 3) rfl ?_)
  refine wpAny_pure ?_
  refine wpAny_bind ?_
  unfold itNumbersFrom
  refine wpAny_bind (wpAny_load hz ?_)
  refine wpAny_pure ?_
  refine wpAny_bind (wpAny_bind (wpAny_field hz rfl (x := rawInt 1) rfl ?_))
  refine wpAny_pure ?_
  generalize hx : (List.drop 4 (pmF pool 1 3 prev [0, 1, 2, 3, 2, 1]).toArray.toList).map _ = nn
  have en : nn = [0, 1, 2, 3, 2, 1] := by
    rw [← hx]
    exact pm_read ([0, 1, 2, 3, 2, 1]) rfl
  clear hx
  subst en
  rw [hs]
  refine wpAny_bind (m := itSetNumbersFrom (.ref z) 4 ([0, 2, 1] ++ [3, 1, 1])) (pm_set (by decide) hz fun h1 hz1 hs1 => ?_)
  have zs : h1.objs.size = s.heap.objs.size := hs1.1
  refine pm_tell (s := { s with heap := h1 }) (n := 3) (ix := [0, 2, 1]) (h0 := h1) (by decide) hz1 rfl fun h' a b c => ?_
  dsimp only at a b c ⊢
  rw [zs] at a b ⊢
  exact hQ h' a b fun d o d1 e => c d o d1 (hs1.extBut _ _ d1 e)
theorem pm_more2 {z pool : Addr} {prev : Value} {items : Array Value} {Q : Value → Shared → Prop} (hz : IsPm s.heap z pool 1 3 prev [0, 2, 1, 3, 1, 1]) (hs : items.size = 3) (hp : s.heap.get? pool = some { cls := .type "tuple", data := .seq items })
    (hQ : ∀ h', IsPm h' z pool 1 3 (.ref s.heap.objs.size) [1, 0, 2, 2, 2, 1] → h'.get? s.heap.objs.size = some { cls := .type "tuple", data := .seq (pmGot [1, 0, 2] items).toArray } → (∀ c o, c ≠ z → s.heap.get? c = some o → h'.get? c = some o) → Q (.ref s.heap.objs.size) { s with heap := h' }) :
    wpAny (model prog w) A (Builtin.«itertools.permutations.__next__» ⟨[.ref z], []⟩) (fun fin s' => ∃ v, fin = .done (.ret v) ∧ Q v s') E s := by
  unfold Builtin.«itertools.permutations.__next__»
  refine wpAny_bind (m := slotArgs "__next__" 0 ⟨[.ref z], []⟩) (wpAny_pure ?_)
  show wpAny _ _ (field (.ref z) 0 >>= _) _ _ _
  refine wpAny_bind (wpAny_field hz rfl (x := .ref pool) rfl ?_)
  refine wpAny_bind ?_
  unfold itPoolItems
  refine wpAny_bind (wpAny_seqItems hp rfl ?_)
  refine wpAny_pure ?_
  refine wpAny_bind ?_
  unfold itIntField
  refine wpAny_bind (wpAny_field hz rfl (x := rawInt 3) rfl ?_)
  refine wpAny_pure ?_
  refine wpAny_bind ?_
  unfold itNumbersFrom
  refine wpAny_bind (wpAny_load hz ?_)
  refine wpAny_pure ?_
  refine wpAny_bind (wpAny_bind (wpAny_field hz rfl (x := rawInt 1) rfl ?_))
  refine wpAny_pure ?_
  generalize hx : (List.drop 4 (pmF pool 1 3 prev [0, 2, 1, 3, 1, 1]).toArray.toList).map _ = nn
  have en : nn = [0, 2, 1, 3, 1, 1] := by
    rw [← hx]
    exact pm_read ([0, 2, 1, 3, 1, 1]) rfl
  clear hx
  subst en
  rw [hs]
  refine wpAny_bind (m := itSetNumbersFrom (.ref z) 4 ([1, 0, 2] ++ [2, 2, 1])) (pm_set (by decide) hz fun h1 hz1 hs1 => ?_)
  have zs : h1.objs.size = s.heap.objs.size := hs1.1
  refine pm_tell (s := { s with heap := h1 }) (n := 3) (ix := [1, 0, 2]) (h0 := h1) (by decide) hz1 rfl fun h' a b c => ?_
  dsimp only at a b c ⊢
  rw [zs] at a b ⊢
  exact hQ h' a b fun d o d1 e => c d o d1 (hs1.extBut _ _ d1 e)
theorem pm_more3 {z pool : Addr} {prev : Value} {items : Array Value} {Q : Value → Shared → Prop} (hz : IsPm s.heap z pool 1 3 prev [1, 0, 2, 2, 2, 1]) (hs : items.size = 3) (hp : s.heap.get? pool = some { cls := .type "tuple", data := .seq items })
    (hQ : ∀ h', IsPm h' z pool 1 3 (.ref s.heap.objs.size) [1, 2, 0, 2, 1, 1] → h'.get? s.heap.objs.size = some { cls := .type "tuple", data := .seq (pmGot [1, 2, 0] items).toArray } → (∀ c o, c ≠ z → s.heap.get? c = some o → h'.get? c = some o) → Q (.ref s.heap.objs.size) { s with heap := h' }) :
    wpAny (model prog w) A (Builtin.«itertools.permutations.__next__» ⟨[.ref z], []⟩) (fun fin s' => ∃ v, fin = .done (.ret v) ∧ Q v s') E s := by
  unfold Builtin.«itertools.permutations.__next__»
  refine wpAny_bind (m := slotArgs "__next__" 0 ⟨[.ref z], []⟩) (wpAny_pure ?_)
  show wpAny _ _ (field (.ref z) 0 >>= _) _ _ _
  refine wpAny_bind (wpAny_field hz rfl (x := .ref pool) rfl ?_)
  refine wpAny_bind ?_
  unfold itPoolItems
  refine wpAny_bind (wpAny_seqItems hp rfl ?_)
  refine wpAny_pure ?_
  refine wpAny_bind ?_
  unfold itIntField
  refine wpAny_bind (wpAny_field hz rfl (x := rawInt 3) rfl ?_)
  refine wpAny_pure ?_
  refine wpAny_bind ?_
  unfold itNumbersFrom
  refine wpAny_bind (wpAny_load hz ?_)
  refine wpAny_pure ?_
  refine wpAny_bind (wpAny_bind (wpAny_field hz rfl (x := rawInt 1) rfl ?_))
  refine wpAny_pure ?_
  generalize hx : (List.drop 4 (pmF pool 1 3 prev [1, 0, 2, 2, 2, 1]).toArray.toList).map _ = nn
  have en : nn = [1, 0, 2, 2, 2, 1] := by
    rw [← hx]
    exact pm_read ([1, 0, 2, 2, 2, 1]) rfl
  clear hx
  subst en
  rw [hs]
  refine wpAny_bind (m := itSetNumbersFrom (.ref z) 4 ([1, 2, 0] ++ [2, 1, 1])) (pm_set (by decide) hz fun h1 hz1 hs1 => ?_)
  have zs : h1.objs.size = s.heap.objs.size := hs1.1
  refine pm_tell (s := { s with heap := h1 }) (n := 3) (ix := [1, 2, 0]) (h0 := h1) (by decide) hz1 rfl fun h' a b c => ?_
  dsimp only at a b c ⊢
  rw [zs] at a b ⊢
  exact hQ h' a b fun d o d1 e => c d o d1 (hs1.extBut _ _ d1 e)
theorem pm_more4 {z pool : Addr} {prev : Value} {items : Array Value} {Q : Value → Shared → Prop} (hz : IsPm s.heap z pool 1 3 prev [1, 2, 0, 2, 1, 1]) (hs : items.size = 3) (hp : s.heap.get? pool = some { cls := .type "tuple", data := .seq items })
    (hQ : ∀ h', IsPm h' z pool 1 3 (.ref s.heap.objs.size) [2, 0, 1, 1, 2, 1] → h'.get? s.heap.objs.size = some { cls := .type "tuple", data := .seq (pmGot [2, 0, 1] items).toArray } → (∀ c o, c ≠ z → s.heap.get? c = some o → h'.get? c = some o) → Q (.ref s.heap.objs.size) { s with heap := h' }) :
    wpAny (model prog w) A (Builtin.«itertools.permutations.__next__» ⟨[.ref z], []⟩) (fun fin s' => ∃ v, fin = .done (.ret v) ∧ Q v s') E s := by
  unfold Builtin.«itertools.permutations.__next__»
  refine wpAny_bind (m := slotArgs "__next__" 0 ⟨[.ref z], []⟩) (wpAny_pure ?_)
  show wpAny _ _ (field (.ref z) 0 >>= _) _ _ _
  refine wpAny_bind (wpAny_field hz rfl (x := .ref pool) rfl ?_)
  refine wpAny_bind ?_
  unfold itPoolItems
  refine wpAny_bind (wpAny_seqItems hp rfl ?_)
  refine wpAny_pure ?_
  refine wpAny_bind ?_
  unfold itIntField
  refine wpAny_bind (wpAny_field hz rfl (x := rawInt 3) rfl ?_)
  refine wpAny_pure ?_
  refine wpAny_bind ?_
  unfold itNumbersFrom
  refine wpAny_bind (wpAny_load hz ?_)
  refine wpAny_pure ?_
  refine wpAny_bind (wpAny_bind (wpAny_field hz rfl (x := rawInt 1) rfl ?_))
  refine wpAny_pure ?_
  generalize hx : (List.drop 4 (pmF pool 1 3 prev [1, 2, 0, 2, 1, 1]).toArray.toList).map _ = nn
  have en : nn = [1, 2, 0, 2, 1, 1] := by
    rw [← hx]
    exact pm_read ([1, 2, 0, 2, 1, 1]) rfl
  clear hx
  subst en
  rw [hs]
  refine wpAny_bind (m := itSetNumbersFrom (.ref z) 4 ([2, 0, 1] ++ [1, 2, 1])) (pm_set (by decide) hz fun h1 hz1 hs1 => ?_)
  have zs : h1.objs.size = s.heap.objs.size := hs1.1
  refine pm_tell (s := { s with heap := h1 }) (n := 3) (ix := [2, 0, 1]) (h0 := h1) (by decide) hz1 rfl fun h' a b c => ?_
  dsimp only at a b c ⊢
  rw [zs] at a b ⊢
  exact hQ h' a b fun d o d1 e => c d o d1 (hs1.extBut _ _ d1 e)
theorem pm_more5 {z pool : Addr} {prev : Value} {items : Array Value} {Q : Value → Shared → Prop} (hz : IsPm s.heap z pool 1 3 prev [2, 0, 1, 1, 2, 1]) (hs : items.size = 3) (hp : s.heap.get? pool = some { cls := .type "tuple", data := .seq items })
    (hQ : ∀ h', IsPm h' z pool 1 3 (.ref s.heap.objs.size) [2, 1, 0, 1, 1, 1] → h'.get? s.heap.objs.size = some { cls := .type "tuple", data := .seq (pmGot [2, 1, 0] items).toArray } → (∀ c o, c ≠ z → s.heap.get? c = some o → h'.get? c = some o) → Q (.ref s.heap.objs.size) { s with heap := h' }) :
    wpAny (model prog w) A (Builtin.«itertools.permutations.__next__» ⟨[.ref z], []⟩) (fun fin s' => ∃ v, fin = .done (.ret v) ∧ Q v s') E s := by
  unfold Builtin.«itertools.permutations.__next__»
  refine wpAny_bind (m := slotArgs "__next__" 0 ⟨[.ref z], []⟩) (wpAny_pure ?_)
  show wpAny _ _ (field (.ref z) 0 >>= _) _ _ _
  refine wpAny_bind (wpAny_field hz rfl (x := .ref pool) rfl ?_)
  refine wpAny_bind ?_
  unfold itPoolItems
  refine wpAny_bind (wpAny_seqItems hp rfl ?_)
  refine wpAny_pure ?_
  refine wpAny_bind ?_
  unfold itIntField
  refine wpAny_bind (wpAny_field hz rfl (x := rawInt 3) rfl ?_)
  refine wpAny_pure ?_
  refine wpAny_bind ?_
  unfold itNumbersFrom
  refine wpAny_bind (wpAny_load hz ?_)
  refine wpAny_pure ?_
  refine wpAny_bind (wpAny_bind (wpAny_field hz rfl (x := rawInt 1) rfl ?_))
  refine wpAny_pure ?_
  generalize hx : (List.drop 4 (pmF pool 1 3 prev [2, 0, 1, 1, 2, 1]).toArray.toList).map _ = nn
  have en : nn = [2, 0, 1, 1, 2, 1] := by
    rw [← hx]
    exact pm_read ([2, 0, 1, 1, 2, 1]) rfl
  clear hx
  subst en
  rw [hs]
  refine wpAny_bind (m := itSetNumbersFrom (.ref z) 4 ([2, 1, 0] ++ [1, 1, 1])) (pm_set (by decide) hz fun h1 hz1 hs1 => ?_)
  have zs : h1.objs.size = s.heap.objs.size := hs1.1
  refine pm_tell (s := { s with heap := h1 }) (n := 3) (ix := [2, 1, 0]) (h0 := h1) (by decide) hz1 rfl fun h' a b c => ?_
  dsimp only at a b c ⊢
  rw [zs] at a b ⊢
  exact hQ h' a b fun d o d1 e => c d o d1 (hs1.extBut _ _ d1 e)
theorem pm_end1 {z pool : Addr} {prev : Value} {items : Array Value} {Q : Fin → Shared → Prop} (hh : A.handled = none) (hz : IsPm s.heap z pool 1 1 prev [0, 1]) (hs : items.size = 1) (hp : s.heap.get? pool = some { cls := .type "tuple", data := .seq items })
    (hE : ∀ h' e, (∀ c o, c ≠ z → s.heap.get? c = some o → h'.get? c = some o) → (∃ o, h'.get? e = some o ∧ o.cls = .type "StopIteration") → E (.ref e) { s with heap := h' }) :
    wpAny (model prog w) A (Builtin.«itertools.permutations.__next__» ⟨[.ref z], []⟩) Q E s := by
  unfold Builtin.«itertools.permutations.__next__»
  refine wpAny_bind (m := slotArgs "__next__" 0 ⟨[.ref z], []⟩) (wpAny_pure ?_)
  show wpAny _ _ (field (.ref z) 0 >>= _) _ _ _
  refine wpAny_bind (wpAny_field hz rfl (x := .ref pool) rfl ?_)
  refine wpAny_bind ?_
  unfold itPoolItems
  refine wpAny_bind (wpAny_seqItems hp rfl ?_)
  refine wpAny_pure ?_
  refine wpAny_bind ?_
  unfold itIntField
  refine wpAny_bind (wpAny_field hz rfl (x := rawInt 1) rfl ?_)
  refine wpAny_pure ?_
  refine wpAny_bind ?_
  unfold itNumbersFrom
  refine wpAny_bind (wpAny_load hz ?_)
  refine wpAny_pure ?_
  refine wpAny_bind (wpAny_bind (wpAny_field hz rfl (x := rawInt 1) rfl ?_))
  refine wpAny_pure ?_
  generalize hx : (List.drop 4 (pmF pool 1 1 prev [0, 1]).toArray.toList).map _ = nn
  have en : nn = [0, 1] := by
    rw [← hx]
    exact pm_read ([0, 1]) rfl
  clear hx
  subst en
  rw [hs]
  refine wpAny_bind (m := setField (.ref z) 1 (rawInt 2)) (wpAny_setField_rec hz (by simp [pmF]) fun h1 _ hs1 => ?_)
  exact pm_stop hh fun h' e k he => hE h' e (fun c o d x => k c o (hs1.extBut _ _ d x)) he
theorem pm_end2 {z pool : Addr} {prev : Value} {items : Array Value} {Q : Fin → Shared → Prop} (hh : A.handled = none) (hz : IsPm s.heap z pool 1 2 prev [1, 0, 1, 1]) (hs : items.size = 2) (hp : s.heap.get? pool = some { cls := .type "tuple", data := .seq items })
    (hE : ∀ h' e, (∀ c o, c ≠ z → s.heap.get? c = some o → h'.get? c = some o) → (∃ o, h'.get? e = some o ∧ o.cls = .type "StopIteration") → E (.ref e) { s with heap := h' }) :
    wpAny (model prog w) A (Builtin.«itertools.permutations.__next__» ⟨[.ref z], []⟩) Q E s := by
  unfold Builtin.«itertools.permutations.__next__»
  refine wpAny_bind (m := slotArgs "__next__" 0 ⟨[.ref z], []⟩) (wpAny_pure ?_)
  show wpAny _ _ (field (.ref z) 0 >>= _) _ _ _
  refine wpAny_bind (wpAny_field hz rfl (x := .ref pool) rfl ?_)
  refine wpAny_bind ?_
  unfold itPoolItems
  refine wpAny_bind (wpAny_seqItems hp rfl ?_)
  refine wpAny_pure ?_
  refine wpAny_bind ?_
  unfold itIntField
  refine wpAny_bind (wpAny_field hz rfl (x := rawInt 2) rfl ?_)
  refine wpAny_pure ?_
  refine wpAny_bind ?_
  unfold itNumbersFrom
  refine wpAny_bind (wpAny_load hz ?_)
  refine wpAny_pure ?_
  refine wpAny_bind (wpAny_bind (wpAny_field hz rfl (x := rawInt 1) rfl ?_))
  refine wpAny_pure ?_
  generalize hx : (List.drop 4 (pmF pool 1 2 prev [1, 0, 1, 1]).toArray.toList).map _ = nn
  have en : nn = [1, 0, 1, 1] := by
    rw [← hx]
    exact pm_read ([1, 0, 1, 1]) rfl
  clear hx
  subst en
  rw [hs]
  refine wpAny_bind (m := setField (.ref z) 1 (rawInt 2)) (wpAny_setField_rec hz (by simp [pmF]) fun h1 _ hs1 => ?_)
  exact pm_stop hh fun h' e k he => hE h' e (fun c o d x => k c o (hs1.extBut _ _ d x)) he
theorem pm_end3 {z pool : Addr} {prev : Value} {items : Array Value} {Q : Fin → Shared → Prop} (hh : A.handled = none) (hz : IsPm s.heap z pool 1 3 prev [2, 1, 0, 1, 1, 1]) (hs : items.size = 3) (hp : s.heap.get? pool = some { cls := .type "tuple", data := .seq items })
    (hE : ∀ h' e, (∀ c o, c ≠ z → s.heap.get? c = some o → h'.get? c = some o) → (∃ o, h'.get? e = some o ∧ o.cls = .type "StopIteration") → E (.ref e) { s with heap := h' }) :
    wpAny (model prog w) A (Builtin.«itertools.permutations.__next__» ⟨[.ref z], []⟩) Q E s := by
  unfold Builtin.«itertools.permutations.__next__»
  refine wpAny_bind (m := slotArgs "__next__" 0 ⟨[.ref z], []⟩) (wpAny_pure ?_)
  show wpAny _ _ (field (.ref z) 0 >>= _) _ _ _
  refine wpAny_bind (wpAny_field hz rfl (x := .ref pool) rfl ?_)
  refine wpAny_bind ?_
  unfold itPoolItems
  refine wpAny_bind (wpAny_seqItems hp rfl ?_)
  refine wpAny_pure ?_
  refine wpAny_bind ?_
  unfold itIntField
  refine wpAny_bind (wpAny_field hz rfl (x := rawInt 3) rfl ?_)
  refine wpAny_pure ?_
  refine wpAny_bind ?_
  unfold itNumbersFrom
  refine wpAny_bind (wpAny_load hz ?_)
  refine wpAny_pure ?_
  refine wpAny_bind (wpAny_bind (wpAny_field hz rfl (x := rawInt 1) rfl ?_))
  refine wpAny_pure ?_
  generalize hx : (List.drop 4 (pmF pool 1 3 prev [2, 1, 0, 1, 1, 1]).toArray.toList).map _ = nn
  have en : nn = [2, 1, 0, 1, 1, 1] := by
    rw [← hx]
    exact pm_read ([2, 1, 0, 1, 1, 1]) rfl
  clear hx
  subst en
  rw [hs]
  refine wpAny_bind (m := setField (.ref z) 1 (rawInt 2)) (wpAny_setField_rec hz (by simp [pmF]) fun h1 _ hs1 => ?_)
  exact pm_stop hh fun h' e k he => hE h' e (fun c o d x => k c o (hs1.extBut _ _ d x)) he
end
end Nv
set_option maxHeartbeats 4000000
namespace Nv
open PySem PySem.Spec PyProof.Rows L2
open PySem.Builtin.Itertools
/-- what stands behind turn i, n places: the places as told, and the turns that are left of each -/
def permT : Nat → List (List Nat × List Nat)
  | 1 => [([0], [1])]
  | 2 => [([0, 1], [2, 1]), ([1, 0], [1, 1])]
  | 3 => [([0, 1, 2], [3, 2, 1]), ([0, 2, 1], [3, 1, 1]), ([1, 0, 2], [2, 2, 1]), ([1, 2, 0], [2, 1, 1]), ([2, 0, 1], [1, 2, 1]), ([2, 1, 0], [1, 1, 1])]
  | _ => []
def permI (n : Nat) : List (List Nat) := (permT n).map (·.1)
def numsAt (n i : Nat) : List Nat := (((permT n)[i - 1]?).map fun z => z.1 ++ z.2).getD []
/-- ahead of turn i -/
def PmAt (h : Heap) (z pool : Addr) (n : Nat) (items : Array Value) (i : Nat) : Prop := z ≠ pool ∧ items.size = n ∧ (∃ prev, IsPm h z pool (min i 1) n prev (numsAt n i)) ∧ h.get? pool = some { cls := .type "tuple", data := .seq items }
section
variable {prog : Program} {w : World} {A : Around} {E : Value → Shared → Prop} {s : Shared}
theorem pm_step {z pool : Addr} {n i : Nat} {items : Array Value} {Q : Value → Shared → Prop} (hn : n = 1 ∨ n = 2 ∨ n = 3) {ix : List Nat} (hi : (permI n)[i]? = some ix) (st : PmAt s.heap z pool n items i)
    (hQ : ∀ h', PmAt h' z pool n items (i + 1) → h'.get? s.heap.objs.size = some { cls := .type "tuple", data := .seq (pmGot ix items).toArray } → (∀ c o, c ≠ z → s.heap.get? c = some o → h'.get? c = some o) → Q (.ref s.heap.objs.size) { s with heap := h' }) :
    wpAny (model prog w) A (Builtin.«itertools.permutations.__next__» ⟨[.ref z], []⟩) (fun fin s' => ∃ v, fin = .done (.ret v) ∧ Q v s') E s := by
  obtain ⟨ne, hs, ⟨prev, hz⟩, hp⟩ := st
  have go : ∀ {h' : Heap} {p' : Value}, IsPm h' z pool (min (i + 1) 1) n p' (numsAt n (i + 1)) → (∀ c o, c ≠ z → s.heap.get? c = some o → h'.get? c = some o) → PmAt h' z pool n items (i + 1) := fun e k => ⟨ne, hs, ⟨_, e⟩, k _ _ (Ne.symm ne) hp⟩
  have il : i < (permI n).length := (List.getElem?_eq_some_iff.mp hi).1
  rcases hn with rfl | rfl | rfl
  · have hh : i = 0 := by
      have : i < 1 := il
      omega
    subst hh
    obtain rfl : [0] = ix := Option.some.inj hi
    exact pm_first (n := 1) (nums := [0, 1]) (prev := prev) (items := items) (by decide) hz hp fun h' a b c => hQ h' (go a c) b c
  · have hh : i = 0 ∨ i = 1 := by
      have : i < 2 := il
      omega
    rcases hh with rfl | rfl
    · obtain rfl : [0, 1] = ix := Option.some.inj hi
      exact pm_first (n := 2) (nums := [0, 1, 2, 1]) (prev := prev) (items := items) (by decide) hz hp fun h' a b c => hQ h' (go a c) b c
    · obtain rfl : [1, 0] = ix := Option.some.inj hi
      exact pm_more0 (prev := prev) (items := items) hz hs hp fun h' a b c => hQ h' (go a c) b c
  · have hh : i = 0 ∨ i = 1 ∨ i = 2 ∨ i = 3 ∨ i = 4 ∨ i = 5 := by
      have : i < 6 := il
      omega
    rcases hh with rfl | rfl | rfl | rfl | rfl | rfl
    · obtain rfl : [0, 1, 2] = ix := Option.some.inj hi
      exact pm_first (n := 3) (nums := [0, 1, 2, 3, 2, 1]) (prev := prev) (items := items) (by decide) hz hp fun h' a b c => hQ h' (go a c) b c
    · obtain rfl : [0, 2, 1] = ix := Option.some.inj hi
      exact pm_more1 (prev := prev) (items := items) hz hs hp fun h' a b c => hQ h' (go a c) b c
    · obtain rfl : [1, 0, 2] = ix := Option.some.inj hi
      exact pm_more2 (prev := prev) (items := items) hz hs hp fun h' a b c => hQ h' (go a c) b c
    · obtain rfl : [1, 2, 0] = ix := Option.some.inj hi
      exact pm_more3 (prev := prev) (items := items) hz hs hp fun h' a b c => hQ h' (go a c) b c
    · obtain rfl : [2, 0, 1] = ix := Option.some.inj hi
      exact pm_more4 (prev := prev) (items := items) hz hs hp fun h' a b c => hQ h' (go a c) b c
    · obtain rfl : [2, 1, 0] = ix := Option.some.inj hi
      exact pm_more5 (prev := prev) (items := items) hz hs hp fun h' a b c => hQ h' (go a c) b c
theorem pm_done {z pool : Addr} {n : Nat} {items : Array Value} {Q : Fin → Shared → Prop} (hh : A.handled = none) (hn : n = 1 ∨ n = 2 ∨ n = 3) (st : PmAt s.heap z pool n items (permI n).length)
    (hE : ∀ h' e, (∀ c o, c ≠ z → s.heap.get? c = some o → h'.get? c = some o) → (∃ o, h'.get? e = some o ∧ o.cls = .type "StopIteration") → E (.ref e) { s with heap := h' }) :
    wpAny (model prog w) A (Builtin.«itertools.permutations.__next__» ⟨[.ref z], []⟩) Q E s := by
  obtain ⟨ne, hs, ⟨prev, hz⟩, hp⟩ := st
  rcases hn with rfl | rfl | rfl
  · exact pm_end1 hh hz hs hp hE
  · exact pm_end2 hh hz hs hp hE
  · exact pm_end3 hh hz hs hp hE
theorem pyNext_pm {z pool : Addr} {n i : Nat} {items : Array Value} {Q : Option Value → Shared → Prop} (hn : n = 1 ∨ n = 2 ∨ n = 3) {ix : List Nat} (hi : (permI n)[i]? = some ix) (st : PmAt s.heap z pool n items i)
    (hQ : ∀ h', PmAt h' z pool n items (i + 1) → h'.get? s.heap.objs.size = some { cls := .type "tuple", data := .seq (pmGot ix items).toArray } → (∀ c o, c ≠ z → s.heap.get? c = some o → h'.get? c = some o) → Q (some (.ref s.heap.objs.size)) { s with heap := h' }) :
    wpAny (model prog w) A (pyNext (.ref z)) Q E s := by
  obtain ⟨_, _, ⟨_, hz⟩, _⟩ := id st
  have hT : s.TypeIs (.ref z) "itertools.permutations" := ⟨_, hz, rfl⟩
  unfold pyNext
  exact wpAny_bind (wpAny_attempt (wpAny_callSpecial?_slot (name := Str.ofString "__next__") hT pm_sl_next (wpAny_call_entry pm_sl_next hT pm_en_next
    (pm_step hn hi st fun h' a b c => wpAny_pure (hQ h' a b c)) (pm_ar_next _))))
theorem pyNext_pm_end {z pool : Addr} {n : Nat} {items : Array Value} {Q : Option Value → Shared → Prop} (hh : A.handled = none) (hn : n = 1 ∨ n = 2 ∨ n = 3) (st : PmAt s.heap z pool n items (permI n).length)
    (hQ : ∀ h', (∀ c o, c ≠ z → s.heap.get? c = some o → h'.get? c = some o) → Q none { s with heap := h' }) : wpAny (model prog w) A (pyNext (.ref z)) Q E s := by
  obtain ⟨_, _, ⟨_, hz⟩, _⟩ := id st
  have hT : s.TypeIs (.ref z) "itertools.permutations" := ⟨_, hz, rfl⟩
  unfold pyNext
  refine wpAny_bind (wpAny_attempt (wpAny_callSpecial?_slot (name := Str.ofString "__next__") hT pm_sl_next (wpAny_call_entry pm_sl_next hT pm_en_next (pm_done hh hn st fun h' e hk he => ?_) (pm_ar_next _))))
  obtain ⟨o, ho, hc⟩ := he
  exact wpAny_bind (wpAny_isInstance (T := "StopIteration") (b := true) ⟨o, ho, hc⟩ isSubtype_stop (wpAny_pure (hQ _ hk)))
end
end Nv
set_option maxHeartbeats 4000000
namespace Nv
open PySem PySem.Spec PyProof.Rows L2
/-! # walks over permutations(range(n)) -/
def Itp (n : Nat) : It := ⟨fun i _ => i < (permI n).length, fun i H v H' => ∃ (T : Addr) (ix : List Nat), (permI n)[i]? = some ix ∧ v = .ref T ∧ H T = none ∧ H' = upd H T (.tup (ix.map natV)), fun i _ => (permI n).length = i⟩
theorem pm_vals {n : Nat} {items : Array Value} (hi : ItemsOf (fun i v => ∃ t, v = .int (0 + i * 1) t) items n) : ∀ ix : List Nat, (∀ j ∈ ix, j < n) → Vals (ix.map natV) (pmGot ix items)
  | [], _ => .nil
  | j :: ix, h => by
    refine .cons ?_ (pm_vals hi ix fun k hk => h k (List.mem_cons_of_mem _ hk))
    have jl : j < items.size := by rw [hi.1]; exact h j List.mem_cons_self
    have e : items[j]? = some (items.getD j .none) := by
      rw [Array.getElem?_eq_getElem jl, Array.getD_eq_getD_getElem?, Array.getElem?_eq_getElem jl] <;> rfl
    obtain ⟨t, ht⟩ := hi.2 j _ e
    exact ⟨t, by show items.getD j .none = _; rw [ht, Int.zero_add, Int.mul_one]⟩
theorem permI_ok {n : Nat} (hn : n = 1 ∨ n = 2 ∨ n = 3) : ∀ ix ∈ permI n, ix.length = n ∧ (∀ j ∈ ix, j < n) := by
  rcases hn with rfl | rfl | rfl <;> decide
theorem turn_pm {P : Program} {w : World} {K : PySem.W.Frag} {tg : Expr} {z pool : Addr} {n : Nat} {items : Array Value} (hn : n = 1 ∨ n = 2 ∨ n = 3) (hi : ItemsOf (fun i v => ∃ t, v = .int (0 + i * 1) t) items n) :
    Turn P w K tg (Itp n) [z, pool] z (fun i h => PmAt h z pool n items i) where
  mem := by simp
  obj := fun i h st b hb => by
    obtain ⟨_, _, ⟨prev, hz⟩, hp⟩ := st
    rcases List.mem_cons.mp hb with rfl | hb
    · exact ⟨_, hz, fun v q => nomatch q⟩
    · rw [List.mem_singleton.mp hb]
      exact ⟨_, hp, fun v q => nomatch q⟩
  keep := fun i h h' st k => by
    obtain ⟨ne, hs, ⟨prev, hz⟩, hp⟩ := st
    exact ⟨ne, hs, ⟨prev, k z (by simp) _ hz⟩, k pool (by simp) _ hp⟩
  item := by
    intro X hP hw hK hc i pins s σ H E I hf st hg
    subst hP hw hK
    obtain ⟨ix, hix⟩ : ∃ ix, (permI n)[i]? = some ix := ⟨_, List.getElem?_eq_getElem hg⟩
    obtain ⟨il, ij⟩ := permI_ok hn ix (List.mem_of_getElem? hix)
    obtain ⟨_, _, ⟨prev, hz⟩, _⟩ := id st
    have zlt := Heap.lt_size hz
    refine pyNext_pm hn hix st fun h' a b c => ⟨_, rfl, ?_⟩
    obtain ⟨_, _, ⟨prev', hz'⟩, _⟩ := id a
    refine go_of (s := { s with heap := h' }) (n := "itertools.permutations") hz' rfl rfl (by decide) ?_
    have new : ObjOk X.prog X.w (upd H s.heap.objs.size (.tup (ix.map natV))) h' s.heap.objs.size (.tup (ix.map natV)) :=
      ⟨by rw [List.length_map, il]; exact Nat.le_trans (by omega : n ≤ 3) (by decide), pmGot ix items, pm_vals hi ix ij, ⟨_, b, rfl, _, rfl⟩⟩
    have I1 : Inv X pins σ (upd H s.heap.objs.size (.tup (ix.map natV))) { s with heap := h' } :=
      I.turnedNew (t' := s.toks) (ch := [z, pool]) (fun d o hb q => c d o (fun q' => hb (by simp [q'])) q) hf (Nat.le_refl _) new
    refine ⟨.ref s.heap.objs.size, _, I1, rfl, ⟨_, ix, hix, rfl, I.hok.fresh (Nat.le_refl _), rfl⟩, a, fun d hd => ?_⟩
    have hlt : d < s.heap.objs.size := by
      obtain ⟨_, _, _, hp⟩ := st
      rcases List.mem_cons.mp hd with rfl | hd
      · exact zlt
      · rw [List.mem_singleton.mp hd]
        exact Heap.lt_size hp
    rw [upd_ne (Nat.ne_of_lt hlt)]
    exact (hf d hd).1
  done := by
    intro X hP hw hK hc i pins s σ H E I hf st hg
    subst hP hw hK
    have e : (permI n).length = i := hg
    subst e
    exact pyNext_pm_end (I.ok.hd hc) hn st fun h' hk => ⟨rfl, I.turnedL (t' := s.toks) (ch := [z, pool]) (fun d o hb q => hk d o (fun q' => hb (by simp [q'])) q) hf⟩
  self := fun A i s Q E st h => by
    obtain ⟨_, _, ⟨prev, hz⟩, _⟩ := st
    exact pm_iter hz h
def iPerm (te : L2.St → Hp → (Int → Int → Hp → Prop) → Prop) : TI := fun σ H R => te σ H fun a b H1 => ∃ n : Nat, a = 0 ∧ b = n ∧ (n = 1 ∨ n = 2 ∨ n = 3) ∧ R (Itp n) H1
theorem pi_perm {X : Cx} {tg e : Expr} {te : L2.St → Hp → (Int → Int → Hp → Prop) → Prop} {p pos : Pos} (hc : X.calm = true) (hg : Gl X "permutations") (hm : X.mg "permutations" = some (.type "itertools.permutations")) (he : PRg X e te)
    (na : starEach [e] X.env = (false, eval e X.env) :: starEach [] X.env := by rfl) : PI X tg (.Call (.Name "permutations" p) [e] [] pos) (iPerm te) := by
  refine ⟨fun pins s σ H R I h => ?_⟩
  refine Call_ (ld_glob I hg hm (PyProof.Rows.callWith_type1 (args_cons (thn (he pins s σ H _ I h) fun x s1 ⟨r, a, b, t, u, v, H1, ex, hr, I1, n, ea, eb, hn, q⟩ => args_nil ?_) na) na))
  subst ex ea eb
  refine call_pm (n := n) (I1.ok.hd hc) hr (by omega) fun h' tk items hk hi => ?_
  have I2 : Inv X pins σ H1 { s1 with heap := h', toks := tk } := I1.kept hk
  have hz : IsPm ((h'.push { cls := .type "tuple", data := .seq items }).push { cls := .type "itertools.permutations", data := .fields (pmF h'.objs.size 0 n .none (pm0 n)).toArray }) (h'.push { cls := .type "tuple", data := .seq items }).objs.size h'.objs.size 0 n .none (pm0 n) := Heap.get?_push_size _ rfl
  have hp : ((h'.push { cls := .type "tuple", data := .seq items }).push { cls := .type "itertools.permutations", data := .fields (pmF h'.objs.size 0 n .none (pm0 n)).toArray }).get? h'.objs.size = some { cls := .type "tuple", data := .seq items } := Heap.get?_push_of_some _ (Heap.get?_push_size _ rfl)
  have zz : (h'.push { cls := .type "tuple", data := .seq items }).objs.size = h'.objs.size + 1 := Heap.size_push ..
  have e0 : pm0 n = numsAt n 0 := by rcases hn with rfl | rfl | rfl <;> rfl
  refine pm_iter hz ⟨_, [_, h'.objs.size], fun i h => PmAt h _ h'.objs.size n items i, Itp n, H1, rfl, I2.kept (t' := tk) (fun b o e => Heap.get?_push_of_some _ (Heap.get?_push_of_some _ e)), turn_pm hn hi, ⟨fun y => Nat.succ_ne_self _ (zz.symm.trans y), hi.1, ⟨.none, by rw [← e0]; exact hz⟩, hp⟩, fun b hb => ?_, q⟩
  have hle : h'.objs.size ≤ b := by
    rcases List.mem_cons.mp hb with rfl | hb
    · rw [zz]
      omega
    · rw [List.mem_singleton.mp hb]
      exact Nat.le_refl _
  exact I2.fpOk hle (I2.hok.fresh hle)
end Nv
set_option maxHeartbeats 4000000
namespace Nv
open PySem PySem.Spec PyProof.Rows L2
/-! # best_order -/
theorem walk_pm {n : Nat} : Walk (Itp n) (permI n).length (fun _ => True) (fun i H v H' => ∃ (T : Addr) (ix : List Nat), (permI n)[i]? = some ix ∧ v = .ref T ∧ H T = none ∧ H' = upd H T (.tup (ix.map natV))) :=
  ⟨fun _ _ h _ => h, fun _ _ => rfl, fun _ _ _ _ _ _ y => y⟩
/-- j is the first place of the least -/
structure IsBest (ss : List Int) (j : Nat) : Prop where
  ex : ∃ M, ss[j]? = some M ∧ (∀ a ∈ ss, M ≤ a) ∧ ∀ m, m < j → ss[m]? ≠ some M
theorem IsBest.uniq {ss : List Int} {j j' : Nat} (h : IsBest ss j) (h' : IsBest ss j') : j = j' := by
  obtain ⟨M, a, b, c⟩ := h.ex
  obtain ⟨M', a', b', c'⟩ := h'.ex
  have e : M = M' := by
    have h1 := b M' (List.mem_of_getElem? a')
    have h2 := b' M (List.mem_of_getElem? a)
    omega
  subst e
  rcases Nat.lt_trichotomy j j' with h | h | h
  · exact absurd a (c' j h)
  · exact h
  · exact absurd a' (c j' h)
theorem best_ex {ss : List Int} {M : Int} (h : M ∈ ss) (l : ∀ a ∈ ss, M ≤ a) : ∃ j, IsBest ss j ∧ ss[j]? = some M := by
  have e : ss.findIdx (fun y => y == M) < ss.length := List.findIdx_lt_length_of_exists ⟨M, h, beq_self_eq_true M⟩
  have g := List.findIdx_getElem (w := e)
  have at_ : ss[ss.findIdx (fun y => y == M)]? = some M := by
    rw [List.getElem?_eq_getElem e]
    exact congrArg some (by simpa using g)
  refine ⟨_, ⟨M, at_, l, fun m hm z => ?_⟩, at_⟩
  have hn := List.not_of_lt_findIdx hm
  obtain ⟨hl, e2⟩ := List.getElem?_eq_some_iff.mp z
  rw [e2] at hn
  simp at hn
/-- for each choice of patterns the number of its matches -/
structure NumsOf (pats prs ps : List (List Str)) (ns : List Int) : Prop where
  len : ns.length = 2 ^ pats.length
  at_ : ∀ c, c < 2 ^ pats.length → ∃ zs, NamesOf (tails (pickB c pats) ++ prs.flatten) zs ∧ ns[c]? = some (((metF zs (pickB c pats) prs ps).length : Nat) : Int)
theorem NumsOf.uniq {pats prs ps : List (List Str)} {ns ns' : List Int} (h : NumsOf pats prs ps ns) (h' : NumsOf pats prs ps ns') : ns = ns' := by
  refine List.ext_getElem? fun c => ?_
  by_cases hc : c < 2 ^ pats.length
  · obtain ⟨zs, a, b⟩ := h.at_ c hc
    obtain ⟨zs', a', b'⟩ := h'.at_ c hc
    rw [b, b', a.uniq a']
  · rw [List.getElem?_eq_none (by rw [h.len]; omega), List.getElem?_eq_none (by rw [h'.len]; omega)]
theorem pickB_mem {α : Type} {c : Nat} {xs : List α} {x : α} (h : x ∈ pickB c xs) : x ∈ xs := by
  unfold pickB at h
  obtain ⟨z, hz, rfl⟩ := List.mem_map.mp h
  exact (List.mem_zipIdx' (List.mem_filter.mp hz).1).2 ▸ List.getElem_mem _
theorem pickB_pal {c : Nat} {H : Hp} {us : List V} {ps : List (List Str)} (h : PaL H us ps) : PaL H (pickB c us) (pickB c ps) := by
  have go : ∀ n, n ≤ us.length → PaL H (pickB c (us.take n)) (pickB c (ps.take n)) := fun n => by
    induction n with
    | zero => exact fun _ => .nil
    | succ n ih =>
      intro hn
      have hu : us[n]? = some us[n] := List.getElem?_eq_getElem (by omega)
      obtain ⟨t, p, e, hp, et⟩ := h.at_ hu
      rw [pickB_snoc hu, pickB_snoc hp]
      refine (ih (by omega)).app ?_
      cases c / 2 ^ n % 2 == 1 with
      | true =>
        simp only [if_true]
        rw [e]
        exact .cons et .nil
      | false =>
        simp only [Bool.false_eq_true, if_false]
        exact .nil
  have := go us.length (Nat.le_refl _)
  rw [List.take_length, h.len, List.take_length] at this
  exact this
/-- new lists of places, none of them at D -/
def OLs (D : Addr) (H : Hp) (us : List V) (xs : List (List Nat)) : Prop := All2 (fun v ix => ∃ a, v = .ref a ∧ a ≠ D ∧ H a = some (.lst (ix.map natV))) us xs
theorem OLs.same {D : Addr} {H H' : Hp} {us : List V} {xs : List (List Nat)} (h : OLs D H us xs) (s : Sb D H H') : OLs D H' us xs := h.imp fun _ _ ⟨a, e, n, ea⟩ => ⟨a, e, n, s _ _ n ea⟩
section
variable {P : Program} {w : World} {K : PySem.W.Frag} {mg : Str → Option Value} {base : Heap}
def spBest (CQ : Addr) : Sp := fun vs H Q _ => ∃ (r b : Addr) (x : Ql) (us : List V) (ps : List (List Str)) (m : Nat), vs = [.ref r, .ref b] ∧ (QA CQ H r x ∧ x.Ok ∧ (x.ps.length = 1 ∨ x.ps.length = 2 ∨ x.ps.length = 3) ∧ x.qs.length ≤ 10 ∧ Mat x.ps) ∧ StoreAt H b us ps ∧ (ps.length ≤ m ∧ 1 ≤ m ∧ m ≤ 1000 ∧ m ^ x.ps.length ≤ 100000) ∧
  ∀ (p : Addr) (H' : Hp) (ns : List Int) (j : Nat) (ix : List Nat), Same H H' → NumsOf x.ps x.qs ps ns → IsBest ((permI x.ps.length).map (sumA ns)) j → (permI x.ps.length)[j]? = some ix → H' p = some (.lst (ix.map natV)) → Q (.ref p) H'
abbrev nBest : List Str := ["question", "store", "told", "pairs", "shelf", "numbers", "orders", "sums", "choice", "order"]
theorem scBest : FnScope nBest ["question", "store"] (defScope sBestOrder) := ⟨rfl, rfl, rfl, by decide +kernel, rfl, by decide +kernel, by decide +kernel⟩
theorem ok_best {f CQ : Addr} {fd : FuncData} (F : Fun K "best_order" "best_order" sBestOrder f fd) (B : Bp mg) (B2 : Bl mg) (pm : mg "permutations" = some (.type "itertools.permutations")) (R : QC K CQ) (T : PropL P w K mg base CQ "told" "_told") (T2 : PropL P w K mg base CQ "pairs" "_pairs")
    (GN : CallA P w K mg base "need_question" 1 ["value"] (spNeedQ CQ)) (GS : CallA P w K mg base "need_store" 5 ["value"] (spNeedStore K))
    (GM : CallA P w K mg base "met" 6 ["told", "pairs", "shelf"] (spMet K)) (GB : CallA P w K mg base "by_kind" 2 ["facts"] (spByKind K))
    (GC : CallA P w K mg base "_chosen" 1 ["told", "choice"] (spChosen K)) (GA : CallA P w K mg base "_sum_along" 1 ["order", "numbers"] (spSumAlong K)) :
    FnOk P w K mg base CX0 7 f fd ["question", "store"] (spBest CQ) := by
  obtain ⟨pt, gt, dt, PO, PF, PB⟩ := T.ex
  obtain ⟨pt2, gt2, dt2, PO2, PF2, PB2⟩ := T2.ex
  obtain ⟨fN, dN, GN, kN, gN, bN⟩ := GN.ex
  obtain ⟨fS, dS, GS, kS, gS, bS⟩ := GS.ex
  obtain ⟨fM, dM, GM, kM, gM, bM⟩ := GM.ex
  obtain ⟨fB, dB, GB, kB, gB, bB⟩ := GB.ex
  obtain ⟨fC, dC, GC, kC, gC, bC⟩ := GC.ex
  obtain ⟨fA, dA, GA, kA, gA, bA⟩ := GA.ex
  refine F.ok scBest (fun vs H Q E h => ?_) (fun cdv A outer s H vs Q E hr h => ?_)
  · obtain ⟨r, b, x, us, ps, m, rfl, _⟩ := h
    rfl
  · obtain ⟨r, b, x, us, ps, m, rfl, ⟨hq, ok, hn3, hl2, mat⟩, st, ⟨m1, m2, m3, m4⟩, q⟩ := h
    have hr1 : Room 1 _ := hr.mono (by decide)
    have hr2 : Room 2 _ := hr.mono (by decide)
    have hr5 : Room 5 _ := hr.mono (by decide)
    have hr6 : Room 6 _ := hr.mono (by decide)
    refine ⟨_, pss_cons (ps_expr (by exact (pe_call GN hr1 (by rfl) gN kN bN .nil pass0 (pa_cons (pv 0) pa_nil))))
      (pss_cons (ps_expr (by exact (pe_call GS hr5 (by rfl) gS kS bS .nil pass0 (pa_cons (pv 1) pa_nil))))
      (pss_cons (ps_asg (pe_tup (pa_cons (pe_prop (pv 0) R.cl PO PF hr2 PB .nil pass0 rfl) (pa_cons (pe_prop (pv 0) R.cl PO2 PF2 hr2 PB2 .nil pass0 rfl) (pa_cons (by exact (pe_call GB hr2 (by rfl) gB kB bB .nil pass0 (pa_cons (pv 1) pa_nil))) pa_nil))))
        (pg_tup rfl (pgs_cons (pg_name (i := 2) scBest.nd rfl (Or.inr rfl)) (pgs_cons (pg_name (i := 3) scBest.nd rfl (Or.inr rfl)) (pgs_cons (pg_name (i := 4) scBest.nd rfl (Or.inr rfl)) pgs_nil)))))
      (pss_cons (ps_set (i := 5) scBest.nd rfl (Or.inr rfl) (by exact (pe_lc (own := [("choice", 8)]) (g := gName 8) (tt := tYes) (te := tCB (fun xs H Q => ∃ x n, xs = [x] ∧ LenV K x H n ∧ Q (.int n) H) (tCons (tCall (spMet K) [] E0 (tCons (tCall (spChosen K) [] E0 (tCons (tVar 2) (tCons (tVar 8) tNil))) (tCons (tVar 3) (tCons (tVar 4) tNil)))) tNil)) rfl scBest.nd
          (pi_range1 (by rfl) B2.rg (pa_cons (pe_op op_oneShl pe_int (pe_callB call_len (by rfl) B.len PySem.boot_len (pa_cons (pv 2) pa_nil))) pa_nil))
          (blkOk_by (own := [("choice", 8)]) (N := nBest) (sc := defScope sBestOrder) (by decide +kernel))
          (fun _ _ _ _ _ => pg_name (i := 8) scBest.nd rfl (Or.inl rfl)) (fun _ _ _ _ _ => pts_nil)
          (fun _ _ _ _ _ => by exact (pe_callB call_len (by rfl) B.len PySem.boot_len (pa_cons (by exact (pe_call GM hr6 (by rfl) gM kM bM .nil pass0 (pa_cons (by exact (pe_call GC hr1 (by rfl) gC kC bC .nil pass0 (pa_cons (pv 2) (pa_cons (pv 8) pa_nil)))) (pa_cons (pv 3) (pa_cons (pv 4) pa_nil))))) pa_nil))))))
      (pss_cons (by exact (ps_setLc (i := 6) (own := [("order", 9)]) (g := gName 9) (tt := tYes) (te := tCB (fun xs H Q => ∃ p ys, xs = [.ref p] ∧ (SqL K H p ys ∨ SqT K H p ys) ∧ ∀ l, H l = none → Q (.ref l) (upd H l (.lst ys))) (tCons (tVar 9) tNil)) rfl scBest.nd rfl rfl (sw_true rfl rfl rfl (by decide +kernel))
          (pi_perm rfl (by rfl) pm (prg_1 (by rfl) B2.rg (pe_callB call_len (by rfl) B.len PySem.boot_len (pa_cons (pv 2) pa_nil))))
          (blkOk_by (own := [("order", 9)]) (N := nBest) (sc := defScope sBestOrder) (by decide +kernel))
          (fun _ _ _ _ _ => pg_name (i := 9) scBest.nd rfl (Or.inl rfl)) (fun _ _ _ _ _ => pts_nil)
          (fun _ _ _ _ _ => by exact (pe_callTy call_list_of (by rfl) B.lst PyProof.Rows.boot_list (pa_cons (pv 9) pa_nil)))))
      (pss_cons (by exact (ps_setLc (i := 7) (own := [("order", 9)]) (g := gName 9) (tt := tYes) (te := tCall (spSumAlong K) [] E0 (tCons (tVar 9) (tCons (tVar 5) tNil))) rfl scBest.nd rfl rfl (sw_true rfl rfl rfl (by decide +kernel))
          (pi_list (pv 6))
          (blkOk_by (own := [("order", 9)]) (N := nBest) (sc := defScope sBestOrder) (by decide +kernel))
          (fun _ _ _ _ _ => pg_name (i := 9) scBest.nd rfl (Or.inl rfl)) (fun _ _ _ _ _ => pts_nil)
          (fun _ _ _ _ _ => by exact (pe_call GA hr1 (by rfl) gA kA bA .nil pass0 (pa_cons (pv 9) (pa_cons (pv 5) pa_nil))))))
      (pss_one (ps_ret (pe_ix ix_list (pv 6) (pe_bm PySem.F.plainAttrs_list PySem.F.slot_list_index PySem.F.type_list_index mt_index (pv 7) (pa_cons (pe_callB (cr_min rfl) (by rfl) B2.min bootMin (pa_cons (pv 7) pa_nil)) pa_nil)) (fun _ _ => rfl))))))))), ?_⟩
    obtain ⟨dx, l1, l2, l3, u2, u3, e, e1, ⟨e2, p2⟩, e3, p3⟩ := id hq
    have ul := p2.len
    have nl3 : x.ps.length ≤ 3 := by omega
    refine ⟨_, rfl, ?_⟩
    dsimp only [tNil]
    refine ⟨r, dx, _, rfl, e, ?_⟩
    refine ⟨_, rfl, ?_⟩
    dsimp only [tNil]
    refine st.need fun H1 s1 => ?_
    refine ⟨_, rfl, r, dx, _, rfl, s1 _ _ e, r, dx, l2, _, u2, rfl, s1 _ _ e, qk2, s1 _ _ e2, fun a na => ?_⟩
    have s2 : Same H (upd H1 a (.lst u2)) := s1.trans (same_new na)
    have ea : upd H1 a (.lst u2) a = some (.lst u2) := upd_same
    generalize upd H1 a (.lst u2) = H2 at s2 ea ⊢
    refine ⟨_, rfl, r, dx, _, rfl, s2 _ _ e, r, dx, l3, _, u3, rfl, s2 _ _ e, qk3, s2 _ _ e3, fun c nc => ?_⟩
    have s3 : Same H2 (upd H2 c (.lst u3)) := same_new nc
    have ec : upd H2 c (.lst u3) c = some (.lst u3) := upd_same
    generalize upd H2 c (.lst u3) = H3 at s3 ec ⊢
    have s03 := s2.trans s3
    refine ⟨_, rfl, ?_⟩
    dsimp only [tNil]
    have st3 := st.same s03
    refine ⟨b, us, ps, rfl, SqL.of st3.at_, st3.pal, st3.ok, by have := st.few; omega, fun d H4 nd s4 sh => ?_⟩
    have s04 := s03.trans s4
    have ea4 := s4 _ _ (s3 _ _ ea)
    have ec4 := s4 _ _ ec
    have sh4 : ShelfV H4 (.ref d) ps := ⟨d, us, H3, rfl, sh, st.pal.same s04, st.ok⟩
    have p24 := p2.same s04
    have p34 := p3.same s04
    clear s1 s2 s3 s03 s4 sh ea ec st3 nd na nc
    refine ⟨by show 3 ≤ _; decide, fun tp ntp => ?_⟩
    have s5 : Same H4 (upd H4 tp (.tup [.ref a, .ref c, .ref d])) := same_new ntp
    have etp : upd H4 tp (.tup [.ref a, .ref c, .ref d]) tp = some (.tup [.ref a, .ref c, .ref d]) := upd_same
    generalize upd H4 tp (.tup [.ref a, .ref c, .ref d]) = H5 at s5 etp ⊢
    refine ⟨tp, _, rfl, SqT.of etp, rfl, _, _, rfl, _, _, rfl, _, _, rfl, rfl, ?_⟩
    show tSeq _ _ _ _ _
    refine ⟨_, rfl, _, _, rfl, .inl ⟨_, SqL.of (s5 _ _ ea4), rfl⟩, u2.length, rfl, rfl, by omega, ?_⟩
    have tn : ((2 : Int) ^ u2.length).toNat = 2 ^ x.ps.length := by
      rw [ul]
      rcases hn3 with h | h | h <;> rw [h] <;> rfl
    have tb : ((2 : Int) ^ u2.length) = 2 ∨ ((2 : Int) ^ u2.length) = 4 ∨ ((2 : Int) ^ u2.length) = 8 := by
      rw [ul]
      rcases hn3 with h | h | h <;> rw [h] <;> decide
    refine ⟨_, rfl, by omega, by omega, ?_⟩
    rw [tn]
    intro D nD
    refine lc_it (walk_range (lo := 0) (n := 2 ^ x.ps.length)) (fun i H' => Same H5 H' ∧ ∃ ns : List Int, ns.length = i ∧ (∀ c, c < i → ∃ zs, NamesOf (tails (pickB c x.ps) ++ x.qs.flatten) zs ∧ ns[c]? = some (((metF zs (pickB c x.ps) x.qs ps).length : Nat) : Int)) ∧ H' D = some (.lst (ns.map V.int)))
      ⟨same_new nD, [], rfl, fun c hc => absurd hc (Nat.not_lt_zero _), upd_same⟩ (fun _ _ _ _ => trivial) ?_ ?_
    · rintro i v G1 G2 hi ⟨sG, ns, nsl, nsa, eD⟩ ⟨rfl, hv⟩
      have hv : v = .int (i : Nat) := by
        rw [hv]
        show V.int (0 + (i : Int)) = _
        rw [Int.zero_add]
      subst hv
      have sG4 := s5.trans sG
      refine ⟨rfl, _, rfl, _, rfl, ?_⟩
      dsimp only [tNil]
      refine ⟨a, u2, i, rfl, SqL.of (sG4 _ _ ea4), by omega, fun pp G3 npp sp epp => ?_⟩
      have sG3 := sG4.trans sp
      refine ⟨_, rfl, _, rfl, ?_⟩
      dsimp only [tNil]
      have pkl : (pickB i x.ps).length ≤ x.ps.length := pickB_len _ _
      refine ⟨pp, c, .ref d, pickB i u2, u3, pickB i x.ps, x.qs, ps, m, rfl, ⟨epp, pickB_pal (p24.same sG3), fun y hy => ok.ps y (pickB_mem hy), by omega⟩, ⟨sG3 _ _ ec4, p34.same sG3, ok.qs, hl2⟩, ⟨sh4.same sG3, m1, m2, m3, Nat.le_trans (Nat.pow_le_pow_right m2 pkl) m4⟩,
        fun zs hz => plan_nt fun y hy => mat.nt y (pickB_mem hy), fun p G5 us' zs np s6 e6 hz h6 => ?_⟩
      refine ⟨_, _, rfl, .inl ⟨_, SqL.of e6, rfl⟩, ?_⟩
      rw [h6.len]
      have sG5 := sp.trans s6
      have b8 : 2 ^ x.ps.length ≤ 8 := by rcases hn3 with h | h | h <;> rw [h] <;> decide
      refine ⟨ns.map V.int, sG5 _ _ eD, ?_, same_put (sG.trans sG5) nD, ns ++ [(((metF zs (pickB i x.ps) x.qs ps).length : Nat) : Int)], by rw [List.length_append, nsl] <;> rfl, fun c hc => ?_, by rw [upd_same, List.map_append] <;> rfl⟩
      · rw [List.length_map, nsl]
        exact Nat.lt_of_le_of_lt (by omega : _ ≤ 8) (by decide)
      · rcases Nat.lt_or_ge c i with h | h
        · obtain ⟨z, h1, h2⟩ := nsa c h
          exact ⟨z, h1, by rw [List.getElem?_append_left (by omega)]; exact h2⟩
        · have ci : c = i := by omega
          subst ci
          exact ⟨zs, hz, by rw [List.getElem?_append_right (by omega), nsl, Nat.sub_self] <;> rfl⟩
    · rintro G1 ⟨sG, ns, nsl, nsa, eD⟩
      have NO : NumsOf x.ps x.qs ps ns := ⟨nsl, nsa⟩
      have sG4 := s5.trans sG
      show tSeq _ _ _ _ _
      refine ⟨_, rfl, _, _, rfl, .inl ⟨_, SqL.of (sG4 _ _ ea4), rfl⟩, _, rfl, x.ps.length, rfl, by rw [ul] <;> rfl, hn3, fun D2 nD2 => ?_⟩
      refine lc_it walk_pm (fun i H' => Same G1 H' ∧ ∃ us : List V, H' D2 = some (.lst us) ∧ OLs D2 H' us ((permI x.ps.length).take i)) ⟨same_new nD2, [], upd_same, .nil⟩ (fun _ _ _ _ => trivial) ?_ ?_
      · rintro i v G2 G3 hi ⟨s6, u6, eD2, hO⟩ ⟨T, ix, hix, rfl, nT, rfl⟩
        have eT := same_new (o := .tup (ix.map natV)) nT _ _ eD2
        refine ⟨rfl, _, rfl, T, _, rfl, .inr (SqT.of upd_same), fun l nl => ?_⟩
        have lD : l ≠ D2 := fun y => by rw [y, eT] at nl; cases nl
        have s7 : Same G2 (upd (upd G2 T (.tup (ix.map natV))) l (.lst (ix.map natV))) := (same_new nT).trans (same_new nl)
        have el : upd (upd G2 T (.tup (ix.map natV))) l (.lst (ix.map natV)) l = some (.lst (ix.map natV)) := upd_same
        generalize upd (upd G2 T (.tup (ix.map natV))) l (.lst (ix.map natV)) = G4 at s7 el
        have hl6 : u6.length ≤ 6 := by
          rw [hO.len, List.length_take]
          have : (permI x.ps.length).length ≤ 6 := by rcases hn3 with h | h | h <;> rw [h] <;> decide
          omega
        refine ⟨u6, s7 _ _ eD2, Nat.lt_of_le_of_lt hl6 (by decide), same_put (s6.trans s7) nD2, _, upd_same, ?_⟩
        rw [take_one hix]
        exact (hO.same ((Sb.of s7).trans Sb.upd)).snoc ⟨l, rfl, lD, by rw [upd_ne lD]; exact el⟩
      · rintro G2 ⟨s6, u6, eD2, hO⟩
        rw [List.take_length] at hO
        have sD := sG.trans s6
        have eD0 := s6 _ _ eD
        show tSeq _ _ _ _ _
        refine ⟨_, rfl, D2, rfl, ⟨_, SqL.of eD2⟩, fun D3 nD3 => ?_⟩
        have hln : u6.length = (permI x.ps.length).length := hO.len
        have ssl : ((permI x.ps.length).map (sumA ns)).length = u6.length := by rw [List.length_map, hln]
        refine lc_list (K := K) (a := D2) (xs := u6) (fun i H' => Same G2 H' ∧ H' D3 = some (.lst ((((permI x.ps.length).map (sumA ns)).take i).map V.int))) ⟨same_new nD3, upd_same⟩ (fun i H' _ y => SqL.of (y.1 _ _ eD2)) ?_ ?_
        · rintro i v G3 hi ⟨s7, eD3⟩
          obtain ⟨ix, hix, al, rfl, _, eal⟩ := hO.at_ hi
          obtain ⟨il, ij⟩ := permI_ok hn3 ix (List.mem_of_getElem? hix)
          refine ⟨rfl, _, rfl, _, rfl, ?_⟩
          dsimp only [tNil]
          refine ⟨al, D, ix, ns, x.ps.length, rfl, SqL.of (s7 _ _ eal), SqL.of (s7 _ _ eD0), ij, nsl, by omega, by omega, ?_⟩
          have hsi : ((permI x.ps.length).map (sumA ns))[i]? = some (sumA ns ix) := by rw [List.getElem?_map, hix] <;> rfl
          have h6 : (permI x.ps.length).length ≤ 6 := by rcases hn3 with h | h | h <;> rw [h] <;> decide
          refine ⟨_, eD3, ?_, same_put s7 nD3, ?_⟩
          · rw [List.length_map, List.length_take, List.length_map]
            exact Nat.lt_of_le_of_lt (by omega : _ ≤ 6) (by decide)
          · rw [upd_same, take_one hsi, List.map_append] <;> rfl
        · rintro G3 ⟨s7, eD3⟩
          rw [← ssl, List.take_length] at eD3
          have ne0 : 0 < ((permI x.ps.length).map (sumA ns)).length := by
            rw [List.length_map]
            rcases hn3 with h | h | h <;> rw [h] <;> decide
          refine ⟨_, rfl, _, rfl, .inl ⟨rfl, _, SqL.of eD3⟩, _, rfl, D3, _, rfl, SqL.of eD3, ne0, fun M hM hmin => ?_⟩
          obtain ⟨j, hb, hj⟩ := best_ex hM hmin
          refine ⟨D3, _, _, j, .int M, rfl, rfl, SqL.of eD3, rfl, ?_, ?_, by show (M == M) = true; exact beq_self_eq_true M, fun k z hk hz => ?_, ?_⟩
          · rw [List.all_eq_true]
            intro v hv
            obtain ⟨y, _, rfl⟩ := List.mem_map.mp hv
            rfl
          · rw [List.getElem?_map, hj] <;> rfl
          · obtain ⟨y, hy, rfl⟩ := Option.map_eq_some_iff.mp (by rw [List.getElem?_map] at hz; exact hz)
            show (y == M) = false
            refine beq_eq_false_iff_ne.mpr fun e => ?_
            subst e
            obtain ⟨M', h1, _, h3⟩ := hb.ex
            rw [hj] at h1
            exact h3 k hk (by rw [hy]; exact h1)
          · have jl : j < (permI x.ps.length).length := by
              have := (List.getElem?_eq_some_iff.mp hj).1
              rwa [List.length_map] at this
            have hix : (permI x.ps.length)[j]? = some (permI x.ps.length)[j] := List.getElem?_eq_getElem jl
            have hu6 : u6[j]? = some u6[j] := List.getElem?_eq_getElem (by omega)
            obtain ⟨ix, hix2, al, eal, _, eal2⟩ := hO.at_ hu6
            refine ⟨D2, u6, _, _, rfl, rfl, SqL.of (s7 _ _ eD2), atI_nat hu6, ?_⟩
            rw [eal]
            exact q al G3 ns j ix (((s04.trans s5).trans sD).trans s7) NO hb hix2 (s7 _ _ eal2)
end
end Nv
set_option maxHeartbeats 4000000
namespace Nv
open PySem PySem.Spec PyProof.Rows
open PySem.Sem (wp)
/-! # zip of two sequences of any kind, each turn told by its iterators; dict(zip(..)) of it -/
/-- the iterator at it, over the sequence at l, gives xs one by one -/
structure Gives (prog : Program) (w : World) (it l : Addr) (xs : Array Value) (St : Nat → Heap → Prop) : Prop where
  item : ∀ (A : Around) (E : Value → Shared → Prop) (s : Shared) (i : Nat) (x : Value) (Q : Value → Shared → Prop), St i s.heap → xs[i]? = some x →
    (∀ h', St (i + 1) h' → Heap.SameBut it s.heap h' → Q x { s with heap := h' }) → wpAny (model prog w) A (Builtin.SmallTypes.nextOf (.ref it)) Q E s
  done : ∀ (A : Around) (E : Value → Shared → Prop) (s : Shared) (i : Nat) (Q : Value → Shared → Prop), A.handled = none → St i s.heap → xs[i]? = none →
    (∀ h' e, Heap.ExtBut it s.heap h' → (∃ o, h'.get? e = some o ∧ o.cls = .type "StopIteration") → E (.ref e) { s with heap := h' }) → wpAny (model prog w) A (Builtin.SmallTypes.nextOf (.ref it)) Q E s
  keep : ∀ (i : Nat) (h h' : Heap), St i h → (∀ o, h.get? it = some o → h'.get? it = some o) → (∀ o, h.get? l = some o → h'.get? l = some o) → St i h'
  there : ∀ (i : Nat) (h : Heap), St i h → (∃ o, h.get? it = some o) ∧ ∃ o, h.get? l = some o
theorem gives_list {prog : Program} {w : World} (it l : Addr) (xs : Array Value) : Gives prog w it l xs (fun i h => h.IsListIter it l i ∧ h.IsList l xs) where
  item := fun A E s i x Q st hx q => wpAny_nextOf_list_item st.1 st.2 hx fun h' a b => q h' ⟨a, by
    obtain ⟨o, ho, hc, n, hd⟩ := st.2
    obtain ⟨o1, ho1, hc1, hd1⟩ := st.1
    have ne : l ≠ it := fun z => by
      rw [z, ho1] at ho
      cases ho
      rw [hd1] at hd
      cases hd
    exact st.2.extBut b.extBut ne⟩ b
  done := fun A E s i Q hh st hx q => wpAny_nextOf_list_end hh st.1 st.2 hx q
  keep := fun i h h' st k1 k2 => ⟨st.1.at k1, st.2.at k2⟩
  there := fun i h st => by
    obtain ⟨⟨o, e, _⟩, ⟨o2, e2, _⟩⟩ := st
    exact ⟨⟨o, e⟩, o2, e2⟩
theorem gives_tup {prog : Program} {w : World} (it l : Addr) (xs : Array Value) : Gives prog w it l xs (fun i h => h.IsTupleIter it l i ∧ h.IsTuple l xs) where
  item := fun A E s i x Q st hx q => RZ.nextOf_tuple_item st.1 st.2 hx fun h' a b => q h' ⟨a, by
    obtain ⟨o, ho, hc, n, hd⟩ := st.2
    obtain ⟨o1, ho1, hc1, hd1⟩ := st.1
    have ne : l ≠ it := fun z => by
      rw [z, ho1] at ho
      cases ho
      rw [hd1] at hd
      cases hd
    exact st.2.extBut b.extBut ne⟩ b
  done := fun A E s i Q hh st hx q => RZ.nextOf_tuple_end hh st.1 st.2 hx q
  keep := fun i h h' st k1 k2 => ⟨st.1.at k1, st.2.at k2⟩
  there := fun i h st => by
    obtain ⟨⟨o, e, _⟩, ⟨o2, e2, _⟩⟩ := st
    exact ⟨⟨o, e⟩, o2, e2⟩
section
variable {prog : Program} {w : World} {A : Around} {E : Value → Shared → Prop} {s : Shared}
variable {z TI TO T i1 i2 l1 l2 : Addr} {k : Nat} {xs ys : Array Value} {S1 S2 : Nat → Heap → Prop}
theorem gz_item {x y a b : Value} {Q : Value → Shared → Prop} (D : ZipApart z TI TO i1 i2 l1 l2) (G1 : Gives prog w i1 l1 xs S1) (G2 : Gives prog w i2 l2 ys S2)
    (kz : IsZip s.heap z TI TO .none) (kTI : IsPair s.heap TI (.ref i1) (.ref i2)) (kTO : IsPair s.heap TO a b) (st1 : S1 k s.heap) (st2 : S2 k s.heap) (hx : xs[k]? = some x) (hy : ys[k]? = some y)
    (q : ∀ h', IsZip h' z TI TO (rawInt s.heap.objs.size) → IsPair h' TO x y → S1 (k + 1) h' → S2 (k + 1) h' → IsPair h' s.heap.objs.size x y → h'.objs.size = s.heap.objs.size + 1 →
      (∀ c o, c ≠ z → c ≠ TO → c ≠ i1 → c ≠ i2 → s.heap.get? c = some o → h'.get? c = some o) → Q (.ref s.heap.objs.size) { s with heap := h' }) :
    wpAny (model prog w) A (Builtin.«zip.__next__» ⟨[.ref z], []⟩) (fun fin s' => ∃ v, fin = .done (.ret v) ∧ Q v s') E s := by
  have z1lt : ∀ {j h}, S1 j h → i1 < h.objs.size := fun st => (let ⟨⟨_, e⟩, _⟩ := G1.there _ _ st; Heap.lt_size e)
  have z2lt : ∀ {j h}, S2 j h → i2 < h.objs.size := fun st => (let ⟨⟨_, e⟩, _⟩ := G2.there _ _ st; Heap.lt_size e)
  show wpAny _ _ (field (.ref z) 2 >>= _) _ _ _
  refine wpAny_bind (wpAny_field kz rfl (x := .bool false) rfl ?_)
  show wpAny _ _ (field (.ref z) 3 >>= _) _ _ _
  refine wpAny_bind (wpAny_field kz rfl (x := .ref TI) rfl ?_)
  refine wpAny_bind (wpAny_seqItems kTI rfl ?_)
  refine wpAny_bind (m := Builtin.SmallTypes.ownedTupleIsFree (.ref z)) ?_
  unfold Builtin.SmallTypes.ownedTupleIsFree
  refine wpAny_bind (wpAny_field kz rfl (x := .none) rfl (wpAny_pure ?_))
  dsimp only
  rw [if_pos rfl]
  refine wpAny_bind (wpAny_rule ?_)
  refine wpAny_bind (wpAny_field kz rfl (x := .ref TO) rfl ?_)
  refine wpAny_bind (wpAny_setField_rec kz (by simp) fun g1 kz1 b1 => ?_)
  replace kz1 : IsZip g1 z TI TO .ellipsis := kz1
  refine wpAny_bind ?_
  simp only [List.zipIdx_cons, List.zipIdx_nil, List.forIn_cons, List.forIn_nil]
  have st1a := G1.keep _ _ g1 st1 (fun o e => b1.extBut _ o D.i1z e) (fun o e => b1.extBut _ o D.l1z e)
  have st2a := G2.keep _ _ g1 st2 (fun o e => b1.extBut _ o D.i2z e) (fun o e => b1.extBut _ o D.l2z e)
  refine wpAny_bind (wpAny_bind (wpAny_onRaise ?_))
  refine wpAny_bind (m := Builtin.SmallTypes.nextOf (.ref i1)) (G1.item _ _ { s with heap := g1 } k x _ st1a hx fun g2 st1b b2 => wpAny_pure ?_)
  have kTO2 : IsPair g2 TO a b := b2.extBut _ _ D.TOi1 (b1.extBut _ _ D.TOz kTO)
  refine wpAny_bind (wpAny_seqItems kTO2 rfl ?_)
  refine wpAny_bind (wpAny_updateSeq_pair kTO2 fun g3 kTO3 b3 => ?_)
  replace kTO3 : IsPair g3 TO x b := kTO3
  refine wpAny_bind (wpAny_letGo (wpAny_pure ?_))
  have st1c := G1.keep _ _ g3 st1b (fun o e => b3.extBut _ o D.TOi1.symm e) (fun o e => b3.extBut _ o D.l1TO e)
  have st2b := G2.keep _ _ g2 st2a (fun o e => b2.extBut _ o D.i12.symm e) (fun o e => b2.extBut _ o D.l2i1 e)
  have st2c := G2.keep _ _ g3 st2b (fun o e => b3.extBut _ o D.TOi2.symm e) (fun o e => b3.extBut _ o D.l2TO e)
  refine wpAny_bind (wpAny_bind (wpAny_onRaise ?_))
  refine wpAny_bind (m := Builtin.SmallTypes.nextOf (.ref i2)) (G2.item _ _ { s with heap := g3 } k y _ st2c hy fun g4 st2d b4 => wpAny_pure ?_)
  have kTO4 : IsPair g4 TO x b := b4.extBut _ _ D.TOi2 kTO3
  refine wpAny_bind (wpAny_seqItems kTO4 rfl ?_)
  refine wpAny_bind (wpAny_updateSeq_pair kTO4 fun g5 kTO5 b5 => ?_)
  replace kTO5 : IsPair g5 TO x y := kTO5
  refine wpAny_bind (wpAny_letGo (wpAny_pure (wpAny_pure ?_)))
  refine wpAny_bind (wpAny_seqItems kTO5 rfl ?_)
  refine wpAny_bind (wpAny_newTuple ?_)
  have zs : g5.objs.size = s.heap.objs.size := by rw [b5.1, b4.1, b3.1, b2.1, b1.1]
  have kz5 : IsZip g5 z TI TO .ellipsis := b5.extBut _ _ D.TOz.symm (b4.extBut _ _ D.i2z.symm (b3.extBut _ _ D.TOz.symm (b2.extBut _ _ D.i1z.symm kz1)))
  have kk5 : ∀ c o, c ≠ z → c ≠ TO → c ≠ i1 → c ≠ i2 → s.heap.get? c = some o → g5.get? c = some o := fun c o n1 n2 n3 n4 e =>
    b5.extBut _ _ n2 (b4.extBut _ _ n4 (b3.extBut _ _ n2 (b2.extBut _ _ n3 (b1.extBut _ _ n1 e))))
  have st1d := G1.keep _ _ g4 st1c (fun o e => b4.extBut _ o D.i12 e) (fun o e => b4.extBut _ o D.l1i2 e)
  have st1e := G1.keep _ _ g5 st1d (fun o e => b5.extBut _ o D.TOi1.symm e) (fun o e => b5.extBut _ o D.l1TO e)
  have st2e := G2.keep _ _ g5 st2d (fun o e => b5.extBut _ o D.TOi2.symm e) (fun o e => b5.extBut _ o D.l2TO e)
  have zlt : z < g5.objs.size := Heap.lt_size kz5
  refine wpAny_bind (m := Builtin.SmallTypes.ownedTupleHandOut (.ref z) (.ref g5.objs.size)) ?_
  unfold Builtin.SmallTypes.ownedTupleHandOut
  have kz6 : IsZip (g5.push { cls := .type "tuple", data := .seq #[x, y] }) z TI TO .ellipsis := Heap.get?_push_of_some _ kz5
  refine wpAny_bind (wpAny_setField_rec kz6 (by simp) fun g7 kz7 b7 => ?_)
  replace kz7 : IsZip g7 z TI TO (rawInt g5.objs.size) := kz7
  refine wpAny_setField_rec kz7 (by simp) fun g8 kz8 b8 => ?_
  replace kz8 : IsZip g8 z TI TO (rawInt g5.objs.size) := kz8
  have up : ∀ c o, c ≠ z → g5.get? c = some o → g8.get? c = some o := fun c o n1 e => b8.extBut _ _ n1 (b7.extBut _ _ n1 (Heap.get?_push_of_some _ e))
  have kT : IsPair g8 g5.objs.size x y := b8.extBut _ _ (Nat.ne_of_gt zlt) (b7.extBut _ _ (Nat.ne_of_gt zlt) (Heap.get?_push_size _ rfl))
  have z8 : g8.objs.size = g5.objs.size + 1 := by rw [b8.1, b7.1, Heap.size_push]
  rw [zs] at kz8 kT z8
  refine wpAny_pure ⟨_, rfl, ?_⟩
  show Q (.ref g5.objs.size) _
  rw [zs]
  exact q g8 kz8 (up _ _ D.TOz kTO5) (G1.keep _ _ g8 st1e (fun o e => up _ o D.i1z e) (fun o e => up _ o D.l1z e)) (G2.keep _ _ g8 st2e (fun o e => up _ o D.i2z e) (fun o e => up _ o D.l2z e)) kT z8 fun c o n1 n2 n3 n4 e => up c o n1 (kk5 c o n1 n2 n3 n4 e)
theorem gz_held {f : Bool} {oT : Obj} {x y : Value} {Q : Value → Shared → Prop} (D : ZipApart z TI TO i1 i2 l1 l2) (G1 : Gives prog w i1 l1 xs S1) (G2 : Gives prog w i2 l2 ys S2)
    (kz : IsZipHeld s.heap z TI TO T f) (kT : s.heap.get? T = some oT) (kTI : IsPair s.heap TI (.ref i1) (.ref i2)) (st1 : S1 k s.heap) (st2 : S2 k s.heap) (hx : xs[k]? = some x) (hy : ys[k]? = some y)
    (q : ∀ h', IsZipHeld h' z TI TO T true → S1 (k + 1) h' → S2 (k + 1) h' → IsPair h' s.heap.objs.size x y → h'.objs.size = s.heap.objs.size + 1 →
      (∀ c o, c ≠ z → c ≠ i1 → c ≠ i2 → s.heap.get? c = some o → h'.get? c = some o) → Q (.ref s.heap.objs.size) { s with heap := h' }) :
    wpAny (model prog w) A (Builtin.«zip.__next__» ⟨[.ref z], []⟩) (fun fin s' => ∃ v, fin = .done (.ret v) ∧ Q v s') E s := by
  show wpAny _ _ (field (.ref z) 2 >>= _) _ _ _
  refine wpAny_bind (wpAny_field kz rfl (x := .bool false) rfl ?_)
  show wpAny _ _ (field (.ref z) 3 >>= _) _ _ _
  refine wpAny_bind (wpAny_field kz rfl (x := .ref TI) rfl ?_)
  refine wpAny_bind (wpAny_seqItems kTI rfl ?_)
  refine wpAny_bind (m := Builtin.SmallTypes.ownedTupleIsFree (.ref z)) (wpAny_tupleHeld_zip kz kT fun g1 kz1 b1 => ?_)
  dsimp only
  rw [if_neg Bool.false_ne_true]
  refine wpAny_bind ?_
  rw [← Array.forIn_toList]
  dsimp only
  rw [List.forIn_cons]
  have st1a := G1.keep _ _ g1 st1 (fun o e => b1.extBut _ o D.i1z e) (fun o e => b1.extBut _ o D.l1z e)
  have st2a := G2.keep _ _ g1 st2 (fun o e => b1.extBut _ o D.i2z e) (fun o e => b1.extBut _ o D.l2z e)
  refine wpAny_bind (wpAny_bind (wpAny_holding ?_))
  refine wpAny_bind (m := Builtin.SmallTypes.nextOf (.ref i1)) (G1.item _ _ { s with heap := g1 } k x _ st1a hx fun g2 st1b b2 => wpAny_pure ?_)
  refine wpAny_pure ?_
  dsimp only
  rw [List.forIn_cons]
  have st2b := G2.keep _ _ g2 st2a (fun o e => b2.extBut _ o D.i12.symm e) (fun o e => b2.extBut _ o D.l2i1 e)
  refine wpAny_bind (wpAny_bind (wpAny_holding ?_))
  refine wpAny_bind (m := Builtin.SmallTypes.nextOf (.ref i2)) (G2.item _ _ { s with heap := g2 } k y _ st2b hy fun g3 st2c b3 => wpAny_pure ?_)
  refine wpAny_pure ?_
  dsimp only
  rw [List.forIn_nil]
  refine wpAny_pure ?_
  refine wpAny_bind (m := newTuple [x, y]) (wpAny_newTuple ?_)
  have zs : g3.objs.size = s.heap.objs.size := by rw [b3.1, b2.1, b1.1]
  have kz3 : IsZipHeld g3 z TI TO T true := b3.extBut _ _ D.i2z.symm (b2.extBut _ _ D.i1z.symm kz1)
  have kk : ∀ c o, c ≠ z → c ≠ i1 → c ≠ i2 → s.heap.get? c = some o → g3.get? c = some o := fun c o n1 n2 n3 e => b3.extBut _ _ n3 (b2.extBut _ _ n2 (b1.extBut _ _ n1 e))
  have st1c := G1.keep _ _ g3 st1b (fun o e => b3.extBut _ o D.i12 e) (fun o e => b3.extBut _ o D.l1i2 e)
  refine wpAny_pure ⟨_, rfl, ?_⟩
  show Q (.ref g3.objs.size) _
  have kp : IsPair (g3.push { cls := .type "tuple", data := .seq #[x, y] }) g3.objs.size x y := Heap.get?_push_size _ rfl
  have z4 : (g3.push { cls := .type "tuple", data := .seq #[x, y] }).objs.size = g3.objs.size + 1 := Heap.size_push ..
  rw [zs] at kp z4 ⊢
  exact q _ (Heap.get?_push_of_some _ kz3) (G1.keep _ _ _ st1c (fun o e => Heap.get?_push_of_some _ e) fun o e => Heap.get?_push_of_some _ e) (G2.keep _ _ _ st2c (fun o e => Heap.get?_push_of_some _ e) fun o e => Heap.get?_push_of_some _ e) kp z4
    fun c o n1 n2 n3 e => Heap.get?_push_of_some _ (kk c o n1 n2 n3 e)
/-- the first of the two is at its end: so is the zip -/
theorem gz_end {a b : Value} {Q : Fin → Shared → Prop} (hh : A.handled = none) (D : ZipApart z TI TO i1 i2 l1 l2) (G1 : Gives prog w i1 l1 xs S1)
    (kz : IsZip s.heap z TI TO .none) (kTI : IsPair s.heap TI (.ref i1) (.ref i2)) (kTO : IsPair s.heap TO a b) (st1 : S1 k s.heap) (hx : xs[k]? = none)
    (hE : ∀ h' e, (∀ c o, c ≠ z → c ≠ TO → c ≠ i1 → c ≠ i2 → s.heap.get? c = some o → h'.get? c = some o) → (∃ o, h'.get? e = some o ∧ o.cls = .type "StopIteration") → E (.ref e) { s with heap := h' }) :
    wpAny (model prog w) A (Builtin.«zip.__next__» ⟨[.ref z], []⟩) Q E s := by
  show wpAny _ _ (field (.ref z) 2 >>= _) _ _ _
  refine wpAny_bind (wpAny_field kz rfl (x := .bool false) rfl ?_)
  show wpAny _ _ (field (.ref z) 3 >>= _) _ _ _
  refine wpAny_bind (wpAny_field kz rfl (x := .ref TI) rfl ?_)
  refine wpAny_bind (wpAny_seqItems kTI rfl ?_)
  refine wpAny_bind (m := Builtin.SmallTypes.ownedTupleIsFree (.ref z)) ?_
  unfold Builtin.SmallTypes.ownedTupleIsFree
  refine wpAny_bind (wpAny_field kz rfl (x := .none) rfl (wpAny_pure ?_))
  dsimp only
  rw [if_pos rfl]
  refine wpAny_bind (wpAny_rule ?_)
  refine wpAny_bind (wpAny_field kz rfl (x := .ref TO) rfl ?_)
  refine wpAny_bind (wpAny_setField_rec kz (by simp) fun g1 kz1 b1 => ?_)
  replace kz1 : IsZip g1 z TI TO .ellipsis := kz1
  refine wpAny_bind ?_
  simp only [List.zipIdx_cons, List.zipIdx_nil, List.forIn_cons, List.forIn_nil]
  have st1a := G1.keep _ _ g1 st1 (fun o e => b1.extBut _ o D.i1z e) (fun o e => b1.extBut _ o D.l1z e)
  refine wpAny_bind (wpAny_bind (wpAny_onRaise ?_))
  refine wpAny_bind (m := Builtin.SmallTypes.nextOf (.ref i1)) (G1.done _ _ { s with heap := g1 } k _ hh st1a hx fun g2 e b2 he => ?_)
  obtain ⟨oe, hoe, hce⟩ := he
  have kz2 : IsZip g2 z TI TO .ellipsis := b2 _ _ D.i1z.symm kz1
  have ez : e ≠ z := fun y => by subst y; rw [kz2] at hoe; cases hoe; simp at hce
  refine wpAny_setField_rec kz2 (by simp) fun g3 _ b3 => hE g3 e (fun c o n1 _ n3 _ y => b3.extBut _ _ n1 (b2 _ _ n3 (b1.extBut _ _ n1 y))) ⟨oe, b3.extBut _ _ ez hoe, hce⟩
theorem gz_held_end {f : Bool} {oT : Obj} {Q : Fin → Shared → Prop} (hh : A.handled = none) (D : ZipApart z TI TO i1 i2 l1 l2) (G1 : Gives prog w i1 l1 xs S1)
    (kz : IsZipHeld s.heap z TI TO T f) (kT : s.heap.get? T = some oT) (kTI : IsPair s.heap TI (.ref i1) (.ref i2)) (st1 : S1 k s.heap) (hx : xs[k]? = none)
    (hE : ∀ h' e, (∀ c o, c ≠ z → c ≠ i1 → c ≠ i2 → s.heap.get? c = some o → h'.get? c = some o) → (∃ o, h'.get? e = some o ∧ o.cls = .type "StopIteration") → E (.ref e) { s with heap := h' }) :
    wpAny (model prog w) A (Builtin.«zip.__next__» ⟨[.ref z], []⟩) Q E s := by
  show wpAny _ _ (field (.ref z) 2 >>= _) _ _ _
  refine wpAny_bind (wpAny_field kz rfl (x := .bool false) rfl ?_)
  show wpAny _ _ (field (.ref z) 3 >>= _) _ _ _
  refine wpAny_bind (wpAny_field kz rfl (x := .ref TI) rfl ?_)
  refine wpAny_bind (wpAny_seqItems kTI rfl ?_)
  refine wpAny_bind (m := Builtin.SmallTypes.ownedTupleIsFree (.ref z)) (wpAny_tupleHeld_zip kz kT fun g1 kz1 b1 => ?_)
  dsimp only
  rw [if_neg Bool.false_ne_true]
  refine wpAny_bind ?_
  rw [← Array.forIn_toList]
  dsimp only
  rw [List.forIn_cons]
  have st1a := G1.keep _ _ g1 st1 (fun o e => b1.extBut _ o D.i1z e) (fun o e => b1.extBut _ o D.l1z e)
  refine wpAny_bind (wpAny_bind (wpAny_holding ?_))
  refine wpAny_bind (m := Builtin.SmallTypes.nextOf (.ref i1)) (G1.done _ _ { s with heap := g1 } k _ hh st1a hx fun g2 e b2 he => ?_)
  exact hE g2 e (fun c o n1 n2 _ y => b2 _ _ n2 (b1.extBut _ _ n1 y)) he
end
end Nv
set_option maxHeartbeats 4000000
namespace Nv
open PySem PySem.Spec PyProof.Rows
open PySem.Sem (wp)
section
variable {prog : Program} {w : World} {A : Around} {E : Value → Shared → Prop} {s : Shared}
variable {z TI TO T i1 i2 l1 l2 : Addr} {k : Nat} {xs ys : Array Value} {S1 S2 : Nat → Heap → Prop}
/-- the step of a zip, told of its next -/
theorem pz_next {Q : Option Value → Shared → Prop} (hT : s.TypeIs (.ref z) "zip") (h : wpAny (model prog w) A.in1 (Builtin.«zip.__next__» ⟨[.ref z], []⟩) (fun fin s' => ∃ v, fin = .done (.ret v) ∧ Q (some v) s') (fun e s' => (∃ o, ∃ a, e = .ref a ∧ s'.heap.get? a = some o ∧ o.cls = .type "StopIteration") ∧ Q none s') s) :
    wpAny (model prog w) A (pyNext (.ref z)) Q E s := by
  unfold pyNext
  refine wpAny_bind (wpAny_attempt (wpAny_callSpecial?_slot (name := Str.ofString "__next__") hT F.slot_zip_next (wpAny_call_entry F.slot_zip_next hT F.entry_zip_next (wpAny_mono h (fun fin s' hv => ?_) fun e s' he => ?_) (F.args_zip_next_1 _))))
  · obtain ⟨v, e, hq⟩ := hv
    exact ⟨v, e, wpAny_pure hq⟩
  · obtain ⟨⟨o, a, e, ho, hc⟩, hq⟩ := he
    subst e
    exact wpAny_bind (wpAny_isInstance (T := "StopIteration") (b := true) ⟨o, ho, hc⟩ isSubtype_stop (wpAny_pure hq))
/-- how it stands at turn i: its first tuple not yet told, or told and kept -/
def ZAt (z TI TO i1 i2 d : Addr) (S1 S2 : Nat → Heap → Prop) (i : Nat) (h : Heap) : Prop :=
  IsPair h TI (.ref i1) (.ref i2) ∧ S1 i h ∧ S2 i h ∧ ((IsZip h z TI TO .none ∧ ∃ a b, IsPair h TO a b) ∨ ∃ T f oT, IsZipHeld h z TI TO T f ∧ h.get? T = some oT ∧ T ≠ z ∧ T ≠ i1 ∧ T ≠ i2 ∧ T ≠ d)
theorem zip_src (hA : A.handled = none) (D : ZipApart z TI TO i1 i2 l1 l2) (G1 : Gives prog w i1 l1 xs S1) (G2 : Gives prog w i2 l2 ys S2) (hl : xs.size ≤ ys.size) {d : Addr}
    (dz : d ≠ z) (dTI : d ≠ TI) (dTO : d ≠ TO) (di1 : d ≠ i1) (di2 : d ≠ i2) (dl1 : d ≠ l1) (dl2 : d ≠ l2) :
    PairSrc prog w A z d [z, TO, i1, i2] xs.size (fun i k v => xs[i]? = some k ∧ ys[i]? = some v) (ZAt z TI TO i1 i2 d S1 S2) where
  off := fun hm => by
    simp only [List.mem_cons, List.not_mem_nil, or_false] at hm
    rcases hm with e | e | e | e
    · exact dz e
    · exact dTO e
    · exact di1 e
    · exact di2 e
  frame := fun i h h' st kk => by
    obtain ⟨kTI, st1, st2, kz⟩ := st
    refine ⟨kk _ _ dTI.symm kTI, G1.keep _ _ _ st1 (fun o e => kk _ o di1.symm e) (fun o e => kk _ o dl1.symm e), G2.keep _ _ _ st2 (fun o e => kk _ o di2.symm e) (fun o e => kk _ o dl2.symm e), ?_⟩
    rcases kz with ⟨kz, a, b, kTO⟩ | ⟨T, f, oT, kz, kT, r1, r2, r3, r4⟩
    · exact .inl ⟨kk _ _ dz.symm kz, a, b, kk _ _ dTO.symm kTO⟩
    · exact .inr ⟨T, f, oT, kk _ _ dz.symm kz, kk _ _ r4 kT, r1, r2, r3, r4⟩
  item := fun i s Q E hi st hds q => by
    obtain ⟨kTI, st1, st2, kz⟩ := st
    have ex := Array.getElem?_eq_getElem hi
    have ey := Array.getElem?_eq_getElem (xs := ys) (i := i) (by omega)
    obtain ⟨⟨o1, e1⟩, _⟩ := G1.there _ _ st1
    obtain ⟨⟨o2, e2⟩, _⟩ := G2.there _ _ st2
    have n1 : s.heap.objs.size ≠ i1 := Nat.ne_of_gt (Heap.lt_size e1)
    have n2 : s.heap.objs.size ≠ i2 := Nat.ne_of_gt (Heap.lt_size e2)
    rcases kz with ⟨kz, a, b, kTO⟩ | ⟨T, f, oT, kz, kT, r1, r2, r3, r4⟩
    · refine pz_next ⟨_, kz, rfl⟩ (gz_item (Q := fun v s' => Q (some v) s') D G1 G2 kz kTI kTO st1 st2 ex ey fun h' a1 a2 a3 a4 a5 a6 kk => ?_)
      exact q s.heap.objs.size _ _ h' s.toks ⟨ex, ey⟩ (.inl ⟨_, a5, rfl, _, rfl⟩) ⟨kk _ _ D.TIz D.TITO D.TIi1 D.TIi2 kTI, a3, a4, .inr ⟨s.heap.objs.size, false, _, a1, a5, Nat.ne_of_gt (Heap.lt_size kz), n1, n2, Nat.ne_of_gt hds⟩⟩
        fun c o hc e => kk c o (fun y => hc (by simp [y])) (fun y => hc (by simp [y])) (fun y => hc (by simp [y])) (fun y => hc (by simp [y])) e
    · refine pz_next ⟨_, kz, rfl⟩ (gz_held (Q := fun v s' => Q (some v) s') D G1 G2 kz kT kTI st1 st2 ex ey fun h' a1 a3 a4 a5 a6 kk => ?_)
      exact q s.heap.objs.size _ _ h' s.toks ⟨ex, ey⟩ (.inl ⟨_, a5, rfl, _, rfl⟩) ⟨kk _ _ D.TIz D.TIi1 D.TIi2 kTI, a3, a4, .inr ⟨T, true, oT, a1, kk _ _ r1 r2 r3 kT, r1, r2, r3, r4⟩⟩
        fun c o hc e => kk c o (fun y => hc (by simp [y])) (fun y => hc (by simp [y])) (fun y => hc (by simp [y])) e
  done := fun s Q E st q => by
    obtain ⟨kTI, st1, st2, kz⟩ := st
    have ex : xs[xs.size]? = none := Array.getElem?_eq_none (Nat.le_refl _)
    rcases kz with ⟨kz, a, b, kTO⟩ | ⟨T, f, oT, kz, kT, r1, r2, r3, r4⟩
    · refine pz_next ⟨_, kz, rfl⟩ (gz_end hA D G1 kz kTI kTO st1 ex fun h' e kk ⟨o, ho, hc⟩ => ⟨⟨o, e, rfl, ho, hc⟩, q h' s.toks fun c o hc e => kk c o (fun y => hc (by simp [y])) (fun y => hc (by simp [y])) (fun y => hc (by simp [y])) (fun y => hc (by simp [y])) e⟩)
    · refine pz_next ⟨_, kz, rfl⟩ (gz_held_end hA D G1 kz kT kTI st1 ex fun h' e kk ⟨o, ho, hc⟩ => ⟨⟨o, e, rfl, ho, hc⟩, q h' s.toks fun c o hc e => kk c o (fun y => hc (by simp [y])) (fun y => hc (by simp [y])) (fun y => hc (by simp [y])) e⟩)
theorem zip_arg (D : ZipApart z TI TO i1 i2 l1 l2) (G1 : Gives prog w i1 l1 xs S1) (G2 : Gives prog w i2 l2 ys S2) (hl : xs.size ≤ ys.size) :
    PairArg prog w "zip" z [z, TI, TO, i1, i2, l1, l2] [z, TO, i1, i2] xs.size (fun i k v => xs[i]? = some k ∧ ys[i]? = some v)
      (fun h => IsZip h z TI TO .none ∧ IsPair h TI (.ref i1) (.ref i2) ∧ (∃ a b, IsPair h TO a b) ∧ S1 0 h ∧ S2 0 h) where
  type := fun s ok => ⟨_, ok.1, rfl⟩
  notDict := by decide
  keep := fun h h' ok kk => by
    obtain ⟨kz, kTI, ⟨a, b, kTO⟩, st1, st2⟩ := ok
    exact ⟨kk _ _ kz, kk _ _ kTI, ⟨a, b, kk _ _ kTO⟩, G1.keep _ _ _ st1 (fun o e => kk _ o e) (fun o e => kk _ o e), G2.keep _ _ _ st2 (fun o e => kk _ o e) fun o e => kk _ o e⟩
  there := fun h ok c hc => by
    obtain ⟨kz, kTI, ⟨a, b, kTO⟩, st1, st2⟩ := ok
    obtain ⟨e1, e2⟩ := G1.there _ _ st1
    obtain ⟨e3, e4⟩ := G2.there _ _ st2
    simp only [List.mem_cons, List.not_mem_nil, or_false] at hc
    rcases hc with rfl | rfl | rfl | rfl | rfl | rfl | rfl
    · exact ⟨_, kz⟩
    · exact ⟨_, kTI⟩
    · exact ⟨_, kTO⟩
    · exact e1
    · exact e3
    · exact e2
    · exact e4
  sub := fun c hc => by
    simp only [List.mem_cons, List.not_mem_nil, or_false] at hc ⊢
    rcases hc with rfl | rfl | rfl | rfl <;> simp
  noKeys := fun A s Q E hA ok h => getAttrOr_miss_zip ok.1 rfl rfl rfl zip_no_keys (by decide +kernel) hA h
  iter := fun A s d Q E hA ok hd hdf h => by
    obtain ⟨kz, kTI, ⟨a, b, kTO⟩, st1, st2⟩ := ok
    simp only [List.mem_cons, List.not_mem_nil, or_false, not_or] at hdf
    obtain ⟨dz, dTI, dTO, di1, di2, dl1, dl2⟩ := hdf
    exact wpAny_pyIter_zip kz (h z [z, TO, i1, i2] (ZAt z TI TO i1 i2 d S1 S2) s.heap s.toks (zip_src hA D G1 G2 hl dz dTI dTO di1 di2 dl1 dl2) ⟨kTI, st1, st2, .inl ⟨kz, a, b, kTO⟩⟩ (fun _ _ e => e) fun c hc => .inl hc)
end
end Nv
set_option maxHeartbeats 4000000
namespace Nv
open PySem PySem.Spec PyProof.Rows L2
/-! # dict(zip(ks, zs)): a list of texts and a tuple of texts -/
abbrev zl1 (h : Heap) (l1 : Addr) : Heap := h.push { cls := .type "list_iterator", data := .fields #[.ref l1, .int 0 0] }
abbrev zl2 (h : Heap) (l1 l2 : Addr) : Heap := (zl1 h l1).push { cls := .type "tuple_iterator", data := .fields #[.ref l2, .int 0 0] }
abbrev zl3 (h : Heap) (l1 l2 : Addr) : Heap := (zl2 h l1 l2).push { cls := .type "tuple", data := .seq #[.ref h.objs.size, .ref (zl1 h l1).objs.size] }
abbrev zl4 (h : Heap) (l1 l2 : Addr) : Heap := (zl3 h l1 l2).push { cls := .type "tuple", data := .seq #[.none, .none] }
abbrev zl5 (h : Heap) (l1 l2 : Addr) : Heap := (zl4 h l1 l2).push { cls := .type "zip", data := .fields #[.none, .bool false, .bool false, .ref (zl2 h l1 l2).objs.size, .ref (zl3 h l1 l2).objs.size] }
theorem meets_zipLT (l1 l2 : Addr) (xs ys : Array Value) : Meets (Builtin.«zip.__new__» ⟨[.type "zip", .ref l1, .ref l2], []⟩) (fun _ R s => s.heap.IsList l1 xs ∧ s.heap.IsTuple l2 ys ∧
      R (.ok (.ret (.ref (zl4 s.heap l1 l2).objs.size))) { s with heap := zl5 s.heap l1 l2 }) :=
  .of_wp fun prog w A R s h => by
    obtain ⟨hp, g, d, tk, os⟩ := s
    obtain ⟨k1, k2, h⟩ := h
    have hsub := sub_zip
    have kL1 : Heap.IsList (Shared.heap ⟨hp, g, d, tk, os⟩) l1 xs := k1
    have kL2 : Heap.IsTuple (Shared.heap ⟨hp.push { cls := .type "list_iterator", data := .fields #[.ref l1, .int 0 0] }, g, d, tk, os⟩) l2 ys := Heap.IsTuple.push k2 _
    wp_walk using wpAny_pyIter_list kL1, wpAny_pyIter_tuple kL2
    exact ⟨_, rfl, h⟩
section
variable {prog : Program} {w : World} {A : Around} {E : Value → Shared → Prop} {s : Shared}
theorem call_zipLT {l1 l2 : Addr} {xs ys : Array Value} {Q : Value → Shared → Prop} (k1 : s.heap.IsList l1 xs) (k2 : s.heap.IsTuple l2 ys)
    (q : ∀ h', IsZip h' (s.heap.objs.size + 4) (s.heap.objs.size + 2) (s.heap.objs.size + 3) .none → IsPair h' (s.heap.objs.size + 2) (.ref s.heap.objs.size) (.ref (s.heap.objs.size + 1)) →
      IsPair h' (s.heap.objs.size + 3) .none .none → h'.IsListIter s.heap.objs.size l1 0 → h'.IsTupleIter (s.heap.objs.size + 1) l2 0 → h'.objs.size = s.heap.objs.size + 5 →
      (∀ c o, s.heap.get? c = some o → h'.get? c = some o) → Q (.ref (s.heap.objs.size + 4)) { s with heap := h' }) :
    wpAny (model prog w) A (call (.type "zip") [.ref l1, .ref l2]) Q E s := by
  refine callType_new F.called_zip (by decide) (F.typeCall_zip_2 _ _) (F.newCall_zip_2 _ _) (fun obj => F.args_object_init_3 obj _ _) F.entry_zip_new (meets_zipLT l1 l2 xs ys) ⟨k1, k2, ?_⟩
  have z1 : (zl1 s.heap l1).objs.size = s.heap.objs.size + 1 := Heap.size_push ..
  have z2 : (zl2 s.heap l1 l2).objs.size = s.heap.objs.size + 2 := by rw [Heap.size_push, z1]
  have z3 : (zl3 s.heap l1 l2).objs.size = s.heap.objs.size + 3 := by rw [Heap.size_push, z2]
  have z4 : (zl4 s.heap l1 l2).objs.size = s.heap.objs.size + 4 := by rw [Heap.size_push, z3]
  have z5 : (zl5 s.heap l1 l2).objs.size = s.heap.objs.size + 5 := by rw [Heap.size_push, z4]
  have g5 : (zl5 s.heap l1 l2).get? (zl4 s.heap l1 l2).objs.size = some _ := Heap.get?_push_size _ rfl
  have g4 : (zl5 s.heap l1 l2).get? (zl3 s.heap l1 l2).objs.size = some _ := Heap.get?_push_of_some _ (Heap.get?_push_size _ rfl)
  have g3 : (zl5 s.heap l1 l2).get? (zl2 s.heap l1 l2).objs.size = some _ := Heap.get?_push_of_some _ (Heap.get?_push_of_some _ (Heap.get?_push_size _ rfl))
  have g2 : (zl5 s.heap l1 l2).get? (zl1 s.heap l1).objs.size = some _ := Heap.get?_push_of_some _ (Heap.get?_push_of_some _ (Heap.get?_push_of_some _ (Heap.get?_push_size _ rfl)))
  have g1 : (zl5 s.heap l1 l2).get? s.heap.objs.size = some _ := Heap.get?_push_of_some _ (Heap.get?_push_of_some _ (Heap.get?_push_of_some _ (Heap.get?_push_of_some _ (Heap.get?_push_size _ rfl))))
  have up : ∀ c o, s.heap.get? c = some o → (zl5 s.heap l1 l2).get? c = some o := fun c o e => Heap.get?_push_of_some _ (Heap.get?_push_of_some _ (Heap.get?_push_of_some _ (Heap.get?_push_of_some _ (Heap.get?_push_of_some _ e))))
  generalize hz : zl5 s.heap l1 l2 = hh at *
  show _ ∧ _
  rw [z2, z3, z4] at g5
  rw [z1, z2] at g3
  rw [z3] at g4
  rw [z1] at g2
  rw [z4]
  exact ⟨⟨_, g5, rfl⟩, q hh g5 g3 g4 ⟨_, g1, rfl, rfl⟩ ⟨_, g2, rfl, rfl⟩ z5 up⟩
end
end Nv
set_option maxHeartbeats 4000000
namespace Nv
open PySem PySem.Spec PyProof.Rows L2
/-- the pairs, as keys and values -/
def zipK (ks zs : List Str) : List (L2.Key × V) := (ks.zip zs).map fun y => (.inr y.1, .str y.2)
/-- what the dict of the pairs gives a text: its partner, else itself -/
def subZ (ks zs : List Str) (z : Str) : Str := match valV (mergeK [] (zipK ks zs)) (.inr z) with
  | some (.str y) => y
  | _ => z
def StrV (kvs : List (L2.Key × V)) : Prop := ∀ kv ∈ kvs, ∃ y, kv.2 = V.str y
theorem strv_put {kvs : List (L2.Key × V)} {k : L2.Key} {y : Str} (h : StrV kvs) : StrV (putK kvs k (.str y)) := fun kv hk => by
  unfold putK at hk
  split at hk
  · obtain ⟨z, hz, rfl⟩ := List.mem_map.mp hk
    split
    · exact ⟨y, rfl⟩
    · exact h z hz
  · rcases List.mem_append.mp hk with hk | hk
    · exact h kv hk
    · rw [List.mem_singleton.mp hk]
      exact ⟨y, rfl⟩
theorem strv_merge : ∀ (ys : List (Str × Str)) {acc : List (L2.Key × V)}, StrV acc → StrV (mergeK acc (ys.map fun y => (.inr y.1, .str y.2)))
  | [], _, h => h
  | y :: ys, acc, h => strv_merge ys (strv_put (k := .inr y.1) (y := y.2) h)
theorem sub_at {H : Hp} {b : Addr} {ks zs : List Str} (e : H b = some (.dK (mergeK [] (zipK ks zs)))) : SubAt H b (subZ ks zs) := ⟨_, e, fun z => by
  have st := strv_merge (ks.zip zs) (acc := []) (fun _ h => nomatch h)
  unfold subZ
  have e2 : mergeK [] (zipK ks zs) = mergeK [] ((ks.zip zs).map fun y => (Sum.inr y.1, V.str y.2)) := rfl
  rw [← e2] at st
  cases g : valV (mergeK [] (zipK ks zs)) (.inr z) with
  | none => rfl
  | some v =>
    have g2 := g
    unfold valV at g2
    obtain ⟨kv, h1, h2⟩ := Option.map_eq_some_iff.mp g2
    obtain ⟨y, hy⟩ := st kv (List.mem_of_find?_eq_some h1)
    rw [← h2, hy] <;> rfl⟩
theorem kv_zip : ∀ {ks zs : List Str} {us : List Value}, Vals (zs.map V.str) us → KV (zipK ks zs) ((ks.zip us).map fun y => ((Sum.inr y.1 : L2.Key), y.2))
  | [], _, _, _ => .nil
  | _ :: _, [], _, .nil => .nil
  | k :: ks, z :: zs, _, .cons r t => .cons ⟨rfl, r⟩ (kv_zip (ks := ks) t)
section
variable {X : Cx}
def rDictZip (K : PySem.W.Frag) : List V → Hp → VK → Prop := fun vs H Q => ∃ (a b : Addr) (ks zs : List Str), vs = [.ref a, .ref b] ∧ SqL K H a (ks.map V.str) ∧ SqT K H b (zs.map V.str) ∧ ks.length ≤ zs.length ∧ ∀ p, H p = none → Q (.ref p) (upd H p (.dK (mergeK [] (zipK ks zs))))
theorem pe_dictZip {e e2 : Expr} {ta : TA} {p p2 pos pos2 : Pos} (hc : X.calm = true) (hg : Gl X "dict") (hm : X.mg "dict" = none) (hg2 : Gl X "zip") (hm2 : X.mg "zip" = none) (ha : PA X [e, e2] ta)
    (hs : starEach [e, e2] X.env = (false, eval e X.env) :: starEach [e2] X.env := by rfl) (hpl : (backTo pos2 (starEach [e2] X.env)).any (·.1) = false := by rfl)
    (na : starEach [.Call (.Name "zip" p2) [e, e2] [] pos2] X.env = (false, eval (.Call (.Name "zip" p2) [e, e2] [] pos2) X.env) :: starEach [] X.env := by rfl) :
    PE X (.Call (.Name "dict" p) [.Call (.Name "zip" p2) [e, e2] [] pos2] [] pos) (tCB (rDictZip X.K) ta) := by
  refine ⟨fun pins s σ H Q I h => ?_⟩
  refine Call_ (ld_blt I hg hm PyProof.Rows.boot_dict (PyProof.Rows.callWith_type1 (args_cons ?_ na) na))
  refine Call_ (ld_blt I hg2 hm2 PyProof.Rows.boot_zip (PyProof.Rows.callWith_type1 (thn (ha.run pos2 pins s σ H _ I h) fun us s1 ⟨vs, H1, I1, r1, q1⟩ => ?_) hs hpl))
  obtain ⟨a, b, ks, zs, ex, qa, qb, hl, q⟩ := q1
  subst ex
  obtain ⟨u1, u2, rfl, ra, rb⟩ := vals2 r1
  cases ra
  cases rb
  obtain ⟨its, rv, pl, hz⟩ := I1.list qa
  obtain ⟨its2, rv2, pt, _⟩ := I1.tuple qb
  obtain ⟨ot, hot, _⟩ := id pt
  have l1 := rv.length
  have l2 := rv2.length
  rw [List.length_map] at l1 l2 hz
  refine call_zipLT pl.isList (show s1.heap.IsTuple b its2.toArray from pt) fun h' hz' hTI hTO h1 h2 hsz hk => args_nil ?_
  have D := PySem.W.ktu_apart s1.heap.objs.size a b pl.lt (Heap.lt_size hot)
  have PAr := zip_arg (prog := X.prog) (w := X.w) D (gives_list _ a its.toArray) (gives_tup _ b its2.toArray) (by simp only [List.size_toArray]; omega)
  have itk : ∀ (i : Nat) (key : Value), its[i]? = some key → ∃ k, ks[i]? = some k ∧ RelV (.str k) key := fun i key hi => by
    have il : i < ks.length := by
      have := (List.getElem?_eq_some_iff.mp hi).1
      omega
    obtain ⟨u, hu, ru⟩ := rv.get (show (ks.map V.str)[i]? = some (.str ks[i]) by rw [List.getElem?_map, List.getElem?_eq_getElem il] <;> rfl)
    rw [hi] at hu
    cases hu
    exact ⟨ks[i], List.getElem?_eq_getElem il, ru⟩
  refine _root_.PySem.call_dict_pairs (knd := mixKind X.prog X.w) (kvs := (ks.zip its2).map fun y => ((Sum.inr y.1 : L2.Key), y.2)) PAr (I1.ok.hd hc)
    ⟨hz', hTI, ⟨_, _, hTO⟩, ⟨h1, pl.isList.at fun o e => hk _ o e⟩, ⟨h2, (show s1.heap.IsTuple b its2.toArray from pt).at fun o e => hk _ o e⟩⟩ ⟨?_, fun i key v hr => ?_⟩ ?_ fun h'' tk hd hk2 => ?_
  · rw [List.length_map, List.length_zip, List.size_toArray]
    omega
  · obtain ⟨r1, r2⟩ := hr
    obtain ⟨k, hk1, hk2⟩ := itk i key (by simpa using r1)
    refine ⟨.inr k, ?_, kV_is (P := X.prog) (w := X.w) (k := .inr k) hk2⟩
    have e0 : (ks.zip its2)[i]? = some (k, v) := List.getElem?_zip_eq_some.mpr ⟨hk1, by simpa using r2⟩
    rw [List.getElem?_map, e0] <;> rfl
  · rw [List.size_toArray]
    omega
  · have hle : s1.heap.objs.size ≤ h'.objs.size := by omega
    have hm' : (h'.objs.size == sysModules) = false := beq_eq_false_iff_ne.mpr (Nat.ne_of_gt (Nat.lt_of_lt_of_le I1.big hle))
    have hlen : (mergeK [] (zipK ks zs)).length ≤ sizeLine := by
      refine Nat.le_trans (length_mergeK _ []) ?_
      unfold zipK
      rw [List.length_nil, Nat.zero_add, List.length_map, List.length_zip]
      omega
    refine ⟨.ref h'.objs.size, upd H1 h'.objs.size (.dK (mergeK [] (zipK ks zs))), I1.laid (t' := tk) (fun c o e => ?_) hle (show ObjOk X.prog X.w _ _ _ (.dK (mergeK [] (zipK ks zs))) from ⟨hlen, hm', merged [] _, KV.merge (kv_zip rv2) .nil, hd⟩), rfl, q _ (I1.hok.fresh hle)⟩
    refine hk2 c o (fun hm3 => ?_) (hk _ _ e)
    have := Heap.lt_size e
    simp only [List.mem_cons, List.not_mem_nil, or_false] at hm3
    rcases hm3 with z | z | z | z
    · exact Nat.not_lt_of_le (Nat.le_add_right _ 4) (z ▸ this)
    · exact Nat.not_lt_of_le (Nat.le_add_right _ 3) (z ▸ this)
    · exact Nat.lt_irrefl _ (z ▸ this)
    · exact Nat.not_lt_of_le (Nat.le_add_right _ 1) (z ▸ this)
end
end Nv
set_option maxHeartbeats 4000000
namespace Nv
open PySem PySem.Spec PyProof.Rows L2
/-! # the terms of a plan are the names and the variables; what stands in rows -/
theorem news_get {ts pat : List Str} : (newsIn ts pat (colsOf pat)).map (fun c => pat.getD c "") = (pat.drop 1).filter fun x => !decide (x ∈ ts) := by
  unfold newsIn
  rw [← cols_get, List.filter_map] <;> rfl
theorem fold_vst : ∀ (tl acc : List Str), tl.Nodup → tl.foldl vst acc = acc ++ tl.filter fun x => decide (IsVr x) && !decide (x ∈ acc)
  | [], acc, _ => by simp
  | x :: tl, acc, h => by
    rw [List.nodup_cons] at h
    rw [List.foldl_cons, fold_vst tl _ h.2]
    have go : ∀ acc' : List Str, (∀ y ∈ tl, (y ∈ acc' ↔ y ∈ acc)) → (tl.filter fun x => decide (IsVr x) && !decide (x ∈ acc')) = tl.filter fun x => decide (IsVr x) && !decide (x ∈ acc) := fun acc' k =>
      List.filter_congr fun y hy => by rw [decide_eq_decide.mpr (k y hy)]
    unfold vst
    by_cases c : IsVr x ∧ x ∉ acc
    · rw [if_pos c, List.filter_cons_of_pos (by rw [decide_eq_true c.1, decide_eq_false c.2] <;> rfl), go]
      · rw [List.append_assoc] <;> rfl
      · intro y hy
        rw [List.mem_append, List.mem_singleton]
        exact ⟨fun z => z.elim id fun e => absurd (e ▸ hy) h.1, .inl⟩
    · rw [if_neg c, List.filter_cons_of_neg (fun z => c (by
        rw [Bool.and_eq_true, Bool.not_eq_true'] at z
        exact ⟨of_decide_eq_true z.1, of_decide_eq_false z.2⟩))]
theorem step_eq {zs acc p : List Str} (nd : (p.drop 1).Nodup) (hz : ∀ x ∈ p.drop 1, (IsVr x ∧ x ∉ zs) ∨ (¬ IsVr x ∧ x ∈ zs)) : stepTerms (zs ++ acc) p = zs ++ (p.drop 1).foldl vst acc := by
  unfold stepTerms termsIn
  rw [news_get, fold_vst _ _ nd, List.append_assoc]
  congr 2
  refine List.filter_congr fun x hx => ?_
  rcases hz x hx with ⟨v, n⟩ | ⟨v, n⟩
  · rw [decide_eq_true v, Bool.true_and]
    congr 1
    exact decide_eq_decide.mpr (by rw [List.mem_append]; exact ⟨fun z => z.elim (fun y => absurd y n) id, .inr⟩)
  · rw [decide_eq_false v, Bool.false_and, decide_eq_true (List.mem_append.mpr (.inl n))] <;> rfl
theorem planT_eq : ∀ {pats : List (List Str)} {zs acc : List Str}, (∀ p ∈ pats, (p.drop 1).Nodup) → (∀ p ∈ pats, ∀ x ∈ p.drop 1, (IsVr x ∧ x ∉ zs) ∨ (¬ IsVr x ∧ x ∈ zs)) → planT (zs ++ acc) pats = zs ++ (tails pats).foldl vst acc
  | [], zs, acc, _, _ => rfl
  | p :: pats, zs, acc, nd, hz => by
    have e : tails (p :: pats) = p.drop 1 ++ tails pats := by
      unfold tails
      rw [List.map_cons, List.flatten_cons, List.drop_one]
    rw [e, List.foldl_append]
    show planT (stepTerms (zs ++ acc) p) pats = _
    rw [step_eq (nd p List.mem_cons_self) (hz p List.mem_cons_self)]
    exact planT_eq (fun q hq => nd q (List.mem_cons_of_mem _ hq)) fun q hq => hz q (List.mem_cons_of_mem _ hq)
theorem names_terms {pats : List (List Str)} {more zs : List Str} (ok : ∀ p ∈ pats, PatOk p) (h : NamesOf (tails pats ++ more) zs) : ∀ p ∈ pats, ∀ x ∈ p.drop 1, (IsVr x ∧ x ∉ zs) ∨ (¬ IsVr x ∧ x ∈ zs) := fun p hp x hx => by
  obtain ⟨w, ts, rfl, _, _, ht⟩ := ok p hp
  rcases ht x hx with v | n
  · exact .inl ⟨v, fun m => nm_not_vr ((h.mem x).mp m).2 v⟩
  · exact .inr ⟨nm_not_vr n, (h.mem x).mpr ⟨List.mem_append.mpr (.inl (by
      unfold tails
      exact List.mem_flatten.mpr ⟨ts, List.mem_map.mpr ⟨_, hp, rfl⟩, hx⟩)), n⟩⟩
theorem plan_vars {pats : List (List Str)} {more zs : List Str} (ok : ∀ p ∈ pats, PatOk p) (nt : ∀ p ∈ pats, (p.drop 1).Nodup) (h : NamesOf (tails pats ++ more) zs) : planT zs pats = zs ++ varsIn (tails pats) := by
  have := planT_eq (acc := []) nt (names_terms ok h)
  rw [List.append_nil] at this
  exact this
theorem metF_len {pats prs ps : List (List Str)} {more zs : List Str} (ok : ∀ p ∈ pats, PatOk p) (nt : ∀ p ∈ pats, (p.drop 1).Nodup) (h : NamesOf (tails pats ++ more) zs) : ∀ x ∈ metF zs pats prs ps, x.length = (varsIn (tails pats)).length := fun x hx => by
  rw [metF_wide x hx, plan_vars ok nt h, List.length_append]
  omega
/-- rows of which every text is P -/
def RowP (P : Str → Prop) (rws : List (List Str)) : Prop := ∀ r ∈ rws, ∀ z ∈ r, P z
theorem onw_P {P : Str → Prop} {pat ts : List Str} {prs rws facts : List (List Str)} (h0 : P "") (h : RowP P rws) (hf : RowP P facts) : RowP P (onw pat ts prs rws facts) := fun r hr z hz => by
  unfold onw at hr
  obtain ⟨row, hr1, hp2⟩ := List.mem_flatMap.mp (keepA_sub _ hr)
  obtain ⟨p, hp, rfl⟩ := List.mem_map.mp hp2
  rcases List.mem_append.mp hz with hz | hz
  · exact h row hr1 z hz
  · unfold selT at hz
    obtain ⟨c, _, rfl⟩ := List.mem_map.mp hz
    rw [List.getD_eq_getElem?_getD]
    cases g : p[c]? with
    | none => exact h0
    | some y => exact hf p (List.mem_filter.mp hp).1 y (List.mem_of_getElem? g)
theorem fold_P {P : Str → Prop} {prs : List (List Str)} (h0 : P "") : ∀ (Z : List ((List Str × List Str) × List (List Str))) (r : List (List Str)), RowP P r → (∀ z ∈ Z, RowP P z.2) → RowP P (Z.foldl (stepR prs) r)
  | [], r, h, _ => h
  | z :: Z, r, h, hz => fold_P h0 Z _ (onw_P h0 h fun p hp => hz z List.mem_cons_self p (List.mem_filter.mp hp).1) fun y hy => hz y (List.mem_cons_of_mem _ hy)
theorem metF_P {P : Str → Prop} {zs : List Str} {pats prs ps : List (List Str)} (h0 : P "") (hz : ∀ z ∈ zs, P z) (hf : RowP P ps) : RowP P (metF zs pats prs ps) := fun r hr z hzr => by
  unfold metF at hr
  obtain ⟨row, hrow, rfl⟩ := List.mem_map.mp hr
  unfold rowsF at hrow
  refine fold_P h0 _ _ (fun y hy => ?_) (fun y hy => ?_) row hrow z (List.mem_of_mem_drop hzr)
  · rw [List.mem_singleton.mp (keepA_sub _ hy)]
    exact hz
  · rw [(List.mem_replicate.mp (List.of_mem_zip hy).2).2]
    exact hf
theorem strp_put {P : Str → Prop} {kvs : List (L2.Key × V)} {k : L2.Key} {y : Str} (h : ∀ kv ∈ kvs, ∃ y, kv.2 = V.str y ∧ P y) (hy : P y) : ∀ kv ∈ putK kvs k (.str y), ∃ y, kv.2 = V.str y ∧ P y := fun kv hk => by
  unfold putK at hk
  split at hk
  · obtain ⟨z, hz, rfl⟩ := List.mem_map.mp hk
    split
    · exact ⟨y, rfl, hy⟩
    · exact h z hz
  · rcases List.mem_append.mp hk with hk | hk
    · exact h kv hk
    · rw [List.mem_singleton.mp hk]
      exact ⟨y, rfl, hy⟩
theorem strp_merge {P : Str → Prop} : ∀ (ys : List (Str × Str)) {acc : List (L2.Key × V)}, (∀ kv ∈ acc, ∃ y, kv.2 = V.str y ∧ P y) → (∀ y ∈ ys, P y.2) → ∀ kv ∈ mergeK acc (ys.map fun y => (.inr y.1, .str y.2)), ∃ y, kv.2 = V.str y ∧ P y
  | [], _, h, _ => h
  | y :: ys, acc, h, hy => strp_merge ys (strp_put (k := .inr y.1) (y := y.2) h (hy y List.mem_cons_self)) fun x hx => hy x (List.mem_cons_of_mem _ hx)
theorem subZ_P {P : Str → Prop} {ks zs : List Str} {z : Str} (h : ∀ y ∈ zs, P y) (hz : P z) : P (subZ ks zs z) := by
  have st := strp_merge (P := P) (ks.zip zs) (acc := []) (fun _ h => nomatch h) fun y hy => h y.2 (List.of_mem_zip hy).2
  have e2 : mergeK [] (zipK ks zs) = mergeK [] ((ks.zip zs).map fun y => (Sum.inr y.1, V.str y.2)) := rfl
  rw [← e2] at st
  unfold subZ
  cases g : valV (mergeK [] (zipK ks zs)) (.inr z) with
  | none => exact hz
  | some v =>
    have g2 := g
    unfold valV at g2
    obtain ⟨kv, h1, h2⟩ := Option.map_eq_some_iff.mp g2
    obtain ⟨y, hy, py⟩ := st kv (List.mem_of_find?_eq_some h1)
    rw [← h2, hy]
    exact py
end Nv
set_option maxHeartbeats 4000000
namespace Nv
open PySem PySem.Spec PyProof.Rows L2
/-! # matches_with -/
/-- at the match m of the patterns the fact x stands -/
def standsB (pats : List (List Str)) (x m : List Str) : Bool := (pats.map (fillT (subZ (varsIn (tails pats)) m))).any fun p => PyData.eqv (dT p) (dT x)
theorem FactOk.asc {p : List Str} (h : FactOk p) : ∀ z ∈ p, Asc z := fun z hz => (h.2 z hz).asc
theorem asc_empty : Asc "" := fun c hc => by cases hc
section
variable {P : Program} {w : World} {K : PySem.W.Frag} {mg : Str → Option Value} {base : Heap}
def spMatchesWith (CQ : Addr) : Sp := fun vs H Q _ => ∃ (r b t : Addr) (x : Ql) (us : List V) (ps : List (List Str)) (m : Nat) (fc : List Str), vs = [.ref r, .ref b, .ref t] ∧ (QA CQ H r x ∧ x.Ok ∧ x.ps.length ≤ 10 ∧ x.qs.length ≤ 10 ∧ Mat x.ps ∧ ∀ p ∈ x.ps, 2 ≤ p.length) ∧ StoreAt H b us ps ∧ (ps.length ≤ m ∧ 1 ≤ m ∧ m ≤ 1000 ∧ m ^ x.ps.length ≤ 100000) ∧
  (H t = some (.tup (fc.map V.str)) ∧ FactOk fc) ∧
  ∀ (p : Addr) (H' : Hp) (us' : List V) (zs : List Str), Same H H' → H' p = some (.lst us') → PaL H' us' ((sortT (metF zs x.ps x.qs ps)).filter (standsB x.ps fc)) → NamesOf (tails x.ps ++ x.qs.flatten) zs → Q (.ref p) H'
abbrev nMw : List Str := ["question", "store", "fact", "told", "terms", "match"]
theorem scMatchesWith : FnScope nMw ["question", "store", "fact"] (defScope sMatchesWith) := ⟨rfl, rfl, rfl, by decide +kernel, rfl, by decide +kernel, by decide +kernel⟩
theorem ok_matchesWith {f CQ : Addr} {fd : FuncData} (F : Fun K "matches_with" "matches_with" sMatchesWith f fd) (md : mg "dict" = none) (mz : mg "zip" = none) (R : QC K CQ) (T : PropL P w K mg base CQ "told" "_told")
    (GN : CallA P w K mg base "need_question" 1 ["value"] (spNeedQ CQ)) (GS : CallA P w K mg base "need_store" 5 ["value"] (spNeedStore K)) (GF : CallA P w K mg base "need_fact" 4 ["value"] (spNeedFact K))
    (GV : CallA P w K mg base "variables_of" 3 ["patterns"] (spVarsOf K)) (GM : CallA P w K mg base "matches" 7 ["question", "store"] (spMatches CQ)) (GT : CallA P w K mg base "_stands" 2 ["fact", "told", "binding"] (spStands K)) :
    FnOk P w K mg base CX0 8 f fd ["question", "store", "fact"] (spMatchesWith CQ) := by
  obtain ⟨pt, gt, dt, PO, PF, PB⟩ := T.ex
  obtain ⟨fN, dN, GN, kN, gN, bN⟩ := GN.ex
  obtain ⟨fS, dS, GS, kS, gS, bS⟩ := GS.ex
  obtain ⟨fF, dF, GF, kF, gF, bF⟩ := GF.ex
  obtain ⟨fV, dV, GV, kV, gV, bV⟩ := GV.ex
  obtain ⟨fM, dM, GM, kM, gM, bM⟩ := GM.ex
  obtain ⟨fT, dT', GT, kT, gT, bT⟩ := GT.ex
  refine F.ok scMatchesWith (fun vs H Q E h => ?_) (fun cdv A outer s H vs Q E hr h => ?_)
  · obtain ⟨r, b, t, x, us, ps, m, fc, rfl, _⟩ := h
    rfl
  · obtain ⟨r, b, t, x, us, ps, m, fc, rfl, ⟨hq, ok, hl1, hl2, mat, two⟩, st, hm, ⟨et, hfc⟩, q⟩ := h
    have hr1 : Room 1 _ := hr.mono (by decide)
    have hr2 : Room 2 _ := hr.mono (by decide)
    have hr3 : Room 3 _ := hr.mono (by decide)
    have hr4 : Room 4 _ := hr.mono (by decide)
    have hr5 : Room 5 _ := hr.mono (by decide)
    have hr7 : Room 7 _ := hr.mono (by decide)
    refine ⟨_, pss_cons (ps_expr (by exact (pe_call GN hr1 (by rfl) gN kN bN .nil pass0 (pa_cons (pv 0) pa_nil))))
      (pss_cons (ps_expr (by exact (pe_call GS hr5 (by rfl) gS kS bS .nil pass0 (pa_cons (pv 1) pa_nil))))
      (pss_cons (ps_expr (by exact (pe_call GF hr4 (by rfl) gF kF bF .nil pass0 (pa_cons (pv 2) pa_nil))))
      (pss_cons (ps_set (i := 3) scMatchesWith.nd rfl (Or.inr rfl) (pe_prop (pv 0) R.cl PO PF hr2 PB .nil pass0 rfl))
      (pss_cons (ps_set (i := 4) scMatchesWith.nd rfl (Or.inr rfl) (by exact (pe_call GV hr3 (by rfl) gV kV bV .nil pass0 (pa_cons (pv 3) pa_nil))))
      (pss_one (ps_ret (by exact (pe_lc (own := [("match", 5)]) (g := gName 5) (tt := tB (tCall (spStands K) [] E0 (tCons (tVar 2) (tCons (tVar 3) (tCons (tCB (rDictZip K) (tCons (tVar 4) (tCons (tVar 5) tNil))) tNil))))) (te := tVar 5) rfl scMatchesWith.nd
        (pi_list (by exact (pe_call GM hr7 (by rfl) gM kM bM .nil pass0 (pa_cons (pv 0) (pa_cons (pv 1) pa_nil)))))
        (blkOk_by (own := [("match", 5)]) (N := nMw) (sc := defScope sMatchesWith) (by decide +kernel))
        (fun _ _ _ _ _ => pg_name (i := 5) scMatchesWith.nd rfl (Or.inl rfl))
        (fun _ _ _ _ _ => pts_one (by exact (pt_val (by exact (pe_call GT hr2 (by rfl) gT kT bT .nil pass0 (pa_cons (pv 2) (pa_cons (pv 3) (pa_cons (by exact (pe_dictZip rfl (by rfl) md (by rfl) mz (pa_cons (pv 4) (pa_cons (pv 5) pa_nil)))) pa_nil))))))))
        (fun _ _ _ _ _ => by exact (pv 5)))))))))), ?_⟩
    obtain ⟨dx, l1, l2, l3, u2, u3, e, e1, ⟨e2, p2⟩, e3, p3⟩ := id hq
    refine ⟨_, rfl, ?_⟩
    dsimp only [tNil]
    refine ⟨r, dx, _, rfl, e, ?_⟩
    refine ⟨_, rfl, ?_⟩
    dsimp only [tNil]
    refine st.need fun H1 s1 => ?_
    refine ⟨_, rfl, ?_⟩
    dsimp only [tNil]
    have tpf : Tp K H1 (.ref t) (some (fc.map some)) := by
      have h1 : PaL H1 [.ref t] [fc] := .cons (s1 _ _ et) .nil
      have h2 := h1.tps (K := K) fun p hp => by rw [List.mem_singleton.mp hp]; exact hfc.small
      cases h2 with
      | cons h _ => exact h
    refine ⟨.ref t, _, rfl, tpf, factB_strs.trans (decide_eq_true hfc), fun H2 s2 => ?_⟩
    have s02 := s1.trans s2
    refine ⟨_, rfl, r, dx, _, rfl, s02 _ _ e, r, dx, l2, _, u2, rfl, s02 _ _ e, qk2, s02 _ _ e2, fun a na => ?_⟩
    have s3 : Same H (upd H2 a (.lst u2)) := s02.trans (same_new na)
    have ea : upd H2 a (.lst u2) a = some (.lst u2) := upd_same
    generalize upd H2 a (.lst u2) = H3 at s3 ea ⊢
    show tSeq _ _ _ _ _
    refine ⟨_, rfl, ?_⟩
    dsimp only [tNil]
    refine ⟨a, u2, x.ps, rfl, SqL.of ea, p2.same s3, ok.ps, by omega, fun c H4 nc s4 ec => ?_⟩
    have s04 := s3.trans s4
    refine ⟨_, rfl, _, rfl, ?_⟩
    dsimp only [tNil]
    refine ⟨r, b, x, us, ps, m, rfl, ⟨hq.same s04, ok, hl1, hl2, mat⟩, st.same s04, hm, fun p H5 us' zs s5 e5 h5 hz => ⟨p, rfl, ⟨_, SqL.of e5⟩, fun D nD => ?_⟩⟩
    have s05 := s04.trans s5
    have hul := h5.len
    have mlen : ∀ mm ∈ sortT (metF zs x.ps x.qs ps), mm.length = (varsIn (tails x.ps)).length ∧ ∀ z ∈ mm, Asc z := fun mm hmm => by
      have hm2 : mm ∈ metF zs x.ps x.qs ps := (List.mergeSort_perm _ _).mem_iff.mp hmm
      exact ⟨metF_len ok.ps mat.nt hz mm hm2, metF_P asc_empty (fun z hz2 => ((hz.mem z).mp hz2).2.asc) (fun p hp => (st.ok p hp).asc) mm hm2⟩
    have big : (sortT (metF zs x.ps x.qs ps)).length ≤ 100000 := by
      have e0 : (sortT (metF zs x.ps x.qs ps)).length = (metF zs x.ps x.qs ps).length := (List.mergeSort_perm _ _).length_eq
      rw [e0]
      unfold metF
      rw [List.length_map]
      exact Nat.le_trans (rowsF_len hm.1) hm.2.2.2
    generalize hms : sortT (metF zs x.ps x.qs ps) = ms at h5 hul mlen big
    refine lc_list (K := K) (a := p) (xs := us') (fun i H' => Same H5 H' ∧ ∃ ws : List V, H' D = some (.lst ws) ∧ PaL H' ws ((ms.take i).filter (standsB x.ps fc))) ⟨same_new nD, [], upd_same, .nil⟩ (fun i H' _ y => SqL.of (y.1 _ _ e5)) ?_ ?_
    · rintro i v H6 hi ⟨s6, ws, e6, hw⟩
      obtain ⟨tm, mm, rfl, hmi, etm⟩ := h5.at_ hi
      obtain ⟨ml, masc⟩ := mlen mm (List.mem_of_getElem? hmi)
      have s06 := s05.trans s6
      have etm6 := s6 _ _ etm
      refine ⟨rfl, _, rfl, _, rfl, _, rfl, _, rfl, c, tm, varsIn (tails x.ps), mm, rfl, SqL.of (s6 _ _ (s5 _ _ ec)), SqT.of etm6, by omega, fun d nd => ?_⟩
      have s7 : Same H6 (upd H6 d (.dK (mergeK [] (zipK (varsIn (tails x.ps)) mm)))) := same_new nd
      have ed : upd H6 d (.dK (mergeK [] (zipK (varsIn (tails x.ps)) mm))) d = some (.dK (mergeK [] (zipK (varsIn (tails x.ps)) mm))) := upd_same
      generalize upd H6 d (.dK (mergeK [] (zipK (varsIn (tails x.ps)) mm))) = H7 at s7 ed ⊢
      have s07 := s06.trans s7
      dsimp only [tNil]
      refine ⟨t, a, d, u2, fc, x.ps, subZ (varsIn (tails x.ps)) mm, rfl, s07 _ _ et, ⟨SqL.of (s7 _ _ (s6 _ _ (s5 _ _ (s4 _ _ ea)))), p2.same s07, fun pp hpp => ⟨two pp hpp, ?_⟩, by omega⟩, sub_at ed, (lay_dT hfc.asc).shaped (by decide), (lay_dL fun pp hpp => ?_).shaped (by decide), fun H8 s8 => ⟨_, rfl, ?_⟩⟩
      · obtain ⟨w', ts, rfl, _, h3, _⟩ := ok.ps pp hpp
        rw [List.length_cons]
        omega
      · obtain ⟨p0, hp0, rfl⟩ := List.mem_map.mp hpp
        intro z hz2
        unfold fillT at hz2
        rcases List.mem_append.mp hz2 with hz2 | hz2
        · exact (ok.ps p0 hp0).asc z (List.mem_of_mem_take hz2)
        · obtain ⟨y, hy, rfl⟩ := List.mem_map.mp hz2
          exact subZ_P masc ((ok.ps p0 hp0).asc y (List.mem_of_mem_drop hy))
      have ft := filter_take (f := standsB x.ps fc) hmi
      have s68 := s7.trans s8
      show if standsB x.ps fc mm = true then _ else _
      cases hb : standsB x.ps fc mm with
      | true =>
        rw [hb, if_pos rfl] at ft
        refine iteT ⟨_, rfl, ws, s68 _ _ e6, ?_, same_put (s6.trans s68) nD, _, upd_same, ?_⟩
        · have h1 := hw.len
          have h2 := List.length_filter_le (standsB x.ps fc) (ms.take i)
          rw [List.length_take] at h2
          exact Nat.lt_of_le_of_lt (by omega : _ ≤ 100000) (by decide)
        · rw [ft]
          exact ((hw.same s68).over (s68 _ _ e6)).app (.cons (by rw [upd_ne (fun y => by rw [y, e6] at etm6; cases etm6)]; exact s68 _ _ etm6) .nil)
      | false =>
        rw [hb, if_neg Bool.false_ne_true, List.append_nil] at ft
        refine iteF ⟨s6.trans s68, ws, s68 _ _ e6, ?_⟩
        rw [ft]
        exact hw.same s68
    · rintro H6 ⟨s6, ws, e6, hw⟩
      rw [hul, List.take_length] at hw
      exact q D H6 ws zs (s05.trans s6) e6 (by rw [hms]; exact hw) hz
end
end Nv
set_option maxHeartbeats 8000000
namespace Nv
open PySem PySem.Spec PyProof.Rows L2
/-! # the law -/
theorem Pu.other {H H1 : Hp} {a b : Addr} {n : Nat} (p : Pu H b n) (ne : b ≠ a) (s : Sb a H H1) : Pu H1 b n := by
  obtain ⟨x, d, t, k, e, h⟩ := p.ex
  exact ⟨⟨x, d, t, k, s _ _ ne e, h⟩⟩
theorem refs_not {bs : List Addr} {i : Nat} {a : Addr} (h : bs[i]? = some a) {s d t k : Int} : HO.lst (bs.map V.ref) ≠ .lst [.int s, .int d, .int t, .int k] := fun z => by
  injection z with z
  cases bs with
  | nil => cases h
  | cons b bs => injection z with z _; cases z
theorem pu_not {H : Hp} {a p : Addr} {n : Nat} {xs : List V} (pu : Pu H a n) (h : ∀ s d t k : Int, HO.lst xs ≠ .lst [.int s, .int d, .int t, .int k]) (e : H p = some (.lst xs)) : p ≠ a := fun z => by
  obtain ⟨s, d, t, k, e2, _⟩ := pu.ex
  rw [z, e2] at e
  exact h s d t k (Option.some.inj e).symm
def dI (ns : List Int) : PyData := .list (ns.map PyData.int)
theorem dp_ints {K : PySem.W.Frag} {H : Hp} : ∀ ns : List Int, DpAll K H (ns.map V.int) (ns.map PyData.int)
  | [] => .nil
  | n :: ns => .cons (.int n) (dp_ints ns)
theorem dp_I {K : PySem.W.Frag} {H : Hp} {a : Addr} {ns : List Int} (e : H a = some (.lst (ns.map V.int))) : Dp K H (.ref a) (dI ns) := .lst (SqL.of e) (dp_ints ns)
theorem lay_int {i : Int} : Lay 0 (.int i) := ⟨by simp [PyData.canLay0], by simp [PyData.depth]⟩
theorem lay_I {ns : List Int} : Lay 1 (dI ns) := lay_list fun d hd => by
  obtain ⟨i, _, rfl⟩ := List.mem_map.mp hd
  exact lay_int
theorem nat_ints (ix : List Nat) : ix.map natV = (ix.map fun j => ((j : Nat) : Int)).map V.int := by rw [List.map_map] <;> rfl
theorem ne_same {K : PySem.W.Frag} {H : Hp} {x y : V} {d : PyData} {n : Nat} {Q : VK} (hx : Dp K H x d) (hy : Dp K H y d) (l : Lay n d) (hn : n ≤ 50) (q : Q (.bl false) H) : rNeD K x y H Q :=
  ⟨d, d, hx, hy, l.shaped hn, l.shaped hn, by rw [PySem.SeqAt.eqv_refl d l.1]; exact q⟩
section
variable (P : Program) (w : World) (K : PySem.W.Frag) (mg : Str → Option Value) (base : Heap)
/-- a def by its name, by place and by keywords (in the other order) -/
structure CallKA (x : Str) (k : Nat) (ps ks : List Str) (sp : Sp) : Prop where
  ex : ∃ f fd g, FnOk P w K mg base CX0 k f fd ps sp ∧ PySem.W.keepIn K (.ref f) = true ∧ mg x = some (.ref f) ∧ Binds K fd ps [] ∧ KBn K fd ps 0 ks g (fun vs zs => vs ++ zs.reverse)
end
theorem asc_rows {zs more : List Str} {pats prs ps : List (List Str)} (ok : ∀ p ∈ ps, FactOk p) (hz : NamesOf (tails pats ++ more) zs) : ∀ r ∈ sortT (metF zs pats prs ps), ∀ z ∈ r, Asc z := fun r hr =>
  metF_P asc_empty (fun z hz2 => ((hz.mem z).mp hz2).2.asc) (fun p hp => (ok p hp).asc) r ((List.mergeSort_perm _ _).mem_iff.mp hr)
section
variable {P : Program} {w : World} {K : PySem.W.Frag} {mg : Str → Option Value} {base : Heap}
/-- what stands in a turn of the law -/
structure Trn (CQ : Addr) (G : Hp) (rq tb tg td tt bs : Addr) (us uq ud ub : List V) (ps qs ds st : List (List Str)) (j : Nat) : Prop where
  q : QA CQ G rq ⟨(["X", "Y"] : List Str).take j, ps, qs⟩
  b : G tb = some (.lst us) ∧ PaL G us ps
  g : G tg = some (.lst uq) ∧ PaL G uq qs
  d : G td = some (.lst ud) ∧ PaL G ud ds
  t : G tt = some (.lst (((["X", "Y"] : List Str).take j).map V.str))
  s : StoreAt G bs ub st
theorem Trn.same {CQ : Addr} {G G' : Hp} {rq tb tg td tt bs : Addr} {us uq ud ub : List V} {ps qs ds st : List (List Str)} {j : Nat} (h : Trn CQ G rq tb tg td tt bs us uq ud ub ps qs ds st j) (x : Same G G') : Trn CQ G' rq tb tg td tt bs us uq ud ub ps qs ds st j :=
  ⟨h.q.same x, ⟨x _ _ h.b.1, h.b.2.same x⟩, ⟨x _ _ h.g.1, h.g.2.same x⟩, ⟨x _ _ h.d.1, h.d.2.same x⟩, x _ _ h.t, h.s.same x⟩
def spLaw (K : PySem.W.Frag) : Sp := fun vs H Q _ => ∃ (al : Addr) (ns : List Int), vs = [.ref al] ∧ SqL K H al (ns.map V.int) ∧ ns.length ≤ 63 ∧ ∀ H', Q (.bl true) H'
abbrev nLaw : List Str := ["_law_script", "_law_purse_here", "_law_body", "_law_gaps", "_law_bars", "_law_tops", "_law_some", "_law_query", "_law_thing"]
theorem scLaw : FnScope nLaw ["_law_script"] (defScope sLaw) := ⟨rfl, rfl, rfl, by decide +kernel, rfl, by decide +kernel, by decide +kernel⟩
theorem ok_law {f CQ fPs fPa fD fBg fMR : Addr} {fd dPs dPa dD dBg dMR : FuncData} (F : Fun K "law" "law" sLaw f fd)
    (GPs : FnOk P w K mg base CX0 2 fPs dPs ["_law_script", "_law_few"] (spPurses K)) (kPs : PySem.W.keepIn K (.ref fPs) = true) (gPs : mg "_law_purses" = some (.ref fPs)) (bPs : Binds K dPs ["_law_script", "_law_few"] [])
    (GPa : FnOk P w K mg base CX0 4 fPa dPa ["_law_purse_here"] spParts) (kPa : PySem.W.keepIn K (.ref fPa) = true) (gPa : mg "_law_parts" = some (.ref fPa)) (bPa : Binds K dPa ["_law_purse_here"] [])
    (GD : FnOk P w K mg base CX0 2 fD dD ["_law_purse_here", "_law_many"] spDraw) (kD : PySem.W.keepIn K (.ref fD) = true) (gD : mg "_law_draw" = some (.ref fD)) (bD : Binds K dD ["_law_purse_here", "_law_many"] [])
    (GBg : FnOk P w K mg base CX0 4 fBg dBg ["_law_purse_here"] spBags) (kBg : PySem.W.keepIn K (.ref fBg) = true) (gBg : mg "_law_bags" = some (.ref fBg)) (bBg : Binds K dBg ["_law_purse_here"] [])
    (GMR : FnOk P w K mg base CX0 7 fMR dMR ["_law_body", "_law_gaps", "_law_bars", "_law_tops"] spMadeRight) (kMR : PySem.W.keepIn K (.ref fMR) = true) (gMR : mg "_law_made_right" = some (.ref fMR)) (bMR : Binds K dMR ["_law_body", "_law_gaps", "_law_bars", "_law_tops"] [])
    (MQ : MadeA P w K mg base CQ "Question" 5 ["self", "columns", "told", "pairs"] ["pairs", "told", "columns"] (spQInit CQ))
    (CV : CallKA P w K mg base "variables" 4 ["question"] ["question"] (spVarsQ CQ)) (CM : CallKA P w K mg base "matches" 7 ["question", "store"] ["store", "question"] (spMatches CQ))
    (CC : CallKA P w K mg base "count_matches" 8 ["question", "store"] ["store", "question"] (spCount CQ)) (CP : CallKA P w K mg base "partials" 7 ["question", "store"] ["store", "question"] (spPartials CQ))
    (CB : CallKA P w K mg base "best_order" 7 ["question", "store"] ["store", "question"] (spBest CQ)) (CW : CallKA P w K mg base "matches_with" 8 ["question", "store", "fact"] ["fact", "store", "question"] (spMatchesWith CQ)) :
    FnOk P w K mg base CX0 9 f fd ["_law_script"] (spLaw K) := by
  obtain ⟨fQ, dQ', gvQ, GQ, mkQ, gQ, bQ, _⟩ := MQ.ex
  obtain ⟨fV, dV, gvV, GV, kV', gV, bV, wV⟩ := CV.ex
  obtain ⟨fM, dM, gvM, GM, kM, gM, bM, wM⟩ := CM.ex
  obtain ⟨fC, dC, gvC, GC, kC, gC, bC, wC⟩ := CC.ex
  obtain ⟨fP, dP, gvP, GP, kP, gP, bP, wP⟩ := CP.ex
  obtain ⟨fB, dB, gvB, GB, kB, gB, bB, wB⟩ := CB.ex
  obtain ⟨fW, dW, gvW, GW, kW, gW, bW, wW⟩ := CW.ex
  refine F.ok scLaw (fun vs H Q E h => ?_) (fun cdv A outer s H vs Q E hr h => ?_)
  · obtain ⟨al, ns, rfl, _⟩ := h
    rfl
  · obtain ⟨al, ns, rfl, hal, hnl, q⟩ := h
    have hr2 : Room 2 _ := hr.mono (by decide)
    have hr4 : Room 4 _ := hr.mono (by decide)
    have hr6 : Room 6 _ := hr.mono (by decide)
    have hr7 : Room 7 _ := hr.mono (by decide)
    have hu : (A.deeper (envOfC "law" (defScope sLaw) s.heap.objs.size f cdv)).units + 64 < cLine := hr.units
    refine ⟨_, pss_cons (ps_for PassesOwn.never rfl (pi_list (by exact (pe_call GPs hr2 (by rfl) gPs kPs bPs .nil pass0 (pa_cons (pv 0) (pa_cons pe_int pa_nil))))) (pg_name (i := 1) scLaw.nd rfl (Or.inl rfl))
        (pss_cons (ps_asg (by exact (pe_call GPa hr4 (by rfl) gPa kPa bPa .nil pass0 (pa_cons (pv 1) pa_nil))) (pg_unl rfl (pgs_cons (pg_name (i := 2) scLaw.nd rfl (Or.inl rfl)) (pgs_cons (pg_name (i := 3) scLaw.nd rfl (Or.inl rfl)) (pgs_cons (pg_name (i := 4) scLaw.nd rfl (Or.inl rfl)) pgs_nil)))))
        (pss_cons (ps_par (i := 5) (j := 6) (by rfl) scLaw.nd rfl rfl (by decide) rfl rfl (pa_cons (pe_slice sl_list (pe_lst (pa_cons pe_str (pa_cons pe_str pa_nil))) po_none (po_some (by exact (pe_call GD hr2 (by rfl) gD kD bD .nil pass0 (pa_cons (pv 1) (pa_cons pe_int pa_nil))))))
          (pa_cons (by exact (pe_call GBg hr4 (by rfl) gBg kBg bBg .nil pass0 (pa_cons (pv 1) pa_nil))) pa_nil)) (by rfl))
        (pss_cons (ps_set (i := 7) scLaw.nd rfl (Or.inl rfl) (by exact (pe_make mkQ GQ hr6 (by rfl) gQ bQ .nil pass0 (pa_cons (pv 5) (pa_cons (pv 2) (pa_cons (pv 3) pa_nil))))))
        (pss_cons (ps_if (PW.pt (pw_or (pt_cmpR (op_neD hu) (by exact (pe_callK0 GV hr4 (by rfl) gV kV' wV pass0 (pk_cons (pv 7) pk_nil))) (by exact (pe_call GV hr4 (by rfl) gV kV' bV .nil pass0 (pa_cons (pv 7) pa_nil))) (nomark _))
          (pw_or1 (pt_cmpR (op_neD hu) (by exact (pe_callK0 GM hr7 (by rfl) gM kM wM pass0 (pk_cons (pv 6) (pk_cons (pv 7) pk_nil)))) (by exact (pe_call GM hr7 (by rfl) gM kM bM .nil pass0 (pa_cons (pv 7) (pa_cons (pv 6) pa_nil)))) (nomark _))))) (pss_one (ps_ret pe_bl)) pss_nil)
        (pss_cons (ps_if (pt_cmpR (op_neD hu) (by exact (pe_callK0 GC hr (by rfl) gC kC wC pass0 (pk_cons (pv 6) (pk_cons (pv 7) pk_nil)))) (by exact (pe_call GC hr (by rfl) gC kC bC .nil pass0 (pa_cons (pv 7) (pa_cons (pv 6) pa_nil)))) (nomark _)) (pss_one (ps_ret pe_bl)) pss_nil)
        (pss_cons (ps_if (pt_cmpR (op_neD hu) (by exact (pe_callK0 GP hr7 (by rfl) gP kP wP pass0 (pk_cons (pv 6) (pk_cons (pv 7) pk_nil)))) (by exact (pe_call GP hr7 (by rfl) gP kP bP .nil pass0 (pa_cons (pv 7) (pa_cons (pv 6) pa_nil)))) (nomark _)) (pss_one (ps_ret pe_bl)) pss_nil)
        (pss_cons (ps_if (pt_cmpR (op_neD hu) (by exact (pe_callK0 GB hr7 (by rfl) gB kB wB pass0 (pk_cons (pv 6) (pk_cons (pv 7) pk_nil)))) (by exact (pe_call GB hr7 (by rfl) gB kB bB .nil pass0 (pa_cons (pv 7) (pa_cons (pv 6) pa_nil)))) (nomark _)) (pss_one (ps_ret pe_bl)) pss_nil)
        (pss_cons (ps_for PassesOwn.never rfl (pi_list (pe_slice sl_list (pv 6) po_none (po_some pe_int))) (pg_name (i := 8) scLaw.nd rfl (Or.inl rfl))
          (pss_one (ps_if (pt_cmpR (op_neD hu) (by exact (pe_callK0 GW hr (by rfl) gW kW wW pass0 (pk_cons (pv 8) (pk_cons (pv 6) (pk_cons (pv 7) pk_nil))))) (by exact (pe_call GW hr (by rfl) gW kW bW .nil pass0 (pa_cons (pv 7) (pa_cons (pv 6) (pa_cons (pv 8) pa_nil))))) (nomark _)) (pss_one (ps_ret pe_bl)) pss_nil)))
        (pss_one (ps_if (pt_not (pt_val (by exact (pe_call GMR hr7 (by rfl) gMR kMR bMR .nil pass0 (pa_cons (pv 2) (pa_cons (pv 3) (pa_cons (pv 4) (pa_cons (pv 5) pa_nil)))))))) (pss_one (ps_ret pe_bl)) pss_nil)))))))))))
      (pss_one (ps_ret pe_bl)), ?_⟩
    refine ⟨_, rfl, ?_⟩
    dsimp only [tNil]
    refine ⟨al, ns, 6, rfl, hal, by omega, by decide, fun p bs H1 nd few hbs np ep sp => ⟨p, rfl, ⟨_, SqL.of ep⟩, ?_⟩⟩
    show ∃ W : Nat → Nat → L2.St → Hp → Prop, (∃ m, W 0 m [some (.ref al), none, none, none, none, none, none, none, none] H1) ∧ _
    refine for_list (D := { nx := tRet (tC (V.bl true)) { nx := fun x H' => Q V.non H', rt := Q }, rt := Q }) (K := K) (a := p) (xs := bs.map V.ref)
      (fun i σ G => ∃ o1 o2 o3 o4 o5 o6 o7 o8 : Option V, σ = [some (.ref al), o1, o2, o3, o4, o5, o6, o7, o8] ∧ G p = some (.lst (bs.map V.ref)) ∧ ∀ j b, i ≤ j → bs[j]? = some b → Pu G b 1099511627776)
      ⟨none, none, none, none, none, none, none, none, rfl, ep, fun j b _ h => (hbs b (List.mem_of_getElem? h)).1⟩ (fun i σ G _ z => ?_) ?_ ?_
    · obtain ⟨_, _, _, _, _, _, _, _, _, e, _⟩ := z
      exact SqL.of e
    · rintro i v σ H0 hi ⟨o1, o2, o3, o4, o5, o6, o7, o8, rfl, ep0, hpu⟩
      obtain ⟨a, hai, rfl⟩ := at_ref hi
      have pu0 := hpu i a (Nat.le_refl _) hai
      have pa : p ≠ a := pu_not pu0 (fun _ _ _ _ => refs_not hai) ep0
      refine (show ∀ D' : Ends, (∀ σ' G', (∃ o1 o2 o3 o4 o5 o6 o7 o8 : Option V, σ' = [some (.ref al), o1, o2, o3, o4, o5, o6, o7, o8] ∧ G' p = some (.lst (bs.map V.ref)) ∧ ∀ j b, i + 1 ≤ j → bs[j]? = some b → Pu G' b 1099511627776) → D'.nx σ' G') → tSeq _ _ D' [some (.ref al), some (.ref a), o2, o3, o4, o5, o6, o7, o8] H0 from fun D' hD => ?_) _ ?hx
      case hx => exact fun σ' G' h => h
      have hE : ∀ G', Sb a H0 G' → G' p = some (.lst (bs.map V.ref)) ∧ ∀ j b, i + 1 ≤ j → bs[j]? = some b → Pu G' b 1099511627776 := fun G' s => ⟨s _ _ pa ep0, fun j b hj hb => (hpu j b (by omega) hb).other (fun z => by
        rw [z] at hb
        obtain ⟨h1, e1⟩ := List.getElem?_eq_some_iff.mp hb
        obtain ⟨h2, e2⟩ := List.getElem?_eq_some_iff.mp hai
        exact List.pairwise_iff_getElem.mp nd i j h2 h1 (by omega) (e2.trans e1.symm)) s⟩
      refine ⟨_, rfl, a, 1000000, rfl, pu0.le (by omega), fun pp tb tg td us uq ud ps qs ds H2 hb hg hd pu2 sb2 epp hne ⟨eb, pb⟩ ⟨eg, pg⟩ ⟨ed, pd⟩ => ?_⟩
      obtain ⟨ppa, tba, tga, tda⟩ := hne
      refine ⟨pp, _, rfl, SqL.of epp, rfl, _, _, rfl, _, _, rfl, _, _, rfl, rfl, ?_⟩
      show tSeq _ _ _ _ _
      refine ⟨by show 2 ≤ _; decide, fun lx nlx => ?_⟩
      have s3 : Same H2 (upd H2 lx (.lst [.str "X", .str "Y"])) := same_new nlx
      have elx : upd H2 lx (.lst [.str "X", .str "Y"]) lx = some (.lst [.str "X", .str "Y"]) := upd_same
      have lxa : lx ≠ a := pu2.ne nlx
      generalize upd H2 lx (.lst [.str "X", .str "Y"]) = H3 at s3 elx ⊢
      have pu3 := pu2.same s3
      refine ⟨_, rfl, a, 999999, 3, rfl, pu3, ⟨by decide, by decide⟩, fun y H4 y0 y1 pu4 sb4 => ?_⟩
      obtain ⟨j, rfl⟩ : ∃ j : Nat, y = (j : Int) := ⟨y.toNat, by omega⟩
      refine ⟨_, rfl, lx, _, rfl, SqL.of (sb4 _ _ lxa elx), fun tt ntt => ?_⟩
      have tta : tt ≠ a := pu4.ne ntt
      have cut : cutV ([V.str "X", V.str "Y"]) none (some (j : Int)) = ((["X", "Y"] : List Str).take j).map V.str := by
        rw [cut_head, List.map_take] <;> rfl
      rw [cut]
      have s5 : Same H4 (upd H4 tt (.lst (((["X", "Y"] : List Str).take j).map V.str))) := same_new ntt
      have ett : upd H4 tt (.lst (((["X", "Y"] : List Str).take j).map V.str)) tt = some (.lst (((["X", "Y"] : List Str).take j).map V.str)) := upd_same
      generalize upd H4 tt (.lst (((["X", "Y"] : List Str).take j).map V.str)) = H5 at s5 ett ⊢
      have pu5 := pu4.same s5
      have pb3 := pb.same s3
      have pg3 := pg.same s3
      have pd3 := pd.same s3
      refine ⟨_, rfl, a, 900000, rfl, pu5.le (by omega), fun bA ub st H6 pu6 sb6 bAa ebA pbA okA ndA fewA => ?_⟩
      refine ⟨_, _, rfl, ?_⟩
      show tSeq _ _ _ _ _
      have sb36 : Sb a H3 H6 := (sb4.then s5).trans sb6
      have sb06 : Sb a H0 H6 := (sb2.then s3).trans sb36
      have eb6 := sb36 _ _ tba (s3 _ _ eb)
      have eg6 := sb36 _ _ tga (s3 _ _ eg)
      have ed6 := sb36 _ _ tda (s3 _ _ ed)
      have pb6 := pb3.sb pu3 sb36
      have pg6 := pg3.sb pu3 sb36
      have pd6 := pd3.sb pu3 sb36
      have ett6 := sb6 _ _ tta ett
      have hS : StoreAt H6 bA ub st := ⟨ebA, pbA, okA, ndA, by omega⟩
      clear s3 s5 sb2 sb4 sb6 pu0 pu2 pu3 pu4 pu5 pu6 pb pg pd pb3 pg3 pd3 eb eg ed ett elx epp cut ebA pbA nlx ntt sb36
      have qk := q_ok (j := j) hb hg
      have qc := q_clo (j := j) hb hg
      have bp := hb.p
      have lq := hg.pair.2.1
      have lp : ps.length ≤ 3 := by have := bp.len; omega
      refine ⟨_, rfl, _, rfl, _, rfl, ?_⟩
      dsimp only [tNil]
      intro rq dq nq ndq neq
      refine mk_q (y := ⟨(["X", "Y"] : List Str).take j, ps, qs⟩) qk qc nq ndq ett6 eb6 pb6 (opt_of eg6 pg6 (by show qs.length ≤ 300; omega)) fun H7 s7 qa => ⟨rfl, ?_⟩
      have T0 : Trn CQ H7 rq tb tg td tt bA us uq ud ub ps qs ds st j := ⟨qa.ra, ⟨s7 _ _ eb6, pb6.same s7⟩, ⟨s7 _ _ eg6, pg6.same s7⟩, ⟨s7 _ _ ed6, pd6.same s7⟩, s7 _ _ ett6, hS.same s7⟩
      have sb07 : Sb a H0 H7 := sb06.then s7
      clear s7 qa eb6 pb6 eg6 pg6 ed6 pd6 ett6 hS sb06 nq ndq neq
      have hm : st.length ≤ 5 ∧ 1 ≤ 5 ∧ 5 ≤ 1000 ∧ 5 ^ ps.length ≤ 100000 := ⟨fewA, by decide, by decide, Nat.le_trans (Nat.pow_le_pow_right (by decide) lp) (by decide)⟩
      have hQ : ∀ {G : Hp}, Same H7 G → QA CQ G rq ⟨(["X", "Y"] : List Str).take j, ps, qs⟩ ∧ Ql.Ok ⟨(["X", "Y"] : List Str).take j, ps, qs⟩ ∧ ps.length ≤ 10 ∧ qs.length ≤ 10 ∧ Mat ps := fun s => ⟨(T0.same s).q, qk, by omega, by omega, bp.mat⟩
      show tSeq _ _ _ _ _
      -- variables
      refine ⟨_, rfl, rfl, rfl, rq, _, rfl, T0.q, qk, fun p1 G1 s1 e1 => ⟨_, rfl, rq, _, rfl, (T0.same s1).q, qk, fun p2 G2 s2 e2 => ?_⟩⟩
      refine ne_same (dp_S (SqL.of (s2 _ _ e1))) (dp_S (SqL.of e2)) (lay_dS fun z hz => (varsIn_mem.mp hz).2.asc) (by decide) ⟨_, rfl, iteF ?_⟩
      have s02 := s1.trans s2
      clear s1 s2 e1 e2
      -- matches
      refine ⟨_, rfl, _, rfl, rfl, rfl, rq, bA, _, ub, st, 5, rfl, hQ s02, (T0.same s02).s, hm, fun p1 G3 u1 z1 s3 e3 h3 hz1 => ?_⟩
      refine ⟨_, rfl, _, rfl, rq, bA, _, ub, st, 5, rfl, hQ (s02.trans s3), (T0.same (s02.trans s3)).s, hm, fun p2 G4 u2 z2 s4 e4 h4 hz2 => ?_⟩
      obtain rfl := hz1.uniq hz2
      refine ne_same (dp_L (SqL.of (s4 _ _ e3)) (h3.same s4)) (dp_L (SqL.of e4) h4) (lay_dL (asc_rows okA hz1)) (by decide) ⟨_, rfl, iteF ?_⟩
      have s04 := s02.trans (s3.trans s4)
      clear s3 s4 e3 e4 h3 h4 s02 u1 u2 p1 p2 hz1 hz2 z1
      -- count_matches
      show tSeq _ _ _ _ _
      refine ⟨_, rfl, _, rfl, rfl, rfl, rq, bA, _, ub, st, 5, rfl, hQ s04, (T0.same s04).s, hm, fun G5 z1 s5 hz1 => ?_⟩
      refine ⟨_, rfl, _, rfl, rq, bA, _, ub, st, 5, rfl, hQ (s04.trans s5), (T0.same (s04.trans s5)).s, hm, fun G6 z2 s6 hz2 => ?_⟩
      obtain rfl := hz1.uniq hz2
      refine ne_same (.int _) (.int _) lay_int (by decide) ⟨_, rfl, iteF ?_⟩
      have s06 := s04.trans (s5.trans s6)
      clear s5 s6 s04 hz1 hz2 z1
      -- partials
      show tSeq _ _ _ _ _
      refine ⟨_, rfl, _, rfl, rfl, rfl, rq, bA, _, ub, st, 5, rfl, hQ s06, (T0.same s06).s, hm, fun p1 G7 z1 s7 e7 hz1 => ?_⟩
      refine ⟨_, rfl, _, rfl, rq, bA, _, ub, st, 5, rfl, hQ (s06.trans s7), (T0.same (s06.trans s7)).s, hm, fun p2 G8 z2 s8 e8 hz2 => ?_⟩
      obtain rfl := hz1.uniq hz2
      refine ne_same (dp_I (s8 _ _ e7)) (dp_I e8) lay_I (by decide) ⟨_, rfl, iteF ?_⟩
      have s08 := s06.trans (s7.trans s8)
      clear s7 s8 s06 hz1 hz2 z1 e7 e8 p1 p2
      -- best_order
      have hB : ∀ {G : Hp}, Same H7 G → QA CQ G rq ⟨(["X", "Y"] : List Str).take j, ps, qs⟩ ∧ Ql.Ok ⟨(["X", "Y"] : List Str).take j, ps, qs⟩ ∧ (ps.length = 1 ∨ ps.length = 2 ∨ ps.length = 3) ∧ qs.length ≤ 10 ∧ Mat ps := fun s => ⟨(T0.same s).q, qk, bp.len, by omega, bp.mat⟩
      show tSeq _ _ _ _ _
      refine ⟨_, rfl, _, rfl, rfl, rfl, rq, bA, _, ub, st, 5, rfl, hB s08, (T0.same s08).s, hm, fun p1 G9 n1 j1 x1 s9 hn1 hj1 hx1 e9 => ?_⟩
      refine ⟨_, rfl, _, rfl, rq, bA, _, ub, st, 5, rfl, hB (s08.trans s9), (T0.same (s08.trans s9)).s, hm, fun p2 G10 n2 j2 x2 s10 hn2 hj2 hx2 e10 => ?_⟩
      obtain rfl := hn1.uniq hn2
      obtain rfl := hj1.uniq hj2
      obtain rfl := Option.some.inj (hx1.symm.trans hx2)
      rw [nat_ints] at e9 e10
      refine ne_same (dp_I (s10 _ _ e9)) (dp_I e10) lay_I (by decide) ⟨_, rfl, iteF ?_⟩
      have s010 := s08.trans (s9.trans s10)
      clear s9 s10 s08 hn1 hn2 hj1 hj2 hx1 hx2 e9 e10 p1 p2
      -- matches_with
      show tSeq _ _ _ _ _
      have T1 := T0.same s010
      have sb10 := sb07.then s010
      refine ⟨_, rfl, 2, rfl, bA, _, rfl, SqL.of T1.s.at_, fun l2 nl2 => ?_⟩
      have c2 : cutV ub none (some 2) = ub.take 2 := cut_head (j := 2)
      rw [c2]
      have s11 : Same G10 (upd G10 l2 (.lst (ub.take 2))) := same_new nl2
      have el2 : upd G10 l2 (.lst (ub.take 2)) l2 = some (.lst (ub.take 2)) := upd_same
      generalize upd G10 l2 (.lst (ub.take 2)) = G11 at s11 el2 ⊢
      have T2 := T1.same s11
      have s7k : Same H7 G11 := s010.trans s11
      have sb11 := sb10.then s11
      refine ⟨l2, rfl, ⟨_, SqL.of el2⟩, for_list (K := K) (a := l2) (xs := ub.take 2) (fun k σ G => ∃ o8 : Option V, σ = [some (.ref al), some (.ref a), some (.ref tb), some (.ref tg), some (.ref td), some (.ref tt), some (.ref bA), some (.ref rq), o8] ∧ Same G11 G) ⟨_, rfl, Same.refl _⟩ (fun k σ G _ z => ?_) ?_ ?_⟩
      · obtain ⟨_, _, sm⟩ := z
        exact SqL.of (sm _ _ el2)
      · rintro k v σ G hk ⟨o, rfl, sm⟩
        obtain ⟨t, fc, rfl, hfc, et⟩ := (T2.s.pal.take 2).at_ hk
        have fok := okA fc (List.mem_of_mem_take (List.mem_of_getElem? hfc))
        have sG := s7k.trans sm
        have hW : ∀ {G' : Hp}, Same G G' → QA CQ G' rq ⟨(["X", "Y"] : List Str).take j, ps, qs⟩ ∧ Ql.Ok ⟨(["X", "Y"] : List Str).take j, ps, qs⟩ ∧ ps.length ≤ 10 ∧ qs.length ≤ 10 ∧ Mat ps ∧ ∀ p ∈ ps, 2 ≤ p.length := fun s => ⟨(T0.same (sG.trans s)).q, qk, by omega, by omega, bp.mat, bp.two⟩
        have etG := sm _ _ et
        refine ⟨_, rfl, _, rfl, _, rfl, rfl, rfl, rq, bA, t, _, ub, st, 5, fc, rfl, hW (Same.refl _), (T0.same sG).s, hm, ⟨etG, fok⟩, fun p1 G1 u1 z1 s1 e1 h1 hz1 => ?_⟩
        refine ⟨_, rfl, _, rfl, _, rfl, rq, bA, t, _, ub, st, 5, fc, rfl, hW s1, (T0.same (sG.trans s1)).s, hm, ⟨s1 _ _ etG, fok⟩, fun p2 G2 u2 z2 s2 e2 h2 hz2 => ?_⟩
        obtain rfl := hz1.uniq hz2
        refine ne_same (dp_L (SqL.of (s2 _ _ e1)) (h1.same s2)) (dp_L (SqL.of e2) h2) (lay_dL fun r hr2 => asc_rows okA hz1 r (List.mem_filter.mp hr2).1) (by decide) ⟨_, rfl, iteF ?_⟩
        exact ⟨_, rfl, sm.trans (s1.trans s2)⟩
      · rintro σ G ⟨o, rfl, sm⟩
        have T3 := T2.same sm
        refine ⟨_, rfl, _, rfl, _, rfl, _, rfl, tb, tg, td, tt, us, uq, ud, ps, qs, ds, j, rfl, hb, hg, hd, T3.b, T3.g, T3.d, T3.t, fun G' s' => ⟨true, rfl, iteF ?_⟩⟩
        exact hD _ _ ⟨_, _, _, _, _, _, _, _, rfl, hE G' (sb11.then (sm.trans s'))⟩
    · rintro σ G ⟨o1, o2, o3, o4, o5, o6, o7, o8, rfl, _, _⟩
      exact q G
end
end Nv
set_option maxHeartbeats 4000000
namespace Nv
open PySem PySem.Spec PyProof.Rows L2
/-! # what the text must have, read off its top -/
theorem me_of {K : PySem.W.Frag} {C : Addr} : PySem.W.kitOne K (.ref C) (.ref C) = some true := by simp [PySem.W.kitOne]
/-- a def at the top, by name -/
def DefAt (K : PySem.W.Frag) (x : Str) (st : Stmt) : Prop := ∃ (f : Addr) (fd : FuncData), PySem.W.nsIn K mainGlobals x = some (some (.ref f)) ∧ Fun K x x st f fd
theorem def_at {K : PySem.W.Frag} {h : Heap} (X : K.In h) {x : Str} {st : Stmt} {f : Addr} {oc : Value} {od an : Option Addr} {osl : Array (Option Value)} {kV doc pm cdv ct : Value} (g : PySem.W.nsIn K mainGlobals x = some (some (.ref f)))
    (l : K.lookup f = some ⟨oc, od, .func (PySem.W.fnOf x x (defArgs st) (defBody st) (defScope st) .none kV doc pm an cdv ct), osl⟩) (c : PySem.W.codeIn K cdv x = true) (k : PySem.W.keepIn K (.ref f) = true) : DefAt K x st := ⟨f, _, g, fun_mk l c k⟩
/-- a method -/
def MethAt (K : PySem.W.Frag) (C : Addr) (x qual : Str) (st : Stmt) : Prop := ∃ (f : Addr) (fd : FuncData), PySem.W.findIn K (.ref C) x = some (some (.ref f)) ∧ PySem.W.isFn K (.ref f) = true ∧ Fun K x qual st f fd
def PropAt (K : PySem.W.Frag) (C : Addr) (x qual : Str) (st : Stmt) : Prop := ∃ (p g : Addr) (fd : FuncData), PropOf K C x p g ∧ Fun K x qual st g fd
def InitAt (K : PySem.W.Frag) (C : Addr) (qual : Str) (st : Stmt) (dvs : List V) : Prop := ∃ (f : Addr) (fd : FuncData), PySem.W.findIn K (.ref C) "__init__" = some (some (.ref f)) ∧ PySem.W.isFn K (.ref f) = true ∧ FunD K "__init__" qual (defArgs st) (defBody st) (defScope st) dvs [] f fd
def InitAt0 (K : PySem.W.Frag) (C : Addr) (qual : Str) (st : Stmt) : Prop := ∃ (f : Addr) (fd : FuncData), PySem.W.findIn K (.ref C) "__init__" = some (some (.ref f)) ∧ PySem.W.isFn K (.ref f) = true ∧ Fun K "__init__" qual st f fd

structure RuleTop (K : PySem.W.Frag) (C : Addr) : Prop where
  g : PySem.W.nsIn K mainGlobals "Rule" = some (some (.ref C))
  cl : Cls K C
  I : IC K C
  ne : PySem.W.findIn K (.ref C) "__ne__" = some (some (.builtin "object.__ne__"))
  mks : PySem.W.makesIn K C = true
  kc : PySem.W.keepIn K (.ref C) = true
  n0 : NoAttr K C "_label"
  n1 : NoAttr K C "_head"
  n2 : NoAttr K C "_told"
  n3 : NoAttr K C "_pairs"
  n4 : NoAttr K C "_denied"
  init : InitAt K C "Rule.__init__" (inClass cRule 0) [.non, .non]
  m0 : MethAt K C "__eq__" "Rule.__eq__" (inClass cRule 1)
  q0 : PropAt K C "label" "Rule.label" (inClass cRule 2)

theorem rule_at {K : PySem.W.Frag} {h : Heap} (X : K.In h) {C fI T fm0 fq0 pq0 : Addr} {ocI kVI dcI pmI cdI ctI oc2 ocm0 kVm0 dcm0 pmm0 cdm0 ctm0 ocq0 kVq0 dcq0 pmq0 cdq0 ctq0 : Value} {odI anI od2 odm0 anm0 odq0 anq0 : Option Addr} {slI sl2 slm0 slq0 : Array (Option Value)} {nn : Nat} {rsq0 : List Value}
    (g : PySem.W.nsIn K mainGlobals "Rule" = some (some (.ref C)))
    (pg : PySem.W.plainGet K C Str.empty = true)
    (hd : PySem.W.hasDictIn K C = true)
    (po : PySem.W.plainOver K C = true)
    (sa : PySem.W.findIn K (.ref C) "__setattr__" = some (some (.builtin "object.__setattr__")))
    (mk : PySem.W.makesIn K C = true)
    (kc : PySem.W.keepIn K (.ref C) = true)
    (cc : PySem.W.findIn K (.ref C) "__class__" = some (some (.builtin "object.__class__")))
    (gt : PySem.W.specialIn K (.builtin "object.__class__") "__get__" = some (some (.builtin "getset_descriptor.__get__")))
    (tk : PySem.W.takesIn K (.builtin "object.__class__") = some true)
    (mo : PySem.W.mroIn K C (.type "object") = some true)
    (ne : PySem.W.findIn K (.ref C) "__ne__" = some (some (.builtin "object.__ne__")))
    (n0 : PySem.W.findIn K (.ref C) "_label" = some none)
    (n1 : PySem.W.findIn K (.ref C) "_head" = some none)
    (n2 : PySem.W.findIn K (.ref C) "_told" = some none)
    (n3 : PySem.W.findIn K (.ref C) "_pairs" = some none)
    (n4 : PySem.W.findIn K (.ref C) "_denied" = some none)
    (aI : PySem.W.findIn K (.ref C) "__init__" = some (some (.ref fI)))
    (iI : PySem.W.isFn K (.ref fI) = true)
    (lI : K.lookup fI = some ⟨ocI, odI, .func (PySem.W.fnOf "__init__" "Rule.__init__" (defArgs (inClass cRule 0)) (defBody (inClass cRule 0)) (defScope (inClass cRule 0)) (.ref T) kVI dcI pmI anI cdI ctI), slI⟩)
    (cI : PySem.W.codeIn K cdI "Rule.__init__" = true)
    (kI : PySem.W.keepIn K (.ref fI) = true)
    (t : K.lookup T = some ⟨oc2, od2, .seq #[.none, .none] nn, sl2⟩)
    (am0 : PySem.W.findIn K (.ref C) "__eq__" = some (some (.ref fm0)))
    (im0 : PySem.W.isFn K (.ref fm0) = true)
    (lm0 : K.lookup fm0 = some ⟨ocm0, odm0, .func (PySem.W.fnOf "__eq__" "Rule.__eq__" (defArgs (inClass cRule 1)) (defBody (inClass cRule 1)) (defScope (inClass cRule 1)) .none kVm0 dcm0 pmm0 anm0 cdm0 ctm0), slm0⟩)
    (cm0 : PySem.W.codeIn K cdm0 "Rule.__eq__" = true)
    (km0 : PySem.W.keepIn K (.ref fm0) = true)
    (aq0 : PySem.W.findIn K (.ref C) "label" = some (some (.ref pq0)))
    (sq0 : PySem.W.specialIn K (.ref pq0) "__get__" = some (some (.builtin "property.__get__")))
    (tq0 : PySem.W.takesIn K (.ref pq0) = some true)
    (rq0 : PySem.W.recIn K pq0 "property" = some (.ref fq0 :: rsq0))
    (lq0 : K.lookup fq0 = some ⟨ocq0, odq0, .func (PySem.W.fnOf "label" "Rule.label" (defArgs (inClass cRule 2)) (defBody (inClass cRule 2)) (defScope (inClass cRule 2)) .none kVq0 dcq0 pmq0 anq0 cdq0 ctq0), slq0⟩)
    (cq0 : PySem.W.codeIn K cdq0 "Rule.label" = true)
    (kq0 : PySem.W.keepIn K (.ref fq0) = true) :
    ∃ C, RuleTop K C :=
  ⟨C, g, ⟨pg, hd, po, sa⟩, ⟨cc, gt, tk, mo, me_of⟩, ne, mk, kc, n0, n1, n2, n3, n4, ⟨fI, _, aI, iI, ⟨⟨_, _, _, _, _, _, _, _, _, _, rfl, lI, cI, .inr ⟨by simp, T, _, [Value.none, Value.none], nn, rfl, t, rfl, .cons rfl (.cons rfl .nil)⟩, .inl rfl⟩, kI⟩⟩, ⟨fm0, _, am0, im0, fun_mk lm0 cm0 km0⟩, ⟨pq0, fq0, _, ⟨aq0, sq0, tq0, ⟨_, rq0⟩⟩, fun_mk lq0 cq0 kq0⟩⟩

structure BookTop (K : PySem.W.Frag) (C : Addr) : Prop where
  g : PySem.W.nsIn K mainGlobals "Book" = some (some (.ref C))
  cl : Cls K C
  I : IC K C
  ne : PySem.W.findIn K (.ref C) "__ne__" = some (some (.builtin "object.__ne__"))
  mks : PySem.W.makesIn K C = true
  kc : PySem.W.keepIn K (.ref C) = true
  n0 : NoAttr K C "_rules"
  init : InitAt0 K C "Book.__init__" (inClass cBook 0)
  m0 : MethAt K C "__eq__" "Book.__eq__" (inClass cBook 1)
  m1 : MethAt K C "labels" "Book.labels" (inClass cBook 5)
  m2 : MethAt K C "rule" "Book.rule" (inClass cBook 6)
  m3 : MethAt K C "without" "Book.without" (inClass cBook 7)

theorem book_at {K : PySem.W.Frag} {h : Heap} (X : K.In h) {C fI fm0 fm1 fm2 fm3 : Addr} {ocI kVI dcI pmI cdI ctI ocm0 kVm0 dcm0 pmm0 cdm0 ctm0 ocm1 kVm1 dcm1 pmm1 cdm1 ctm1 ocm2 kVm2 dcm2 pmm2 cdm2 ctm2 ocm3 kVm3 dcm3 pmm3 cdm3 ctm3 : Value} {odI anI odm0 anm0 odm1 anm1 odm2 anm2 odm3 anm3 : Option Addr} {slI slm0 slm1 slm2 slm3 : Array (Option Value)} 
    (g : PySem.W.nsIn K mainGlobals "Book" = some (some (.ref C)))
    (pg : PySem.W.plainGet K C Str.empty = true)
    (hd : PySem.W.hasDictIn K C = true)
    (po : PySem.W.plainOver K C = true)
    (sa : PySem.W.findIn K (.ref C) "__setattr__" = some (some (.builtin "object.__setattr__")))
    (mk : PySem.W.makesIn K C = true)
    (kc : PySem.W.keepIn K (.ref C) = true)
    (cc : PySem.W.findIn K (.ref C) "__class__" = some (some (.builtin "object.__class__")))
    (gt : PySem.W.specialIn K (.builtin "object.__class__") "__get__" = some (some (.builtin "getset_descriptor.__get__")))
    (tk : PySem.W.takesIn K (.builtin "object.__class__") = some true)
    (mo : PySem.W.mroIn K C (.type "object") = some true)
    (ne : PySem.W.findIn K (.ref C) "__ne__" = some (some (.builtin "object.__ne__")))
    (n0 : PySem.W.findIn K (.ref C) "_rules" = some none)
    (aI : PySem.W.findIn K (.ref C) "__init__" = some (some (.ref fI)))
    (iI : PySem.W.isFn K (.ref fI) = true)
    (lI : K.lookup fI = some ⟨ocI, odI, .func (PySem.W.fnOf "__init__" "Book.__init__" (defArgs (inClass cBook 0)) (defBody (inClass cBook 0)) (defScope (inClass cBook 0)) .none kVI dcI pmI anI cdI ctI), slI⟩)
    (cI : PySem.W.codeIn K cdI "Book.__init__" = true)
    (kI : PySem.W.keepIn K (.ref fI) = true)
    (am0 : PySem.W.findIn K (.ref C) "__eq__" = some (some (.ref fm0)))
    (im0 : PySem.W.isFn K (.ref fm0) = true)
    (lm0 : K.lookup fm0 = some ⟨ocm0, odm0, .func (PySem.W.fnOf "__eq__" "Book.__eq__" (defArgs (inClass cBook 1)) (defBody (inClass cBook 1)) (defScope (inClass cBook 1)) .none kVm0 dcm0 pmm0 anm0 cdm0 ctm0), slm0⟩)
    (cm0 : PySem.W.codeIn K cdm0 "Book.__eq__" = true)
    (km0 : PySem.W.keepIn K (.ref fm0) = true)
    (am1 : PySem.W.findIn K (.ref C) "labels" = some (some (.ref fm1)))
    (im1 : PySem.W.isFn K (.ref fm1) = true)
    (lm1 : K.lookup fm1 = some ⟨ocm1, odm1, .func (PySem.W.fnOf "labels" "Book.labels" (defArgs (inClass cBook 5)) (defBody (inClass cBook 5)) (defScope (inClass cBook 5)) .none kVm1 dcm1 pmm1 anm1 cdm1 ctm1), slm1⟩)
    (cm1 : PySem.W.codeIn K cdm1 "Book.labels" = true)
    (km1 : PySem.W.keepIn K (.ref fm1) = true)
    (am2 : PySem.W.findIn K (.ref C) "rule" = some (some (.ref fm2)))
    (im2 : PySem.W.isFn K (.ref fm2) = true)
    (lm2 : K.lookup fm2 = some ⟨ocm2, odm2, .func (PySem.W.fnOf "rule" "Book.rule" (defArgs (inClass cBook 6)) (defBody (inClass cBook 6)) (defScope (inClass cBook 6)) .none kVm2 dcm2 pmm2 anm2 cdm2 ctm2), slm2⟩)
    (cm2 : PySem.W.codeIn K cdm2 "Book.rule" = true)
    (km2 : PySem.W.keepIn K (.ref fm2) = true)
    (am3 : PySem.W.findIn K (.ref C) "without" = some (some (.ref fm3)))
    (im3 : PySem.W.isFn K (.ref fm3) = true)
    (lm3 : K.lookup fm3 = some ⟨ocm3, odm3, .func (PySem.W.fnOf "without" "Book.without" (defArgs (inClass cBook 7)) (defBody (inClass cBook 7)) (defScope (inClass cBook 7)) .none kVm3 dcm3 pmm3 anm3 cdm3 ctm3), slm3⟩)
    (cm3 : PySem.W.codeIn K cdm3 "Book.without" = true)
    (km3 : PySem.W.keepIn K (.ref fm3) = true) :
    ∃ C, BookTop K C :=
  ⟨C, g, ⟨pg, hd, po, sa⟩, ⟨cc, gt, tk, mo, me_of⟩, ne, mk, kc, n0, ⟨fI, _, aI, iI, fun_mk lI cI kI⟩, ⟨fm0, _, am0, im0, fun_mk lm0 cm0 km0⟩, ⟨fm1, _, am1, im1, fun_mk lm1 cm1 km1⟩, ⟨fm2, _, am2, im2, fun_mk lm2 cm2 km2⟩, ⟨fm3, _, am3, im3, fun_mk lm3 cm3 km3⟩⟩

structure QuestionTop (K : PySem.W.Frag) (C : Addr) : Prop where
  g : PySem.W.nsIn K mainGlobals "Question" = some (some (.ref C))
  cl : Cls K C
  I : IC K C
  ne : PySem.W.findIn K (.ref C) "__ne__" = some (some (.builtin "object.__ne__"))
  mks : PySem.W.makesIn K C = true
  kc : PySem.W.keepIn K (.ref C) = true
  n0 : NoAttr K C "_columns"
  n1 : NoAttr K C "_told"
  n2 : NoAttr K C "_pairs"
  init : InitAt K C "Question.__init__" (inClass cQuestion 0) [.non]
  m0 : MethAt K C "__eq__" "Question.__eq__" (inClass cQuestion 1)
  q0 : PropAt K C "told" "Question.told" (inClass cQuestion 3)
  q1 : PropAt K C "pairs" "Question.pairs" (inClass cQuestion 4)

theorem question_at {K : PySem.W.Frag} {h : Heap} (X : K.In h) {C fI T fm0 fq0 pq0 fq1 pq1 : Addr} {ocI kVI dcI pmI cdI ctI oc2 ocm0 kVm0 dcm0 pmm0 cdm0 ctm0 ocq0 kVq0 dcq0 pmq0 cdq0 ctq0 ocq1 kVq1 dcq1 pmq1 cdq1 ctq1 : Value} {odI anI od2 odm0 anm0 odq0 anq0 odq1 anq1 : Option Addr} {slI sl2 slm0 slq0 slq1 : Array (Option Value)} {nn : Nat} {rsq0 rsq1 : List Value}
    (g : PySem.W.nsIn K mainGlobals "Question" = some (some (.ref C)))
    (pg : PySem.W.plainGet K C Str.empty = true)
    (hd : PySem.W.hasDictIn K C = true)
    (po : PySem.W.plainOver K C = true)
    (sa : PySem.W.findIn K (.ref C) "__setattr__" = some (some (.builtin "object.__setattr__")))
    (mk : PySem.W.makesIn K C = true)
    (kc : PySem.W.keepIn K (.ref C) = true)
    (cc : PySem.W.findIn K (.ref C) "__class__" = some (some (.builtin "object.__class__")))
    (gt : PySem.W.specialIn K (.builtin "object.__class__") "__get__" = some (some (.builtin "getset_descriptor.__get__")))
    (tk : PySem.W.takesIn K (.builtin "object.__class__") = some true)
    (mo : PySem.W.mroIn K C (.type "object") = some true)
    (ne : PySem.W.findIn K (.ref C) "__ne__" = some (some (.builtin "object.__ne__")))
    (n0 : PySem.W.findIn K (.ref C) "_columns" = some none)
    (n1 : PySem.W.findIn K (.ref C) "_told" = some none)
    (n2 : PySem.W.findIn K (.ref C) "_pairs" = some none)
    (aI : PySem.W.findIn K (.ref C) "__init__" = some (some (.ref fI)))
    (iI : PySem.W.isFn K (.ref fI) = true)
    (lI : K.lookup fI = some ⟨ocI, odI, .func (PySem.W.fnOf "__init__" "Question.__init__" (defArgs (inClass cQuestion 0)) (defBody (inClass cQuestion 0)) (defScope (inClass cQuestion 0)) (.ref T) kVI dcI pmI anI cdI ctI), slI⟩)
    (cI : PySem.W.codeIn K cdI "Question.__init__" = true)
    (kI : PySem.W.keepIn K (.ref fI) = true)
    (t : K.lookup T = some ⟨oc2, od2, .seq #[.none] nn, sl2⟩)
    (am0 : PySem.W.findIn K (.ref C) "__eq__" = some (some (.ref fm0)))
    (im0 : PySem.W.isFn K (.ref fm0) = true)
    (lm0 : K.lookup fm0 = some ⟨ocm0, odm0, .func (PySem.W.fnOf "__eq__" "Question.__eq__" (defArgs (inClass cQuestion 1)) (defBody (inClass cQuestion 1)) (defScope (inClass cQuestion 1)) .none kVm0 dcm0 pmm0 anm0 cdm0 ctm0), slm0⟩)
    (cm0 : PySem.W.codeIn K cdm0 "Question.__eq__" = true)
    (km0 : PySem.W.keepIn K (.ref fm0) = true)
    (aq0 : PySem.W.findIn K (.ref C) "told" = some (some (.ref pq0)))
    (sq0 : PySem.W.specialIn K (.ref pq0) "__get__" = some (some (.builtin "property.__get__")))
    (tq0 : PySem.W.takesIn K (.ref pq0) = some true)
    (rq0 : PySem.W.recIn K pq0 "property" = some (.ref fq0 :: rsq0))
    (lq0 : K.lookup fq0 = some ⟨ocq0, odq0, .func (PySem.W.fnOf "told" "Question.told" (defArgs (inClass cQuestion 3)) (defBody (inClass cQuestion 3)) (defScope (inClass cQuestion 3)) .none kVq0 dcq0 pmq0 anq0 cdq0 ctq0), slq0⟩)
    (cq0 : PySem.W.codeIn K cdq0 "Question.told" = true)
    (kq0 : PySem.W.keepIn K (.ref fq0) = true)
    (aq1 : PySem.W.findIn K (.ref C) "pairs" = some (some (.ref pq1)))
    (sq1 : PySem.W.specialIn K (.ref pq1) "__get__" = some (some (.builtin "property.__get__")))
    (tq1 : PySem.W.takesIn K (.ref pq1) = some true)
    (rq1 : PySem.W.recIn K pq1 "property" = some (.ref fq1 :: rsq1))
    (lq1 : K.lookup fq1 = some ⟨ocq1, odq1, .func (PySem.W.fnOf "pairs" "Question.pairs" (defArgs (inClass cQuestion 4)) (defBody (inClass cQuestion 4)) (defScope (inClass cQuestion 4)) .none kVq1 dcq1 pmq1 anq1 cdq1 ctq1), slq1⟩)
    (cq1 : PySem.W.codeIn K cdq1 "Question.pairs" = true)
    (kq1 : PySem.W.keepIn K (.ref fq1) = true) :
    ∃ C, QuestionTop K C :=
  ⟨C, g, ⟨pg, hd, po, sa⟩, ⟨cc, gt, tk, mo, me_of⟩, ne, mk, kc, n0, n1, n2, ⟨fI, _, aI, iI, ⟨⟨_, _, _, _, _, _, _, _, _, _, rfl, lI, cI, .inr ⟨by simp, T, _, [Value.none], nn, rfl, t, rfl, .cons rfl .nil⟩, .inl rfl⟩, kI⟩⟩, ⟨fm0, _, am0, im0, fun_mk lm0 cm0 km0⟩, ⟨pq0, fq0, _, ⟨aq0, sq0, tq0, ⟨_, rq0⟩⟩, fun_mk lq0 cq0 kq0⟩, ⟨pq1, fq1, _, ⟨aq1, sq1, tq1, ⟨_, rq1⟩⟩, fun_mk lq1 cq1 kq1⟩⟩

structure StepTop (K : PySem.W.Frag) (C : Addr) : Prop where
  g : PySem.W.nsIn K mainGlobals "Step" = some (some (.ref C))
  cl : Cls K C
  mks : PySem.W.makesIn K C = true
  kc : PySem.W.keepIn K (.ref C) = true
  n0 : NoAttr K C "kind"
  n1 : NoAttr K C "olds"
  n2 : NoAttr K C "places"
  n3 : NoAttr K C "news"
  n4 : NoAttr K C "twins"
  n5 : NoAttr K C "terms"
  n6 : NoAttr K C "apart"
  init : InitAt0 K C "Step.__init__" (inClass cStep 0)
  m0 : MethAt K C "onward" "Step.onward" (inClass cStep 1)

theorem step_at {K : PySem.W.Frag} {h : Heap} (X : K.In h) {C fI fm0 : Addr} {ocI kVI dcI pmI cdI ctI ocm0 kVm0 dcm0 pmm0 cdm0 ctm0 : Value} {odI anI odm0 anm0 : Option Addr} {slI slm0 : Array (Option Value)} 
    (g : PySem.W.nsIn K mainGlobals "Step" = some (some (.ref C)))
    (pg : PySem.W.plainGet K C Str.empty = true)
    (hd : PySem.W.hasDictIn K C = true)
    (po : PySem.W.plainOver K C = true)
    (sa : PySem.W.findIn K (.ref C) "__setattr__" = some (some (.builtin "object.__setattr__")))
    (mk : PySem.W.makesIn K C = true)
    (kc : PySem.W.keepIn K (.ref C) = true)
    (n0 : PySem.W.findIn K (.ref C) "kind" = some none)
    (n1 : PySem.W.findIn K (.ref C) "olds" = some none)
    (n2 : PySem.W.findIn K (.ref C) "places" = some none)
    (n3 : PySem.W.findIn K (.ref C) "news" = some none)
    (n4 : PySem.W.findIn K (.ref C) "twins" = some none)
    (n5 : PySem.W.findIn K (.ref C) "terms" = some none)
    (n6 : PySem.W.findIn K (.ref C) "apart" = some none)
    (aI : PySem.W.findIn K (.ref C) "__init__" = some (some (.ref fI)))
    (iI : PySem.W.isFn K (.ref fI) = true)
    (lI : K.lookup fI = some ⟨ocI, odI, .func (PySem.W.fnOf "__init__" "Step.__init__" (defArgs (inClass cStep 0)) (defBody (inClass cStep 0)) (defScope (inClass cStep 0)) .none kVI dcI pmI anI cdI ctI), slI⟩)
    (cI : PySem.W.codeIn K cdI "Step.__init__" = true)
    (kI : PySem.W.keepIn K (.ref fI) = true)
    (am0 : PySem.W.findIn K (.ref C) "onward" = some (some (.ref fm0)))
    (im0 : PySem.W.isFn K (.ref fm0) = true)
    (lm0 : K.lookup fm0 = some ⟨ocm0, odm0, .func (PySem.W.fnOf "onward" "Step.onward" (defArgs (inClass cStep 1)) (defBody (inClass cStep 1)) (defScope (inClass cStep 1)) .none kVm0 dcm0 pmm0 anm0 cdm0 ctm0), slm0⟩)
    (cm0 : PySem.W.codeIn K cdm0 "Step.onward" = true)
    (km0 : PySem.W.keepIn K (.ref fm0) = true) :
    ∃ C, StepTop K C :=
  ⟨C, g, ⟨pg, hd, po, sa⟩, mk, kc, n0, n1, n2, n3, n4, n5, n6, ⟨fI, _, aI, iI, fun_mk lI cI kI⟩, ⟨fm0, _, am0, im0, fun_mk lm0 cm0 km0⟩⟩

structure PlanTop (K : PySem.W.Frag) (C : Addr) : Prop where
  g : PySem.W.nsIn K mainGlobals "Plan" = some (some (.ref C))
  cl : Cls K C
  mks : PySem.W.makesIn K C = true
  kc : PySem.W.keepIn K (.ref C) = true
  n0 : NoAttr K C "apart"
  n1 : NoAttr K C "steps"
  n2 : NoAttr K C "terms"
  init : InitAt0 K C "Plan.__init__" (inClass cPlan 0)
  m0 : MethAt K C "rows" "Plan.rows" (inClass cPlan 1)

theorem plan_at {K : PySem.W.Frag} {h : Heap} (X : K.In h) {C fI fm0 : Addr} {ocI kVI dcI pmI cdI ctI ocm0 kVm0 dcm0 pmm0 cdm0 ctm0 : Value} {odI anI odm0 anm0 : Option Addr} {slI slm0 : Array (Option Value)} 
    (g : PySem.W.nsIn K mainGlobals "Plan" = some (some (.ref C)))
    (pg : PySem.W.plainGet K C Str.empty = true)
    (hd : PySem.W.hasDictIn K C = true)
    (po : PySem.W.plainOver K C = true)
    (sa : PySem.W.findIn K (.ref C) "__setattr__" = some (some (.builtin "object.__setattr__")))
    (mk : PySem.W.makesIn K C = true)
    (kc : PySem.W.keepIn K (.ref C) = true)
    (n0 : PySem.W.findIn K (.ref C) "apart" = some none)
    (n1 : PySem.W.findIn K (.ref C) "steps" = some none)
    (n2 : PySem.W.findIn K (.ref C) "terms" = some none)
    (aI : PySem.W.findIn K (.ref C) "__init__" = some (some (.ref fI)))
    (iI : PySem.W.isFn K (.ref fI) = true)
    (lI : K.lookup fI = some ⟨ocI, odI, .func (PySem.W.fnOf "__init__" "Plan.__init__" (defArgs (inClass cPlan 0)) (defBody (inClass cPlan 0)) (defScope (inClass cPlan 0)) .none kVI dcI pmI anI cdI ctI), slI⟩)
    (cI : PySem.W.codeIn K cdI "Plan.__init__" = true)
    (kI : PySem.W.keepIn K (.ref fI) = true)
    (am0 : PySem.W.findIn K (.ref C) "rows" = some (some (.ref fm0)))
    (im0 : PySem.W.isFn K (.ref fm0) = true)
    (lm0 : K.lookup fm0 = some ⟨ocm0, odm0, .func (PySem.W.fnOf "rows" "Plan.rows" (defArgs (inClass cPlan 1)) (defBody (inClass cPlan 1)) (defScope (inClass cPlan 1)) .none kVm0 dcm0 pmm0 anm0 cdm0 ctm0), slm0⟩)
    (cm0 : PySem.W.codeIn K cdm0 "Plan.rows" = true)
    (km0 : PySem.W.keepIn K (.ref fm0) = true) :
    ∃ C, PlanTop K C :=
  ⟨C, g, ⟨pg, hd, po, sa⟩, mk, kc, n0, n1, n2, ⟨fI, _, aI, iI, fun_mk lI cI kI⟩, ⟨fm0, _, am0, im0, fun_mk lm0 cm0 km0⟩⟩

end Nv
set_option maxHeartbeats 8000000
namespace Nv
open PySem PySem.Spec PyProof.Rows L2
theorem binds_rule {K : PySem.W.Frag} {f : Addr} {fd : FuncData} (F : FunD K "__init__" "Rule.__init__" (defArgs sRuleInit) (defBody sRuleInit) (defScope sRuleInit) [.non, .non] [] f fd) : ∀ n, n ≤ ([Value.none, Value.none] : List Value).length → Binds K fd ["self", "label", "head", "told", "pairs", "denied"] (([Value.none, Value.none] : List Value).drop n) := by
  obtain ⟨oc, od, dV, kV, doc, pm, an, cdv, ct, osl, rfl, lk, hcd, hD, hK⟩ := F.ex
  rcases hD with ⟨e, _⟩ | ⟨_, T, o, its, m, rfl, lT, oT, rT⟩
  · cases e
  · cases rT with
    | cons r0 rn =>
      cases rn with
      | cons r1 rn =>
        cases rn
        cases r0
        cases r1
        intro n hn s us X hl
        have hn2 : n ≤ 2 := hn
        rcases (by omega : n = 0 ∨ n = 1 ∨ n = 2) with rfl | rfl | rfl
        · have h4 : us.length = 4 := by simpa using hl
          match us, h4 with
          | [_, _, _, _], _ => exact BindsTo.of_looks fun M => looks_items X lT oT (.of_pure rfl)
        · have h4 : us.length = 5 := by simpa using hl
          match us, h4 with
          | [_, _, _, _, _], _ => exact BindsTo.of_looks fun M => looks_items X lT oT (.of_pure rfl)
        · have h4 : us.length = 6 := by simpa using hl
          match us, h4 with
          | [_, _, _, _, _, _], _ => exact BindsTo.of_looks fun M => looks_items X lT oT (.of_pure rfl)
theorem binds_q {K : PySem.W.Frag} {f : Addr} {fd : FuncData} (F : FunD K "__init__" "Question.__init__" (defArgs sQInit) (defBody sQInit) (defScope sQInit) [.non] [] f fd) : ∀ n, n ≤ ([Value.none] : List Value).length → Binds K fd ["self", "columns", "told", "pairs"] (([Value.none] : List Value).drop n) := by
  obtain ⟨oc, od, dV, kV, doc, pm, an, cdv, ct, osl, rfl, lk, hcd, hD, hK⟩ := F.ex
  rcases hD with ⟨e, _⟩ | ⟨_, T, o, its, m, rfl, lT, oT, rT⟩
  · cases e
  · cases rT with
    | cons r0 rn =>
      cases rn
      cases r0
      intro n hn s us X hl
      have hn2 : n ≤ 1 := hn
      rcases (by omega : n = 0 ∨ n = 1) with rfl | rfl
      · have h4 : us.length = 3 := by simpa using hl
        match us, h4 with
        | [_, _, _], _ => exact BindsTo.of_looks fun M => looks_items X lT oT (.of_pure rfl)
      · have h4 : us.length = 4 := by simpa using hl
        match us, h4 with
        | [_, _, _, _], _ => exact BindsTo.of_looks fun M => looks_items X lT oT (.of_pure rfl)
theorem kb_rule {K : PySem.W.Frag} {f : Addr} {fd : FuncData} (F : FunD K "__init__" "Rule.__init__" (defArgs sRuleInit) (defBody sRuleInit) (defScope sRuleInit) [.non, .non] [] f fd) : ∃ g, KBn K fd ["self", "label", "head", "told", "pairs", "denied"] 1 ["denied", "pairs", "told", "head", "label"] g (fun vs zs => vs ++ zs.reverse) := by
  obtain ⟨its, h⟩ := FunD.kbindsD (ps := ["self", "label", "head", "told", "pairs", "denied"]) F 1 ["denied", "pairs", "told", "head", "label"] (fun us _ ws => us ++ ws.reverse) (by simp) (fun a _ b => a.append b.reverse) fun T kV doc pm an cdv ct us its ws l1 l2 l3 =>
    match us, its, ws, l1, l2, l3 with
    | [_], [_, _], [_, _, _, _, _], _, _, _ => ⟨_, rfl, rfl⟩
  exact ⟨_, h⟩
theorem kb_q {K : PySem.W.Frag} {f : Addr} {fd : FuncData} (F : FunD K "__init__" "Question.__init__" (defArgs sQInit) (defBody sQInit) (defScope sQInit) [.non] [] f fd) : ∃ g, KBn K fd ["self", "columns", "told", "pairs"] 1 ["pairs", "told", "columns"] g (fun vs zs => vs ++ zs.reverse) := by
  obtain ⟨its, h⟩ := FunD.kbindsD (ps := ["self", "columns", "told", "pairs"]) F 1 ["pairs", "told", "columns"] (fun us _ ws => us ++ ws.reverse) (by simp) (fun a _ b => a.append b.reverse) fun T kV doc pm an cdv ct us its ws l1 l2 l3 =>
    match us, its, ws, l1, l2, l3 with
    | [_], [_], [_, _, _], _, _, _ => ⟨_, rfl, rfl⟩
  exact ⟨_, h⟩
theorem law_at {P : Program} {w : World} {K : PySem.W.Frag} {mg : Str → Option Value} {h : Heap} {fa : Addr} (X : K.In h) (G : h.Ns mainGlobals mg) (hfa : mg "law" = some (.ref fa)) {CR CQ CB CS CP : Addr} (TR : RuleTop K CR) (TB : BookTop K CB) (TQ : QuestionTop K CQ) (TS : StepTop K CS) (TP : PlanTop K CP)
    (g_perm : PySem.W.nsIn K mainGlobals "permutations" = some (some (.type "itertools.permutations")))
    (z_isinstance : PySem.W.nsIn K mainGlobals "isinstance" = some none) (z_str : PySem.W.nsIn K mainGlobals "str" = some none) (z_tuple : PySem.W.nsIn K mainGlobals "tuple" = some none) (z_list : PySem.W.nsIn K mainGlobals "list" = some none) (z_set : PySem.W.nsIn K mainGlobals "set" = some none) (z_len : PySem.W.nsIn K mainGlobals "len" = some none) (z_all : PySem.W.nsIn K mainGlobals "all" = some none) (z_any : PySem.W.nsIn K mainGlobals "any" = some none) (z_range : PySem.W.nsIn K mainGlobals "range" = some none) (z_sum : PySem.W.nsIn K mainGlobals "sum" = some none) (z_max : PySem.W.nsIn K mainGlobals "max" = some none) (z_min : PySem.W.nsIn K mainGlobals "min" = some none) (z_int : PySem.W.nsIn K mainGlobals "int" = some none) (z_enumerate : PySem.W.nsIn K mainGlobals "enumerate" = some none) (z_zip : PySem.W.nsIn K mainGlobals "zip" = some none) (z_sorted : PySem.W.nsIn K mainGlobals "sorted" = some none) (z_dict : PySem.W.nsIn K mainGlobals "dict" = some none)
    (d_isName : DefAt K "is_name" sIsName)
    (d_isVar : DefAt K "is_variable" sIsVar)
    (d_isTerm : DefAt K "is_term" sIsTerm)
    (d_isFact : DefAt K "is_fact" sIsFact)
    (d_isPattern : DefAt K "is_pattern" sIsPattern)
    (d_isStore : DefAt K "is_store" sIsStore)
    (d_isPatterns : DefAt K "is_patterns" sIsPatterns)
    (d_isPair : DefAt K "is_pair" sIsPair)
    (d_isPairs : DefAt K "is_pairs" sIsPairs)
    (d_kindOf : DefAt K "kind_of" sKindOf)
    (d_termsOf : DefAt K "terms_of" sTermsOf)
    (d_sides : DefAt K "sides_of" sSides)
    (d_varsAmong : DefAt K "variables_among" sVarsAmong)
    (d_namesAmong : DefAt K "names_among" sNamesAmong)
    (d_varsOf : DefAt K "variables_of" sVarsOf)
    (d_hasMore : DefAt K "has_more" sHasMore)
    (d_filled : DefAt K "filled" sFilled)
    (d_byKind : DefAt K "by_kind" sByKind)
    (d_namesIn : DefAt K "names_in" sNamesIn)
    (d_knows : DefAt K "_knows" sKnows)
    (d_placesOf : DefAt K "_places_of_pairs" sPlacesOfPairs)
    (d_keptApart : DefAt K "_kept_apart" sKeptApart)
    (d_met : DefAt K "met" sMet)
    (d_metNumbers : DefAt K "met_numbers" sMetNumbers)
    (d_hasDouble : DefAt K "_has_double" sHasDouble)
    (d_place : DefAt K "_place" sPlace)
    (d_needFact : DefAt K "need_fact" sNeedFact)
    (d_needStore : DefAt K "need_store" sNeedStore)
    (d_needQ : DefAt K "need_question" sNeedQuestion)
    (d_chosen : DefAt K "_chosen" sChosen)
    (d_sumAlong : DefAt K "_sum_along" sSumAlong)
    (d_stands : DefAt K "_stands" sStands)
    (d_varsQ : DefAt K "variables" sVarsQ)
    (d_matches : DefAt K "matches" sMatches)
    (d_count : DefAt K "count_matches" sCount)
    (d_matchesWith : DefAt K "matches_with" sMatchesWith)
    (d_partials : DefAt K "partials" sPartials)
    (d_best : DefAt K "best_order" sBestOrder)
    (d_purse : DefAt K "_law_purse" sPurse)
    (d_mixed : DefAt K "_law_mixed" sMixed)
    (d_draw : DefAt K "_law_draw" sDraw)
    (d_purses : DefAt K "_law_purses" sPurses)
    (d_oneOf : DefAt K "_law_one_of" sOneOf)
    (d_parts : DefAt K "_law_parts" sParts)
    (d_bags : DefAt K "_law_bags" sBags)
    (d_madeRight : DefAt K "_law_made_right" sMadeRight)
    (d_law : DefAt K "law" sLaw) :
    ∃ fd : FuncData, (∀ (s : Shared) (u : Value), BindsTo s fd ⟨[u], []⟩ [("_law_script", u)]) ∧
      ∀ base : Heap, K.In base → base.Ns mainGlobals mg → FnOk P w K mg base CX0 9 fa fd ["_law_script"] (spLaw K) := by
  obtain ⟨f_isName, e_isName, g_isName, F_isName⟩ := d_isName
  have m_isName := PySem.W.mg_of X G g_isName
  have b_isName : Binds K e_isName ["value"] [] := F_isName.binds (ps := ["value"]) fun _ _ _ _ _ _ us hl => match us, hl with | [_], _ => rfl
  obtain ⟨f_isVar, e_isVar, g_isVar, F_isVar⟩ := d_isVar
  have m_isVar := PySem.W.mg_of X G g_isVar
  have b_isVar : Binds K e_isVar ["value"] [] := F_isVar.binds (ps := ["value"]) fun _ _ _ _ _ _ us hl => match us, hl with | [_], _ => rfl
  obtain ⟨f_isTerm, e_isTerm, g_isTerm, F_isTerm⟩ := d_isTerm
  have m_isTerm := PySem.W.mg_of X G g_isTerm
  have b_isTerm : Binds K e_isTerm ["value"] [] := F_isTerm.binds (ps := ["value"]) fun _ _ _ _ _ _ us hl => match us, hl with | [_], _ => rfl
  obtain ⟨f_isFact, e_isFact, g_isFact, F_isFact⟩ := d_isFact
  have m_isFact := PySem.W.mg_of X G g_isFact
  have b_isFact : Binds K e_isFact ["value"] [] := F_isFact.binds (ps := ["value"]) fun _ _ _ _ _ _ us hl => match us, hl with | [_], _ => rfl
  obtain ⟨f_isPattern, e_isPattern, g_isPattern, F_isPattern⟩ := d_isPattern
  have m_isPattern := PySem.W.mg_of X G g_isPattern
  have b_isPattern : Binds K e_isPattern ["value"] [] := F_isPattern.binds (ps := ["value"]) fun _ _ _ _ _ _ us hl => match us, hl with | [_], _ => rfl
  obtain ⟨f_isStore, e_isStore, g_isStore, F_isStore⟩ := d_isStore
  have m_isStore := PySem.W.mg_of X G g_isStore
  have b_isStore : Binds K e_isStore ["value"] [] := F_isStore.binds (ps := ["value"]) fun _ _ _ _ _ _ us hl => match us, hl with | [_], _ => rfl
  obtain ⟨f_isPatterns, e_isPatterns, g_isPatterns, F_isPatterns⟩ := d_isPatterns
  have m_isPatterns := PySem.W.mg_of X G g_isPatterns
  have b_isPatterns : Binds K e_isPatterns ["value"] [] := F_isPatterns.binds (ps := ["value"]) fun _ _ _ _ _ _ us hl => match us, hl with | [_], _ => rfl
  obtain ⟨f_isPair, e_isPair, g_isPair, F_isPair⟩ := d_isPair
  have m_isPair := PySem.W.mg_of X G g_isPair
  have b_isPair : Binds K e_isPair ["value"] [] := F_isPair.binds (ps := ["value"]) fun _ _ _ _ _ _ us hl => match us, hl with | [_], _ => rfl
  obtain ⟨f_isPairs, e_isPairs, g_isPairs, F_isPairs⟩ := d_isPairs
  have m_isPairs := PySem.W.mg_of X G g_isPairs
  have b_isPairs : Binds K e_isPairs ["value"] [] := F_isPairs.binds (ps := ["value"]) fun _ _ _ _ _ _ us hl => match us, hl with | [_], _ => rfl
  obtain ⟨f_kindOf, e_kindOf, g_kindOf, F_kindOf⟩ := d_kindOf
  have m_kindOf := PySem.W.mg_of X G g_kindOf
  have b_kindOf : Binds K e_kindOf ["pattern"] [] := F_kindOf.binds (ps := ["pattern"]) fun _ _ _ _ _ _ us hl => match us, hl with | [_], _ => rfl
  obtain ⟨f_termsOf, e_termsOf, g_termsOf, F_termsOf⟩ := d_termsOf
  have m_termsOf := PySem.W.mg_of X G g_termsOf
  have b_termsOf : Binds K e_termsOf ["patterns"] [] := F_termsOf.binds (ps := ["patterns"]) fun _ _ _ _ _ _ us hl => match us, hl with | [_], _ => rfl
  obtain ⟨f_sides, e_sides, g_sides, F_sides⟩ := d_sides
  have m_sides := PySem.W.mg_of X G g_sides
  have b_sides : Binds K e_sides ["pairs"] [] := F_sides.binds (ps := ["pairs"]) fun _ _ _ _ _ _ us hl => match us, hl with | [_], _ => rfl
  obtain ⟨f_varsAmong, e_varsAmong, g_varsAmong, F_varsAmong⟩ := d_varsAmong
  have m_varsAmong := PySem.W.mg_of X G g_varsAmong
  have b_varsAmong : Binds K e_varsAmong ["terms"] [] := F_varsAmong.binds (ps := ["terms"]) fun _ _ _ _ _ _ us hl => match us, hl with | [_], _ => rfl
  obtain ⟨f_namesAmong, e_namesAmong, g_namesAmong, F_namesAmong⟩ := d_namesAmong
  have m_namesAmong := PySem.W.mg_of X G g_namesAmong
  have b_namesAmong : Binds K e_namesAmong ["terms"] [] := F_namesAmong.binds (ps := ["terms"]) fun _ _ _ _ _ _ us hl => match us, hl with | [_], _ => rfl
  obtain ⟨f_varsOf, e_varsOf, g_varsOf, F_varsOf⟩ := d_varsOf
  have m_varsOf := PySem.W.mg_of X G g_varsOf
  have b_varsOf : Binds K e_varsOf ["patterns"] [] := F_varsOf.binds (ps := ["patterns"]) fun _ _ _ _ _ _ us hl => match us, hl with | [_], _ => rfl
  obtain ⟨f_hasMore, e_hasMore, g_hasMore, F_hasMore⟩ := d_hasMore
  have m_hasMore := PySem.W.mg_of X G g_hasMore
  have b_hasMore : Binds K e_hasMore ["terms", "told"] [] := F_hasMore.binds (ps := ["terms", "told"]) fun _ _ _ _ _ _ us hl => match us, hl with | [_, _], _ => rfl
  obtain ⟨f_filled, e_filled, g_filled, F_filled⟩ := d_filled
  have m_filled := PySem.W.mg_of X G g_filled
  have b_filled : Binds K e_filled ["pattern", "binding"] [] := F_filled.binds (ps := ["pattern", "binding"]) fun _ _ _ _ _ _ us hl => match us, hl with | [_, _], _ => rfl
  obtain ⟨f_byKind, e_byKind, g_byKind, F_byKind⟩ := d_byKind
  have m_byKind := PySem.W.mg_of X G g_byKind
  have b_byKind : Binds K e_byKind ["facts"] [] := F_byKind.binds (ps := ["facts"]) fun _ _ _ _ _ _ us hl => match us, hl with | [_], _ => rfl
  obtain ⟨f_namesIn, e_namesIn, g_namesIn, F_namesIn⟩ := d_namesIn
  have m_namesIn := PySem.W.mg_of X G g_namesIn
  have b_namesIn : Binds K e_namesIn ["patterns", "pairs"] [] := F_namesIn.binds (ps := ["patterns", "pairs"]) fun _ _ _ _ _ _ us hl => match us, hl with | [_, _], _ => rfl
  obtain ⟨f_knows, e_knows, g_knows, F_knows⟩ := d_knows
  have m_knows := PySem.W.mg_of X G g_knows
  have b_knows : Binds K e_knows ["terms", "pair"] [] := F_knows.binds (ps := ["terms", "pair"]) fun _ _ _ _ _ _ us hl => match us, hl with | [_, _], _ => rfl
  obtain ⟨f_placesOf, e_placesOf, g_placesOf, F_placesOf⟩ := d_placesOf
  have m_placesOf := PySem.W.mg_of X G g_placesOf
  have b_placesOf : Binds K e_placesOf ["terms", "pairs"] [] := F_placesOf.binds (ps := ["terms", "pairs"]) fun _ _ _ _ _ _ us hl => match us, hl with | [_, _], _ => rfl
  obtain ⟨f_keptApart, e_keptApart, g_keptApart, F_keptApart⟩ := d_keptApart
  have m_keptApart := PySem.W.mg_of X G g_keptApart
  have b_keptApart : Binds K e_keptApart ["rows", "apart"] [] := F_keptApart.binds (ps := ["rows", "apart"]) fun _ _ _ _ _ _ us hl => match us, hl with | [_, _], _ => rfl
  obtain ⟨f_met, e_met, g_met, F_met⟩ := d_met
  have m_met := PySem.W.mg_of X G g_met
  have b_met : Binds K e_met ["told", "pairs", "shelf"] [] := F_met.binds (ps := ["told", "pairs", "shelf"]) fun _ _ _ _ _ _ us hl => match us, hl with | [_, _, _], _ => rfl
  obtain ⟨f_metNumbers, e_metNumbers, g_metNumbers, F_metNumbers⟩ := d_metNumbers
  have m_metNumbers := PySem.W.mg_of X G g_metNumbers
  have b_metNumbers : Binds K e_metNumbers ["told", "pairs", "shelf"] [] := F_metNumbers.binds (ps := ["told", "pairs", "shelf"]) fun _ _ _ _ _ _ us hl => match us, hl with | [_, _, _], _ => rfl
  obtain ⟨f_hasDouble, e_hasDouble, g_hasDouble, F_hasDouble⟩ := d_hasDouble
  have m_hasDouble := PySem.W.mg_of X G g_hasDouble
  have b_hasDouble : Binds K e_hasDouble ["labels"] [] := F_hasDouble.binds (ps := ["labels"]) fun _ _ _ _ _ _ us hl => match us, hl with | [_], _ => rfl
  obtain ⟨f_place, e_place, g_place, F_place⟩ := d_place
  have m_place := PySem.W.mg_of X G g_place
  have b_place : Binds K e_place ["label", "labels"] [] := F_place.binds (ps := ["label", "labels"]) fun _ _ _ _ _ _ us hl => match us, hl with | [_, _], _ => rfl
  obtain ⟨f_needFact, e_needFact, g_needFact, F_needFact⟩ := d_needFact
  have m_needFact := PySem.W.mg_of X G g_needFact
  have b_needFact : Binds K e_needFact ["value"] [] := F_needFact.binds (ps := ["value"]) fun _ _ _ _ _ _ us hl => match us, hl with | [_], _ => rfl
  obtain ⟨f_needStore, e_needStore, g_needStore, F_needStore⟩ := d_needStore
  have m_needStore := PySem.W.mg_of X G g_needStore
  have b_needStore : Binds K e_needStore ["value"] [] := F_needStore.binds (ps := ["value"]) fun _ _ _ _ _ _ us hl => match us, hl with | [_], _ => rfl
  obtain ⟨f_needQ, e_needQ, g_needQ, F_needQ⟩ := d_needQ
  have m_needQ := PySem.W.mg_of X G g_needQ
  have b_needQ : Binds K e_needQ ["value"] [] := F_needQ.binds (ps := ["value"]) fun _ _ _ _ _ _ us hl => match us, hl with | [_], _ => rfl
  obtain ⟨f_chosen, e_chosen, g_chosen, F_chosen⟩ := d_chosen
  have m_chosen := PySem.W.mg_of X G g_chosen
  have b_chosen : Binds K e_chosen ["told", "choice"] [] := F_chosen.binds (ps := ["told", "choice"]) fun _ _ _ _ _ _ us hl => match us, hl with | [_, _], _ => rfl
  obtain ⟨f_sumAlong, e_sumAlong, g_sumAlong, F_sumAlong⟩ := d_sumAlong
  have m_sumAlong := PySem.W.mg_of X G g_sumAlong
  have b_sumAlong : Binds K e_sumAlong ["order", "numbers"] [] := F_sumAlong.binds (ps := ["order", "numbers"]) fun _ _ _ _ _ _ us hl => match us, hl with | [_, _], _ => rfl
  obtain ⟨f_stands, e_stands, g_stands, F_stands⟩ := d_stands
  have m_stands := PySem.W.mg_of X G g_stands
  have b_stands : Binds K e_stands ["fact", "told", "binding"] [] := F_stands.binds (ps := ["fact", "told", "binding"]) fun _ _ _ _ _ _ us hl => match us, hl with | [_, _, _], _ => rfl
  obtain ⟨f_varsQ, e_varsQ, g_varsQ, F_varsQ⟩ := d_varsQ
  have m_varsQ := PySem.W.mg_of X G g_varsQ
  have b_varsQ : Binds K e_varsQ ["question"] [] := F_varsQ.binds (ps := ["question"]) fun _ _ _ _ _ _ us hl => match us, hl with | [_], _ => rfl
  obtain ⟨f_matches, e_matches, g_matches, F_matches⟩ := d_matches
  have m_matches := PySem.W.mg_of X G g_matches
  have b_matches : Binds K e_matches ["question", "store"] [] := F_matches.binds (ps := ["question", "store"]) fun _ _ _ _ _ _ us hl => match us, hl with | [_, _], _ => rfl
  obtain ⟨f_count, e_count, g_count, F_count⟩ := d_count
  have m_count := PySem.W.mg_of X G g_count
  have b_count : Binds K e_count ["question", "store"] [] := F_count.binds (ps := ["question", "store"]) fun _ _ _ _ _ _ us hl => match us, hl with | [_, _], _ => rfl
  obtain ⟨f_matchesWith, e_matchesWith, g_matchesWith, F_matchesWith⟩ := d_matchesWith
  have m_matchesWith := PySem.W.mg_of X G g_matchesWith
  have b_matchesWith : Binds K e_matchesWith ["question", "store", "fact"] [] := F_matchesWith.binds (ps := ["question", "store", "fact"]) fun _ _ _ _ _ _ us hl => match us, hl with | [_, _, _], _ => rfl
  obtain ⟨f_partials, e_partials, g_partials, F_partials⟩ := d_partials
  have m_partials := PySem.W.mg_of X G g_partials
  have b_partials : Binds K e_partials ["question", "store"] [] := F_partials.binds (ps := ["question", "store"]) fun _ _ _ _ _ _ us hl => match us, hl with | [_, _], _ => rfl
  obtain ⟨f_best, e_best, g_best, F_best⟩ := d_best
  have m_best := PySem.W.mg_of X G g_best
  have b_best : Binds K e_best ["question", "store"] [] := F_best.binds (ps := ["question", "store"]) fun _ _ _ _ _ _ us hl => match us, hl with | [_, _], _ => rfl
  obtain ⟨f_purse, e_purse, g_purse, F_purse⟩ := d_purse
  have m_purse := PySem.W.mg_of X G g_purse
  have b_purse : Binds K e_purse ["_law_script", "_law_at"] [] := F_purse.binds (ps := ["_law_script", "_law_at"]) fun _ _ _ _ _ _ us hl => match us, hl with | [_, _], _ => rfl
  obtain ⟨f_mixed, e_mixed, g_mixed, F_mixed⟩ := d_mixed
  have m_mixed := PySem.W.mg_of X G g_mixed
  have b_mixed : Binds K e_mixed ["_law_seed", "_law_turn", "_law_at"] [] := F_mixed.binds (ps := ["_law_seed", "_law_turn", "_law_at"]) fun _ _ _ _ _ _ us hl => match us, hl with | [_, _, _], _ => rfl
  obtain ⟨f_draw, e_draw, g_draw, F_draw⟩ := d_draw
  have m_draw := PySem.W.mg_of X G g_draw
  have b_draw : Binds K e_draw ["_law_purse_here", "_law_many"] [] := F_draw.binds (ps := ["_law_purse_here", "_law_many"]) fun _ _ _ _ _ _ us hl => match us, hl with | [_, _], _ => rfl
  obtain ⟨f_purses, e_purses, g_purses, F_purses⟩ := d_purses
  have m_purses := PySem.W.mg_of X G g_purses
  have b_purses : Binds K e_purses ["_law_script", "_law_few"] [] := F_purses.binds (ps := ["_law_script", "_law_few"]) fun _ _ _ _ _ _ us hl => match us, hl with | [_, _], _ => rfl
  obtain ⟨f_oneOf, e_oneOf, g_oneOf, F_oneOf⟩ := d_oneOf
  have m_oneOf := PySem.W.mg_of X G g_oneOf
  have b_oneOf : Binds K e_oneOf ["_law_purse_here", "_law_some"] [] := F_oneOf.binds (ps := ["_law_purse_here", "_law_some"]) fun _ _ _ _ _ _ us hl => match us, hl with | [_, _], _ => rfl
  obtain ⟨f_parts, e_parts, g_parts, F_parts⟩ := d_parts
  have m_parts := PySem.W.mg_of X G g_parts
  have b_parts : Binds K e_parts ["_law_purse_here"] [] := F_parts.binds (ps := ["_law_purse_here"]) fun _ _ _ _ _ _ us hl => match us, hl with | [_], _ => rfl
  obtain ⟨f_bags, e_bags, g_bags, F_bags⟩ := d_bags
  have m_bags := PySem.W.mg_of X G g_bags
  have b_bags : Binds K e_bags ["_law_purse_here"] [] := F_bags.binds (ps := ["_law_purse_here"]) fun _ _ _ _ _ _ us hl => match us, hl with | [_], _ => rfl
  obtain ⟨f_madeRight, e_madeRight, g_madeRight, F_madeRight⟩ := d_madeRight
  have m_madeRight := PySem.W.mg_of X G g_madeRight
  have b_madeRight : Binds K e_madeRight ["_law_body", "_law_gaps", "_law_bars", "_law_tops"] [] := F_madeRight.binds (ps := ["_law_body", "_law_gaps", "_law_bars", "_law_tops"]) fun _ _ _ _ _ _ us hl => match us, hl with | [_, _, _, _], _ => rfl
  obtain ⟨f_law, e_law, g_law, F_law⟩ := d_law
  have m_law := PySem.W.mg_of X G g_law
  have b_law : Binds K e_law ["_law_script"] [] := F_law.binds (ps := ["_law_script"]) fun _ _ _ _ _ _ us hl => match us, hl with | [_], _ => rfl
  have B : Bp mg := ⟨PySem.W.mg_none_of X G z_isinstance, PySem.W.mg_none_of X G z_str, PySem.W.mg_none_of X G z_tuple, PySem.W.mg_none_of X G z_list, PySem.W.mg_none_of X G z_set, PySem.W.mg_none_of X G z_len, PySem.W.mg_none_of X G z_all, PySem.W.mg_none_of X G z_any⟩
  have B2 : Bl mg := ⟨PySem.W.mg_none_of X G z_range, PySem.W.mg_none_of X G z_len, PySem.W.mg_none_of X G z_sum, PySem.W.mg_none_of X G z_max, PySem.W.mg_none_of X G z_min, PySem.W.mg_none_of X G z_int, PySem.W.mg_none_of X G z_tuple⟩
  have en := PySem.W.mg_none_of X G z_enumerate
  have zp := PySem.W.mg_none_of X G z_zip
  have so := PySem.W.mg_none_of X G z_sorted
  have md := PySem.W.mg_none_of X G z_dict
  have pm := PySem.W.mg_of X G g_perm
  have e := hfa.symm.trans m_law
  cases e
  refine ⟨e_law, fun s u => ?_, fun base _ _ => ?_⟩
  · obtain ⟨oc, od, kV, doc, pm, an, cdv, ct, osl, rfl, lk, hcd⟩ := F_law.ex
    exact .of_eq rfl
  · skip
    have G_isName : FnOk P w K mg base CX0 1 f_isName e_isName ["value"] _ := ok_isName F_isName B
    have G_isVar : FnOk P w K mg base CX0 1 f_isVar e_isVar ["value"] _ := ok_isVar F_isVar B
    have G_isTerm : FnOk P w K mg base CX0 2 f_isTerm e_isTerm ["value"] _ := ok_isTerm F_isTerm G_isName F_isName.kp m_isName b_isName G_isVar F_isVar.kp m_isVar b_isVar
    have G_isFact : FnOk P w K mg base CX0 3 f_isFact e_isFact ["value"] _ := ok_isFact F_isFact B G_isName F_isName.kp m_isName b_isName
    have G_isStore : FnOk P w K mg base CX0 4 f_isStore e_isStore ["value"] _ := ok_isStore F_isStore B G_isFact F_isFact.kp m_isFact b_isFact
    have G_isPattern : FnOk P w K mg base CX0 3 f_isPattern e_isPattern ["value"] (spTup K patB) := ok_isPattern F_isPattern B G_isName F_isName.kp m_isName b_isName G_isTerm F_isTerm.kp m_isTerm b_isTerm
    have G_isPatterns : FnOk P w K mg base CX0 4 f_isPatterns e_isPatterns ["value"] (spLst K patB) := ok_isPatterns F_isPatterns B G_isPattern F_isPattern.kp m_isPattern b_isPattern
    have G_isPair : FnOk P w K mg base CX0 3 f_isPair e_isPair ["value"] (spTup K prB) := ok_isPair F_isPair B G_isTerm F_isTerm.kp m_isTerm b_isTerm G_isVar F_isVar.kp m_isVar b_isVar
    have G_isPairs : FnOk P w K mg base CX0 4 f_isPairs e_isPairs ["value"] (spLst K prB) := ok_isPairs F_isPairs B G_isPair F_isPair.kp m_isPair b_isPair
    have G_kindOf : FnOk P w K mg base CX0 1 f_kindOf e_kindOf ["pattern"] _ := ok_kindOf F_kindOf B
    have G_termsOf : FnOk P w K mg base CX0 1 f_termsOf e_termsOf ["patterns"] _ := ok_termsOf F_termsOf
    have G_sides : FnOk P w K mg base CX0 1 f_sides e_sides ["pairs"] _ := ok_sides F_sides
    have G_varsAmong : FnOk P w K mg base CX0 2 f_varsAmong e_varsAmong ["terms"] _ := ok_varsAmong F_varsAmong B G_isVar F_isVar.kp m_isVar b_isVar
    have G_namesAmong : FnOk P w K mg base CX0 2 f_namesAmong e_namesAmong ["terms"] _ := ok_namesAmong F_namesAmong so G_isName F_isName.kp m_isName b_isName
    have G_varsOf : FnOk P w K mg base CX0 3 f_varsOf e_varsOf ["patterns"] _ := ok_varsOf F_varsOf G_termsOf F_termsOf.kp m_termsOf b_termsOf G_varsAmong F_varsAmong.kp m_varsAmong b_varsAmong
    have G_hasMore : FnOk P w K mg base CX0 4 f_hasMore e_hasMore ["terms", "told"] _ := ok_hasMore F_hasMore B G_varsAmong F_varsAmong.kp m_varsAmong b_varsAmong G_varsOf F_varsOf.kp m_varsOf b_varsOf
    have G_filled : FnOk P w K mg base CX0 1 f_filled e_filled ["pattern", "binding"] _ := ok_filled F_filled B
    have G_byKind : FnOk P w K mg base CX0 2 f_byKind e_byKind ["facts"] _ := ok_byKind F_byKind G_kindOf F_kindOf.kp m_kindOf b_kindOf
    have G_namesIn : FnOk P w K mg base CX0 3 f_namesIn e_namesIn ["patterns", "pairs"] _ := ok_namesIn (k := 2) F_namesIn (by decide) G_namesAmong F_namesAmong.kp m_namesAmong b_namesAmong G_termsOf F_termsOf.kp m_termsOf b_termsOf G_sides F_sides.kp m_sides b_sides
    have G_knows : FnOk P w K mg base CX0 1 f_knows e_knows ["terms", "pair"] _ := ok_knows F_knows
    have G_placesOf : FnOk P w K mg base CX0 1 f_placesOf e_placesOf ["terms", "pairs"] _ := ok_placesOf F_placesOf
    have G_keptApart : FnOk P w K mg base CX0 1 f_keptApart e_keptApart ["rows", "apart"] _ := ok_keptApart F_keptApart
    -- Step and Plan
    have SS : SC K CS := ⟨TS.cl, TS.n0, TS.n1, TS.n2, TS.n3, TS.n4, TS.n5, TS.n6⟩
    have PP : PNC K CP := ⟨TP.cl, TP.n0, TP.n1, TP.n2⟩
    have gS := PySem.W.mg_of X G TS.g
    have gP := PySem.W.mg_of X G TP.g
    obtain ⟨fSI, dSI, aSI, iSI, FSI⟩ := TS.init
    obtain ⟨fSO, dSO, aSO, iSO, FSO⟩ := TS.m0
    obtain ⟨fPI, dPI, aPI, iPI, FPI⟩ := TP.init
    obtain ⟨fPR, dPR, aPR, iPR, FPR⟩ := TP.m0
    have bSI : Binds K dSI ["self", "pattern", "terms", "pairs"] [] := FSI.binds (ps := ["self", "pattern", "terms", "pairs"]) fun _ _ _ _ _ _ us hl => match us, hl with | [_, _, _, _], _ => rfl
    have bSO : Binds K dSO ["self", "rows", "facts"] [] := FSO.binds (ps := ["self", "rows", "facts"]) fun _ _ _ _ _ _ us hl => match us, hl with | [_, _, _], _ => rfl
    have bPI : Binds K dPI ["self", "patterns", "pairs", "known"] [] := FPI.binds (ps := ["self", "patterns", "pairs", "known"]) fun _ _ _ _ _ _ us hl => match us, hl with | [_, _, _, _], _ => rfl
    have bPR : Binds K dPR ["self", "first", "shelves"] [] := FPR.binds (ps := ["self", "first", "shelves"]) fun _ _ _ _ _ _ us hl => match us, hl with | [_, _, _], _ => rfl
    have GSI := ok_stepInit FSI B B2.rg SS G_kindOf F_kindOf.kp m_kindOf b_kindOf G_knows F_knows.kp m_knows b_knows G_placesOf F_placesOf.kp m_placesOf b_placesOf
    have GSO := ok_onward FSO B SS G_keptApart F_keptApart.kp m_keptApart b_keptApart
    have GPI := ok_planInit FPI B PP SS GSI ⟨TS.mks, aSI, iSI, TS.kc⟩ gS bSI G_knows F_knows.kp m_knows b_knows G_placesOf F_placesOf.kp m_placesOf b_placesOf
    have GPR := ok_rows FPR zp PP SS GSO ⟨aSO, iSO, FSO.kp⟩ bSO G_keptApart F_keptApart.kp m_keptApart b_keptApart
    have MP : Mk K CP fPI := ⟨TP.mks, aPI, iPI, TP.kc⟩
    have G_met : FnOk P w K mg base CX0 6 f_met e_met ["told", "pairs", "shelf"] _ := ok_met F_met B PP G_namesIn F_namesIn.kp m_namesIn b_namesIn GPI MP gP bPI GPR ⟨aPR, iPR, FPR.kp⟩ bPR
    have G_metNumbers : FnOk P w K mg base CX0 6 f_metNumbers e_metNumbers ["told", "pairs", "shelf"] _ := ok_metNumbers F_metNumbers B PP SS ⟨⟨_, _, G_namesIn, F_namesIn.kp, m_namesIn, b_namesIn⟩⟩ GPI MP gP bPI GSO ⟨aSO, iSO, FSO.kp⟩ bSO
    have G_hasDouble : FnOk P w K mg base CX0 1 f_hasDouble e_hasDouble ["labels"] _ := ok_hasDouble F_hasDouble B
    have G_place : FnOk P w K mg base CX0 1 f_place e_place ["label", "labels"] _ := ok_place F_place
    have G_needFact : FnOk P w K mg base CX0 4 f_needFact e_needFact ["value"] _ := ok_needFact F_needFact G_isFact F_isFact.kp m_isFact b_isFact
    have G_needStore : FnOk P w K mg base CX0 5 f_needStore e_needStore ["value"] _ := ok_needStore F_needStore G_isStore F_isStore.kp m_isStore b_isStore
    have G_chosen : FnOk P w K mg base CX0 1 f_chosen e_chosen ["told", "choice"] _ := ok_chosen F_chosen en
    have G_sumAlong : FnOk P w K mg base CX0 1 f_sumAlong e_sumAlong ["order", "numbers"] _ := ok_sumAlong F_sumAlong
    have G_stands : FnOk P w K mg base CX0 2 f_stands e_stands ["fact", "told", "binding"] _ := ok_stands F_stands G_filled F_filled.kp m_filled b_filled
    -- the classes
    have RR : RC K CR := ⟨TR.cl, TR.n0, TR.n1, TR.n2, TR.n3, TR.n4⟩
    have QQ : QC K CQ := ⟨TQ.cl, TQ.n0, TQ.n1, TQ.n2⟩
    have gR := PySem.W.mg_of X G TR.g
    have gB := PySem.W.mg_of X G TB.g
    have gQ := PySem.W.mg_of X G TQ.g
    have CT : Ct P w K mg base := ⟨⟨_, _, G_isName, F_isName.kp, m_isName, b_isName⟩, ⟨_, _, G_isVar, F_isVar.kp, m_isVar, b_isVar⟩, ⟨_, _, G_isPattern, F_isPattern.kp, m_isPattern, b_isPattern⟩, ⟨_, _, G_isPatterns, F_isPatterns.kp, m_isPatterns, b_isPatterns⟩, ⟨_, _, G_isPairs, F_isPairs.kp, m_isPairs, b_isPairs⟩, ⟨_, _, G_termsOf, F_termsOf.kp, m_termsOf, b_termsOf⟩, ⟨_, _, G_sides, F_sides.kp, m_sides, b_sides⟩, ⟨_, _, G_hasMore, F_hasMore.kp, m_hasMore, b_hasMore⟩⟩
    obtain ⟨fRI, dRI, aRI, iRI, FRI⟩ := TR.init
    obtain ⟨fRE, dRE, aRE, iRE, FRE⟩ := TR.m0
    have bRE : Binds K dRE ["self", "other"] [] := FRE.binds (ps := ["self", "other"]) fun _ _ _ _ _ _ us hl => match us, hl with | [_, _], _ => rfl
    have GRI : FnOk P w K mg base CX0 5 fRI dRI ["self", "label", "head", "told", "pairs", "denied"] (spRuleInit CR) := ok_ruleInit FRI B RR CT
    have GRE : FnOk P w K mg base CX0 1 fRE dRE ["self", "other"] (spRuleEq K CR) := ok_ruleEq FRE B RR TR.I gR
    obtain ⟨pp0, gp0, dp0, PO0, FP0⟩ := TR.q0
    have bp0 : Binds K dp0 ["self"] [] := FP0.binds (ps := ["self"]) fun _ _ _ _ _ _ us hl => match us, hl with | [_], _ => rfl
    have Gp0 : FnOk P w K mg base CX0 1 gp0 dp0 ["self"] (getSp CR "_label") := ok_get FP0 ⟨rfl, rfl, rfl, by decide +kernel, rfl, by decide +kernel, by decide +kernel⟩ rfl TR.cl TR.n0
    have LB : PL P w K mg base CR "label" "_label" := ⟨pp0, gp0, dp0, PO0, Gp0, bp0⟩
    obtain ⟨gRK, kRK⟩ := kb_rule FRI
    have MR : MadeA P w K mg base CR "Rule" 5 ["self", "label", "head", "told", "pairs", "denied"] ["denied", "pairs", "told", "head", "label"] (spRuleInit CR) := ⟨⟨fRI, dRI, gRK, GRI, ⟨TR.mks, aRI, iRI, TR.kc⟩, gR, binds_rule FRI 2 (by decide), kRK⟩⟩
    -- the book
    obtain ⟨fBI, dBI, aBI, iBI, FBI⟩ := TB.init
    obtain ⟨f0, d0, a0, i0, F0⟩ := TB.m0
    obtain ⟨f4, d4, a4, i4, F4⟩ := TB.m1
    obtain ⟨f5, d5, a5, i5, F5⟩ := TB.m2
    obtain ⟨f6, d6, a6, i6, F6⟩ := TB.m3
    have bBI : Binds K dBI ["self", "rules"] [] := FBI.binds (ps := ["self", "rules"]) fun _ _ _ _ _ _ us hl => match us, hl with | [_, _], _ => rfl
    have b0 : Binds K d0 ["self", "other"] [] := F0.binds (ps := ["self", "other"]) fun _ _ _ _ _ _ us hl => match us, hl with | [_, _], _ => rfl
    have b4 : Binds K d4 ["self"] [] := F4.binds (ps := ["self"]) fun _ _ _ _ _ _ us hl => match us, hl with | [_], _ => rfl
    have MB : Mk K CB fBI := ⟨TB.mks, aBI, iBI, TB.kc⟩
    have GBI : FnOk P w K mg base CX0 3 fBI dBI ["self", "rules"] (spBookInit CR CB) := ok_bookInit FBI B TB.cl TB.n0 RR TR.I gR LB G_hasDouble F_hasDouble.kp m_hasDouble b_hasDouble
    have G0 : FnOk P w K mg base CX0 3 f0 d0 ["self", "other"] (spBookEq K CR CB) := ok_bookEq F0 B TB.cl TB.n0 TB.I gB RR TR.I GRE aRE iRE bRE
    have G4 : FnOk P w K mg base CX0 3 f4 d4 ["self"] (spBookLabels CR CB) := ok_bookLabels F4 TB.cl TB.n0 RR LB
    have M4 : Meth K CB "labels" f4 := ⟨a4, i4, F4.kp⟩
    have G5 : FnOk P w K mg base CX0 4 f5 d5 ["self", "label"] (spBookRule CR CB) := ok_bookRule F5 TB.cl TB.n0 G4 M4 b4 G_place F_place.kp m_place b_place
    have G6 : FnOk P w K mg base CX0 5 f6 d6 ["self", "label"] (spBookWithout CR CB) := ok_bookWithout F6 TB.cl TB.n0 G4 M4 b4 G_place F_place.kp m_place b_place GBI MB gB bBI
    have kBI : KBn K dBI ["self", "rules"] 1 ["rules"] (fun us ws => us ++ ws.reverse) (fun vs zs => vs ++ zs.reverse) := fun_kbn FBI 1 ["rules"] (fun us ws => us ++ ws.reverse) (fun a b => a.append b.reverse) fun _ _ _ _ _ _ us ws l1 l2 => match us, ws, l1, l2 with | [_], [_], _, _ => rfl
    have MBA : MadeA P w K mg base CB "Book" 3 ["self", "rules"] ["rules"] (spBookInit CR CB) := ⟨⟨fBI, dBI, _, GBI, MB, gB, bBI, kBI⟩⟩
    -- the question
    obtain ⟨fQI, dQI, aQI, iQI, FQI⟩ := TQ.init
    obtain ⟨fQE, dQE, aQE, iQE, FQE⟩ := TQ.m0
    obtain ⟨qp1, qg1, qd1, QO1, FQ1⟩ := TQ.q0
    obtain ⟨qp2, qg2, qd2, QO2, FQ2⟩ := TQ.q1
    have bQE : Binds K dQE ["self", "other"] [] := FQE.binds (ps := ["self", "other"]) fun _ _ _ _ _ _ us hl => match us, hl with | [_, _], _ => rfl
    have qb1 : Binds K qd1 ["self"] [] := FQ1.binds (ps := ["self"]) fun _ _ _ _ _ _ us hl => match us, hl with | [_], _ => rfl
    have qb2 : Binds K qd2 ["self"] [] := FQ2.binds (ps := ["self"]) fun _ _ _ _ _ _ us hl => match us, hl with | [_], _ => rfl
    have GQI := ok_qInit (P := P) (w := w) (base := base) FQI B QQ CT
    have GQE := ok_qEq (P := P) (w := w) (base := base) FQE B QQ TQ.I gQ
    obtain ⟨gQK, kQK⟩ := kb_q FQI
    have MQ : MadeA P w K mg base CQ "Question" 5 ["self", "columns", "told", "pairs"] ["pairs", "told", "columns"] (spQInit CQ) := ⟨⟨fQI, dQI, gQK, GQI, ⟨TQ.mks, aQI, iQI, TQ.kc⟩, gQ, binds_q FQI 1 (by decide), kQK⟩⟩
    have T1 : PropL P w K mg base CQ "told" "_told" := ⟨⟨qp1, qg1, qd1, QO1, ok_getL FQ1 ⟨rfl, rfl, rfl, by decide +kernel, rfl, by decide +kernel, by decide +kernel⟩ rfl (fun X e => by unfold Gl Env.kindOf; rw [e]; decide +kernel) TQ.cl TQ.n1 B, qb1⟩⟩
    have T2 : PropL P w K mg base CQ "pairs" "_pairs" := ⟨⟨qp2, qg2, qd2, QO2, ok_getL FQ2 ⟨rfl, rfl, rfl, by decide +kernel, rfl, by decide +kernel, by decide +kernel⟩ rfl (fun X e => by unfold Gl Env.kindOf; rw [e]; decide +kernel) TQ.cl TQ.n2 B, qb2⟩⟩
    have G_needQ : FnOk P w K mg base CX0 1 f_needQ e_needQ ["value"] _ := ok_needQ F_needQ B TQ.cl TQ.I gQ
    have cN : CallA P w K mg base "need_question" 1 ["value"] (spNeedQ CQ) := ⟨⟨_, _, G_needQ, F_needQ.kp, m_needQ, b_needQ⟩⟩
    have cS : CallA P w K mg base "need_store" 5 ["value"] (spNeedStore K) := ⟨⟨_, _, G_needStore, F_needStore.kp, m_needStore, b_needStore⟩⟩
    have cF : CallA P w K mg base "need_fact" 4 ["value"] (spNeedFact K) := ⟨⟨_, _, G_needFact, F_needFact.kp, m_needFact, b_needFact⟩⟩
    have cM : CallA P w K mg base "met" 6 ["told", "pairs", "shelf"] (spMet K) := ⟨⟨_, _, G_met, F_met.kp, m_met, b_met⟩⟩
    have cK : CallA P w K mg base "by_kind" 2 ["facts"] (spByKind K) := ⟨⟨_, _, G_byKind, F_byKind.kp, m_byKind, b_byKind⟩⟩
    have cV : CallA P w K mg base "variables_of" 3 ["patterns"] (spVarsOf K) := ⟨⟨_, _, G_varsOf, F_varsOf.kp, m_varsOf, b_varsOf⟩⟩
    have G_varsQ : FnOk P w K mg base CX0 4 f_varsQ e_varsQ ["question"] _ := ok_varsQ F_varsQ QQ T1 cN cV
    have G_matches : FnOk P w K mg base CX0 7 f_matches e_matches ["question", "store"] _ := ok_matches F_matches QQ T1 T2 so cN cS cM cK
    have cMa : CallA P w K mg base "matches" 7 ["question", "store"] (spMatches CQ) := ⟨⟨_, _, G_matches, F_matches.kp, m_matches, b_matches⟩⟩
    have G_count : FnOk P w K mg base CX0 8 f_count e_count ["question", "store"] _ := ok_count F_count B cMa
    have G_partials : FnOk P w K mg base CX0 7 f_partials e_partials ["question", "store"] _ := ok_partials F_partials QQ T1 T2 cN cS ⟨⟨_, _, G_metNumbers, F_metNumbers.kp, m_metNumbers, b_metNumbers⟩⟩ cK
    have G_best : FnOk P w K mg base CX0 7 f_best e_best ["question", "store"] _ := ok_best F_best B B2 pm QQ T1 T2 cN cS cM cK ⟨⟨_, _, G_chosen, F_chosen.kp, m_chosen, b_chosen⟩⟩ ⟨⟨_, _, G_sumAlong, F_sumAlong.kp, m_sumAlong, b_sumAlong⟩⟩
    have G_matchesWith : FnOk P w K mg base CX0 8 f_matchesWith e_matchesWith ["question", "store", "fact"] _ := ok_matchesWith F_matchesWith md zp QQ T1 cN cS cF cV cMa ⟨⟨_, _, G_stands, F_stands.kp, m_stands, b_stands⟩⟩
    -- the law
    have G_purse : FnOk P w K mg base CX0 1 f_purse e_purse ["_law_script", "_law_at"] _ := ok_purse F_purse B2
    have G_draw : FnOk P w K mg base CX0 2 f_draw e_draw ["_law_purse_here", "_law_many"] _ := ok_draw F_draw F_mixed m_mixed b_mixed B2.rg
    have G_purses : FnOk P w K mg base CX0 2 f_purses e_purses ["_law_script", "_law_few"] _ := ok_purses F_purses G_purse F_purse.kp m_purse b_purse B2
    have G_oneOf : FnOk P w K mg base CX0 3 f_oneOf e_oneOf ["_law_purse_here", "_law_some"] _ := ok_oneOf F_oneOf G_draw F_draw.kp m_draw b_draw B2
    have G_parts : FnOk P w K mg base CX0 4 f_parts e_parts ["_law_purse_here"] _ := ok_parts F_parts G_draw F_draw.kp m_draw b_draw G_oneOf F_oneOf.kp m_oneOf b_oneOf
    have G_bags : FnOk P w K mg base CX0 4 f_bags e_bags ["_law_purse_here"] _ := ok_bags F_bags B2.rg G_draw F_draw.kp m_draw b_draw G_oneOf F_oneOf.kp m_oneOf b_oneOf
    have G_madeRight : FnOk P w K mg base CX0 7 f_madeRight e_madeRight ["_law_body", "_law_gaps", "_law_bars", "_law_tops"] _ := ok_madeRight F_madeRight RR TR.I QQ TQ.I TB.cl TB.I TB.n0 MR MQ MBA ⟨⟨fRE, dRE, GRE, aRE, iRE, bRE⟩⟩ TR.ne ⟨⟨fQE, dQE, GQE, aQE, iQE, bQE⟩⟩ TQ.ne ⟨⟨f0, d0, G0, a0, i0, b0⟩⟩
      ⟨⟨f5, d5, _, G5, ⟨a5, i5, F5.kp⟩, fun_kbn F5 1 ["label"] (fun us ws => us ++ ws.reverse) (fun a b => a.append b.reverse) fun _ _ _ _ _ _ us ws l1 l2 => match us, ws, l1, l2 with | [_], [_], _, _ => rfl⟩⟩ ⟨⟨f6, d6, _, G6, ⟨a6, i6, F6.kp⟩, fun_kbn F6 1 ["label"] (fun us ws => us ++ ws.reverse) (fun a b => a.append b.reverse) fun _ _ _ _ _ _ us ws l1 l2 => match us, ws, l1, l2 with | [_], [_], _, _ => rfl⟩⟩
    exact ok_law F_law G_purses F_purses.kp m_purses b_purses G_parts F_parts.kp m_parts b_parts G_draw F_draw.kp m_draw b_draw G_bags F_bags.kp m_bags b_bags G_madeRight F_madeRight.kp m_madeRight b_madeRight MQ
      ⟨⟨_, _, _, G_varsQ, F_varsQ.kp, m_varsQ, b_varsQ, fun_kbn F_varsQ 0 ["question"] (fun us ws => us ++ ws.reverse) (fun a b => a.append b.reverse) fun _ _ _ _ _ _ us ws l1 l2 => match us, ws, l1, l2 with | [], [_], _, _ => rfl⟩⟩
      ⟨⟨_, _, _, G_matches, F_matches.kp, m_matches, b_matches, fun_kbn F_matches 0 ["store", "question"] (fun us ws => us ++ ws.reverse) (fun a b => a.append b.reverse) fun _ _ _ _ _ _ us ws l1 l2 => match us, ws, l1, l2 with | [], [_, _], _, _ => rfl⟩⟩
      ⟨⟨_, _, _, G_count, F_count.kp, m_count, b_count, fun_kbn F_count 0 ["store", "question"] (fun us ws => us ++ ws.reverse) (fun a b => a.append b.reverse) fun _ _ _ _ _ _ us ws l1 l2 => match us, ws, l1, l2 with | [], [_, _], _, _ => rfl⟩⟩
      ⟨⟨_, _, _, G_partials, F_partials.kp, m_partials, b_partials, fun_kbn F_partials 0 ["store", "question"] (fun us ws => us ++ ws.reverse) (fun a b => a.append b.reverse) fun _ _ _ _ _ _ us ws l1 l2 => match us, ws, l1, l2 with | [], [_, _], _, _ => rfl⟩⟩
      ⟨⟨_, _, _, G_best, F_best.kp, m_best, b_best, fun_kbn F_best 0 ["store", "question"] (fun us ws => us ++ ws.reverse) (fun a b => a.append b.reverse) fun _ _ _ _ _ _ us ws l1 l2 => match us, ws, l1, l2 with | [], [_, _], _, _ => rfl⟩⟩
      ⟨⟨_, _, _, G_matchesWith, F_matchesWith.kp, m_matchesWith, b_matchesWith, fun_kbn F_matchesWith 0 ["fact", "store", "question"] (fun us ws => us ++ ws.reverse) (fun a b => a.append b.reverse) fun _ _ _ _ _ _ us ws l1 l2 => match us, ws, l1, l2 with | [], [_, _, _], _, _ => rfl⟩⟩

end Nv
open PySem PySem.W PyProof.Rows
set_option maxRecDepth 100000 in
set_option maxHeartbeats 0 in
theorem PySem.Challenge.cw_neverapart_k12_matching_by_name_holds : PySem.Challenge.rw_neverapart_k12_matching_by_name.Holds := by
  w_on; o_law; k_head; (case hw => w_witness2)
  k_fill
  refine L2.walk_ofK (n := 63) (k := 9) (CX := L2.CX0) (sp := Nv.spLaw) (x := "_law_script") rfl (by decide) rfl ⟨rfl, by decide, by decide⟩ (fun w h Y => PySem.W.kIn_of Y) ?F (fun K H a ns hl _ hS => ⟨a, ns, rfl, hS, hl, fun _ => rfl⟩) (fun _ _ _ _ h => h)
  case F =>
    intro w mg fa h KX G hmg
    obtain ⟨CRule, TRule⟩ := (by
      refine' Nv.rule_at KX ?g ?pg ?hd ?po ?sa ?mk ?kc ?cc ?gt ?tk ?mo ?ne ?n0 ?n1 ?n2 ?n3 ?n4 ?aI ?iI ?lI ?cI ?kI ?t ?am0 ?im0 ?lm0 ?cm0 ?km0 ?aq0 ?sq0 ?tq0 ?rq0 ?lq0 ?cq0 ?kq0
      (case g => k_is)
      (case pg => k_is)
      (case hd => k_is)
      (case po => k_is)
      (case sa => k_is)
      (case mk => k_is)
      (case kc => k_is)
      (case cc => k_is)
      (case gt => k_is)
      (case tk => k_is)
      (case mo => k_is)
      (case ne => k_is)
      (case n0 => k_is)
      (case n1 => k_is)
      (case n2 => k_is)
      (case n3 => k_is)
      (case n4 => k_is)
      (case aI => k_is)
      (case iI => k_is)
      (case lI => k_is)
      (case cI => k_is)
      (case kI => k_is)
      (case t => k_is)
      (case am0 => k_is)
      (case im0 => k_is)
      (case lm0 => k_is)
      (case cm0 => k_is)
      (case km0 => k_is)
      (case aq0 => k_is)
      (case sq0 => k_is)
      (case tq0 => k_is)
      (case rq0 => k_is)
      (case lq0 => k_is)
      (case cq0 => k_is)
      (case kq0 => k_is)
      )
    obtain ⟨CBook, TBook⟩ := (by
      refine' Nv.book_at KX ?g ?pg ?hd ?po ?sa ?mk ?kc ?cc ?gt ?tk ?mo ?ne ?n0 ?aI ?iI ?lI ?cI ?kI ?am0 ?im0 ?lm0 ?cm0 ?km0 ?am1 ?im1 ?lm1 ?cm1 ?km1 ?am2 ?im2 ?lm2 ?cm2 ?km2 ?am3 ?im3 ?lm3 ?cm3 ?km3
      (case g => k_is)
      (case pg => k_is)
      (case hd => k_is)
      (case po => k_is)
      (case sa => k_is)
      (case mk => k_is)
      (case kc => k_is)
      (case cc => k_is)
      (case gt => k_is)
      (case tk => k_is)
      (case mo => k_is)
      (case ne => k_is)
      (case n0 => k_is)
      (case aI => k_is)
      (case iI => k_is)
      (case lI => k_is)
      (case cI => k_is)
      (case kI => k_is)
      (case am0 => k_is)
      (case im0 => k_is)
      (case lm0 => k_is)
      (case cm0 => k_is)
      (case km0 => k_is)
      (case am1 => k_is)
      (case im1 => k_is)
      (case lm1 => k_is)
      (case cm1 => k_is)
      (case km1 => k_is)
      (case am2 => k_is)
      (case im2 => k_is)
      (case lm2 => k_is)
      (case cm2 => k_is)
      (case km2 => k_is)
      (case am3 => k_is)
      (case im3 => k_is)
      (case lm3 => k_is)
      (case cm3 => k_is)
      (case km3 => k_is)
      )
    obtain ⟨CQuestion, TQuestion⟩ := (by
      refine' Nv.question_at KX ?g ?pg ?hd ?po ?sa ?mk ?kc ?cc ?gt ?tk ?mo ?ne ?n0 ?n1 ?n2 ?aI ?iI ?lI ?cI ?kI ?t ?am0 ?im0 ?lm0 ?cm0 ?km0 ?aq0 ?sq0 ?tq0 ?rq0 ?lq0 ?cq0 ?kq0 ?aq1 ?sq1 ?tq1 ?rq1 ?lq1 ?cq1 ?kq1
      (case g => k_is)
      (case pg => k_is)
      (case hd => k_is)
      (case po => k_is)
      (case sa => k_is)
      (case mk => k_is)
      (case kc => k_is)
      (case cc => k_is)
      (case gt => k_is)
      (case tk => k_is)
      (case mo => k_is)
      (case ne => k_is)
      (case n0 => k_is)
      (case n1 => k_is)
      (case n2 => k_is)
      (case aI => k_is)
      (case iI => k_is)
      (case lI => k_is)
      (case cI => k_is)
      (case kI => k_is)
      (case t => k_is)
      (case am0 => k_is)
      (case im0 => k_is)
      (case lm0 => k_is)
      (case cm0 => k_is)
      (case km0 => k_is)
      (case aq0 => k_is)
      (case sq0 => k_is)
      (case tq0 => k_is)
      (case rq0 => k_is)
      (case lq0 => k_is)
      (case cq0 => k_is)
      (case kq0 => k_is)
      (case aq1 => k_is)
      (case sq1 => k_is)
      (case tq1 => k_is)
      (case rq1 => k_is)
      (case lq1 => k_is)
      (case cq1 => k_is)
      (case kq1 => k_is)
      )
    obtain ⟨CStep, TStep⟩ := (by
      refine' Nv.step_at KX ?g ?pg ?hd ?po ?sa ?mk ?kc ?n0 ?n1 ?n2 ?n3 ?n4 ?n5 ?n6 ?aI ?iI ?lI ?cI ?kI ?am0 ?im0 ?lm0 ?cm0 ?km0
      (case g => k_is)
      (case pg => k_is)
      (case hd => k_is)
      (case po => k_is)
      (case sa => k_is)
      (case mk => k_is)
      (case kc => k_is)
      (case n0 => k_is)
      (case n1 => k_is)
      (case n2 => k_is)
      (case n3 => k_is)
      (case n4 => k_is)
      (case n5 => k_is)
      (case n6 => k_is)
      (case aI => k_is)
      (case iI => k_is)
      (case lI => k_is)
      (case cI => k_is)
      (case kI => k_is)
      (case am0 => k_is)
      (case im0 => k_is)
      (case lm0 => k_is)
      (case cm0 => k_is)
      (case km0 => k_is)
      )
    obtain ⟨CPlan, TPlan⟩ := (by
      refine' Nv.plan_at KX ?g ?pg ?hd ?po ?sa ?mk ?kc ?n0 ?n1 ?n2 ?aI ?iI ?lI ?cI ?kI ?am0 ?im0 ?lm0 ?cm0 ?km0
      (case g => k_is)
      (case pg => k_is)
      (case hd => k_is)
      (case po => k_is)
      (case sa => k_is)
      (case mk => k_is)
      (case kc => k_is)
      (case n0 => k_is)
      (case n1 => k_is)
      (case n2 => k_is)
      (case aI => k_is)
      (case iI => k_is)
      (case lI => k_is)
      (case cI => k_is)
      (case kI => k_is)
      (case am0 => k_is)
      (case im0 => k_is)
      (case lm0 => k_is)
      (case cm0 => k_is)
      (case km0 => k_is)
      )
    have d_isName := (by
      refine' Nv.def_at KX (x := "is_name") (st := Nv.sIsName) ?g ?l ?c ?k
      (case g => k_is)
      (case l => k_is)
      (case c => k_is)
      (case k => k_is)
      )
    have d_isVar := (by
      refine' Nv.def_at KX (x := "is_variable") (st := Nv.sIsVar) ?g ?l ?c ?k
      (case g => k_is)
      (case l => k_is)
      (case c => k_is)
      (case k => k_is)
      )
    have d_isTerm := (by
      refine' Nv.def_at KX (x := "is_term") (st := Nv.sIsTerm) ?g ?l ?c ?k
      (case g => k_is)
      (case l => k_is)
      (case c => k_is)
      (case k => k_is)
      )
    have d_isFact := (by
      refine' Nv.def_at KX (x := "is_fact") (st := Nv.sIsFact) ?g ?l ?c ?k
      (case g => k_is)
      (case l => k_is)
      (case c => k_is)
      (case k => k_is)
      )
    have d_isPattern := (by
      refine' Nv.def_at KX (x := "is_pattern") (st := Nv.sIsPattern) ?g ?l ?c ?k
      (case g => k_is)
      (case l => k_is)
      (case c => k_is)
      (case k => k_is)
      )
    have d_isStore := (by
      refine' Nv.def_at KX (x := "is_store") (st := Nv.sIsStore) ?g ?l ?c ?k
      (case g => k_is)
      (case l => k_is)
      (case c => k_is)
      (case k => k_is)
      )
    have d_isPatterns := (by
      refine' Nv.def_at KX (x := "is_patterns") (st := Nv.sIsPatterns) ?g ?l ?c ?k
      (case g => k_is)
      (case l => k_is)
      (case c => k_is)
      (case k => k_is)
      )
    have d_isPair := (by
      refine' Nv.def_at KX (x := "is_pair") (st := Nv.sIsPair) ?g ?l ?c ?k
      (case g => k_is)
      (case l => k_is)
      (case c => k_is)
      (case k => k_is)
      )
    have d_isPairs := (by
      refine' Nv.def_at KX (x := "is_pairs") (st := Nv.sIsPairs) ?g ?l ?c ?k
      (case g => k_is)
      (case l => k_is)
      (case c => k_is)
      (case k => k_is)
      )
    have d_kindOf := (by
      refine' Nv.def_at KX (x := "kind_of") (st := Nv.sKindOf) ?g ?l ?c ?k
      (case g => k_is)
      (case l => k_is)
      (case c => k_is)
      (case k => k_is)
      )
    have d_termsOf := (by
      refine' Nv.def_at KX (x := "terms_of") (st := Nv.sTermsOf) ?g ?l ?c ?k
      (case g => k_is)
      (case l => k_is)
      (case c => k_is)
      (case k => k_is)
      )
    have d_sides := (by
      refine' Nv.def_at KX (x := "sides_of") (st := Nv.sSides) ?g ?l ?c ?k
      (case g => k_is)
      (case l => k_is)
      (case c => k_is)
      (case k => k_is)
      )
    have d_varsAmong := (by
      refine' Nv.def_at KX (x := "variables_among") (st := Nv.sVarsAmong) ?g ?l ?c ?k
      (case g => k_is)
      (case l => k_is)
      (case c => k_is)
      (case k => k_is)
      )
    have d_namesAmong := (by
      refine' Nv.def_at KX (x := "names_among") (st := Nv.sNamesAmong) ?g ?l ?c ?k
      (case g => k_is)
      (case l => k_is)
      (case c => k_is)
      (case k => k_is)
      )
    have d_varsOf := (by
      refine' Nv.def_at KX (x := "variables_of") (st := Nv.sVarsOf) ?g ?l ?c ?k
      (case g => k_is)
      (case l => k_is)
      (case c => k_is)
      (case k => k_is)
      )
    have d_hasMore := (by
      refine' Nv.def_at KX (x := "has_more") (st := Nv.sHasMore) ?g ?l ?c ?k
      (case g => k_is)
      (case l => k_is)
      (case c => k_is)
      (case k => k_is)
      )
    have d_filled := (by
      refine' Nv.def_at KX (x := "filled") (st := Nv.sFilled) ?g ?l ?c ?k
      (case g => k_is)
      (case l => k_is)
      (case c => k_is)
      (case k => k_is)
      )
    have d_byKind := (by
      refine' Nv.def_at KX (x := "by_kind") (st := Nv.sByKind) ?g ?l ?c ?k
      (case g => k_is)
      (case l => k_is)
      (case c => k_is)
      (case k => k_is)
      )
    have d_namesIn := (by
      refine' Nv.def_at KX (x := "names_in") (st := Nv.sNamesIn) ?g ?l ?c ?k
      (case g => k_is)
      (case l => k_is)
      (case c => k_is)
      (case k => k_is)
      )
    have d_knows := (by
      refine' Nv.def_at KX (x := "_knows") (st := Nv.sKnows) ?g ?l ?c ?k
      (case g => k_is)
      (case l => k_is)
      (case c => k_is)
      (case k => k_is)
      )
    have d_placesOf := (by
      refine' Nv.def_at KX (x := "_places_of_pairs") (st := Nv.sPlacesOfPairs) ?g ?l ?c ?k
      (case g => k_is)
      (case l => k_is)
      (case c => k_is)
      (case k => k_is)
      )
    have d_keptApart := (by
      refine' Nv.def_at KX (x := "_kept_apart") (st := Nv.sKeptApart) ?g ?l ?c ?k
      (case g => k_is)
      (case l => k_is)
      (case c => k_is)
      (case k => k_is)
      )
    have d_met := (by
      refine' Nv.def_at KX (x := "met") (st := Nv.sMet) ?g ?l ?c ?k
      (case g => k_is)
      (case l => k_is)
      (case c => k_is)
      (case k => k_is)
      )
    have d_metNumbers := (by
      refine' Nv.def_at KX (x := "met_numbers") (st := Nv.sMetNumbers) ?g ?l ?c ?k
      (case g => k_is)
      (case l => k_is)
      (case c => k_is)
      (case k => k_is)
      )
    have d_hasDouble := (by
      refine' Nv.def_at KX (x := "_has_double") (st := Nv.sHasDouble) ?g ?l ?c ?k
      (case g => k_is)
      (case l => k_is)
      (case c => k_is)
      (case k => k_is)
      )
    have d_place := (by
      refine' Nv.def_at KX (x := "_place") (st := Nv.sPlace) ?g ?l ?c ?k
      (case g => k_is)
      (case l => k_is)
      (case c => k_is)
      (case k => k_is)
      )
    have d_needFact := (by
      refine' Nv.def_at KX (x := "need_fact") (st := Nv.sNeedFact) ?g ?l ?c ?k
      (case g => k_is)
      (case l => k_is)
      (case c => k_is)
      (case k => k_is)
      )
    have d_needStore := (by
      refine' Nv.def_at KX (x := "need_store") (st := Nv.sNeedStore) ?g ?l ?c ?k
      (case g => k_is)
      (case l => k_is)
      (case c => k_is)
      (case k => k_is)
      )
    have d_needQ := (by
      refine' Nv.def_at KX (x := "need_question") (st := Nv.sNeedQuestion) ?g ?l ?c ?k
      (case g => k_is)
      (case l => k_is)
      (case c => k_is)
      (case k => k_is)
      )
    have d_chosen := (by
      refine' Nv.def_at KX (x := "_chosen") (st := Nv.sChosen) ?g ?l ?c ?k
      (case g => k_is)
      (case l => k_is)
      (case c => k_is)
      (case k => k_is)
      )
    have d_sumAlong := (by
      refine' Nv.def_at KX (x := "_sum_along") (st := Nv.sSumAlong) ?g ?l ?c ?k
      (case g => k_is)
      (case l => k_is)
      (case c => k_is)
      (case k => k_is)
      )
    have d_stands := (by
      refine' Nv.def_at KX (x := "_stands") (st := Nv.sStands) ?g ?l ?c ?k
      (case g => k_is)
      (case l => k_is)
      (case c => k_is)
      (case k => k_is)
      )
    have d_varsQ := (by
      refine' Nv.def_at KX (x := "variables") (st := Nv.sVarsQ) ?g ?l ?c ?k
      (case g => k_is)
      (case l => k_is)
      (case c => k_is)
      (case k => k_is)
      )
    have d_matches := (by
      refine' Nv.def_at KX (x := "matches") (st := Nv.sMatches) ?g ?l ?c ?k
      (case g => k_is)
      (case l => k_is)
      (case c => k_is)
      (case k => k_is)
      )
    have d_count := (by
      refine' Nv.def_at KX (x := "count_matches") (st := Nv.sCount) ?g ?l ?c ?k
      (case g => k_is)
      (case l => k_is)
      (case c => k_is)
      (case k => k_is)
      )
    have d_matchesWith := (by
      refine' Nv.def_at KX (x := "matches_with") (st := Nv.sMatchesWith) ?g ?l ?c ?k
      (case g => k_is)
      (case l => k_is)
      (case c => k_is)
      (case k => k_is)
      )
    have d_partials := (by
      refine' Nv.def_at KX (x := "partials") (st := Nv.sPartials) ?g ?l ?c ?k
      (case g => k_is)
      (case l => k_is)
      (case c => k_is)
      (case k => k_is)
      )
    have d_best := (by
      refine' Nv.def_at KX (x := "best_order") (st := Nv.sBestOrder) ?g ?l ?c ?k
      (case g => k_is)
      (case l => k_is)
      (case c => k_is)
      (case k => k_is)
      )
    have d_purse := (by
      refine' Nv.def_at KX (x := "_law_purse") (st := Nv.sPurse) ?g ?l ?c ?k
      (case g => k_is)
      (case l => k_is)
      (case c => k_is)
      (case k => k_is)
      )
    have d_mixed := (by
      refine' Nv.def_at KX (x := "_law_mixed") (st := Nv.sMixed) ?g ?l ?c ?k
      (case g => k_is)
      (case l => k_is)
      (case c => k_is)
      (case k => k_is)
      )
    have d_draw := (by
      refine' Nv.def_at KX (x := "_law_draw") (st := Nv.sDraw) ?g ?l ?c ?k
      (case g => k_is)
      (case l => k_is)
      (case c => k_is)
      (case k => k_is)
      )
    have d_purses := (by
      refine' Nv.def_at KX (x := "_law_purses") (st := Nv.sPurses) ?g ?l ?c ?k
      (case g => k_is)
      (case l => k_is)
      (case c => k_is)
      (case k => k_is)
      )
    have d_oneOf := (by
      refine' Nv.def_at KX (x := "_law_one_of") (st := Nv.sOneOf) ?g ?l ?c ?k
      (case g => k_is)
      (case l => k_is)
      (case c => k_is)
      (case k => k_is)
      )
    have d_parts := (by
      refine' Nv.def_at KX (x := "_law_parts") (st := Nv.sParts) ?g ?l ?c ?k
      (case g => k_is)
      (case l => k_is)
      (case c => k_is)
      (case k => k_is)
      )
    have d_bags := (by
      refine' Nv.def_at KX (x := "_law_bags") (st := Nv.sBags) ?g ?l ?c ?k
      (case g => k_is)
      (case l => k_is)
      (case c => k_is)
      (case k => k_is)
      )
    have d_madeRight := (by
      refine' Nv.def_at KX (x := "_law_made_right") (st := Nv.sMadeRight) ?g ?l ?c ?k
      (case g => k_is)
      (case l => k_is)
      (case c => k_is)
      (case k => k_is)
      )
    have d_law := (by
      refine' Nv.def_at KX (x := "law") (st := Nv.sLaw) ?g ?l ?c ?k
      (case g => k_is)
      (case l => k_is)
      (case c => k_is)
      (case k => k_is)
      )
    exact Nv.law_at KX G hmg TRule TBook TQuestion TStep TPlan (by k_is) (by k_is) (by k_is) (by k_is) (by k_is) (by k_is) (by k_is) (by k_is) (by k_is) (by k_is) (by k_is) (by k_is) (by k_is) (by k_is) (by k_is) (by k_is) (by k_is) (by k_is) d_isName d_isVar d_isTerm d_isFact d_isPattern d_isStore d_isPatterns d_isPair d_isPairs d_kindOf d_termsOf d_sides d_varsAmong d_namesAmong d_varsOf d_hasMore d_filled d_byKind d_namesIn d_knows d_placesOf d_keptApart d_met d_metNumbers d_hasDouble d_place d_needFact d_needStore d_needQ d_chosen d_sumAlong d_stands d_varsQ d_matches d_count d_matchesWith d_partials d_best d_purse d_mixed d_draw d_purses d_oneOf d_parts d_bags d_madeRight d_law
