import PyProof.Rows.All
import Wide.All
import OpenK.AllK
import Wide.FinOn
import HandS.ForMost
import HandS.Wide
import HandS.More
import HandS.Conv
import HandS.Flow
import HandS.WideBits
import HandS.Defaults
import HandS.Property
import HandS.IsInst
import HandS.Walk
import KE.KStrOpen
import HandS.Strs
import KE.KExcIs
import HandS.ExcInit
import HandS.ExcValue
import HandS.WordsExc
import HandS.OwnEq
import KE.KEqDict
import PyProof.NeKinds
import HandS.Style
import HandS.DictComp
import HandS.Deep
import KE.KOpsOwn
import PySem.Challenge.RW_neverapart_k02_rules_and_books_refused
set_option Elab.async false
set_option linter.all false
set_option maxRecDepth 100000
set_option maxHeartbeats 8000000
set_option maxHeartbeats 4000000
namespace Nv
open PySem PySem.Spec PyProof.Rows L2
def top (i : Nat) : Stmt := PySem.Challenge.pw_neverapart_k02_rules_and_books_refused.main.body.getD i (.Pass ⟨0, 0, 0, 0⟩)
abbrev sIsName : Stmt := top 8
abbrev sIsVar : Stmt := top 9
abbrev sIsTerm : Stmt := top 10
abbrev sIsPattern : Stmt := top 11
abbrev sIsPatterns : Stmt := top 12
abbrev sIsPair : Stmt := top 13
abbrev sIsPairs : Stmt := top 14
abbrev sTermsOf : Stmt := top 15
abbrev sVarsAmong : Stmt := top 17
abbrev sVarsOf : Stmt := top 18
abbrev cRule : Stmt := top 21
abbrev cBook : Stmt := top 22
abbrev cQuestion : Stmt := top 23
abbrev sSides : Stmt := top 16
abbrev sHasMore : Stmt := top 19
abbrev sHasDouble : Stmt := top 24
abbrev sPlace : Stmt := top 25
abbrev sPurse : Stmt := top 27
abbrev sMixed : Stmt := top 28
abbrev sDraw : Stmt := top 29
abbrev sPurses : Stmt := top 30
abbrev sOneOf : Stmt := top 31
abbrev sShuffled : Stmt := top 32
abbrev sNames : Stmt := top 33
abbrev sKinds : Stmt := top 34
abbrev sPattern : Stmt := top 35
abbrev sTold : Stmt := top 36
abbrev sVariables : Stmt := top 37
abbrev sPairs : Stmt := top 38
abbrev sRule : Stmt := top 39
abbrev sKeeps : Stmt := top 40
abbrev sOddWords : Stmt := top 41
abbrev sOddPatterns : Stmt := top 42
abbrev sOddLists : Stmt := top 43
abbrev sOddPairs : Stmt := top 44
abbrev sNamed : Stmt := top 45
abbrev sMade : Stmt := top 46
abbrev sRefused : Stmt := top 47
abbrev sPlaces : Stmt := top 48
abbrev sStrays : Stmt := top 49
abbrev sBooks : Stmt := top 50
abbrev sLaw : Stmt := top 51
end Nv
set_option maxHeartbeats 4000000
namespace Nv
open PySem PySem.Spec PyProof.Rows L2
/-- all that was tracked is as it was, but the object at a -/
def Sb (a : Addr) (H H' : Hp) : Prop := ∀ b o, b ≠ a → H b = some o → H' b = some o
section
variable {a : Addr} {H H1 H2 : Hp}
theorem Sb.refl (a : Addr) (H : Hp) : Sb a H H := fun _ _ _ e => e
theorem Sb.trans (x : Sb a H H1) (y : Sb a H1 H2) : Sb a H H2 := fun b o n e => y b o n (x b o n e)
theorem Sb.of (x : Same H H1) : Sb a H H1 := fun b o _ e => x b o e
theorem Sb.then (x : Sb a H H1) (y : Same H1 H2) : Sb a H H2 := x.trans (Sb.of y)
theorem Sb.upd {o : HO} : Sb a H (upd H a o) := fun b u n e => by
  rw [upd_ne n]
  exact e
theorem Sb.new {p : Addr} {o : HO} (h : H p = none) : Sb a H (L2.upd H p o) := fun b u n e => by
  rw [upd_ne (ne_of_none e h)]
  exact e
theorem Sb.put {p : Addr} {o : HO} (x : Sb a H H1) (h : H p = none) : Sb a H (L2.upd H1 p o) := fun b u n e => by
  rw [upd_ne (ne_of_none e h)]
  exact x b u n e
theorem same_new {p : Addr} {o : HO} (h : H p = none) : Same H (L2.upd H p o) := fun b u e => by
  rw [upd_ne (ne_of_none e h)]
  exact e
theorem same_put {p : Addr} {o : HO} (x : Same H H1) (h : H p = none) : Same H (L2.upd H1 p o) := fun b u e => by
  rw [upd_ne (ne_of_none e h)]
  exact x b u e
theorem Sb.seq {K : PySem.W.Frag} {b : Addr} {xs : List V} (x : Sb a H H1) (n : b ≠ a) (h : SqL K H b xs) : SqL K H1 b xs := by
  rcases h with (h | ⟨o, h⟩) | h
  · exact .inl (.inl (x _ _ n h))
  · exact .inl (.inr ⟨o, x _ _ n h⟩)
  · exact .inr h
end
/-- a purse at a: n draws at least are still to be had from it -/
structure Pu (H : Hp) (a : Addr) (n : Nat) : Prop where
  ex : ∃ s d t k : Int, H a = some (.lst [.int s, .int d, .int t, .int k]) ∧ 0 ≤ s ∧ 0 ≤ d ∧ d < 2147483629 ∧ 0 ≤ t ∧ t + n ≤ 1099511627776 ∧ 0 ≤ k ∧ k ≤ 100
section
variable {a : Addr} {H H1 H2 : Hp} {n m : Nat}
theorem Pu.le (p : Pu H a n) (h : m ≤ n) : Pu H a m := by
  obtain ⟨s, d, t, k, e, h1, h2, h3, h4, h5, h6, h7⟩ := p.ex
  exact ⟨s, d, t, k, e, h1, h2, h3, h4, by omega, h6, h7⟩
theorem Pu.some (p : Pu H a n) : ∃ o, H a = some o := by
  obtain ⟨s, d, t, k, e, _⟩ := p.ex
  exact ⟨_, e⟩
theorem Pu.ne (p : Pu H a n) {q : Addr} (h : H q = none) : q ≠ a := fun z => by
  obtain ⟨o, e⟩ := p.some
  rw [z, e] at h
  cases h
theorem Pu.same (p : Pu H a n) (x : Same H H1) : Pu H1 a n := by
  obtain ⟨s, d, t, k, e, h1, h2, h3, h4, h5, h6, h7⟩ := p.ex
  exact ⟨s, d, t, k, x _ _ e, h1, h2, h3, h4, h5, h6, h7⟩
theorem Pu.put (p : Pu H a n) {q : Addr} {o : HO} (h : q ≠ a) : Pu (upd H q o) a n := by
  obtain ⟨s, d, t, k, e, h1, h2, h3, h4, h5, h6, h7⟩ := p.ex
  exact ⟨s, d, t, k, by rw [upd_ne (Ne.symm h)]; exact e, h1, h2, h3, h4, h5, h6, h7⟩
theorem Sb.free (x : Sb a H H1) (p : Pu H1 a n) {q : Addr} (h : H1 q = none) : H q = none := by
  have hn := p.ne h
  cases e : H q with
  | none => rfl
  | some o =>
    rw [x _ _ hn e] at h
    cases h
end
section
variable {P : Program} {w : World} {K : PySem.W.Frag} {mg : Str → Option Value} {base : Heap}
/-- _law_mixed(seed, turn, at) -/
def spMixed : Sp := fun vs H Q _ => ∃ d t k : Int, vs = [.int d, .int t, .int k] ∧ (0 ≤ d ∧ d < 2147483629) ∧ (0 ≤ t ∧ t ≤ 1099511627776) ∧ (0 ≤ k ∧ k ≤ 100) ∧ ∀ r : Int, 0 ≤ r → Q (.int r) H
theorem scMixed : FnScope ["_law_seed", "_law_turn", "_law_at", "_law_mixed_here"] ["_law_seed", "_law_turn", "_law_at"] (defScope sMixed) := ⟨rfl, rfl, rfl, by decide +kernel, rfl, by decide +kernel, by decide +kernel⟩
theorem ok_mixed {f : Addr} {fd : FuncData} (F : Fun K "_law_mixed" "_law_mixed" sMixed f fd) : FnOk P w K mg base CX0 1 f fd ["_law_seed", "_law_turn", "_law_at"] spMixed := by
  refine F.ok scMixed (fun vs H Q E h => ?_) (fun cdv A outer s H vs Q E hr h => ?_)
  · obtain ⟨d, t, k, rfl, _⟩ := h
    rfl
  · obtain ⟨d, t, k, rfl, hd, ht, hk, q⟩ := h
    refine ⟨_, pss_cons (ps_set (i := 3) scMixed.nd rfl (Or.inl rfl) (pe_op op_add (pe_op op_mul (pv 0) pe_int) (pe_op op_mul (pe_op op_mul pe_int (pv 1)) (pv 1))))
      (pss_cons (ps_set (i := 3) scMixed.nd rfl (Or.inl rfl) (pe_op op_mod (pe_op op_add (pe_op op_add (pv 3) (pe_op op_mul pe_int (pv 2))) (pv 1)) pe_int))
      (pss_cons (ps_set (i := 3) scMixed.nd rfl (Or.inl rfl) (pe_op op_mod (pe_op op_add (pe_op op_mul (pv 3) (pv 3)) pe_int) pe_int))
      (pss_one (ps_ret (pe_op op_mod (pe_op op_mul (pv 3) pe_int) pe_int))))), ?_⟩
    refine ⟨_, rfl, _, _, rfl, rfl, .inl ⟨by omega, by omega⟩, _, rfl, _, _, rfl, rfl, .inl ⟨by omega, by omega⟩, _, rfl, _, _, rfl, rfl, .inr ⟨by omega, by omega⟩, _, _, rfl, rfl, ?_⟩
    generalize d * 69069 + 104729 * t * t = z
    refine ⟨_, rfl, _, rfl, _, _, rfl, rfl, .inl ⟨by omega, by omega⟩, _, _, rfl, rfl, _, rfl, _, _, rfl, rfl, _, _, rfl, rfl, (by show (0 : Int) < 2147483647; decide), ?_⟩
    have h1 := Int.emod_nonneg (z + 7919 * k + t) (by decide : (2147483647 : Int) ≠ 0)
    have h2 := Int.emod_lt_of_pos (z + 7919 * k + t) (by decide : (0 : Int) < 2147483647)
    generalize (z + 7919 * k + t) % 2147483647 = z2 at h1 h2 ⊢
    refine ⟨_, rfl, _, rfl, _, _, rfl, rfl, .inl ⟨by omega, by omega⟩, _, _, rfl, rfl, _, _, rfl, rfl, (by show (0 : Int) < 2147483629; decide), ?_⟩
    have h3 := Int.emod_nonneg (z2 * z2 + 40503) (by decide : (2147483629 : Int) ≠ 0)
    have h4 := Int.emod_lt_of_pos (z2 * z2 + 40503) (by decide : (0 : Int) < 2147483629)
    generalize (z2 * z2 + 40503) % 2147483629 = z3 at h3 h4 ⊢
    refine ⟨_, rfl, _, _, rfl, rfl, .inl ⟨by omega, by omega⟩, _, _, rfl, rfl, (by show (0 : Int) < 2147483587; decide), ?_⟩
    exact q _ (Int.emod_nonneg _ (by decide))
/-- _law_draw(purse, many) -/
def spDraw : Sp := fun vs H Q _ => ∃ (a : Addr) (n : Nat) (m : Int), vs = [.ref a, .int m] ∧ Pu H a (n + 1) ∧ (1 ≤ m ∧ m < 134217728) ∧ ∀ (r : Int) (H' : Hp), 0 ≤ r → r < m → Pu H' a n → Sb a H H' → Q (.int r) H'
theorem scDraw : FnScope ["_law_purse_here", "_law_many", "_law_drawn", "_law_found", "_law_piece"] ["_law_purse_here", "_law_many"] (defScope sDraw) := ⟨rfl, rfl, rfl, by decide +kernel, rfl, by decide +kernel, by decide +kernel⟩
theorem bits27 {m : Int} (h0 : 1 ≤ m) (h : m < 134217728) : 1 + ((Builtin.Int.intBits m : Nat) : Int) / 28 = 1 := by
  have z : Builtin.Int.intBits m ≤ 27 := PyProof.Rows.intBits_le (by
    have e : (2 : Nat) ^ 27 = 134217728 := by decide
    omega)
  omega
theorem ok_draw {f fM : Addr} {fd fdM : FuncData} (F : Fun K "_law_draw" "_law_draw" sDraw f fd) (FM : Fun K "_law_mixed" "_law_mixed" sMixed fM fdM) (gM : mg "_law_mixed" = some (.ref fM)) (bM : Binds K fdM ["_law_seed", "_law_turn", "_law_at"] []) (rg : mg "range" = none) :
    FnOk P w K mg base CX0 2 f fd ["_law_purse_here", "_law_many"] spDraw := by
  have GM : FnOk P w K mg base CX0 1 fM fdM ["_law_seed", "_law_turn", "_law_at"] spMixed := ok_mixed FM
  refine F.ok scDraw (fun vs H Q E h => ?_) (fun cdv A outer s H vs Q E hr h => ?_)
  · obtain ⟨a, n, m, rfl, _⟩ := h
    rfl
  · obtain ⟨a, n, m, rfl, pu, hm, q⟩ := h
    obtain ⟨s, d, t, k, e, h1, h2, h3, h4, h5, h6, h7⟩ := pu.ex
    refine ⟨_, pss_cons (ps_if (pt_cmpR op_gt (pe_ix ix_list (pv 0) pe_int (fun _ _ => rfl)) pe_int (nomark _))
        (pss_cons (ps_set (i := 2) scDraw.nd rfl (Or.inl rfl) (pe_op op_mod (pe_ix ix_list (pv 0) pe_int (fun _ _ => rfl)) (pv 1)))
        (pss_cons (ps_asg (pe_op op_fdiv (pe_ix ix_list (pv 0) pe_int (fun _ _ => rfl)) (pv 1)) (pg_sub (pv 0) pe_int set_list))
        (pss_one (ps_ret (pv 2))))) pss_nil)
      (pss_cons (ps_set (i := 3) scDraw.nd rfl (Or.inl rfl) pe_int)
      (pss_cons (ps_for PassesOwn.never rfl (pi_range1 (by rfl) rg (pa_cons (pe_op op_add pe_int (pe_op op_fdiv (pe_bits (pv 1)) pe_int)) pa_nil)) (pg_name (i := 4) scDraw.nd rfl (Or.inl rfl))
        (pss_cons (ps_asg (pe_op op_add (pe_ix ix_list (pv 0) pe_int (fun _ _ => rfl)) pe_int) (pg_sub (pv 0) pe_int set_list))
        (pss_one (ps_set (i := 3) scDraw.nd rfl (Or.inl rfl) (pe_op op_add (pe_op op_mul (pv 3) pe_int)
          (by exact (pe_call GM hr (by rfl) gM FM.kp bM .nil pass0 (pa_cons (pe_ix ix_list (pv 0) pe_int (fun _ _ => rfl)) (pa_cons (pe_ix ix_list (pv 0) pe_int (fun _ _ => rfl)) (pa_cons (pe_ix ix_list (pv 0) pe_int (fun _ _ => rfl)) pa_nil)))))))))) 
      (pss_one (ps_ret (pe_op op_mod (pv 3) (pv 1)))))), ?_⟩
    refine ⟨_, rfl, a, _, _, _, rfl, rfl, SqL.of e, atI_nat (j := 0) rfl, _, _, rfl, rfl, _, rfl, ?_⟩
    refine ite2 (fun hc => ?_) (fun hc => ?_)
    · refine ⟨_, rfl, a, _, _, _, rfl, rfl, SqL.of e, atI_nat (j := 0) rfl, _, rfl, _, _, rfl, rfl, (by show (0 : Int) < m; omega), ?_⟩
      refine ⟨_, rfl, a, _, _, _, rfl, rfl, SqL.of e, atI_nat (j := 0) rfl, _, rfl, _, _, rfl, rfl, ⟨by omega, by omega⟩, ?_⟩
      refine ⟨_, rfl, a, _, _, 0, rfl, rfl, e, rfl, _, rfl, ?_⟩
      exact q _ _ (Int.emod_nonneg _ (by omega)) (Int.emod_lt_of_pos _ (by omega)) ⟨_, _, _, _, upd_same, Int.ediv_nonneg h1 (by omega), h2, h3, h4, by omega, h6, h7⟩ Sb.upd
    · refine ⟨_, rfl, _, rfl, _, _, rfl, rfl, ⟨by decide, by decide⟩, _, _, rfl, rfl, 1, congrArg (fun z => [V.int z]) (bits27 hm.1 hm.2), by decide, by decide, ?_⟩
      refine for_range (lo := 0) (n := 1) (fun i σ H' => (i = 0 ∧ H' = H ∧ σ = [some (.ref a), some (.int m), none, some (.int 0), none]) ∨ (i = 1 ∧ ∃ r : Int, ∃ o4, 0 ≤ r ∧ σ = [some (.ref a), some (.int m), none, some (.int r), o4] ∧ Pu H' a n ∧ Sb a H H')) (.inl ⟨rfl, rfl, rfl⟩) ?_ ?_
      · rintro i σ H' hi (⟨rfl, rfl, rfl⟩ | ⟨rfl, _⟩)
        · refine ⟨_, rfl, a, _, _, _, rfl, rfl, SqL.of e, atI_nat (j := 2) rfl, _, _, rfl, rfl, _, rfl, a, _, _, 2, rfl, rfl, e, rfl, ?_⟩
          generalize hH : upd H' a (.lst ([V.int s, .int d, .int t, .int k].set 2 (.int (t + 1)))) = G
          have eG : G a = some (.lst [V.int s, .int d, .int (t + 1), .int k]) := by rw [← hH]; exact upd_same
          have sG : Sb a H' G := by rw [← hH]; exact Sb.upd
          refine ⟨_, rfl, _, _, rfl, rfl, .inr ⟨by decide, by decide⟩, ?_⟩
          refine ⟨_, rfl, a, _, _, _, rfl, rfl, SqL.of eG, atI_nat (j := 1) rfl, _, rfl, a, _, _, _, rfl, rfl, SqL.of eG, atI_nat (j := 2) rfl, _, rfl, a, _, _, _, rfl, rfl, SqL.of eG, atI_nat (j := 3) rfl, ?_⟩
          refine ⟨d, t + 1, k, rfl, ⟨h2, h3⟩, ⟨by omega, by omega⟩, ⟨h6, h7⟩, fun r hr0 => ?_⟩
          refine ⟨_, _, rfl, rfl, .inr ⟨rfl, _, _, ?_, rfl, ⟨_, _, _, _, eG, h1, h2, h3, by omega, by omega, h6, h7⟩, sG⟩⟩
          omega
        · exact absurd hi (by decide)
      · rintro σ H' (⟨h, _⟩ | ⟨_, r, o4, hr0, rfl, pu', sb⟩)
        · cases h
        · refine ⟨_, rfl, _, rfl, _, _, rfl, rfl, (by show (0 : Int) < m; omega), ?_⟩
          exact q _ _ (Int.emod_nonneg _ (by omega)) (Int.emod_lt_of_pos _ (by omega)) pu' sb
end
end Nv
set_option maxHeartbeats 4000000
namespace Nv
open PySem PySem.Spec PyProof.Rows L2
/-- the built-ins that the text calls are the built-ins still -/
structure Bl (mg : Str → Option Value) : Prop where
  rg : mg "range" = none
  len : mg "len" = none
  sum : mg "sum" = none
  max : mg "max" = none
  min : mg "min" = none
  int : mg "int" = none
  tup : mg "tuple" = none
theorem bootSum : bootBuiltins "sum" = some (.builtin "sum") := by decide +kernel
theorem bootMax : bootBuiltins "max" = some (.builtin "max") := by decide +kernel
theorem bootMin : bootBuiltins "min" = some (.builtin "min") := by decide +kernel
/-- ** of ints of any size -/
def CPowW (i j : Int) : Prop := 0 ≤ j ∧ (Builtin.Int.intBits i : Int) * j ≤ 2 ^ 27
theorem op_powW {X : Cx} : OpR X (binaryOp .Pow) (rI CPowW fun i j => .int (i ^ j.toNat)) := opI fun _ _ _ _ _ _ _ hc q => pow_int hc.1 hc.2 q
section
variable {P : Program} {w : World} {K : PySem.W.Frag} {mg : Str → Option Value} {base : Heap}
/-- _law_one_of(purse, some) -/
def spOneOf (K : PySem.W.Frag) : Sp := fun vs H Q _ => ∃ (a b : Addr) (n : Nat) (xs : List V), vs = [.ref a, .ref b] ∧ Pu H a (n + 1) ∧ SqL K H b xs ∧ b ≠ a ∧ (1 ≤ xs.length ∧ xs.length ≤ 1000) ∧
  ∀ (v : V) (H' : Hp), v ∈ xs → Pu H' a n → Sb a H H' → Q v H'
theorem scOneOf : FnScope ["_law_purse_here", "_law_some"] ["_law_purse_here", "_law_some"] (defScope sOneOf) := ⟨rfl, rfl, rfl, by decide +kernel, rfl, by decide +kernel, by decide +kernel⟩
theorem ok_oneOf {f fD : Addr} {fd fdD : FuncData} (F : Fun K "_law_one_of" "_law_one_of" sOneOf f fd) (GD : FnOk P w K mg base CX0 2 fD fdD ["_law_purse_here", "_law_many"] spDraw) (kD : PySem.W.keepIn K (.ref fD) = true) (gD : mg "_law_draw" = some (.ref fD)) (bD : Binds K fdD ["_law_purse_here", "_law_many"] []) (B : Bl mg) :
    FnOk P w K mg base CX0 3 f fd ["_law_purse_here", "_law_some"] (spOneOf K) := by
  refine F.ok scOneOf (fun vs H Q E h => ?_) (fun cdv A outer s H vs Q E hr h => ?_)
  · obtain ⟨a, b, n, xs, rfl, _⟩ := h
    rfl
  · obtain ⟨a, b, n, xs, rfl, pu, hb, hn, hl, q⟩ := h
    refine ⟨_, pss_one (ps_ret (pe_ix ix_list (pv 1) (by exact (pe_call GD hr (by rfl) gD kD bD .nil pass0 (pa_cons (pv 0) (pa_cons (pe_callB call_len_seq (by rfl) B.len PySem.boot_len (pa_cons (pv 1) pa_nil)) pa_nil)))) (fun _ _ => rfl))), ?_⟩
    refine ⟨_, rfl, _, rfl, _, rfl, b, xs, rfl, .inl hb, ?_⟩
    refine ⟨a, n, _, rfl, pu, ⟨by omega, by omega⟩, fun r H' h0 h1 pu' sb => ?_⟩
    obtain ⟨j, rfl⟩ : ∃ j : Nat, r = (j : Int) := ⟨r.toNat, by omega⟩
    have hj : j < xs.length := by omega
    refine ⟨b, xs, _, xs[j], rfl, rfl, sb.seq hn hb, atI_nat (List.getElem?_eq_getElem hj), ?_⟩
    exact q _ _ (List.getElem_mem hj) pu' sb
/-- _law_shuffled(purse, some) -/
def spShuffled (K : PySem.W.Frag) : Sp := fun vs H Q _ => ∃ (a b : Addr) (n : Nat) (xs : List V), vs = [.ref a, .ref b] ∧ Pu H a (n + xs.length) ∧ SqL K H b xs ∧ b ≠ a ∧ xs.length ≤ 1000 ∧
  ∀ (p : Addr) (ys : List V) (H' : Hp), ys.Perm xs → H p = none → Pu H' a n → Sb a H H' → H' p = some (.lst ys) → Q (.ref p) H'
theorem scShuffled : FnScope ["_law_purse_here", "_law_some", "_law_found", "_law_item"] ["_law_purse_here", "_law_some"] (defScope sShuffled) := ⟨rfl, rfl, rfl, by decide +kernel, rfl, by decide +kernel, by decide +kernel⟩
theorem perm_ins {α : Type} {ys zs : List α} {x : α} (j : Nat) (h : ys.Perm zs) : (ys.take j ++ [x] ++ ys.drop j).Perm (zs ++ [x]) := by
  have e : (ys.take j ++ [x] ++ ys.drop j).Perm (x :: ys) := by
    rw [List.append_assoc]
    refine (List.perm_append_comm).trans ?_
    show (x :: (ys.drop j ++ ys.take j)).Perm _
    refine List.Perm.cons _ ((List.perm_append_comm).trans ?_)
    rw [List.take_append_drop]
  refine e.trans ((List.Perm.cons _ h).trans ?_)
  exact (List.perm_append_comm (l₁ := [x]) (l₂ := zs))
theorem ok_shuffled {f fD : Addr} {fd fdD : FuncData} (F : Fun K "_law_shuffled" "_law_shuffled" sShuffled f fd) (GD : FnOk P w K mg base CX0 2 fD fdD ["_law_purse_here", "_law_many"] spDraw) (kD : PySem.W.keepIn K (.ref fD) = true) (gD : mg "_law_draw" = some (.ref fD)) (bD : Binds K fdD ["_law_purse_here", "_law_many"] []) (B : Bl mg) :
    FnOk P w K mg base CX0 3 f fd ["_law_purse_here", "_law_some"] (spShuffled K) := by
  refine F.ok scShuffled (fun vs H Q E h => ?_) (fun cdv A outer s H vs Q E hr h => ?_)
  · obtain ⟨a, b, n, xs, rfl, _⟩ := h
    rfl
  · obtain ⟨a, b, n, xs, rfl, pu, hb, hn, hl, q⟩ := h
    refine ⟨_, pss_cons (ps_set (i := 2) scShuffled.nd rfl (Or.inl rfl) (pe_lst pa_nil))
      (pss_cons (ps_for PassesOwn.never rfl (pi_list (pv 1)) (pg_name (i := 3) scShuffled.nd rfl (Or.inl rfl))
        (pss_one (ps_expr (pe_bm PySem.F.plainAttrs_list PySem.F.slot_list_insert PySem.F.type_list_insert mt_insert (pv 2)
          (pa_cons (by exact (pe_call GD hr (by rfl) gD kD bD .nil pass0 (pa_cons (pv 0) (pa_cons (pe_op op_add (pe_callB call_len_seq (by rfl) B.len PySem.boot_len (pa_cons (pv 2) pa_nil)) pe_int) pa_nil)))) (pa_cons (pv 3) pa_nil))))))
      (pss_one (ps_ret (pv 2)))), ?_⟩
    refine ⟨by decide, fun p np => ?_⟩
    have hpa : p ≠ a := pu.ne np
    refine ⟨_, rfl, b, rfl, ⟨_, (Sb.new (a := a) np).seq hn hb⟩, for_list (K := K) (a := b) (xs := xs) (fun i σ H' => ∃ ys o3, σ = [some (.ref a), some (.ref b), some (.ref p), o3] ∧ ys.Perm (xs.take i) ∧ Pu H' a (n + (xs.length - i)) ∧ Sb a H H' ∧ H' p = some (.lst ys))
      ⟨[], none, rfl, by simp, pu.put hpa, Sb.new np, upd_same⟩ (fun i σ H' _ z => ?_) ?_ ?_⟩
    · obtain ⟨ys, o3, _, _, _, sb, _⟩ := z
      exact sb.seq hn hb
    · rintro i x σ H' hi ⟨ys, o3, rfl, pm, pu', sb, e⟩
      have hil : i < xs.length := by
        rcases Nat.lt_or_ge i xs.length with h | h
        · exact h
        · rw [List.getElem?_eq_none h] at hi
          cases hi
      have hyl : ys.length = i := by
        rw [pm.length_eq, List.length_take]
        omega
      refine ⟨_, rfl, .inl ⟨rfl, _, SqL.of e⟩, _, rfl, _, rfl, p, ys, rfl, .inl (SqL.of e), _, _, rfl, rfl, ?_⟩
      refine ⟨a, n + (xs.length - (i + 1)), _, rfl, pu'.le (by omega), ⟨by omega, by omega⟩, fun r H2 h0 h1 pu2 sb2 => ?_⟩
      have e2 : H2 p = some (.lst ys) := sb2 _ _ hpa e
      refine ⟨_, rfl, p, ys, _, _, rfl, rfl, e2, small1000 (by omega), h0, by omega, ?_⟩
      refine ⟨_, _, rfl, ?_, pu2.put hpa, ?_, upd_same⟩
      · have ex : xs.take (i + 1) = xs.take i ++ [x] := by
          rw [List.take_add_one, hi] <;> rfl
        rw [ex]
        exact perm_ins _ pm
      · exact (sb.trans sb2).put np
    · rintro σ H' ⟨ys, o3, rfl, pm, pu', sb, e⟩
      rw [List.take_length] at pm
      exact ⟨_, rfl, q p ys H' pm np (pu'.le (by omega)) sb e⟩
/-- _law_purse(script, at) -/
def spPurse (K : PySem.W.Frag) : Sp := fun vs H Q _ => ∃ (a : Addr) (xs : List Int) (k : Nat), vs = [.ref a, .int (k : Int)] ∧ SqL K H a (xs.map V.int) ∧ k ≤ 100 ∧
  ∀ (p : Addr) (H' : Hp), H p = none → Pu H' p 1099511627776 → Same H H' → Q (.ref p) H'
theorem scPurse : FnScope ["_law_script", "_law_at", "_law_seed"] ["_law_script", "_law_at"] (defScope sPurse) := ⟨rfl, rfl, rfl, by decide +kernel, rfl, by decide +kernel, by decide +kernel⟩
theorem ok_purse {f : Addr} {fd : FuncData} (F : Fun K "_law_purse" "_law_purse" sPurse f fd) (B : Bl mg) : FnOk P w K mg base CX0 1 f fd ["_law_script", "_law_at"] (spPurse K) := by
  refine F.ok scPurse (fun vs H Q E h => ?_) (fun cdv A outer s H vs Q E hr h => ?_)
  · obtain ⟨a, xs, k, rfl, _⟩ := h
    rfl
  · obtain ⟨a, xs, k, rfl, ha, hk, q⟩ := h
    refine ⟨_, pss_cons (ps_set (i := 2) scPurse.nd rfl (Or.inl rfl) (pe_callB (cr_sum rfl) (by rfl) B.sum bootSum (pa_cons (pe_slice sl_list (pv 0) (po_some (pv 1)) (po_some (pe_op op_add (pv 1) pe_int))) pa_nil)))
      (pss_one (ps_ret (pe_lst (pa_cons (pe_op op_mod (pe_callB (call_max2 rfl) (by rfl) B.max bootMax (pa_cons (pe_op op_sub (pv 2) (pe_op op_pow pe_int pe_int)) (pa_cons pe_int pa_nil))) (pe_op op_powW (pe_op op_pow pe_int pe_int) pe_int))
        (pa_cons (pe_op op_mod (pv 2) pe_int) (pa_cons pe_int (pa_cons (pv 1) pa_nil))))))), ?_⟩
    refine ⟨_, rfl, _, rfl, _, rfl, _, rfl, _, _, rfl, rfl, _, rfl, a, _, rfl, ha, fun p np => ?_⟩
    have hc : cutV (xs.map V.int) (some (k : Int)) (some ((k : Int) + 1)) = ((xs.drop (HT.sIx xs.length 0 (some (k : Int)))).take (HT.sIx xs.length xs.length (some ((k : Int) + 1)) - HT.sIx xs.length 0 (some (k : Int)))).map V.int := by
      unfold cutV
      rw [List.length_map, List.map_take, List.map_drop]
    refine ⟨p, _, rfl, SqL.of (by rw [upd_same, hc]), ?_⟩
    generalize hz : (((xs.drop (HT.sIx xs.length 0 (some (k : Int)))).take (HT.sIx xs.length xs.length (some ((k : Int) + 1)) - HT.sIx xs.length 0 (some (k : Int))))).sum = z
    have s1 : Same H (upd H p (.lst (cutV (xs.map V.int) (some (k : Int)) (some ((k : Int) + 1))))) := same_new np
    generalize upd H p (.lst (cutV (xs.map V.int) (some (k : Int)) (some ((k : Int) + 1)))) = H1 at s1 ⊢
    refine ⟨_, rfl, _, _, rfl, rfl, ⟨by decide, by decide, by decide⟩, _, _, rfl, rfl, _, _, rfl, _, _, rfl, rfl, ⟨by decide, by decide, by decide⟩, _, _, rfl, rfl, ⟨by decide, by decide +kernel⟩, _, _, rfl, rfl, (by show (0 : Int) < _; decide +kernel), ?_⟩
    refine ⟨_, rfl, _, _, rfl, rfl, (by show (0 : Int) < 2147483629; decide), _, rfl, (by show 4 ≤ sizeLine; decide), fun p2 np2 => ?_⟩
    have s2 := s1.free np2
    refine q p2 _ s2 ⟨_, _, _, _, upd_same, Int.emod_nonneg _ (by decide +kernel), Int.emod_nonneg _ (by decide), Int.emod_lt_of_pos _ (by decide), by omega, by omega, by omega, by omega⟩ (same_put s1 s2)
end
end Nv
set_option maxHeartbeats 4000000
namespace Nv
open PySem PySem.Spec PyProof.Rows L2
/-- a name, a variable, a term -/
def IsNm (z : Str) : Prop := 1 ≤ z.length ∧ z.length ≤ 10 ∧ ∀ c ∈ z.cps.toList, 97 ≤ c ∧ c ≤ 122
def IsVr (z : Str) : Prop := 1 ≤ z.length ∧ z.length ≤ 3 ∧ ∀ c ∈ z.cps.toList, 65 ≤ c ∧ c ≤ 90
instance (z : Str) : Decidable (IsNm z) := by unfold IsNm; exact inferInstance
instance (z : Str) : Decidable (IsVr z) := by unfold IsVr; exact inferInstance
theorem flat_strs (xs : List Str) : (xs.map V.str).all flatV = true := by
  rw [List.all_eq_true]
  intro x hx
  obtain ⟨z, _, rfl⟩ := List.mem_map.mp hx
  rfl
theorem inV_strs (z : Str) (xs : List Str) : inV (.str z) (xs.map V.str) = decide (z ∈ xs) := by
  unfold inV
  rw [List.any_map]
  by_cases h : z ∈ xs
  · rw [decide_eq_true h, List.any_eq_true]
    exact ⟨z, h, by show (z == z) = true; exact beq_self_eq_true z⟩
  · rw [decide_eq_false h, List.any_eq_false]
    intro y hy
    show ¬ (y == z) = true
    intro e
    exact h (by rw [← eq_of_beq e]; exact hy)
theorem lett : ∀ j : Nat, j < 26 → atI (("abcdefghijklmnopqrstuvwxyz" : Str).cps.toList) (j : Int) = some (97 + j) := by decide +kernel
theorem perm_map_inv {α β : Type} {f : α → β} (hf : ∀ x y, f x = f y → x = y) {ws : List β} {xs : List α} (h : ws.Perm (xs.map f)) : ∃ us : List α, ws = us.map f ∧ us.Perm xs := by
  generalize hz : xs.map f = zs at h
  induction h generalizing xs with
  | nil =>
    cases xs with
    | nil => exact ⟨[], rfl, .nil⟩
    | cons x xs => cases hz
  | cons y h ih =>
    cases xs with
    | nil => cases hz
    | cons x xs =>
      injection hz with h1 h2
      obtain ⟨us, e, p⟩ := ih h2
      exact ⟨x :: us, by rw [e, ← h1] <;> rfl, .cons _ p⟩
  | swap x y l =>
    match xs, hz with
    | x1 :: x2 :: xs, hz =>
      injection hz with h1 h2
      injection h2 with h2 h3
      exact ⟨x2 :: x1 :: xs, by rw [← h1, ← h2, ← h3] <;> rfl, .swap _ _ _⟩
  | trans h1 h2 ih1 ih2 =>
    obtain ⟨us, e, p⟩ := ih2 hz
    obtain ⟨vs, e2, p2⟩ := ih1 e.symm
    exact ⟨vs, e2, p2.trans p⟩
theorem str_len_add (x y : Str) : (x ++ y).length = x.length + y.length := by
  show (x.cps ++ y.cps).size = _
  rw [Array.size_append] <;> rfl
theorem str_cps_add (x y : Str) : (x ++ y).cps.toList = x.cps.toList ++ y.cps.toList := by
  show (x.cps ++ y.cps).toList = _
  simp
section
variable {P : Program} {w : World} {K : PySem.W.Frag} {mg : Str → Option Value} {base : Heap}
/-- _law_purses(script, few) -/
def spPurses (K : PySem.W.Frag) : Sp := fun vs H Q _ => ∃ (a : Addr) (xs : List Int) (few : Nat), vs = [.ref a, .int (few : Int)] ∧ SqL K H a (xs.map V.int) ∧ xs.length ≤ 1000 ∧ few ≤ 100 ∧
  ∀ (p : Addr) (bs : List Addr) (H' : Hp), bs.Nodup → bs.length ≤ 100 → (∀ b ∈ bs, Pu H' b 1099511627776 ∧ H b = none) → H p = none → H' p = some (.lst (bs.map V.ref)) → Same H H' → Q (.ref p) H'
theorem scPurses : FnScope ["_law_script", "_law_few", "_law_at"] ["_law_script", "_law_few"] (defScope sPurses) := ⟨rfl, rfl, rfl, by decide +kernel, rfl, by decide +kernel, by decide +kernel⟩
theorem ok_purses {f fP : Addr} {fd fdP : FuncData} (F : Fun K "_law_purses" "_law_purses" sPurses f fd) (GP : FnOk P w K mg base CX0 1 fP fdP ["_law_script", "_law_at"] (spPurse K)) (kP : PySem.W.keepIn K (.ref fP) = true) (gP : mg "_law_purse" = some (.ref fP)) (bP : Binds K fdP ["_law_script", "_law_at"] []) (B : Bl mg) :
    FnOk P w K mg base CX0 2 f fd ["_law_script", "_law_few"] (spPurses K) := by
  refine F.ok scPurses (fun vs H Q E h => ?_) (fun cdv A outer s H vs Q E hr h => ?_)
  · obtain ⟨a, xs, few, rfl, _⟩ := h
    rfl
  · obtain ⟨a, xs, few, rfl, ha, hx, hf, q⟩ := h
    refine ⟨_, pss_one (ps_ret (by exact (pe_lc (own := [("_law_at", 2)]) (g := gName 2) (tt := tYes) rfl scPurses.nd
      (pi_range1 (by rfl) B.rg (pa_cons (pe_callB (call_max2 rfl) (by rfl) B.max bootMax (pa_cons pe_int (pa_cons (pe_callB (call_min2 rfl) (by rfl) B.min bootMin (pa_cons (pv 1) (pa_cons (pe_callB call_len_seq (by rfl) B.len PySem.boot_len (pa_cons (pv 0) pa_nil)) pa_nil))) pa_nil))) pa_nil))
      (blkOk_by (own := [("_law_at", 2)]) (N := ["_law_script", "_law_few", "_law_at"]) (sc := defScope sPurses) (by decide +kernel))
      (fun _ _ _ _ _ => pg_name (i := 2) scPurses.nd rfl (Or.inl rfl)) (fun _ _ _ _ _ => pts_nil)
      (fun _ _ _ _ _ => by exact (pe_call GP hr (by rfl) gP kP bP .nil pass0 (pa_cons (pv 0) (pa_cons (pv 2) pa_nil))))))), ?_⟩
    refine ⟨_, rfl, _, rfl, a, _, rfl, .inl ha, _, _, rfl, _, _, rfl, ?_⟩
    rw [List.length_map]
    generalize hM : (if (if (xs.length : Int) < (few : Int) then (xs.length : Int) else (few : Int)) > 1 then (if (xs.length : Int) < (few : Int) then (xs.length : Int) else (few : Int)) else 1) = M
    have hM0 : 0 ≤ M ∧ M ≤ 100 := by
      rw [← hM]
      split <;> split <;> omega
    refine ⟨M, rfl, by omega, by omega, fun D nD => ?_⟩
    refine lc_range (lo := 0) (n := M.toNat) (fun i H' => ∃ bs : List Addr, bs.length = i ∧ bs.Nodup ∧ (∀ b ∈ bs, Pu H' b 1099511627776 ∧ H b = none ∧ b ≠ D) ∧ H' D = some (.lst (bs.map V.ref)) ∧ Same H H') ⟨[], rfl, List.nodup_nil, (fun b hb => nomatch hb), upd_same, same_new nD⟩ ?_ ?_
    · rintro i H1 hi ⟨bs, hl, hnd, hb, e, sm⟩
      refine ⟨rfl, ?_⟩
      refine ⟨_, rfl, _, rfl, a, xs, i, (by rw [Int.zero_add]; rfl), sm.seq ha, by omega, fun p H2 np pu s2 => ?_⟩
      have e2 := s2 _ _ e
      have npH : H p = none := sm.free np
      have hpD : p ≠ D := fun z => by
        rw [z, e] at np
        cases np
      refine ⟨_, e2, by rw [List.length_map]; exact small1000 (by omega), bs ++ [p], by rw [List.length_append, hl] <;> rfl, ?_, ?_, by rw [upd_same, List.map_append] <;> rfl, ?_⟩
      · rw [List.nodup_append]
        refine ⟨hnd, by simp, fun x hx y hy => ?_⟩
        obtain rfl := List.mem_singleton.mp hy
        intro z
        subst z
        obtain ⟨o, eo⟩ := (hb _ hx).1.some
        rw [eo] at np
        cases np
      · intro b hbm
        rcases List.mem_append.mp hbm with hx | hx
        · obtain ⟨h1, h2, h3⟩ := hb b hx
          exact ⟨(h1.same s2).put (Ne.symm h3), h2, h3⟩
        · obtain rfl := List.mem_singleton.mp hx
          exact ⟨pu.put (Ne.symm hpD), npH, hpD⟩
      · exact same_put (sm.trans s2) nD
    · rintro H1 ⟨bs, hl, hnd, hb, e, sm⟩
      exact q D bs H1 hnd (by omega) (fun b hbm => ⟨(hb b hbm).1, (hb b hbm).2.1⟩) nD e sm
/-- _law_names(purse, many) -/
def spNames : Sp := fun vs H Q _ => ∃ (a : Addr) (n k : Nat), vs = [.ref a, .int (k : Int)] ∧ Pu H a (n + 18) ∧ k ≤ 6 ∧
  ∀ (p : Addr) (zs : List Str) (H' : Hp), zs.length = k → (∀ z ∈ zs, IsNm z) → zs.Nodup → H p = none → Pu H' a n → Sb a H H' → H' p = some (.lst (zs.map V.str)) → Q (.ref p) H'
theorem scNames : FnScope ["_law_purse_here", "_law_many", "_law_fresh", "_law_turn", "_law_some", "_law_word"] ["_law_purse_here", "_law_many"] (defScope sNames) := ⟨rfl, rfl, rfl, by decide +kernel, rfl, by decide +kernel, by decide +kernel⟩
def fixed6 : List Str := ["a", "b", "x", "xx", "ann", "abcdefghij"]
theorem fixed6_nm : ∀ z ∈ fixed6, IsNm z := by decide +kernel
theorem fixed6_nd : fixed6.Nodup := by decide +kernel
theorem ok_names {f fD fS : Addr} {fd fdD fdS : FuncData} (F : Fun K "_law_names" "_law_names" sNames f fd)
    (GD : FnOk P w K mg base CX0 2 fD fdD ["_law_purse_here", "_law_many"] spDraw) (kD : PySem.W.keepIn K (.ref fD) = true) (gD : mg "_law_draw" = some (.ref fD)) (bD : Binds K fdD ["_law_purse_here", "_law_many"] [])
    (GS : FnOk P w K mg base CX0 3 fS fdS ["_law_purse_here", "_law_some"] (spShuffled K)) (kS : PySem.W.keepIn K (.ref fS) = true) (gS : mg "_law_shuffled" = some (.ref fS)) (bS : Binds K fdS ["_law_purse_here", "_law_some"] []) (B : Bl mg) :
    FnOk P w K mg base CX0 4 f fd ["_law_purse_here", "_law_many"] spNames := by
  refine F.ok scNames (fun vs H Q E h => ?_) (fun cdv A outer s H vs Q E hr h => ?_)
  · obtain ⟨a, n, k, rfl, _⟩ := h
    rfl
  · obtain ⟨a, n, k, rfl, pu, hk, q⟩ := h
    have hr2 : Room 2 _ := hr.mono (by decide)
    refine ⟨_, pss_cons (ps_set (i := 2) scNames.nd rfl (Or.inl rfl) pe_str)
      (pss_cons (ps_for PassesOwn.never rfl (pi_range1 (by rfl) B.rg (pa_cons (pe_op op_add pe_int (by exact (pe_call GD hr2 (by rfl) gD kD bD .nil pass0 (pa_cons (pv 0) (pa_cons pe_int pa_nil))))) pa_nil)) (pg_name (i := 3) scNames.nd rfl (Or.inl rfl))
        (pss_one (ps_set (i := 2) scNames.nd rfl (Or.inl rfl) (pe_op op_add_str (pv 2) (pe_ix ix_str pe_str (by exact (pe_call GD hr2 (by rfl) gD kD bD .nil pass0 (pa_cons (pv 0) (pa_cons pe_int pa_nil)))) (fun _ _ => rfl))))))
      (pss_cons (ps_set (i := 4) scNames.nd rfl (Or.inr rfl) (pe_lst (pa_cons pe_str (pa_cons pe_str (pa_cons pe_str (pa_cons pe_str (pa_cons pe_str (pa_cons pe_str pa_nil))))))))
      (pss_one (ps_ret (pe_slice sl_list (by exact (pe_call GS hr (by rfl) gS kS bS .nil pass0 (pa_cons (pv 0) (pa_cons (pe_op op_cat (pv 4)
        (by exact (pe_lc (own := [("_law_word", 5)]) (g := gName 5) (tt := tTest (tOp (rIn K true) (tVar 5) (tVar 4))) rfl scNames.nd (pi_list (pe_lst (pa_cons (pv 2) pa_nil)))
          (blkOk_by (own := [("_law_word", 5)]) (N := ["_law_purse_here", "_law_many", "_law_fresh", "_law_turn", "_law_some", "_law_word"]) (sc := defScope sNames) (by decide +kernel))
          (fun _ _ _ _ _ => pg_name (i := 5) scNames.nd rfl (Or.inl rfl)) (fun _ _ _ _ _ => pts_one (by exact (pt_cmpR op_notIn_seq (pv 5) (pv 4) (by rfl)))) (fun _ _ _ _ _ => pv 5)))) pa_nil)))) po_none (po_some (pv 1))))))), ?_⟩
    refine ⟨_, rfl, a, n + 17, 10, rfl, pu, ⟨by decide, by decide⟩, fun r H0 h0 h1 pu0 sb0 => ⟨_, _, rfl, rfl, 1 + r, rfl, by omega, by omega, ?_⟩⟩
    refine for_range (lo := 0) (n := (1 + r).toNat) (fun i σ H' => ∃ (z : Str) (o3 : Option V), σ = [some (.ref a), some (.int (k : Int)), some (.str z), o3, none, none] ∧ z.length = i ∧ (∀ c ∈ z.cps.toList, 97 ≤ c ∧ c ≤ 122) ∧ Pu H' a (n + 7 + (10 - i)) ∧ Sb a H H')
      ⟨"", none, rfl, rfl, (fun c hc => nomatch hc), pu0, sb0⟩ ?_ ?_
    · rintro i σ H1 hi ⟨z, o3, rfl, hz, hc, pu1, sb1⟩
      refine ⟨_, rfl, _, rfl, a, n + 7 + (10 - (i + 1)), 26, rfl, pu1.le (by omega), ⟨by decide, by decide⟩, fun r2 H2 h2 h3 pu2 sb2 => ?_⟩
      obtain ⟨j, rfl⟩ : ∃ j : Nat, r2 = (j : Int) := ⟨r2.toNat, by omega⟩
      refine ⟨_, _, 97 + j, rfl, rfl, by decide +kernel, lett j (by omega), _, _, rfl, rfl, ?_, ?_⟩
      · show z.length + 1 ≤ sizeLine
        have : (1000 : Nat) ≤ sizeLine := by decide
        omega
      · refine ⟨_, _, rfl, ?_, ?_, pu2, sb1.trans sb2⟩
        · rw [str_len_add, hz] <;> rfl
        · intro c hc2
          rw [str_cps_add] at hc2
          rcases List.mem_append.mp hc2 with h | h
          · exact hc c h
          · have h : c ∈ [97 + j] := h
            obtain rfl := List.mem_singleton.mp h
            omega
    · rintro σ H1 ⟨z, o3, rfl, hz, hc, pu1, sb1⟩
      have nmz : IsNm z := ⟨by omega, by omega, hc⟩
      have pu1 : Pu H1 a (n + 7) := pu1.le (by omega)
      clear pu0 sb0
      refine ⟨by decide, fun p np => ?_⟩
      have npH := sb1.free pu1 np
      have pa : p ≠ a := pu1.ne np
      have sb2 : Sb a H (upd H1 p (.lst (fixed6.map V.str))) := sb1.put npH
      have pu2 : Pu (upd H1 p (.lst (fixed6.map V.str))) a (n + 7) := pu1.put pa
      have e2 : upd H1 p (.lst (fixed6.map V.str)) p = some (.lst (fixed6.map V.str)) := upd_same
      refine (show ∀ G : Hp, G = upd H1 p (.lst (fixed6.map V.str)) → tSeq _ _ { nx := fun _ H' => Q .non H', rt := Q } [some (.ref a), some (.int (k : Int)), some (.str z), o3, some (.ref p), none] G from fun G hG => ?_) _ rfl
      rw [← hG] at sb2 pu2 e2
      clear hG np npH
      refine ⟨_, rfl, _, rfl, _, rfl, (by show 1 ≤ sizeLine; decide), fun l nl => ⟨l, rfl, ⟨[.str z], SqL.of upd_same⟩, fun D nD => ?_⟩⟩
      have e3 : upd G l (.lst [.str z]) p = some (.lst (fixed6.map V.str)) := same_new nl _ _ e2
      have e4 : upd G l (.lst [.str z]) l = some (.lst [.str z]) := upd_same
      have pu3 : Pu (upd G l (.lst [.str z])) a (n + 7) := pu2.put (pu2.ne nl)
      have sb3 : Sb a H (upd G l (.lst [.str z])) := sb2.put (sb2.free pu2 nl)
      generalize upd G l (.lst [.str z]) = G1 at e3 e4 pu3 sb3 nD ⊢
      have pD : p ≠ D := ne_of_none e3 nD
      have lD : l ≠ D := ne_of_none e4 nD
      refine lc_list (K := K) (a := l) (xs := [.str z]) (fun i H' => Same G1 H' ∧ H' D = some (.lst ((if i = 0 then ([] : List Str) else if z ∈ fixed6 then [] else [z]).map V.str))) ⟨same_new nD, upd_same⟩ (fun i H' _ y => SqL.of (y.1 _ _ e4)) ?_ ?_
      · rintro i x G2 hi ⟨s1, e5⟩
        obtain ⟨rfl, rfl⟩ : i = 0 ∧ x = V.str z := by
          match i, hi with
          | 0, h => exact ⟨rfl, (Option.some.inj h).symm⟩
        rw [if_pos rfl] at e5
        refine ⟨rfl, _, rfl, _, rfl, p, fixed6.map V.str, rfl, .inl (SqL.of (s1 _ _ e3)), rfl, flat_strs _, _, rfl, ?_⟩
        rw [inV_strs]
        by_cases hz6 : z ∈ fixed6
        · rw [decide_eq_true hz6]
          refine iteF ⟨s1, ?_⟩
          rw [if_neg (by decide), if_pos hz6]
          exact e5
        · rw [decide_eq_false hz6]
          refine iteT ⟨_, rfl, _, e5, (by show 0 < sizeLine; decide), fun b o e => ?_, ?_⟩
          · rw [upd_ne (ne_of_none e nD)]
            exact s1 _ _ e
          · rw [upd_same, if_neg (by decide), if_neg hz6] <;> rfl
      · rintro G2 ⟨s1, e5⟩
        rw [if_neg (fun h => by cases h)] at e5
        generalize hys : (if z ∈ fixed6 then ([] : List Str) else [z]) = ys at e5
        have hy : ys.length ≤ 1 ∧ (∀ x ∈ ys, IsNm x ∧ x ∉ fixed6) ∧ ys.Nodup := by
          rw [← hys]
          split
          · exact ⟨by decide, (fun x hx => nomatch hx), List.nodup_nil⟩
          · rename_i h
            exact ⟨(by show 1 ≤ 1; decide), (fun x hx => by rw [List.mem_singleton.mp hx]; exact ⟨nmz, h⟩), by simp⟩
        have pu4 := pu3.same s1
        have sb4 := sb3.then s1
        refine ⟨_, _, _, _, rfl, rfl, s1 _ _ e3, e5, ?_, fun q1 nq => ?_⟩
        · rw [List.length_map, List.length_map]
          show 6 + ys.length ≤ sizeLine
          have : (1000 : Nat) ≤ sizeLine := by decide
          omega
        · have hl7 : (fixed6.map V.str ++ ys.map V.str).length ≤ 7 := by
            rw [List.length_append, List.length_map, List.length_map]
            show 6 + ys.length ≤ 7
            omega
          have nqa := pu4.ne nq
          refine ⟨a, q1, n, _, rfl, (pu4.put nqa).le (by omega), SqL.of upd_same, nqa, by omega, fun q2 ws H3 pm nq2 pu5 sb5 e6 => ?_⟩
          rw [← List.map_append] at pm
          obtain ⟨us, rfl, pu⟩ : ∃ us : List Str, ws = us.map V.str ∧ us.Perm (fixed6 ++ ys) := perm_map_inv (fun _ _ e => by injection e) pm
          have npq : H q2 = none := by
            have h1 : upd G2 q1 (.lst (fixed6.map V.str ++ ys.map V.str)) q2 = none := nq2
            have h2 : q2 ≠ q1 := fun z => by rw [z, upd_same] at h1; cases h1
            rw [upd_ne h2] at h1
            exact sb4.free pu4 h1
          refine ⟨_, rfl, _, rfl, q2, _, rfl, SqL.of e6, fun q3 nq3 => ?_⟩
          have sb6 : Sb a H H3 := (sb4.put (sb4.free pu4 nq)).trans sb5
          have hcut : cutV (us.map V.str) none (some (k : Int)) = (us.take k).map V.str := by
            unfold cutV
            have : us.length ≥ 6 := by
              rw [pu.length_eq, List.length_append]
              show 6 ≤ 6 + ys.length
              omega
            rw [HT.sIx_none, HT.sIx_nat, List.drop_zero, List.length_map, Nat.sub_zero, Nat.min_eq_left (by omega), List.map_take]
          rw [hcut]
          have hus : us.length ≥ 6 := by
            rw [pu.length_eq, List.length_append]
            show 6 ≤ 6 + ys.length
            omega
          refine q q3 (us.take k) _ (by rw [List.length_take]; omega) (fun x hx => ?_) ?_ (sb6.free pu5 nq3) (pu5.put (pu5.ne nq3)) (sb6.put (sb6.free pu5 nq3)) upd_same
          · have hx := pu.mem_iff.mp (List.mem_of_mem_take hx)
            rcases List.mem_append.mp hx with h | h
            · exact fixed6_nm _ h
            · exact (hy.2.1 _ h).1
          · refine List.Nodup.sublist (List.take_sublist _ _) (pu.nodup_iff.mpr (List.nodup_append.mpr ⟨fixed6_nd, hy.2.2, fun x hx y hy2 z => ?_⟩))
            subst z
            exact (hy.2.1 _ hy2).2 hx
end
end Nv
set_option maxHeartbeats 4000000
namespace Nv
open PySem PySem.Spec PyProof.Rows L2
def up1 (c : Nat) : Nat := if 97 ≤ c ∧ c ≤ 122 then c - 32 else c
theorem upper_list : ∀ l : List Nat, (∀ c ∈ l, c < 128) → Txt.upper ⟨l.toArray⟩ = ⟨(l.map up1).toArray⟩
  | [], _ => rfl
  | c :: l, h => by
    have e : (⟨(c :: l).toArray⟩ : Str) = (⟨#[c]⟩ : Str) ++ (⟨l.toArray⟩ : Str) := by
      show Str.mk _ = Str.mk _
      simp
    rw [e, PySem.W.KOpn.upper_app, PySem.W.KOpn.upper_one (h c List.mem_cons_self), upper_list l fun x hx => h x (List.mem_cons_of_mem _ hx)]
    show Str.mk _ = Str.mk _
    simp [up1]
theorem str_eta (z : Str) : z = ⟨z.cps.toList.toArray⟩ := by
  cases z
  simp
theorem upper_vr {z : Str} (h : IsVr z) : Txt.upper z = z := by
  rw [str_eta z, upper_list _ fun c hc => by have := h.2.2 c hc; omega]
  refine congrArg Str.mk (congrArg List.toArray ?_)
  refine (List.map_congr_left fun c hc => ?_).trans (List.map_id _)
  have := h.2.2 c hc
  unfold up1
  rw [if_neg (by omega)]
  rfl
theorem upper_nm {z : Str} (h : IsNm z) : Txt.upper z ≠ z := by
  intro e
  rw [str_eta z, upper_list _ fun c hc => by have := h.2.2 c hc; omega] at e
  have e2 : (z.cps.toList.map up1) = z.cps.toList := by
    have e3 := congrArg (fun s : Str => s.cps.toList) e
    simpa using e3
  have hl : z.cps.toList.length = z.length := by simp [Str.length]
  match hz : z.cps.toList with
  | [] =>
    rw [hz] at hl
    have := h.1
    simp at hl
    omega
  | c :: l =>
    rw [hz] at e2
    injection e2 with h1 h2
    have h3 := h.2.2 c (by rw [hz]; exact List.mem_cons_self)
    unfold up1 at h1
    rw [if_pos h3] at h1
    omega
end Nv
set_option maxHeartbeats 4000000
namespace Nv
open PySem PySem.Spec PyProof.Rows L2
/-- a word of a kind -/
def IsWd (w : Str) : Prop := IsNm w ∧ w ≠ "never"
instance (w : Str) : Decidable (IsWd w) := inferInstanceAs (Decidable (_ ∧ _))
/-- a kind: a tuple of a word and a number -/
def Kd (H : Hp) (v : V) : Prop := ∃ (t : Addr) (w : Str) (m : Nat), v = .ref t ∧ H t = some (.tup [.str w, .int (m : Int)]) ∧ IsWd w ∧ m ≤ 3
section
variable {a : Addr} {H H1 H2 : Hp} {n m : Nat} {v : V}
theorem Kd.same (k : Kd H v) (s : Same H H1) : Kd H1 v := by
  obtain ⟨t, w, m, rfl, e, h⟩ := k
  exact ⟨t, w, m, rfl, s _ _ e, h⟩
theorem Kd.ne (k : Kd H v) (pu : Pu H a n) : v ≠ .ref a := by
  obtain ⟨t, w, m, rfl, e, h⟩ := k
  obtain ⟨s, d, tt, kk, e2, _⟩ := pu.ex
  intro z
  cases z
  rw [e] at e2
  cases e2
theorem Kd.sb (k : Kd H v) (pu : Pu H a n) (s : Sb a H H1) : Kd H1 v := by
  have hn := k.ne pu
  obtain ⟨t, w, m, rfl, e, h⟩ := k
  exact ⟨t, w, m, rfl, s _ _ (fun z => hn (by rw [z])) e, h⟩
theorem kd_new {G : Hp} {t : Addr} {w : Str} {m : Nat} (sb : Same H G) (nt : G t = none) (hw : IsWd w) (hm : m ≤ 3) :
    Same H (upd G t (.tup [.str w, .int (m : Int)])) ∧ Same G (upd G t (.tup [.str w, .int (m : Int)])) ∧ Kd (upd G t (.tup [.str w, .int (m : Int)])) (.ref t) :=
  ⟨same_put sb (sb.free nt), same_new nt, t, w, m, rfl, upd_same, hw, hm⟩
end
section
variable {P : Program} {w : World} {K : PySem.W.Frag} {mg : Str → Option Value} {base : Heap}
/-- _law_kinds(purse, many) -/
def spKinds : Sp := fun vs H Q _ => ∃ (a : Addr) (n k : Nat), vs = [.ref a, .int (k : Int)] ∧ Pu H a (n + 9) ∧ k ≤ 7 ∧
  ∀ (p : Addr) (ks : List V) (H' : Hp), ks.length = k → (∀ v ∈ ks, Kd H' v) → H p = none → Pu H' a n → Sb a H H' → H' p = some (.lst ks) → Q (.ref p) H'
theorem scKinds : FnScope ["_law_purse_here", "_law_many", "_law_some"] ["_law_purse_here", "_law_many"] (defScope sKinds) := ⟨rfl, rfl, rfl, by decide +kernel, rfl, by decide +kernel, by decide +kernel⟩
theorem ok_kinds {f fD fS : Addr} {fd fdD fdS : FuncData} (F : Fun K "_law_kinds" "_law_kinds" sKinds f fd)
    (GD : FnOk P w K mg base CX0 2 fD fdD ["_law_purse_here", "_law_many"] spDraw) (kD : PySem.W.keepIn K (.ref fD) = true) (gD : mg "_law_draw" = some (.ref fD)) (bD : Binds K fdD ["_law_purse_here", "_law_many"] [])
    (GS : FnOk P w K mg base CX0 3 fS fdS ["_law_purse_here", "_law_some"] (spShuffled K)) (kS : PySem.W.keepIn K (.ref fS) = true) (gS : mg "_law_shuffled" = some (.ref fS)) (bS : Binds K fdS ["_law_purse_here", "_law_some"] []) (B : Bl mg) :
    FnOk P w K mg base CX0 4 f fd ["_law_purse_here", "_law_many"] spKinds := by
  refine F.ok scKinds (fun vs H Q E h => ?_) (fun cdv A outer s H vs Q E hr h => ?_)
  · obtain ⟨a, n, k, rfl, _⟩ := h
    rfl
  · obtain ⟨a, n, k, rfl, pu, hk, q⟩ := h
    have hr2 : Room 2 _ := hr.mono (by decide)
    refine ⟨_, pss_cons (ps_set (i := 2) scKinds.nd rfl (Or.inl rfl) (pe_lst (pa_cons (pe_tup (pa_cons pe_str (pa_cons pe_int pa_nil))) (pa_cons (pe_tup (pa_cons pe_str (pa_cons pe_int pa_nil))) (pa_cons (pe_tup (pa_cons pe_str (pa_cons pe_int pa_nil))) (pa_cons (pe_tup (pa_cons pe_str (pa_cons pe_int pa_nil))) (pa_cons (pe_tup (pa_cons pe_str (pa_cons pe_int pa_nil))) (pa_cons (pe_tup (pa_cons pe_str (pa_cons pe_int pa_nil))) (pa_cons (pe_tup (pa_cons pe_str (pa_cons pe_int pa_nil))) (pa_cons (pe_tup (pa_cons pe_str (pa_cons pe_int pa_nil))) pa_nil))))))))))
      (pss_one (ps_ret (pe_slice sl_list (by exact (pe_call GS hr (by rfl) gS kS bS .nil pass0 (pa_cons (pv 0) (pa_cons
        (pe_slice sl_list (pv 2) po_none (po_some (pe_op op_add pe_int (pe_callTy call_int1 (by rfl) B.int boot_int (pa_cons (pe_cmpR op_eq (by exact (pe_call GD hr2 (by rfl) gD kD bD .nil pass0 (pa_cons (pv 0) (pa_cons pe_int pa_nil)))) pe_int (nomark _)) pa_nil)))))
        pa_nil)))) po_none (po_some (pv 1))))), ?_⟩
    have s0 : Same H H := Same.refl H
    refine ⟨(by show 2 ≤ sizeLine; decide), fun t1 n1 => ?_⟩
    obtain ⟨s1, r1, k1⟩ := kd_new (w := "p") (m := 1) s0 n1 (by decide +kernel) (by decide)
    refine (show ∀ G : Hp, Same H G → Same H G → Kd G (.ref t1) → _ from fun G1 s1 r1 k1 => ?_) _ s1 r1 k1
    refine ⟨(by show 2 ≤ sizeLine; decide), fun t2 n2 => ?_⟩
    obtain ⟨s2, r2, k2⟩ := kd_new (w := "q") (m := 1) s1 n2 (by decide +kernel) (by decide)
    refine (show ∀ G : Hp, Same H G → Same G1 G → Kd G (.ref t2) → _ from fun G2 s2 r2 k2 => ?_) _ s2 r2 k2
    replace k1 := k1.same r2
    refine ⟨(by show 2 ≤ sizeLine; decide), fun t3 n3 => ?_⟩
    obtain ⟨s3, r3, k3⟩ := kd_new (w := "way") (m := 2) s2 n3 (by decide +kernel) (by decide)
    refine (show ∀ G : Hp, Same H G → Same G2 G → Kd G (.ref t3) → _ from fun G3 s3 r3 k3 => ?_) _ s3 r3 k3
    replace k1 := k1.same r3
    replace k2 := k2.same r3
    refine ⟨(by show 2 ≤ sizeLine; decide), fun t4 n4 => ?_⟩
    obtain ⟨s4, r4, k4⟩ := kd_new (w := "p") (m := 2) s3 n4 (by decide +kernel) (by decide)
    refine (show ∀ G : Hp, Same H G → Same G3 G → Kd G (.ref t4) → _ from fun G4 s4 r4 k4 => ?_) _ s4 r4 k4
    replace k1 := k1.same r4
    replace k2 := k2.same r4
    replace k3 := k3.same r4
    refine ⟨(by show 2 ≤ sizeLine; decide), fun t5 n5 => ?_⟩
    obtain ⟨s5, r5, k5⟩ := kd_new (w := "rain") (m := 0) s4 n5 (by decide +kernel) (by decide)
    refine (show ∀ G : Hp, Same H G → Same G4 G → Kd G (.ref t5) → _ from fun G5 s5 r5 k5 => ?_) _ s5 r5 k5
    replace k1 := k1.same r5
    replace k2 := k2.same r5
    replace k3 := k3.same r5
    replace k4 := k4.same r5
    refine ⟨(by show 2 ≤ sizeLine; decide), fun t6 n6 => ?_⟩
    obtain ⟨s6, r6, k6⟩ := kd_new (w := "not") (m := 2) s5 n6 (by decide +kernel) (by decide)
    refine (show ∀ G : Hp, Same H G → Same G5 G → Kd G (.ref t6) → _ from fun G6 s6 r6 k6 => ?_) _ s6 r6 k6
    replace k1 := k1.same r6
    replace k2 := k2.same r6
    replace k3 := k3.same r6
    replace k4 := k4.same r6
    replace k5 := k5.same r6
    refine ⟨(by show 2 ≤ sizeLine; decide), fun t7 n7 => ?_⟩
    obtain ⟨s7, r7, k7⟩ := kd_new (w := "a") (m := 1) s6 n7 (by decide +kernel) (by decide)
    refine (show ∀ G : Hp, Same H G → Same G6 G → Kd G (.ref t7) → _ from fun G7 s7 r7 k7 => ?_) _ s7 r7 k7
    replace k1 := k1.same r7
    replace k2 := k2.same r7
    replace k3 := k3.same r7
    replace k4 := k4.same r7
    replace k5 := k5.same r7
    replace k6 := k6.same r7
    refine ⟨(by show 2 ≤ sizeLine; decide), fun t8 n8 => ?_⟩
    obtain ⟨s8, r8, k8⟩ := kd_new (w := "longestone") (m := 3) s7 n8 (by decide +kernel) (by decide)
    refine (show ∀ G : Hp, Same H G → Same G7 G → Kd G (.ref t8) → _ from fun G8 s8 r8 k8 => ?_) _ s8 r8 k8
    replace k1 := k1.same r8
    replace k2 := k2.same r8
    replace k3 := k3.same r8
    replace k4 := k4.same r8
    replace k5 := k5.same r8
    replace k6 := k6.same r8
    replace k7 := k7.same r8
    refine ⟨(by show 8 ≤ sizeLine; decide), fun p np => ?_⟩
    have kall : ∀ v ∈ [V.ref t1, .ref t2, .ref t3, .ref t4, .ref t5, .ref t6, .ref t7, .ref t8], Kd G8 v := by
      intro v hv
      simp only [List.mem_cons, List.not_mem_nil, or_false] at hv
      rcases hv with rfl | rfl | rfl | rfl | rfl | rfl | rfl | rfl <;> assumption
    have hl8 : [V.ref t1, .ref t2, .ref t3, .ref t4, .ref t5, .ref t6, .ref t7, .ref t8].length = 8 := rfl
    generalize [V.ref t1, .ref t2, .ref t3, .ref t4, .ref t5, .ref t6, .ref t7, .ref t8] = xs at kall hl8 ⊢
    refine (show ∀ G : Hp, Same G8 G → G p = some (.lst xs) → tSeq _ _ { nx := fun _ H' => Q .non H', rt := Q } [some (.ref a), some (.int (k : Int)), some (.ref p)] G from fun G sG eG => ?_) _ (same_new np) upd_same
    have sG := s8.trans sG
    replace kall : ∀ v ∈ xs, Kd G v := fun v hv => (kall v hv).same (by assumption)
    have puG : Pu G a (n + 9) := pu.same sG
    have pa := puG.ne (q := p)
    refine ⟨_, rfl, _, rfl, _, rfl, a, n + 8, 8, rfl, puG, ⟨by decide, by decide⟩, fun r H1 h0 h1 pu1 sb1 => ?_⟩
    have pna : p ≠ a := fun z => by
      obtain ⟨s, d, t, kk, e2, _⟩ := puG.ex
      rw [z, e2] at eG
      injection eG with eG
      injection eG with eG
      have := congrArg List.length eG
      rw [hl8] at this
      cases this
    have e1 : H1 p = some (.lst xs) := sb1 _ _ pna eG
    have k1 : ∀ v ∈ xs, Kd H1 v := fun v hv => (kall v hv).sb puG sb1
    refine ⟨rfl, .inr ⟨_, rfl, ?_⟩⟩
    generalize hb : (if decide (V.int r = V.int 0) = true then (1 : Int) else 0) = b
    have hb2 : 0 ≤ b ∧ b ≤ 1 := by
      rw [← hb]
      split <;> decide
    obtain ⟨j, rfl⟩ : ∃ j : Nat, b = (j : Int) := ⟨b.toNat, by omega⟩
    refine ⟨_, _, rfl, rfl, _, rfl, p, xs, rfl, SqL.of e1, fun q1 nq1 => ?_⟩
    have hc : cutV xs none (some (7 + (j : Int))) = xs.take (7 + j) := by
      unfold cutV
      have e7 : (7 + (j : Int)) = ((7 + j : Nat) : Int) := by omega
      rw [e7, HT.sIx_none, HT.sIx_nat, List.drop_zero, Nat.sub_zero, Nat.min_eq_left (by omega)]
    rw [hc]
    have hl : (xs.take (7 + j)).length = 7 + j := by
      rw [List.length_take]
      omega
    have q1a := pu1.ne nq1
    refine ⟨a, q1, n, _, rfl, (pu1.put q1a).le (by omega), SqL.of upd_same, q1a, by omega, fun q2 ys H2 pm nq2 pu2 sb2 e2 => ?_⟩
    have sb3 : Sb a H1 H2 := (Sb.new nq1).trans sb2
    refine ⟨_, rfl, _, rfl, q2, ys, rfl, SqL.of e2, fun q3 nq3 => ?_⟩
    have hc2 : cutV ys none (some (k : Int)) = ys.take k := by
      unfold cutV
      have := pm.length_eq
      rw [HT.sIx_none, HT.sIx_nat, List.drop_zero, Nat.sub_zero, Nat.min_eq_left (by omega)]
    rw [hc2]
    have sb4 : Sb a H H2 := ((Sb.of sG).trans sb1).trans sb3
    have hly := pm.length_eq
    refine q q3 (ys.take k) _ (by rw [List.length_take]; omega) (fun v hv => ?_) (sb4.free pu2 nq3) (pu2.put (pu2.ne nq3)) (sb4.put (sb4.free pu2 nq3)) upd_same
    have hv2 := List.mem_of_mem_take (pm.mem_iff.mp (List.mem_of_mem_take hv))
    exact ((k1 v hv2).sb pu1 sb3).same (same_new nq3)
end
end Nv
set_option maxHeartbeats 4000000
namespace Nv
open PySem PySem.Spec PyProof.Rows L2
theorem big1000 : (1000 : Nat) ≤ sizeLine := by decide
/-- a list of tuples of texts, as they stand in the heap -/
inductive PaL (H : Hp) : List V → List (List Str) → Prop
  | nil : PaL H [] []
  | cons {t : Addr} {p : List Str} {vs : List V} {ps : List (List Str)} (e : H t = some (.tup (p.map V.str))) (h : PaL H vs ps) : PaL H (.ref t :: vs) (p :: ps)
section
variable {a : Addr} {H H1 H2 : Hp} {n m : Nat} {vs us : List V} {ps qs : List (List Str)}
theorem PaL.same (h : PaL H vs ps) (s : Same H H1) : PaL H1 vs ps := by
  induction h with
  | nil => exact .nil
  | cons e _ ih => exact .cons (s _ _ e) ih
theorem tup_ne {t : Addr} {xs : List V} (pu : Pu H a n) (e : H t = some (.tup xs)) : t ≠ a := fun z => by
  obtain ⟨s, d, tt, kk, e2, _⟩ := pu.ex
  rw [z, e2] at e
  cases e
theorem PaL.sb (h : PaL H vs ps) (pu : Pu H a n) (s : Sb a H H1) : PaL H1 vs ps := by
  induction h with
  | nil => exact .nil
  | cons e _ ih => exact .cons (s _ _ (tup_ne pu e) e) ih
theorem PaL.len (h : PaL H vs ps) : vs.length = ps.length := by
  induction h with
  | nil => rfl
  | cons e _ ih => simp [ih]
theorem PaL.app (h : PaL H vs ps) (h2 : PaL H us qs) : PaL H (vs ++ us) (ps ++ qs) := by
  induction h with
  | nil => exact h2
  | cons e _ ih => exact .cons e ih
theorem PaL.at_ (h : PaL H vs ps) {i : Nat} {v : V} (hi : vs[i]? = some v) : ∃ (t : Addr) (p : List Str), v = .ref t ∧ ps[i]? = some p ∧ H t = some (.tup (p.map V.str)) := by
  induction h generalizing i with
  | nil => cases i <;> cases hi
  | cons e _ ih =>
    cases i with
    | zero =>
      cases hi
      exact ⟨_, _, rfl, rfl, e⟩
    | succ i => exact ih hi
end
/-- a pattern's parts -/
def PatOk (p : List Str) : Prop := ∃ (w : Str) (ts : List Str), p = w :: ts ∧ IsNm w ∧ ts.length ≤ 3 ∧ ∀ x ∈ ts, IsVr x ∨ IsNm x
section
variable {P : Program} {w : World} {K : PySem.W.Frag} {mg : Str → Option Value} {base : Heap}
/-- _law_pattern(purse, kinds, terms) -/
def spPattern (K : PySem.W.Frag) : Sp := fun vs H Q _ => ∃ (a b c : Addr) (n : Nat) (ks : List V) (zs : List Str), vs = [.ref a, .ref b, .ref c] ∧ Pu H a (n + 4) ∧ (SqL K H b ks ∧ b ≠ a ∧ 1 ≤ ks.length ∧ ks.length ≤ 1000 ∧ ∀ v ∈ ks, Kd H v) ∧
  (SqL K H c (zs.map V.str) ∧ c ≠ a ∧ 1 ≤ zs.length ∧ zs.length ≤ 1000) ∧
  ∀ (t : Addr) (wd : Str) (ts : List Str) (H' : Hp), IsWd wd → ts.length ≤ 3 → (∀ x ∈ ts, x ∈ zs) → H t = none → Pu H' a n → Sb a H H' → H' t = some (.tup ((wd :: ts).map V.str)) → Q (.ref t) H'
theorem scPattern : FnScope ["_law_purse_here", "_law_kinds_here", "_law_terms", "_law_word", "_law_many", "_law_turn"] ["_law_purse_here", "_law_kinds_here", "_law_terms"] (defScope sPattern) := ⟨rfl, rfl, rfl, by decide +kernel, rfl, by decide +kernel, by decide +kernel⟩
theorem ok_pattern {f fO : Addr} {fd fdO : FuncData} (F : Fun K "_law_pattern" "_law_pattern" sPattern f fd)
    (GO : FnOk P w K mg base CX0 3 fO fdO ["_law_purse_here", "_law_some"] (spOneOf K)) (kO : PySem.W.keepIn K (.ref fO) = true) (gO : mg "_law_one_of" = some (.ref fO)) (bO : Binds K fdO ["_law_purse_here", "_law_some"] []) (B : Bl mg) :
    FnOk P w K mg base CX0 4 f fd ["_law_purse_here", "_law_kinds_here", "_law_terms"] (spPattern K) := by
  refine F.ok scPattern (fun vs H Q E h => ?_) (fun cdv A outer s H vs Q E hr h => ?_)
  · obtain ⟨a, b, c, n, ks, zs, rfl, _⟩ := h
    rfl
  · obtain ⟨a, b, c, n, ks, zs, rfl, pu, ⟨hb, hba, hk1, hk2, hkd⟩, ⟨hc, hca, hz1, hz2⟩, q⟩ := h
    refine ⟨_, pss_cons (ps_asg (by exact (pe_call GO hr (by rfl) gO kO bO .nil pass0 (pa_cons (pv 0) (pa_cons (pv 1) pa_nil)))) (pg_tup (by rfl) (pgs_cons (pg_name (i := 3) scPattern.nd rfl (Or.inl rfl)) (pgs_cons (pg_name (i := 4) scPattern.nd rfl (Or.inl rfl)) pgs_nil))))
      (pss_one (ps_ret (pe_callTy call_tuple_of (by rfl) B.tup PyProof.Rows.boot_tuple (pa_cons (pe_op op_cat (pe_lst (pa_cons (pv 3) pa_nil))
        (by exact (pe_lc (own := [("_law_turn", 5)]) (g := gName 5) (tt := tYes) rfl scPattern.nd (pi_range1 (by rfl) B.rg (pa_cons (pv 4) pa_nil))
          (blkOk_by (own := [("_law_turn", 5)]) (N := ["_law_purse_here", "_law_kinds_here", "_law_terms", "_law_word", "_law_many", "_law_turn"]) (sc := defScope sPattern) (by decide +kernel))
          (fun _ _ _ _ _ => pg_name (i := 5) scPattern.nd rfl (Or.inl rfl)) (fun _ _ _ _ _ => pts_nil)
          (fun _ _ _ _ _ => by exact (pe_call GO hr (by rfl) gO kO bO .nil pass0 (pa_cons (pv 0) (pa_cons (pv 2) pa_nil))))))) pa_nil)))), ?_⟩
    refine ⟨_, rfl, _, rfl, a, b, n + 3, ks, rfl, pu, hb, hba, ⟨hk1, hk2⟩, fun v H1 hv pu1 sb1 => ?_⟩
    obtain ⟨t0, wd, m, rfl, e0, hw, hm⟩ := hkd v hv
    have e1 : H1 t0 = some (.tup [.str wd, .int (m : Int)]) := sb1 _ _ (tup_ne pu e0) e0
    refine ⟨t0, _, rfl, SqT.of e1, rfl, _, _, rfl, _, _, rfl, rfl, ?_⟩
    have hc1 := sb1.seq hca hc
    refine ⟨_, rfl, (by show 1 ≤ sizeLine; decide), fun l nl => ?_⟩
    have pu2 : Pu (upd H1 l (.lst [V.str wd])) a (n + 3) := pu1.put (pu1.ne nl)
    have sb2 : Sb a H (upd H1 l (.lst [V.str wd])) := sb1.put (sb1.free pu1 nl)
    have hc2 : SqL K (upd H1 l (.lst [V.str wd])) c (zs.map V.str) := (same_new nl).seq hc1
    have el : upd H1 l (.lst [V.str wd]) l = some (.lst [V.str wd]) := upd_same
    generalize upd H1 l (.lst [V.str wd]) = G at pu2 sb2 hc2 el ⊢
    refine ⟨_, rfl, (m : Int), rfl, by omega, by omega, fun D nD => ?_⟩
    have hDa := pu2.ne nD
    refine lc_range (lo := 0) (n := (m : Int).toNat) (fun i H' => ∃ ts : List Str, ts.length = i ∧ (∀ x ∈ ts, x ∈ zs) ∧ Pu H' a (n + (3 - i)) ∧ Sb a G H' ∧ H' D = some (.lst (ts.map V.str))) ⟨[], rfl, (fun x hx => nomatch hx), pu2.put hDa, Sb.new nD, upd_same⟩ ?_ ?_
    · rintro i H2 hi ⟨ts, hl, hts, pu3, sb3, e3⟩
      refine ⟨rfl, ?_⟩
      refine ⟨_, rfl, _, rfl, a, c, n + (3 - (i + 1)), zs.map V.str, rfl, pu3.le (by omega), sb3.seq hca hc2, hca, ⟨by rw [List.length_map]; exact hz1, by rw [List.length_map]; exact hz2⟩, fun v H3 hv pu4 sb4 => ?_⟩
      obtain ⟨z, hz, rfl⟩ := List.mem_map.mp hv
      refine ⟨_, sb4 _ _ hDa e3, by rw [List.length_map]; exact small1000 (by omega), ts ++ [z], by rw [List.length_append, hl] <;> rfl, ?_, pu4.put hDa, ?_, by rw [upd_same, List.map_append] <;> rfl⟩
      · intro x hx
        rcases List.mem_append.mp hx with h | h
        · exact hts x h
        · rw [List.mem_singleton.mp h]
          exact hz
      · exact (sb3.trans sb4).put nD
    · rintro H2 ⟨ts, hl, hts, pu3, sb3, e3⟩
      have hla : l ≠ a := by
        intro z
        obtain ⟨s, d, tt, kk, e2, _⟩ := pu2.ex
        rw [z, e2] at el
        injection el with el
        injection el with el
        cases el
      have el2 := sb3 _ _ hla el
      refine ⟨_, _, _, _, rfl, rfl, el2, e3, ?_, fun q1 nq => ?_⟩
      · rw [List.length_map]
        have := big1000
        show 1 + ts.length ≤ _
        omega
      · refine ⟨q1, _, rfl, .inl ⟨SqL.of upd_same, fun q2 nq2 => ?_⟩⟩
        have sb4 : Sb a H H2 := sb2.trans sb3
        have pu4 := pu3.put (o := .lst ([V.str wd] ++ ts.map V.str)) (pu3.ne nq)
        have sb5 : Sb a H (upd H2 q1 (.lst ([V.str wd] ++ ts.map V.str))) := sb4.put (sb4.free pu3 nq)
        refine q q2 wd ts _ hw (by omega) hts (sb5.free pu4 nq2) ((pu4.put (pu4.ne nq2)).le (by omega)) (sb5.put (sb5.free pu4 nq2)) upd_same
def four : List Str := ["X", "Y", "Z", "XYZ"]
theorem four_vr : ∀ z ∈ four, IsVr z := by decide +kernel
/-- its variables are among these four -/
def Few (p : List Str) : Prop := ∀ y ∈ p.tail, IsVr y → y ∈ four
theorem vr_nm {z : Str} (h : IsVr z) (k : IsNm z) : False := by
  have l := h.1
  have e : z.cps.toList.length = z.length := by simp [Str.length]
  match hz : z.cps.toList with
  | [] =>
    rw [hz] at e
    simp at e
    omega
  | c :: cs =>
    have a := h.2.2 c (by rw [hz]; exact List.mem_cons_self)
    have b := k.2.2 c (by rw [hz]; exact List.mem_cons_self)
    omega
/-- _law_told(purse, kinds, names, most, few) -/
def spTold (K : PySem.W.Frag) : Sp := fun vs H Q _ => ∃ (a b c : Addr) (n most few : Nat) (ks : List V) (zs : List Str), vs = [.ref a, .ref b, .ref c, .int (most : Int), .int (few : Int)] ∧ Pu H a (n + (2 + 4 * most)) ∧ (1 ≤ few ∧ few ≤ 4 ∧ most ≤ 100) ∧
  (SqL K H b ks ∧ b ≠ a ∧ 1 ≤ ks.length ∧ ks.length ≤ 1000 ∧ ∀ v ∈ ks, Kd H v) ∧ (SqL K H c (zs.map V.str) ∧ c ≠ a ∧ zs.length ≤ 100 ∧ ∀ z ∈ zs, IsNm z) ∧
  ∀ (p : Addr) (us : List V) (ps : List (List Str)) (H' : Hp), PaL H' us ps → (∀ x ∈ ps, PatOk x) → (∀ x ∈ ps, Few x) → ps.length ≤ most → H p = none → Pu H' a n → Sb a H H' → H' p = some (.lst us) → Q (.ref p) H'
theorem scTold : FnScope ["_law_purse_here", "_law_kinds_here", "_law_names_here", "_law_most", "_law_few", "_law_terms", "_law_many", "_law_turn"] ["_law_purse_here", "_law_kinds_here", "_law_names_here", "_law_most", "_law_few"] (defScope sTold) := ⟨rfl, rfl, rfl, by decide +kernel, rfl, by decide +kernel, by decide +kernel⟩
theorem ok_told {f fO fD fP : Addr} {fd fdO fdD fdP : FuncData} (F : Fun K "_law_told" "_law_told" sTold f fd)
    (GO : FnOk P w K mg base CX0 3 fO fdO ["_law_purse_here", "_law_some"] (spOneOf K)) (kO : PySem.W.keepIn K (.ref fO) = true) (gO : mg "_law_one_of" = some (.ref fO)) (bO : Binds K fdO ["_law_purse_here", "_law_some"] [])
    (GD : FnOk P w K mg base CX0 2 fD fdD ["_law_purse_here", "_law_many"] spDraw) (kD : PySem.W.keepIn K (.ref fD) = true) (gD : mg "_law_draw" = some (.ref fD)) (bD : Binds K fdD ["_law_purse_here", "_law_many"] [])
    (GP : FnOk P w K mg base CX0 4 fP fdP ["_law_purse_here", "_law_kinds_here", "_law_terms"] (spPattern K)) (kP : PySem.W.keepIn K (.ref fP) = true) (gP : mg "_law_pattern" = some (.ref fP)) (bP : Binds K fdP ["_law_purse_here", "_law_kinds_here", "_law_terms"] []) (B : Bl mg) :
    FnOk P w K mg base CX0 5 f fd ["_law_purse_here", "_law_kinds_here", "_law_names_here", "_law_most", "_law_few"] (spTold K) := by
  refine F.ok scTold (fun vs H Q E h => ?_) (fun cdv A outer s H vs Q E hr h => ?_)
  · obtain ⟨a, b, c, n, most, few, ks, zs, rfl, _⟩ := h
    rfl
  · obtain ⟨a, b, c, n, most, few, ks, zs, rfl, pu, ⟨hf1, hf2, hm⟩, ⟨hb, hba, hk1, hk2, hkd⟩, ⟨hc, hca, hz1, hz2⟩, q⟩ := h
    have hr2 : Room 2 _ := hr.mono (by decide)
    have hr3 : Room 3 _ := hr.mono (by decide)
    refine ⟨_, pss_cons (ps_set (i := 5) scTold.nd rfl (Or.inr rfl) (pe_op op_cat (pe_op op_rep (pe_slice sl_list (pe_lst (pa_cons pe_str (pa_cons pe_str (pa_cons pe_str (pa_cons pe_str pa_nil))))) po_none (po_some (pv 4))) pe_int)
        (pe_slice sl_list (pv 2) po_none (po_some (by exact (pe_call GD hr2 (by rfl) gD kD bD .nil pass0 (pa_cons (pv 0) (pa_cons pe_int pa_nil))))))))
      (pss_cons (ps_set (i := 6) scTold.nd rfl (Or.inl rfl) (by exact (pe_call GO hr3 (by rfl) gO kO bO .nil pass0 (pa_cons (pv 0) (pa_cons (pe_lst (pa_cons pe_int (pa_cons pe_int (pa_cons pe_int (pa_cons pe_int (pa_cons pe_int (pa_cons pe_int (pa_cons (pv 3) pa_nil)))))))) pa_nil)))))
      (pss_one (ps_ret (by exact (pe_lc (own := [("_law_turn", 7)]) (g := gName 7) (tt := tYes) rfl scTold.nd
        (pi_range1 (by rfl) B.rg (pa_cons (pe_callB (call_min2 rfl) (by rfl) B.min bootMin (pa_cons (pv 6) (pa_cons (pv 3) pa_nil))) pa_nil))
        (blkOk_by (own := [("_law_turn", 7)]) (N := ["_law_purse_here", "_law_kinds_here", "_law_names_here", "_law_most", "_law_few", "_law_terms", "_law_many", "_law_turn"]) (sc := defScope sTold) (by decide +kernel))
        (fun _ _ _ _ _ => pg_name (i := 7) scTold.nd rfl (Or.inl rfl)) (fun _ _ _ _ _ => pts_nil)
        (fun _ _ _ _ _ => by exact (pe_call GP hr (by rfl) gP kP bP .nil pass0 (pa_cons (pv 0) (pa_cons (pv 1) (pa_cons (pv 5) pa_nil))))))))))
      , ?_⟩
    refine ⟨(by show 4 ≤ sizeLine; decide), fun l nl => ⟨_, rfl, _, rfl, l, four.map V.str, rfl, SqL.of upd_same, fun l2 nl2 => ?_⟩⟩
    have hc1 : cutV (four.map V.str) none (some (few : Int)) = (four.take few).map V.str := by
      unfold cutV
      rw [HT.sIx_none, HT.sIx_nat, List.drop_zero, Nat.sub_zero, List.map_take, List.length_map]
      rw [Nat.min_eq_left (by show few ≤ 4; omega)]
    rw [hc1]
    have s2 : Same H (upd (upd H l (.lst (four.map V.str))) l2 (.lst ((four.take few).map V.str))) := same_put (same_new nl) ((same_new nl).free nl2)
    refine (show ∀ G : Hp, Same H G → G l2 = some (.lst ((four.take few).map V.str)) → _ from fun G2 s2 e2 => ?_) _ s2 upd_same
    refine ⟨l2, 3, _, rfl, rfl, e2, by decide, by decide, ?_, fun l3 nl3 => ?_⟩
    · rw [List.length_map, List.length_take]
      have := big1000
      show min few 4 * 3 ≤ _
      omega
    · have hrep : (List.replicate (3 : Int).toNat ((four.take few).map V.str)).flatten = ((four.take few) ++ (four.take few) ++ (four.take few)).map V.str := by
        show (List.replicate 3 _).flatten = _
        simp [List.replicate]
      rw [hrep]
      have hv3 : ∀ z ∈ (four.take few) ++ (four.take few) ++ (four.take few), IsVr z := by
        intro z hz
        simp only [List.mem_append] at hz
        rcases hz with (h | h) | h <;> exact four_vr z (List.mem_of_mem_take h)
      have hl3 : ((four.take few) ++ (four.take few) ++ (four.take few)).length = 3 * few := by
        rw [List.length_append, List.length_append, List.length_take]
        have : min few four.length = few := by
          show min few 4 = few
          omega
        rw [this]
        omega
      have hv4 : ∀ z ∈ (four.take few) ++ (four.take few) ++ (four.take few), z ∈ four := by
        intro z hz
        simp only [List.mem_append] at hz
        rcases hz with (h | h) | h <;> exact List.mem_of_mem_take h
      generalize (four.take few) ++ (four.take few) ++ (four.take few) = vs at hv3 hv4 hl3 ⊢
      refine (show ∀ G : Hp, Same H G → G l3 = some (.lst (vs.map V.str)) → _ from fun G3 s3 e3 => ?_) _ (same_put s2 (s2.free nl3)) upd_same
      have pu3 := pu.same s3
      refine ⟨_, rfl, _, rfl, a, n + (1 + 4 * most), 2, rfl, pu3.le (by omega), ⟨by decide, by decide⟩, fun r H1 h0 h1 pu4 sb4 => ?_⟩
      obtain ⟨j, rfl⟩ : ∃ j : Nat, r = (j : Int) := ⟨r.toNat, by omega⟩
      have hl3a : l3 ≠ a := fun z => by
        obtain ⟨s, d, t, kk, e, _⟩ := pu3.ex
        rw [z, e] at e3
        injection e3 with e3
        injection e3 with e3
        cases vs with
        | nil => cases e3
        | cons v vs =>
          injection e3 with e3 _
          cases e3
      have e4 := sb4 _ _ hl3a e3
      have sb5 : Sb a H H1 := (Sb.of s3).trans sb4
      refine ⟨_, rfl, c, zs.map V.str, rfl, sb5.seq hca hc, fun l4 nl4 => ?_⟩
      have hc2 : cutV (zs.map V.str) none (some (j : Int)) = (zs.take j).map V.str := by
        unfold cutV
        rw [HT.sIx_none, HT.sIx_nat, List.drop_zero, Nat.sub_zero, List.map_take, List.length_map]
        rcases Nat.le_total j zs.length with h | h
        · rw [Nat.min_eq_left h]
        · rw [Nat.min_eq_right h, ← List.map_take, ← List.map_take, List.take_of_length_le h, List.take_of_length_le (Nat.le_refl _)]
      rw [hc2]
      have pu5 := pu4.put (o := .lst ((zs.take j).map V.str)) (pu4.ne nl4)
      have sb6 : Sb a H (upd H1 l4 (.lst ((zs.take j).map V.str))) := sb5.put (sb5.free pu4 nl4)
      have e5 : upd H1 l4 (.lst ((zs.take j).map V.str)) l3 = some (.lst (vs.map V.str)) := same_new nl4 _ _ e4
      refine (show ∀ G : Hp, G l4 = some (.lst ((zs.take j).map V.str)) → Pu G a (n + (1 + 4 * most)) → Sb a H G → G l3 = some (.lst (vs.map V.str)) → _ from fun G4 e6 pu5 sb6 e5 => ?_) _ upd_same pu5 sb6 e5
      have hlen : (vs.map V.str ++ (zs.take j).map V.str).length ≤ 200 := by
        rw [List.length_append, List.length_map, List.length_map, List.length_take]
        omega
      refine ⟨_, _, _, _, rfl, rfl, e5, e6, ?_, fun l5 nl5 => ?_⟩
      · have := big1000
        rw [List.length_append] at hlen
        omega
      · rw [← List.map_append]
        rw [← List.map_append] at hlen
        have ht : ∀ z ∈ vs ++ zs.take j, IsVr z ∨ IsNm z := by
          intro z hz
          rcases List.mem_append.mp hz with h | h
          · exact .inl (hv3 z h)
          · exact .inr (hz2 z (List.mem_of_mem_take h))
        have ht1 : 1 ≤ (vs ++ zs.take j).length := by
          rw [List.length_append]
          omega
        have ht4 : ∀ z ∈ vs ++ zs.take j, IsVr z → z ∈ four := by
          intro z hz hv
          rcases List.mem_append.mp hz with h | h
          · exact hv4 z h
          · exact (vr_nm hv (hz2 z (List.mem_of_mem_take h))).elim
        generalize vs ++ zs.take j = ts at ht ht4 ht1 hlen ⊢
        rw [List.length_map] at hlen
        have l5a := pu5.ne nl5
        refine (show ∀ G : Hp, Pu G a (n + (1 + 4 * most)) → Sb a H G → G l5 = some (.lst (ts.map V.str)) → tSeq _ _ { nx := fun _ H' => Q .non H', rt := Q } [some (.ref a), some (.ref b), some (.ref c), some (.int (most : Int)), some (.int (few : Int)), some (.ref l5), none, none] G from fun G5 pu6 sb7 e7 => ?_) _ (pu5.put l5a) (sb6.put (sb6.free pu5 nl5)) upd_same
        refine ⟨_, rfl, _, rfl, (by show 7 ≤ sizeLine; decide), fun l6 nl6 => ?_⟩
        have pu7 := pu6.put (o := .lst [V.int 0, .int 1, .int 1, .int 1, .int 2, .int 2, .int (most : Int)]) (pu6.ne nl6)
        refine ⟨a, l6, n + 4 * most, [V.int 0, .int 1, .int 1, .int 1, .int 2, .int 2, .int (most : Int)], rfl, pu7.le (by omega), SqL.of upd_same, pu6.ne nl6, ⟨by show 1 ≤ 7; decide, by show 7 ≤ 1000; decide⟩, fun v H2 hv pu8 sb8 => ?_⟩
        obtain ⟨m, rfl, hm100⟩ : ∃ m : Nat, v = V.int (m : Int) ∧ m ≤ 100 := by
          simp only [List.mem_cons, List.not_mem_nil, or_false] at hv
          rcases hv with rfl | rfl | rfl | rfl | rfl | rfl | rfl
          · exact ⟨0, rfl, by decide⟩
          · exact ⟨1, rfl, by decide⟩
          · exact ⟨1, rfl, by decide⟩
          · exact ⟨1, rfl, by decide⟩
          · exact ⟨2, rfl, by decide⟩
          · exact ⟨2, rfl, by decide⟩
          · exact ⟨most, rfl, hm⟩
        have sb9 : Sb a G5 H2 := (Sb.new nl6).trans sb8
        have sb10 : Sb a H H2 := sb7.trans sb9
        have e8 : H2 l5 = some (.lst (ts.map V.str)) := sb9 _ _ l5a e7
        have hb2 := sb10.seq hba hb
        have hkd2 : ∀ v ∈ ks, Kd H2 v := fun v hv => (hkd v hv).sb pu sb10
        clear pu7 sb8
        refine ⟨_, rfl, _, rfl, (m : Int), (most : Int), rfl, ?_⟩
        generalize hM : (if (most : Int) < (m : Int) then (most : Int) else (m : Int)) = M
        have hM2 : 0 ≤ M ∧ M ≤ most := by
          rw [← hM]
          split <;> omega
        refine ⟨M, rfl, by omega, by omega, fun D nD => ?_⟩
        have Da := pu8.ne nD
        refine lc_range (lo := 0) (n := M.toNat) (fun i H' => ∃ (us : List V) (ps : List (List Str)), PaL H' us ps ∧ ps.length = i ∧ (∀ x ∈ ps, PatOk x ∧ Few x) ∧ Pu H' a (n + 4 * (most - i)) ∧ Sb a H2 H' ∧ H' D = some (.lst us)) ⟨[], [], .nil, rfl, (fun x hx => nomatch hx), pu8.put Da, Sb.new nD, upd_same⟩ ?_ ?_
        · rintro i H3 hi ⟨us, ps, hp, hl, hok, pu9, sb11, e9⟩
          refine ⟨rfl, ?_⟩
          refine ⟨_, rfl, _, rfl, _, rfl, a, b, l5, n + 4 * (most - (i + 1)), ks, ts, rfl, pu9.le (by omega), ⟨sb11.seq hba hb2, hba, hk1, hk2, fun v hv => (hkd2 v hv).sb pu8 sb11⟩, ⟨SqL.of (sb11 _ _ l5a e8), l5a, ht1, by omega⟩, fun t wd xs H4 hw hx1 hx2 nt pu10 sb12 et => ?_⟩
          have e10 := sb12 _ _ Da e9
          have hD : t ≠ D := fun z => by
            rw [z, e9] at nt
            cases nt
          refine ⟨us, e10, by rw [hp.len, hl]; exact small1000 (by omega), us ++ [.ref t], ps ++ [wd :: xs], ?_, by rw [List.length_append, hl] <;> rfl, ?_, pu10.put Da, (sb11.trans sb12).put nD, upd_same⟩
          · have h1 : PaL H4 us ps := hp.sb pu9 sb12
            have nDt : ∀ {vs ps}, PaL H4 vs ps → PaL (upd H4 D (.lst (us ++ [.ref t]))) vs ps := fun {vs ps} h => by
              induction h with
              | nil => exact .nil
              | cons e _ ih =>
                refine .cons ?_ ih
                rw [upd_ne (fun z => by rw [z, e10] at e; cases e)]
                exact e
            exact (nDt h1).app (nDt (.cons et .nil))
          · intro x hx
            rcases List.mem_append.mp hx with h | h
            · exact hok x h
            · rw [List.mem_singleton.mp h]
              exact ⟨⟨wd, xs, rfl, hw.1, hx1, fun y hy => ht y (hx2 y hy)⟩, fun y hy => ht4 y (hx2 y hy)⟩
        · rintro H3 ⟨us, ps, hp, hl, hok, pu9, sb11, e9⟩
          refine q D us ps H3 hp (fun x hx => (hok x hx).1) (fun x hx => (hok x hx).2) (by omega) (sb10.free pu8 nD) (pu9.le (by omega)) (sb10.trans sb11) e9
end
end Nv
set_option maxHeartbeats 4000000
namespace Nv
open PySem PySem.Spec PyProof.Rows L2
/-- the variables among terms, in the order in which they first stand there -/
def vst (acc : List Str) (x : Str) : List Str := if IsVr x ∧ x ∉ acc then acc ++ [x] else acc
def varsIn (ts : List Str) : List Str := ts.foldl vst []
def tails (ps : List (List Str)) : List Str := (ps.map List.tail).flatten
theorem vst_len (acc : List Str) (x : Str) : (vst acc x).length ≤ acc.length + 1 := by
  unfold vst
  split
  · rw [List.length_append] <;> exact Nat.le_refl _
  · omega
theorem fold_len : ∀ (ts acc : List Str), (ts.foldl vst acc).length ≤ acc.length + ts.length
  | [], acc => Nat.le_refl _
  | x :: ts, acc => by
    have h1 := fold_len ts (vst acc x)
    have h2 := vst_len acc x
    show (ts.foldl vst (vst acc x)).length ≤ acc.length + (ts.length + 1)
    omega
theorem fold_mem : ∀ (ts acc : List Str) (y : Str), y ∈ ts.foldl vst acc ↔ y ∈ acc ∨ (y ∈ ts ∧ IsVr y)
  | [], acc, y => by simp
  | x :: ts, acc, y => by
    show y ∈ ts.foldl vst (vst acc x) ↔ _
    rw [fold_mem ts (vst acc x) y]
    unfold vst
    by_cases h : IsVr x ∧ x ∉ acc
    · rw [if_pos h]
      constructor
      · rintro (h1 | h1)
        · rcases List.mem_append.mp h1 with h2 | h2
          · exact .inl h2
          · rw [List.mem_singleton.mp h2]
            exact .inr ⟨List.mem_cons_self, h.1⟩
        · exact .inr ⟨List.mem_cons_of_mem _ h1.1, h1.2⟩
      · rintro (h1 | ⟨h1, h2⟩)
        · exact .inl (List.mem_append_left _ h1)
        · rcases List.mem_cons.mp h1 with rfl | h1
          · exact .inl (List.mem_append_right _ (List.mem_singleton.mpr rfl))
          · exact .inr ⟨h1, h2⟩
    · rw [if_neg h]
      constructor
      · rintro (h1 | h1)
        · exact .inl h1
        · exact .inr ⟨List.mem_cons_of_mem _ h1.1, h1.2⟩
      · rintro (h1 | ⟨h1, h2⟩)
        · exact .inl h1
        · rcases List.mem_cons.mp h1 with rfl | h1
          · refine .inl ?_
            by_cases hm : y ∈ acc
            · exact hm
            · exact absurd ⟨h2, hm⟩ h
          · exact .inr ⟨h1, h2⟩
theorem varsIn_mem {ts : List Str} {y : Str} : y ∈ varsIn ts ↔ y ∈ ts ∧ IsVr y := by
  unfold varsIn
  rw [fold_mem]
  simp
theorem fold_nd : ∀ (ts acc : List Str), acc.Nodup → (ts.foldl vst acc).Nodup
  | [], acc, h => h
  | x :: ts, acc, h => by
    show (ts.foldl vst (vst acc x)).Nodup
    refine fold_nd ts _ ?_
    unfold vst
    split
    · rename_i hx
      rw [List.nodup_append]
      refine ⟨h, by simp, fun a ha b hb e => ?_⟩
      rw [List.mem_singleton.mp hb] at e
      exact hx.2 (e ▸ ha)
    · exact h
theorem varsIn_nd (ts : List Str) : (varsIn ts).Nodup := fold_nd ts [] List.nodup_nil
theorem varsIn_len (ts : List Str) : (varsIn ts).length ≤ ts.length := by
  have := fold_len ts []
  simpa [varsIn] using this
theorem tails_take {ps : List (List Str)} {i : Nat} {p : List Str} (h : ps[i]? = some p) : tails (ps.take (i + 1)) = tails (ps.take i) ++ p.tail := by
  unfold tails
  rw [List.take_add_one, h, List.map_append, List.flatten_append]
  simp
theorem tails_len {ps : List (List Str)} (h : ∀ x ∈ ps, PatOk x) : (tails ps).length ≤ 3 * ps.length := by
  induction ps with
  | nil => simp [tails]
  | cons p ps ih =>
    obtain ⟨w, ts, rfl, _, h3, _⟩ := h p List.mem_cons_self
    have h2 := ih fun x hx => h x (List.mem_cons_of_mem _ hx)
    have e : tails ((w :: ts) :: ps) = ts ++ tails ps := by simp [tails]
    rw [e, List.length_append, List.length_cons]
    omega
theorem nm_not_vr {z : Str} (h : IsNm z) : ¬ IsVr z := fun v => upper_nm h (upper_vr v)
theorem cut1 (w : Str) (ts : List Str) : cutV ((w :: ts).map V.str) (some 1) none = ts.map V.str := by
  unfold cutV
  have e : HT.sIx ((w :: ts).map V.str).length 0 (some (1 : Int)) = 1 := by
    have := HT.sIx_nat ((w :: ts).map V.str).length 0 1
    rw [show ((1 : Nat) : Int) = 1 by rfl] at this
    rw [this, List.length_map, List.length_cons]
    omega
  rw [e, HT.sIx_none, List.length_map, List.length_cons]
  show (ts.map V.str).take (ts.length + 1 - 1) = _
  rw [Nat.add_sub_cancel, List.take_of_length_le (by rw [List.length_map]; exact Nat.le_refl _)]
section
variable {P : Program} {w : World} {K : PySem.W.Frag} {mg : Str → Option Value} {base : Heap}
/-- _law_variables(told) -/
def spVariables (K : PySem.W.Frag) : Sp := fun vs H Q _ => ∃ (a : Addr) (us : List V) (ps : List (List Str)), vs = [.ref a] ∧ SqL K H a us ∧ PaL H us ps ∧ (∀ x ∈ ps, PatOk x) ∧ ps.length ≤ 1000 ∧
  ∀ (p : Addr) (H' : Hp), H p = none → Same H H' → H' p = some (.lst ((varsIn (tails ps)).map V.str)) → Q (.ref p) H'
theorem scVariables : FnScope ["_law_told_here", "_law_found", "_law_pattern_here", "_law_term"] ["_law_told_here"] (defScope sVariables) := ⟨rfl, rfl, rfl, by decide +kernel, rfl, by decide +kernel, by decide +kernel⟩
theorem ok_variables {f : Addr} {fd : FuncData} (F : Fun K "_law_variables" "_law_variables" sVariables f fd) : FnOk P w K mg base CX0 1 f fd ["_law_told_here"] (spVariables K) := by
  refine F.ok scVariables (fun vs H Q E h => ?_) (fun cdv A outer s H vs Q E hr h => ?_)
  · obtain ⟨a, us, ps, rfl, _⟩ := h
    rfl
  · obtain ⟨a, us, ps, rfl, ha, hp, hok, hl, q⟩ := h
    refine ⟨_, pss_cons (ps_set (i := 1) scVariables.nd rfl (Or.inl rfl) (pe_lst pa_nil))
      (pss_cons (ps_for PassesOwn.never rfl (pi_list (pv 0)) (pg_name (i := 2) scVariables.nd rfl (Or.inl rfl))
        (pss_one (ps_for PassesOwn.never rfl (pi_tup (pe_slice sl_tup (pv 2) (po_some pe_int) po_none)) (pg_name (i := 3) scVariables.nd rfl (Or.inl rfl))
          (pss_one (ps_if (PW.pt (pw_and (pt_cmpR op_eq (pv 3) (pe_upper (pv 3)) (nomark _)) (pw_and1 (pt_cmpR op_notIn_seq (pv 3) (pv 1) (by rfl)))))
            (pss_one (ps_expr (pe_bm PySem.F.plainAttrs_list PySem.F.slot_list_append PySem.F.type_list_append mt_append (pv 1) (pa_cons (pv 3) pa_nil)))) pss_nil)))))
      (pss_one (ps_ret (pv 1)))), ?_⟩
    refine ⟨by decide, fun p np => ?_⟩
    have hul := hp.len
    refine ⟨_, rfl, a, rfl, ⟨_, (same_new np).seq ha⟩, for_list (K := K) (a := a) (xs := us) (fun i σ H' => ∃ (o2 o3 : Option V), σ = [some (.ref a), some (.ref p), o2, o3] ∧ Same H H' ∧ H' p = some (.lst ((varsIn (tails (ps.take i))).map V.str))) ⟨none, none, rfl, same_new np, upd_same⟩ (fun i σ H' _ z => ?_) ?_ ?_⟩
    · obtain ⟨_, _, _, sm, _⟩ := z
      exact sm.seq ha
    · rintro i v σ H1 hi ⟨o2, o3, rfl, sm, e1⟩
      obtain ⟨t, pat, rfl, hpi, et⟩ := hp.at_ hi
      obtain ⟨wd, ts, rfl, hw, h3, hts⟩ := hok pat (List.mem_of_getElem? hpi)
      have et1 := sm _ _ et
      have hacc : (varsIn (tails (ps.take i))).length ≤ 3000 := by
        have h1 := varsIn_len (tails (ps.take i))
        have h2 := tails_len (ps := ps.take i) fun x hx => hok x (List.mem_of_mem_take hx)
        rw [List.length_take] at h2
        omega
      rw [tails_take hpi]
      show tFor _ _ _ _ _ _
      have hfold : varsIn (tails (ps.take i) ++ (wd :: ts).tail) = ts.foldl vst (varsIn (tails (ps.take i))) := by
        unfold varsIn
        rw [List.foldl_append] <;> rfl
      rw [hfold]
      generalize varsIn (tails (ps.take i)) = acc at e1 hacc ⊢
      refine ⟨_, rfl, 1, rfl, t, _, rfl, SqT.of et1, ?_, fun t2 nt2 => ?_⟩
      · rintro ⟨h, _⟩
        have := HT.sIx_nat ((wd :: ts).map V.str).length 0 1
        rw [show ((1 : Nat) : Int) = 1 by rfl] at this
        rw [this, List.length_map, List.length_cons] at h
        omega
      · rw [cut1]
        have sm2 : Same H (upd H1 t2 (.tup (ts.map V.str))) := same_put sm (sm.free nt2)
        have e2 : upd H1 t2 (.tup (ts.map V.str)) p = some (.lst (acc.map V.str)) := same_new nt2 _ _ e1
        refine (show ∀ G : Hp, G t2 = some (.tup (ts.map V.str)) → Same H G → G p = some (.lst (acc.map V.str)) → _ from fun G et2 sm2 e2 => ?_) _ upd_same sm2 e2
        refine ⟨t2, rfl, ⟨_, SqT.of et2⟩, for_tup (K := K) (a := t2) (xs := ts.map V.str) (fun j σ H' => ∃ (o3 : Option V), σ = [some (.ref a), some (.ref p), some (.ref t), o3] ∧ Same H H' ∧ H' t2 = some (.tup (ts.map V.str)) ∧ H' p = some (.lst (((ts.take j).foldl vst acc).map V.str))) ⟨o3, rfl, sm2, et2, e2⟩ (fun j σ H' _ z => ?_) ?_ ?_⟩
        · obtain ⟨_, _, _, e, _⟩ := z
          exact SqT.of e
        · rintro j x σ H2 hj ⟨o, rfl, sm3, et3, e3⟩
          rw [List.getElem?_map] at hj
          obtain ⟨z, hz, rfl⟩ : ∃ z, ts[j]? = some z ∧ x = V.str z := by
            cases g : ts[j]? with
            | none =>
              rw [g] at hj
              cases hj
            | some z =>
              rw [g] at hj
              exact ⟨z, rfl, (Option.some.inj hj).symm⟩
          have hzt := hts z (List.mem_of_getElem? hz)
          have hzl : z.length ≤ 10 := by
            rcases hzt with h | h
            · have := h.2.1
              omega
            · exact h.2.1
          have htk : (ts.take (j + 1)).foldl vst acc = vst ((ts.take j).foldl vst acc) z := by
            rw [List.take_add_one, hz, List.foldl_append] <;> rfl
          rw [htk]
          have hal : ((ts.take j).foldl vst acc).length ≤ 3003 := by
            have := fold_len (ts.take j) acc
            rw [List.length_take] at this
            omega
          generalize (ts.take j).foldl vst acc = ac at e3 hal ⊢
          have hpt : t2 ≠ p := fun y => by
            rw [y, e3] at et3
            cases et3
          refine ⟨_, rfl, _, rfl, ⟨_, rfl⟩, z, rfl, rfl, (by omega), rfl, _, rfl, ?_⟩
          by_cases hv : IsVr z
          · rw [upper_vr hv, decide_eq_true rfl]
            refine iteT ⟨_, rfl, _, rfl, p, _, rfl, .inl (SqL.of e3), rfl, flat_strs _, _, rfl, ?_⟩
            rw [inV_strs]
            by_cases hm : z ∈ ac
            · rw [decide_eq_true hm]
              refine iteF ?_
              refine ⟨_, rfl, sm3, et3, ?_⟩
              unfold vst
              rw [if_neg (fun h => h.2 hm)]
              exact e3
            · rw [decide_eq_false hm]
              refine iteT ⟨_, rfl, .inl ⟨rfl, _, SqL.of e3⟩, _, rfl, p, _, _, rfl, rfl, e3, ?_, ?_⟩
              · rw [List.length_map]
                exact Nat.lt_of_le_of_lt hal (by decide)
              · refine ⟨_, rfl, same_put sm3 np, ?_, ?_⟩
                · rw [upd_ne hpt]
                  exact et3
                · unfold vst
                  rw [upd_same, if_pos ⟨hv, hm⟩, List.map_append] <;> rfl
          · have hn : IsNm z := hzt.resolve_left hv
            have hne : ¬ V.str z = V.str (Txt.upper z) := fun e => by
              injection e with e
              exact upper_nm hn e.symm
            rw [decide_eq_false hne]
            refine iteF ?_
            refine iteF ?_
            refine ⟨_, rfl, sm3, et3, ?_⟩
            unfold vst
            rw [if_neg (fun h => hv h.1)]
            exact e3
        · rintro σ H2 ⟨o, rfl, sm3, et3, e3⟩
          rw [List.length_map, List.take_length] at e3
          exact ⟨_, _, rfl, sm3, e3⟩
    · rintro σ H1 ⟨o2, o3, rfl, sm, e1⟩
      rw [hul, List.take_length] at e1
      exact ⟨_, rfl, q p H1 np sm e1⟩
end
end Nv
set_option maxHeartbeats 4000000
namespace Nv
open PySem PySem.Spec PyProof.Rows L2
theorem layAll : ∀ {ds : List PyData}, (∀ d ∈ ds, d.canLay0 = true ∧ d.depth ≤ 50) → PyData.canLayAll0 ds = true ∧ PyData.depthAll ds ≤ 50
  | [], _ => ⟨by simp [PyData.canLayAll0], by simp [PyData.depthAll]⟩
  | d :: ds, h => by
    obtain ⟨h1, h2⟩ := h d List.mem_cons_self
    obtain ⟨h3, h4⟩ := layAll (ds := ds) fun x hx => h x (List.mem_cons_of_mem _ hx)
    refine ⟨by simp [PyData.canLayAll0, h1, h3], ?_⟩
    simp only [PyData.depthAll]
    omega
/-- data that can be laid, of a depth of at most n -/
def Lay (n : Nat) (d : PyData) : Prop := d.canLay0 = true ∧ d.depth ≤ n
/-- signs of ASCII alone -/
def Asc (z : Str) : Prop := ∀ c ∈ z.cps.toList, c < 128
theorem IsNm.asc {z : Str} (h : IsNm z) : Asc z := fun c hc => by
  have := h.2.2 c hc
  omega
theorem IsVr.asc {z : Str} (h : IsVr z) : Asc z := fun c hc => by
  have := h.2.2 c hc
  omega
theorem PatOk.asc {p : List Str} (h : PatOk p) : ∀ x ∈ p, Asc x := by
  obtain ⟨w, ts, rfl, hw, _, ht⟩ := h
  intro x hx
  rcases List.mem_cons.mp hx with rfl | hx
  · exact hw.asc
  · rcases ht x hx with h | h
    · exact h.asc
    · exact h.asc
theorem Asc.ok {z : Str} (h : Asc z) : PyData.strOk z = true := by
  unfold PyData.strOk
  rw [Array.all_eq_true']
  intro c hc
  have := h c (by simpa using hc)
  simp
  omega
theorem lay_str {x : Str} (h : Asc x) : Lay 0 (.str x) := ⟨by simp [PyData.canLay0, h.ok], by simp [PyData.depth]⟩
theorem lay_non : Lay 0 .none := ⟨by simp [PyData.canLay0], by simp [PyData.depth]⟩
theorem Lay.le {n m : Nat} {d : PyData} (h : Lay n d) (l : n ≤ m) : Lay m d := ⟨h.1, Nat.le_trans h.2 l⟩
theorem lay_all {n : Nat} : ∀ {ds : List PyData}, (∀ d ∈ ds, Lay n d) → PyData.canLayAll0 ds = true ∧ PyData.depthAll ds ≤ n
  | [], _ => ⟨by simp [PyData.canLayAll0], by simp [PyData.depthAll]⟩
  | d :: ds, h => by
    obtain ⟨h1, h2⟩ := h d List.mem_cons_self
    obtain ⟨h3, h4⟩ := lay_all (ds := ds) fun x hx => h x (List.mem_cons_of_mem _ hx)
    refine ⟨by simp [PyData.canLayAll0, h1, h3], ?_⟩
    simp only [PyData.depthAll]
    omega
theorem lay_list {n : Nat} {ds : List PyData} (h : ∀ d ∈ ds, Lay n d) : Lay (n + 1) (.list ds) := by
  obtain ⟨h1, h2⟩ := lay_all h
  refine ⟨by simpa [PyData.canLay0] using h1, ?_⟩
  simp only [PyData.depth]
  omega
theorem lay_tup {n : Nat} {ds : List PyData} (h : ∀ d ∈ ds, Lay n d) : Lay (n + 1) (.tuple ds) := by
  obtain ⟨h1, h2⟩ := lay_all h
  refine ⟨by simpa [PyData.canLay0] using h1, ?_⟩
  simp only [PyData.depth]
  omega
theorem Lay.shaped {n : Nat} {d : PyData} (h : Lay n d) (hn : n ≤ 50) : SeqAt.shaped d = true := by
  refine Bool.and_eq_true_iff.mpr ⟨h.1, decide_eq_true ?_⟩
  have := h.2
  omega
/-- a tuple of texts, a list of such, a list of texts, as data -/
def dT (p : List Str) : PyData := .tuple (p.map PyData.str)
def dL (ps : List (List Str)) : PyData := .list (ps.map dT)
def dS (xs : List Str) : PyData := .list (xs.map PyData.str)
theorem lay_dT {p : List Str} (h : ∀ x ∈ p, Asc x) : Lay 1 (dT p) := lay_tup fun d hd => by
  obtain ⟨x, hx, rfl⟩ := List.mem_map.mp hd
  exact lay_str (h x hx)
theorem lay_dL {ps : List (List Str)} (h : ∀ p ∈ ps, ∀ x ∈ p, Asc x) : Lay 2 (dL ps) := lay_list fun d hd => by
  obtain ⟨x, hx, rfl⟩ := List.mem_map.mp hd
  exact lay_dT (h x hx)
theorem lay_dS {xs : List Str} (h : ∀ x ∈ xs, Asc x) : Lay 1 (dS xs) := lay_list fun d hd => by
  obtain ⟨x, hx, rfl⟩ := List.mem_map.mp hd
  exact lay_str (h x hx)
theorem dp_strs {K : PySem.W.Frag} {H : Hp} : ∀ xs : List Str, DpAll K H (xs.map V.str) (xs.map PyData.str)
  | [] => .nil
  | x :: xs => .cons (.str x) (dp_strs xs)
theorem dp_T {K : PySem.W.Frag} {H : Hp} {t : Addr} {p : List Str} (e : H t = some (.tup (p.map V.str))) : Dp K H (.ref t) (dT p) := .tup (SqT.of e) (dp_strs p)
theorem dp_S {K : PySem.W.Frag} {H : Hp} {t : Addr} {p : List Str} (e : SqL K H t (p.map V.str)) : Dp K H (.ref t) (dS p) := .lst e (dp_strs p)
theorem PaL.dp {K : PySem.W.Frag} {H : Hp} {vs : List V} {ps : List (List Str)} (h : PaL H vs ps) : DpAll K H vs (ps.map dT) := by
  induction h with
  | nil => exact .nil
  | cons e _ ih => exact .cons (dp_T e) ih
theorem dp_L {K : PySem.W.Frag} {H : Hp} {t : Addr} {vs : List V} {ps : List (List Str)} (e : SqL K H t vs) (h : PaL H vs ps) : Dp K H (.ref t) (dL ps) := .lst e h.dp
theorem eqv_strs : ∀ xs ys : List Str, PyData.eqvAll (xs.map PyData.str) (ys.map PyData.str) = decide (xs = ys)
  | [], [] => by simp [PyData.eqvAll]
  | [], y :: ys => by simp [PyData.eqvAll]
  | x :: xs, [] => by simp [PyData.eqvAll]
  | x :: xs, y :: ys => by
    rw [List.map_cons, List.map_cons, PyData.eqvAll, eqv_strs xs ys, PyData.eqv]
    by_cases h : x = y
    · subst h
      simp
    · have : (x == y) = false := by simpa using h
      simp [this, h]
theorem eqv_T (p q : List Str) : PyData.eqv (dT p) (dT q) = decide (p = q) := by
  unfold dT
  rw [PyData.eqv, eqv_strs]
theorem eqv_S (p q : List Str) : PyData.eqv (dS p) (dS q) = decide (p = q) := by
  unfold dS
  rw [PyData.eqv, eqv_strs]
theorem eqv_Ts : ∀ ps qs : List (List Str), PyData.eqvAll (ps.map dT) (qs.map dT) = decide (ps = qs)
  | [], [] => by simp [PyData.eqvAll]
  | [], y :: ys => by simp [PyData.eqvAll]
  | x :: xs, [] => by simp [PyData.eqvAll]
  | x :: xs, y :: ys => by
    rw [List.map_cons, List.map_cons, PyData.eqvAll, eqv_Ts xs ys, eqv_T]
    by_cases h : x = y
    · subst h
      simp
    · simp [h]
theorem eqv_L (ps qs : List (List Str)) : PyData.eqv (dL ps) (dL qs) = decide (ps = qs) := by
  unfold dL
  rw [PyData.eqv, eqv_Ts]
end Nv
set_option maxHeartbeats 4000000
namespace Nv
open PySem PySem.Spec PyProof.Rows L2
/-- the built-ins that the program's text calls -/
structure Bp (mg : Str → Option Value) : Prop where
  isi : mg "isinstance" = none
  str : mg "str" = none
  tup : mg "tuple" = none
  lst : mg "list" = none
  set : mg "set" = none
  len : mg "len" = none
  all : mg "all" = none
  any : mg "any" = none
theorem bootIsi : bootBuiltins "isinstance" = some (.builtin "isinstance") := by decide +kernel
theorem bootAll : bootBuiltins "all" = some (.builtin "all") := by decide +kernel
theorem bootAny : bootBuiltins "any" = some (.builtin "any") := by decide +kernel
theorem lt_one (c d : Nat) : (([c] : List Nat) < [d]) ↔ c < d := by
  constructor
  · intro h
    cases h with
    | rel h => exact h
    | cons h => cases h
  · intro h
    exact .rel h
theorem take_one {α : Type} {l : List α} {i : Nat} {x : α} (h : l[i]? = some x) : l.take (i + 1) = l.take i ++ [x] := by
  rw [List.take_add_one, h] <;> rfl
section
variable {P : Program} {w : World} {K : PySem.W.Frag} {mg : Str → Option Value} {base : Heap}
/-- a test of any value that may only hold of a text -/
def spTxt (K : PySem.W.Frag) (p : Str → Bool) : Sp := fun vs H Q _ => ∃ v : V, vs = [v] ∧ ((∃ z : Str, v = .str z ∧ z.length ≤ sizeLine ∧ ∀ H', Same H H' → Q (.bl (p z)) H') ∨
  (∃ t : Value, TyX K H v t ∧ PySem.W.kitOne K t (.type "str") = some false ∧ ∀ H', Same H H' → Q (.bl false) H'))
theorem spTxt.yes {p : Str → Bool} {z : Str} {H : Hp} {Q : VK} {E : XK} (hz : z.length ≤ 1000) (q : ∀ H', Same H H' → Q (.bl (p z)) H') : spTxt K p [.str z] H Q E :=
  ⟨_, rfl, .inl ⟨z, rfl, Nat.le_trans hz big1000, q⟩⟩
theorem scIsName : FnScope ["value", "sign"] ["value"] (defScope sIsName) := ⟨rfl, rfl, rfl, by decide +kernel, rfl, by decide +kernel, by decide +kernel⟩
theorem ok_isName {f : Addr} {fd : FuncData} (F : Fun K "is_name" "is_name" sIsName f fd) (B : Bp mg) : FnOk P w K mg base CX0 1 f fd ["value"] (spTxt K fun z => decide (IsNm z)) := by
  refine F.ok scIsName (fun vs H Q E h => ?_) (fun cdv A outer s H vs Q E hr h => ?_)
  · obtain ⟨v, rfl, _⟩ := h
    rfl
  · obtain ⟨v, rfl, h⟩ := h
    refine ⟨_, pss_one (ps_ret (pe_and (pe_callB call_isi (by rfl) B.isi bootIsi (pa_cons (pv 0) (pa_cons (pe_bltn (v := V.ty "str") (by rfl) B.str PyProof.Rows.boot_str rfl) pa_nil)))
      (pe_and (pe_chain op_le op_le pe_int (pe_callB call_len_str (by rfl) B.len PySem.boot_len (pa_cons (pv 0) pa_nil)) pe_int)
      (pe_one (pe_callB (cr_all rfl) (by rfl) B.all bootAll (pa_cons (by exact (pe_lc (own := [("sign", 1)]) (g := gName 1) (tt := tYes) rfl scIsName.nd (pi_str (pv 0))
        (blkOk_by (own := [("sign", 1)]) (N := ["value", "sign"]) (sc := defScope sIsName) (by decide +kernel))
        (fun _ _ _ _ _ => pg_name (i := 1) scIsName.nd rfl (Or.inl rfl)) (fun _ _ _ _ _ => pts_nil)
        (fun _ _ _ _ _ => by exact (pe_chain op_le_str op_le_str pe_str (pv 1) pe_str)))) pa_nil)))))), ?_⟩
    rcases h with ⟨z, rfl, hz, q⟩ | ⟨t, ht, hk, q⟩
    · have q : ∀ H', Same H H' → Q (.bl (decide (IsNm z))) H' := q
      refine ⟨_, rfl, _, _, _, _, true, rfl, .ty _, .base (.str _), kit_ty (by decide +kernel), true, rfl, iteT ?_⟩
      refine ⟨_, rfl, z, rfl, hz, _, _, rfl, rfl, _, rfl, ?_⟩
      by_cases h1 : (1 : Int) ≤ (z.length : Int)
      · rw [decide_eq_true h1]
        refine iteT ⟨_, _, rfl, rfl, ?_⟩
        refine ⟨decide ((z.length : Int) ≤ 10), rfl, ?_⟩
        by_cases h2 : (z.length : Int) ≤ 10
        · rw [decide_eq_true h2]
          refine iteT ?_
          refine ⟨_, rfl, z, rfl, fun D nD => ?_⟩
          refine lc_it walk_str (fun i H' => Same H H' ∧ H' D = some (.lst ((z.cps.toList.take i).map fun c => V.bl (decide (97 ≤ c ∧ c ≤ 122))))) ⟨same_new nD, upd_same⟩ (fun _ _ _ _ => trivial) ?_ ?_
          · rintro i x H1 H2 hi ⟨sm, e⟩ ⟨rfl, c, hc, rfl⟩
            have hc2 : z.cps.toList[i]? = some c := by simpa using hc
            refine ⟨rfl, ?_⟩
            have hil : i ≤ 10 := by
              have : z.cps.size = z.length := rfl
              omega
            refine ⟨_, rfl, _, _, rfl, rfl, _, rfl, ?_⟩
            have e1 : (!decide (([c] : List Nat) < [97])) = decide (97 ≤ c) := by
              by_cases h : c < 97
              · rw [decide_eq_true ((lt_one _ _).mpr h), decide_eq_false (by omega)] <;> rfl
              · rw [decide_eq_false (fun y => h ((lt_one _ _).mp y)), decide_eq_true (by omega)] <;> rfl
            have e2 : (!decide (([122] : List Nat) < [c])) = decide (c ≤ 122) := by
              by_cases h : 122 < c
              · rw [decide_eq_true ((lt_one _ _).mpr h), decide_eq_false (by omega)] <;> rfl
              · rw [decide_eq_false (fun y => h ((lt_one _ _).mp y)), decide_eq_true (by omega)] <;> rfl
            have put : ∀ b : Bool, b = decide (97 ≤ c ∧ c ≤ 122) → ∃ acc, H2 D = some (.lst acc) ∧ acc.length < sizeLine ∧ (Same H (upd H2 D (.lst (acc ++ [V.bl b]))) ∧ upd H2 D (.lst (acc ++ [V.bl b])) D = some (.lst ((z.cps.toList.take (i + 1)).map fun c => V.bl (decide (97 ≤ c ∧ c ≤ 122))))) := fun b hb => by
              refine ⟨_, e, ?_, same_put sm nD, ?_⟩
              · rw [List.length_map, List.length_take]
                exact Nat.lt_of_le_of_lt (by omega : _ ≤ 10) (by decide)
              · rw [upd_same, take_one hc2, List.map_append, hb] <;> rfl
            show if (!decide (([c] : List Nat) < [97])) = true then _ else _
            rw [e1]
            by_cases h3 : 97 ≤ c
            · rw [decide_eq_true h3]
              refine iteT ⟨_, _, rfl, rfl, ?_⟩
              refine put _ (e2.trans ?_)
              simp [h3]
            · rw [decide_eq_false h3]
              refine iteF (put _ ?_)
              simp [h3]
          · rintro H1 ⟨sm, e⟩
            have ht : z.cps.toList.take z.cps.size = z.cps.toList := List.take_of_length_le (by simp)
            rw [ht] at e
            refine ⟨D, z.cps.toList.map fun c => decide (97 ≤ c ∧ c ≤ 122), rfl, SqL.of (by rw [e, List.map_map] <;> rfl), ?_⟩
            have hb : (z.cps.toList.map fun c => decide (97 ≤ c ∧ c ≤ 122)).all id = decide (IsNm z) := by
              rw [List.all_map]
              by_cases hn : IsNm z
              · rw [decide_eq_true hn, List.all_eq_true]
                intro c hc
                exact decide_eq_true (hn.2.2 c hc)
              · rw [decide_eq_false hn, ← Bool.not_eq_true]
                intro y
                refine hn ⟨by omega, by omega, fun c hc => ?_⟩
                exact of_decide_eq_true (List.all_eq_true.mp y c hc)
            rw [hb]
            exact q _ sm
        · rw [decide_eq_false h2]
          refine iteF ?_
          have := q H (Same.refl H)
          rw [decide_eq_false (fun h : IsNm z => h2 (by have := h.2.1; omega))] at this
          exact this
      · rw [decide_eq_false h1]
        refine iteF ⟨false, rfl, iteF ?_⟩
        have := q H (Same.refl H)
        rw [decide_eq_false (fun h : IsNm z => h1 (by have := h.1; omega))] at this
        exact this
    · refine ⟨_, rfl, _, _, _, _, false, rfl, .ty _, ht, hk, false, rfl, iteF ?_⟩
      exact q H (Same.refl H)
end
end Nv
set_option maxHeartbeats 4000000
namespace Nv
open PySem PySem.Spec PyProof.Rows L2
section
variable {P : Program} {w : World} {K : PySem.W.Frag} {mg : Str → Option Value} {base : Heap}
theorem scIsVar : FnScope ["value", "sign"] ["value"] (defScope sIsVar) := ⟨rfl, rfl, rfl, by decide +kernel, rfl, by decide +kernel, by decide +kernel⟩
theorem ok_isVar {f : Addr} {fd : FuncData} (F : Fun K "is_variable" "is_variable" sIsVar f fd) (B : Bp mg) : FnOk P w K mg base CX0 1 f fd ["value"] (spTxt K fun z => decide (IsVr z)) := by
  refine F.ok scIsVar (fun vs H Q E h => ?_) (fun cdv A outer s H vs Q E hr h => ?_)
  · obtain ⟨v, rfl, _⟩ := h
    rfl
  · obtain ⟨v, rfl, h⟩ := h
    refine ⟨_, pss_one (ps_ret (pe_and (pe_callB call_isi (by rfl) B.isi bootIsi (pa_cons (pv 0) (pa_cons (pe_bltn (v := V.ty "str") (by rfl) B.str PyProof.Rows.boot_str rfl) pa_nil)))
      (pe_and (pe_chain op_le op_le pe_int (pe_callB call_len_str (by rfl) B.len PySem.boot_len (pa_cons (pv 0) pa_nil)) pe_int)
      (pe_one (pe_callB (cr_all rfl) (by rfl) B.all bootAll (pa_cons (by exact (pe_lc (own := [("sign", 1)]) (g := gName 1) (tt := tYes) rfl scIsVar.nd (pi_str (pv 0))
        (blkOk_by (own := [("sign", 1)]) (N := ["value", "sign"]) (sc := defScope sIsVar) (by decide +kernel))
        (fun _ _ _ _ _ => pg_name (i := 1) scIsVar.nd rfl (Or.inl rfl)) (fun _ _ _ _ _ => pts_nil)
        (fun _ _ _ _ _ => by exact (pe_chain op_le_str op_le_str pe_str (pv 1) pe_str)))) pa_nil)))))), ?_⟩
    rcases h with ⟨z, rfl, hz, q⟩ | ⟨t, ht, hk, q⟩
    · have q : ∀ H', Same H H' → Q (.bl (decide (IsVr z))) H' := q
      refine ⟨_, rfl, _, _, _, _, true, rfl, .ty _, .base (.str _), kit_ty (by decide +kernel), true, rfl, iteT ?_⟩
      refine ⟨_, rfl, z, rfl, hz, _, _, rfl, rfl, _, rfl, ?_⟩
      by_cases h1 : (1 : Int) ≤ (z.length : Int)
      · rw [decide_eq_true h1]
        refine iteT ⟨_, _, rfl, rfl, ?_⟩
        refine ⟨decide ((z.length : Int) ≤ 3), rfl, ?_⟩
        by_cases h2 : (z.length : Int) ≤ 3
        · rw [decide_eq_true h2]
          refine iteT ?_
          refine ⟨_, rfl, z, rfl, fun D nD => ?_⟩
          refine lc_it walk_str (fun i H' => Same H H' ∧ H' D = some (.lst ((z.cps.toList.take i).map fun c => V.bl (decide (65 ≤ c ∧ c ≤ 90))))) ⟨same_new nD, upd_same⟩ (fun _ _ _ _ => trivial) ?_ ?_
          · rintro i x H1 H2 hi ⟨sm, e⟩ ⟨rfl, c, hc, rfl⟩
            have hc2 : z.cps.toList[i]? = some c := by simpa using hc
            refine ⟨rfl, ?_⟩
            have hil : i ≤ 3 := by
              have : z.cps.size = z.length := rfl
              omega
            refine ⟨_, rfl, _, _, rfl, rfl, _, rfl, ?_⟩
            have e1 : (!decide (([c] : List Nat) < [65])) = decide (65 ≤ c) := by
              by_cases h : c < 65
              · rw [decide_eq_true ((lt_one _ _).mpr h), decide_eq_false (by omega)] <;> rfl
              · rw [decide_eq_false (fun y => h ((lt_one _ _).mp y)), decide_eq_true (by omega)] <;> rfl
            have e2 : (!decide (([90] : List Nat) < [c])) = decide (c ≤ 90) := by
              by_cases h : 90 < c
              · rw [decide_eq_true ((lt_one _ _).mpr h), decide_eq_false (by omega)] <;> rfl
              · rw [decide_eq_false (fun y => h ((lt_one _ _).mp y)), decide_eq_true (by omega)] <;> rfl
            have put : ∀ b : Bool, b = decide (65 ≤ c ∧ c ≤ 90) → ∃ acc, H2 D = some (.lst acc) ∧ acc.length < sizeLine ∧ (Same H (upd H2 D (.lst (acc ++ [V.bl b]))) ∧ upd H2 D (.lst (acc ++ [V.bl b])) D = some (.lst ((z.cps.toList.take (i + 1)).map fun c => V.bl (decide (65 ≤ c ∧ c ≤ 90))))) := fun b hb => by
              refine ⟨_, e, ?_, same_put sm nD, ?_⟩
              · rw [List.length_map, List.length_take]
                exact Nat.lt_of_le_of_lt (by omega : _ ≤ 3) (by decide)
              · rw [upd_same, take_one hc2, List.map_append, hb] <;> rfl
            show if (!decide (([c] : List Nat) < [65])) = true then _ else _
            rw [e1]
            by_cases h3 : 65 ≤ c
            · rw [decide_eq_true h3]
              refine iteT ⟨_, _, rfl, rfl, ?_⟩
              refine put _ (e2.trans ?_)
              simp [h3]
            · rw [decide_eq_false h3]
              refine iteF (put _ ?_)
              simp [h3]
          · rintro H1 ⟨sm, e⟩
            have ht : z.cps.toList.take z.cps.size = z.cps.toList := List.take_of_length_le (by simp)
            rw [ht] at e
            refine ⟨D, z.cps.toList.map fun c => decide (65 ≤ c ∧ c ≤ 90), rfl, SqL.of (by rw [e, List.map_map] <;> rfl), ?_⟩
            have hb : (z.cps.toList.map fun c => decide (65 ≤ c ∧ c ≤ 90)).all id = decide (IsVr z) := by
              rw [List.all_map]
              by_cases hn : IsVr z
              · rw [decide_eq_true hn, List.all_eq_true]
                intro c hc
                exact decide_eq_true (hn.2.2 c hc)
              · rw [decide_eq_false hn, ← Bool.not_eq_true]
                intro y
                refine hn ⟨by omega, by omega, fun c hc => ?_⟩
                exact of_decide_eq_true (List.all_eq_true.mp y c hc)
            rw [hb]
            exact q _ sm
        · rw [decide_eq_false h2]
          refine iteF ?_
          have := q H (Same.refl H)
          rw [decide_eq_false (fun h : IsVr z => h2 (by have := h.2.1; omega))] at this
          exact this
      · rw [decide_eq_false h1]
        refine iteF ⟨false, rfl, iteF ?_⟩
        have := q H (Same.refl H)
        rw [decide_eq_false (fun h : IsVr z => h1 (by have := h.1; omega))] at this
        exact this
    · refine ⟨_, rfl, _, _, _, _, false, rfl, .ty _, ht, hk, false, rfl, iteF ?_⟩
      exact q H (Same.refl H)
def IsTm (z : Str) : Prop := IsNm z ∨ IsVr z
instance (z : Str) : Decidable (IsTm z) := by unfold IsTm; exact inferInstance
theorem scIsTerm : FnScope ["value"] ["value"] (defScope sIsTerm) := ⟨rfl, rfl, rfl, by decide +kernel, rfl, by decide +kernel, by decide +kernel⟩
theorem spTxt.again {p q : Str → Bool} {v : V} {H : Hp} {Q Q2 : VK} {E E2 : XK} (h : spTxt K p [v] H Q E) (hq : ∀ b H', Same H H' → ((∃ z, v = .str z ∧ b = p z ∧ (∀ H2, Same H H2 → Q (.bl (p z)) H2)) ∨ (b = false ∧ ∀ H2, Same H H2 → Q (.bl false) H2)) → Q2 (.bl b) H') : spTxt K p [v] H Q2 E2 := by
  obtain ⟨v', e, h⟩ := h
  obtain rfl : v = v' := by injection e
  rcases h with ⟨z, rfl, hz, q⟩ | ⟨t, ht, hk, q⟩
  · exact ⟨_, rfl, .inl ⟨z, rfl, hz, fun H' s => hq _ H' s (.inl ⟨z, rfl, rfl, q⟩)⟩⟩
  · exact ⟨_, rfl, .inr ⟨t, ht, hk, fun H' s => hq _ H' s (.inr ⟨rfl, q⟩)⟩⟩
/-- a value, a text or none -/
def Tv (K : PySem.W.Frag) (H : Hp) (v : V) : Option Str → Prop
  | some z => v = .str z ∧ z.length ≤ sizeLine
  | none => ∃ t : Value, TyX K H v t ∧ PySem.W.kitOne K t (.type "str") = some false
theorem tyx_same {H H' : Hp} {v : V} {t : Value} (s : Same H H') (h : TyX K H v t) : TyX K H' v t := by
  cases h with
  | base b =>
    cases b with
    | non => exact .base .non
    | bl y => exact .base (.bl y)
    | int i => exact .base (.int i)
    | str y => exact .base (.str y)
    | flt y => exact .base (.flt y)
    | lst e => exact .base (.lst (s _ _ e))
    | frz e => exact .base (.frz (s _ _ e))
    | tup e => exact .base (.tup (s _ _ e))
    | dK e => exact .base (.dK (s _ _ e))
    | dT e => exact .base (.dT (s _ _ e))
    | ins e cl ha hn htk hm => exact .base (.ins (s _ _ e) cl ha hn htk hm)
  | byt b => exact .byt b
  | set e => exact .set (s _ _ e)
  | kList e c => exact .kList e c
  | kTuple e c => exact .kTuple e c
  | kDict e c => exact .kDict e c
  | fTuple e => exact .fTuple (s _ _ e)
  | fDict e => exact .fDict (s _ _ e)
theorem Tv.same {H H' : Hp} {v : V} : ∀ {o : Option Str}, Tv K H v o → Same H H' → Tv K H' v o
  | some z, h, _ => h
  | none, ⟨t, h, k⟩, s => ⟨t, tyx_same s h, k⟩
theorem spTxt.of {p : Str → Bool} {v : V} {H : Hp} {Q : VK} {E : XK} : ∀ {o : Option Str}, Tv K H v o → (∀ H', Same H H' → Q (.bl (o.any p)) H') → spTxt K p [v] H Q E
  | some z, ⟨e, hz⟩, q => ⟨_, rfl, .inl ⟨z, e, hz, q⟩⟩
  | none, ⟨t, ht, hk⟩, q => ⟨_, rfl, .inr ⟨t, ht, hk, q⟩⟩
theorem ok_isTerm {f fN fV : Addr} {fd fdN fdV : FuncData} (F : Fun K "is_term" "is_term" sIsTerm f fd)
    (GN : FnOk P w K mg base CX0 1 fN fdN ["value"] (spTxt K fun z => decide (IsNm z))) (kN : PySem.W.keepIn K (.ref fN) = true) (gN : mg "is_name" = some (.ref fN)) (bN : Binds K fdN ["value"] [])
    (GV : FnOk P w K mg base CX0 1 fV fdV ["value"] (spTxt K fun z => decide (IsVr z))) (kV : PySem.W.keepIn K (.ref fV) = true) (gV : mg "is_variable" = some (.ref fV)) (bV : Binds K fdV ["value"] []) :
    FnOk P w K mg base CX0 2 f fd ["value"] (spTxt K fun z => decide (IsTm z)) := by
  refine F.ok scIsTerm (fun vs H Q E h => ?_) (fun cdv A outer s H vs Q E hr h => ?_)
  · obtain ⟨v, rfl, _⟩ := h
    rfl
  · obtain ⟨v, rfl, h⟩ := h
    refine ⟨_, pss_one (ps_ret (pe_or (by exact (pe_call GN hr (by rfl) gN kN bN .nil pass0 (pa_cons (pv 0) pa_nil))) (pe_one (by exact (pe_call GV hr (by rfl) gV kV bV .nil pass0 (pa_cons (pv 0) pa_nil)))))), ?_⟩
    refine ⟨_, rfl, ?_⟩
    rcases h with ⟨z, rfl, hz, q⟩ | ⟨t, ht, hk, q⟩
    · have q : ∀ H', Same H H' → Q (.bl (decide (IsTm z))) H' := q
      refine ⟨_, rfl, .inl ⟨z, rfl, hz, fun H1 s1 => ⟨decide (IsNm z), rfl, ?_⟩⟩⟩
      by_cases h1 : IsNm z
      · rw [decide_eq_true h1]
        refine iteT ?_
        have := q H1 s1
        rw [show decide (IsTm z) = true from decide_eq_true (Or.inl h1)] at this
        exact this
      · rw [decide_eq_false h1]
        refine iteF ⟨_, rfl, _, rfl, .inl ⟨z, rfl, hz, fun H2 s2 => ?_⟩⟩
        have := q H2 (s1.trans s2)
        have e : decide (IsTm z) = decide (IsVr z) := decide_eq_decide.mpr ⟨fun h => h.resolve_left h1, .inr⟩
        rw [e] at this
        exact this
    · refine ⟨_, rfl, .inr ⟨t, ht, hk, fun H1 s1 => ⟨false, rfl, iteF ?_⟩⟩⟩
      refine ⟨_, rfl, _, rfl, .inr ⟨t, tyx_same s1 ht, hk, fun H2 s2 => q H2 (s1.trans s2)⟩⟩
end
end Nv
set_option maxHeartbeats 4000000
namespace Nv
open PySem PySem.Spec PyProof.Rows L2
/-- item by item -/
inductive All2 {α β : Type} (R : α → β → Prop) : List α → List β → Prop
  | nil : All2 R [] []
  | cons {x : α} {y : β} {xs : List α} {ys : List β} (h : R x y) (t : All2 R xs ys) : All2 R (x :: xs) (y :: ys)
section
variable {α β : Type} {R S : α → β → Prop} {xs : List α} {ys : List β}
theorem All2.len (h : All2 R xs ys) : xs.length = ys.length := by
  induction h with
  | nil => rfl
  | cons _ _ ih => simp [ih]
theorem All2.imp (h : All2 R xs ys) (i : ∀ x y, R x y → S x y) : All2 S xs ys := by
  induction h with
  | nil => exact .nil
  | cons h _ ih => exact .cons (i _ _ h) ih
theorem All2.at_ (h : All2 R xs ys) {i : Nat} {x : α} (hi : xs[i]? = some x) : ∃ y, ys[i]? = some y ∧ R x y := by
  induction h generalizing i with
  | nil => cases i <;> cases hi
  | cons h _ ih =>
    cases i with
    | zero =>
      cases hi
      exact ⟨_, rfl, h⟩
    | succ i => exact ih hi
end
/-- a value that may be a pattern: its parts, where it is a tuple -/
def Tp (K : PySem.W.Frag) (H : Hp) (v : V) : Option (List (Option Str)) → Prop
  | some os => ∃ (t : Addr) (xs : List V), v = .ref t ∧ H t = some (.tup xs) ∧ All2 (Tv K H) xs os ∧ os.length ≤ 1000
  | none => ∃ t : Value, TyX K H v t ∧ PySem.W.kitOne K t (.type "tuple") = some false
theorem Tp.same {K : PySem.W.Frag} {H H' : Hp} {v : V} : ∀ {o : Option (List (Option Str))}, Tp K H v o → Same H H' → Tp K H' v o
  | some os, ⟨t, xs, e, h, a, l⟩, s => ⟨t, xs, e, s _ _ h, a.imp fun _ _ z => z.same s, l⟩
  | none, ⟨t, h, k⟩, s => ⟨t, tyx_same s h, k⟩
theorem tp_strs {K : PySem.W.Frag} {H : Hp} {t : Addr} {p : List Str} (e : H t = some (.tup (p.map V.str))) (hp : ∀ x ∈ p, x.length ≤ 1000) (hl : p.length ≤ 1000) : Tp K H (.ref t) (some (p.map some)) := by
  refine ⟨t, _, rfl, e, ?_, by rw [List.length_map]; exact hl⟩
  clear e hl
  induction p with
  | nil => exact .nil
  | cons x p ih => exact .cons ⟨rfl, Nat.le_trans (hp x List.mem_cons_self) big1000⟩ (ih fun y hy => hp y (List.mem_cons_of_mem _ hy))
def nmO (o : Option Str) : Bool := o.any fun z => decide (IsNm z)
def tmO (o : Option Str) : Bool := o.any fun z => decide (IsTm z)
def vrO (o : Option Str) : Bool := o.any fun z => decide (IsVr z)
def patB : Option (List (Option Str)) → Bool
  | some (o :: os) => decide (os.length ≤ 3) && (nmO o && os.all tmO)
  | _ => false
section
variable {P : Program} {w : World} {K : PySem.W.Frag} {mg : Str → Option Value} {base : Heap}
def spIsPattern (K : PySem.W.Frag) : Sp := fun vs H Q _ => ∃ (v : V) (o : Option (List (Option Str))), vs = [v] ∧ Tp K H v o ∧ ∀ H', Same H H' → Q (.bl (patB o)) H'
theorem scIsPattern : FnScope ["value", "part"] ["value"] (defScope sIsPattern) := ⟨rfl, rfl, rfl, by decide +kernel, rfl, by decide +kernel, by decide +kernel⟩
theorem tyx_tup {H : Hp} {t : Addr} {xs : List V} (e : H t = some (.tup xs)) : TyX K H (.ref t) (.type "tuple") := .base (.tup e)
theorem tyx_lst {H : Hp} {t : Addr} {xs : List V} (e : H t = some (.lst xs)) : TyX K H (.ref t) (.type "list") := .base (.lst e)
theorem cut_one (xs : List V) : cutV xs (some 1) none = xs.drop 1 := by
  unfold cutV
  have e : HT.sIx xs.length 0 (some (1 : Int)) = min 1 xs.length := HT.sIx_nat xs.length 0 1
  rw [e, HT.sIx_none]
  cases xs with
  | nil => rfl
  | cons x xs =>
    rw [List.length_cons, Nat.min_eq_left (by omega), Nat.add_sub_cancel, List.drop_succ_cons, List.drop_zero, List.take_of_length_le (Nat.le_refl _)]
theorem ok_isPattern {f fN fT : Addr} {fd fdN fdT : FuncData} (F : Fun K "is_pattern" "is_pattern" sIsPattern f fd) (B : Bp mg)
    (GN : FnOk P w K mg base CX0 1 fN fdN ["value"] (spTxt K fun z => decide (IsNm z))) (kN : PySem.W.keepIn K (.ref fN) = true) (gN : mg "is_name" = some (.ref fN)) (bN : Binds K fdN ["value"] [])
    (GT : FnOk P w K mg base CX0 2 fT fdT ["value"] (spTxt K fun z => decide (IsTm z))) (kT : PySem.W.keepIn K (.ref fT) = true) (gT : mg "is_term" = some (.ref fT)) (bT : Binds K fdT ["value"] []) :
    FnOk P w K mg base CX0 3 f fd ["value"] (spIsPattern K) := by
  refine F.ok scIsPattern (fun vs H Q E h => ?_) (fun cdv A outer s H vs Q E hr h => ?_)
  · obtain ⟨v, o, rfl, _⟩ := h
    rfl
  · obtain ⟨v, o, rfl, h, q⟩ := h
    have hr1 : Room 1 _ := hr.mono (by decide)
    refine ⟨_, pss_cons (ps_if (PW.pt (pw_or (pt_not (pt_val (pe_callB call_isi (by rfl) B.isi bootIsi (pa_cons (pv 0) (pa_cons (pe_bltn (v := V.ty "tuple") (by rfl) B.tup PyProof.Rows.boot_tuple rfl) pa_nil)))))
        (pw_or1 (pt_not (pt_chain op_le op_le pe_int (pe_callB call_len_seq (by rfl) B.len PySem.boot_len (pa_cons (pv 0) pa_nil)) pe_int))))) (pss_one (ps_ret pe_bl)) pss_nil)
      (pss_one (ps_ret (pe_and (by exact (pe_call GN hr1 (by rfl) gN kN bN .nil pass0 (pa_cons (pe_ix ix_tup (pv 0) pe_int (fun _ _ => rfl)) pa_nil)))
        (pe_one (pe_callB (cr_all rfl) (by rfl) B.all bootAll (pa_cons (by exact (pe_lc (own := [("part", 1)]) (g := gName 1) (tt := tYes) rfl scIsPattern.nd (pi_tup (pe_slice sl_tup (pv 0) (po_some pe_int) po_none))
          (blkOk_by (own := [("part", 1)]) (N := ["value", "part"]) (sc := defScope sIsPattern) (by decide +kernel))
          (fun _ _ _ _ _ => pg_name (i := 1) scIsPattern.nd rfl (Or.inl rfl)) (fun _ _ _ _ _ => pts_nil)
          (fun _ _ _ _ _ => by exact (pe_call GT hr (by rfl) gT kT bT .nil pass0 (pa_cons (pv 1) pa_nil))))) pa_nil)))))), ?_⟩
    cases o with
    | none =>
      obtain ⟨t, ht, hk⟩ := h
      refine ⟨_, rfl, _, _, _, _, false, rfl, .ty _, ht, hk, false, rfl, iteT (iteT ?_)⟩
      exact q H (Same.refl H)
    | some os =>
      obtain ⟨t, xs, rfl, e, ha, hl⟩ := h
      have hxl := ha.len
      refine ⟨_, rfl, _, _, _, _, true, rfl, .ty _, tyx_tup e, kit_ty (by decide +kernel), true, rfl, iteF ?_⟩
      refine ⟨_, rfl, t, xs, rfl, .inr (SqT.of e), _, _, rfl, rfl, _, rfl, ?_⟩
      cases ha with
      | nil =>
        refine iteF ⟨false, rfl, iteT ?_⟩
        exact q H (Same.refl H)
      | @cons x o1 xs1 os1 h1 ht =>
        have e1 : decide ((1 : Int) ≤ ((x :: xs1).length : Int)) = true := decide_eq_true (by rw [List.length_cons]; omega)
        show if decide ((1 : Int) ≤ ((x :: xs1).length : Int)) = true then _ else _
        rw [e1]
        refine iteT ⟨_, _, rfl, rfl, ?_⟩
        refine ⟨decide (((x :: xs1).length : Int) ≤ 4), rfl, ?_⟩
        by_cases h4 : os1.length ≤ 3
        · have e4 : decide (((x :: xs1).length : Int) ≤ 4) = true := decide_eq_true (by rw [List.length_cons] at *; rw [List.length_cons] at hxl; omega)
          rw [e4]
          refine iteF ?_
          have q : ∀ H', Same H H' → Q (.bl (nmO o1 && os1.all tmO)) H' := fun H' s => by
            have := q H' s
            simp only [patB, decide_eq_true h4, Bool.true_and] at this
            exact this
          refine ⟨_, rfl, t, _, _, x, rfl, rfl, SqT.of e, atI_nat (j := 0) rfl, ?_⟩
          dsimp only [tNil]
          refine spTxt.of h1 fun H1 s1 => ?_
          refine ⟨nmO o1, rfl, ?_⟩
          cases hn : nmO o1 with
          | false =>
            refine iteF ?_
            have := q H1 s1
            rw [hn] at this
            exact this
          | true =>
            rw [hn] at q
            refine iteT ?_
            refine ⟨_, rfl, 1, rfl, t, _, rfl, SqT.of (s1 _ _ e), ?_, fun t2 nt2 => ?_⟩
            · rintro ⟨h, _⟩
              have := HT.sIx_nat (x :: xs1).length 0 1
              rw [show ((1 : Nat) : Int) = 1 by rfl] at this
              rw [this, List.length_cons] at h
              omega
            · rw [cut_one, List.drop_succ_cons, List.drop_zero]
              have s2 : Same H (upd H1 t2 (.tup xs1)) := same_put s1 (s1.free nt2)
              have e2 : upd H1 t2 (.tup xs1) t2 = some (.tup xs1) := upd_same
              generalize upd H1 t2 (.tup xs1) = G at s2 e2 ⊢
              refine ⟨t2, rfl, ⟨_, SqT.of e2⟩, fun D nD => ?_⟩
              refine lc_tup (K := K) (a := t2) (xs := xs1) (fun i H' => Same G H' ∧ H' D = some (.lst ((os1.take i).map fun o => V.bl (tmO o)))) ⟨same_new nD, upd_same⟩ (fun i H' _ y => SqT.of (y.1 _ _ e2)) ?_ ?_
              · rintro i y H3 hi ⟨s3, e3⟩
                obtain ⟨o2, ho2, hy⟩ := ht.at_ hi
                refine ⟨rfl, ?_⟩
                refine ⟨_, rfl, ?_⟩
                dsimp only [tNil]
                refine spTxt.of (hy.same (s2.trans s3)) fun H4 s4 => ?_
                refine ⟨_, s4 _ _ e3, ?_, same_put (s3.trans s4) nD, ?_⟩
                · rw [List.length_map, List.length_take]
                  exact Nat.lt_of_le_of_lt (by omega : _ ≤ 3) (by decide)
                · rw [upd_same, take_one ho2, List.map_append] <;> rfl
              · rintro H3 ⟨s3, e3⟩
                have hlen := ht.len
                rw [hlen, List.take_length] at e3
                refine ⟨D, os1.map tmO, rfl, SqL.of (by rw [e3, List.map_map] <;> rfl), ?_⟩
                have := q H3 (s2.trans s3)
                rw [Bool.true_and] at this
                rw [List.all_map]
                exact this
        · have e4 : decide (((x :: xs1).length : Int) ≤ 4) = false := decide_eq_false (by rw [List.length_cons] at *; rw [List.length_cons] at hxl; omega)
          rw [e4]
          refine iteT ?_
          have := q H (Same.refl H)
          simp only [patB, decide_eq_false h4, Bool.false_and] at this
          exact this
end
end Nv
set_option maxHeartbeats 4000000
namespace Nv
open PySem PySem.Spec PyProof.Rows L2
/-- a value that may be a list of tuples: what stands in it, where it is a list -/
def Tps (K : PySem.W.Frag) (H : Hp) (v : V) : Option (List (Option (List (Option Str)))) → Prop
  | some ls => ∃ (a : Addr) (xs : List V), v = .ref a ∧ H a = some (.lst xs) ∧ All2 (Tp K H) xs ls ∧ ls.length ≤ 1000
  | none => ∃ t : Value, TyX K H v t ∧ PySem.W.kitOne K t (.type "list") = some false
theorem Tps.same {K : PySem.W.Frag} {H H' : Hp} {v : V} : ∀ {o : Option (List (Option (List (Option Str))))}, Tps K H v o → Same H H' → Tps K H' v o
  | some os, ⟨t, xs, e, h, a, l⟩, s => ⟨t, xs, e, s _ _ h, a.imp fun _ _ z => z.same s, l⟩
  | none, ⟨t, h, k⟩, s => ⟨t, tyx_same s h, k⟩
theorem PaL.tps {K : PySem.W.Frag} {H : Hp} {vs : List V} {ps : List (List Str)} (h : PaL H vs ps) (hp : ∀ p ∈ ps, p.length ≤ 1000 ∧ ∀ x ∈ p, x.length ≤ 1000) : All2 (Tp K H) vs (ps.map fun p => some (p.map some)) := by
  induction h with
  | nil => exact .nil
  | cons e _ ih =>
    obtain ⟨h1, h2⟩ := hp _ List.mem_cons_self
    exact .cons (tp_strs e h2 h1) (ih fun p hq => hp p (List.mem_cons_of_mem _ hq))
def prB : Option (List (Option Str)) → Bool
  | some [o1, o2] => tmO o1 && (tmO o2 && (decide (o1 ≠ o2) && (vrO o1 || vrO o2)))
  | _ => false
def listB (p : Option (List (Option Str)) → Bool) (o : Option (List (Option (List (Option Str))))) : Bool := o.any fun ls => ls.all p
section
variable {P : Program} {w : World} {K : PySem.W.Frag} {mg : Str → Option Value} {base : Heap}
def spTup (K : PySem.W.Frag) (p : Option (List (Option Str)) → Bool) : Sp := fun vs H Q _ => ∃ (v : V) (o : Option (List (Option Str))), vs = [v] ∧ Tp K H v o ∧ ∀ H', Same H H' → Q (.bl (p o)) H'
def spLst (K : PySem.W.Frag) (p : Option (List (Option Str)) → Bool) : Sp := fun vs H Q _ => ∃ (v : V) (o : Option (List (Option (List (Option Str))))), vs = [v] ∧ Tps K H v o ∧ ∀ H', Same H H' → Q (.bl (listB p o)) H'
theorem scIsPatterns : FnScope ["value", "part"] ["value"] (defScope sIsPatterns) := ⟨rfl, rfl, rfl, by decide +kernel, rfl, by decide +kernel, by decide +kernel⟩
theorem ok_isPatterns {f fN : Addr} {fd fdN : FuncData} {p : Option (List (Option Str)) → Bool} (F : Fun K "is_patterns" "is_patterns" sIsPatterns f fd) (B : Bp mg)
    (GN : FnOk P w K mg base CX0 3 fN fdN ["value"] (spTup K p)) (kN : PySem.W.keepIn K (.ref fN) = true) (gN : mg "is_pattern" = some (.ref fN)) (bN : Binds K fdN ["value"] []) :
    FnOk P w K mg base CX0 4 f fd ["value"] (spLst K p) := by
  refine F.ok scIsPatterns (fun vs H Q E h => ?_) (fun cdv A outer s H vs Q E hr h => ?_)
  · obtain ⟨v, o, rfl, _⟩ := h
    rfl
  · obtain ⟨v, o, rfl, h, q⟩ := h
    refine ⟨_, pss_one (ps_ret (pe_and (pe_callB call_isi (by rfl) B.isi bootIsi (pa_cons (pv 0) (pa_cons (pe_bltn (v := V.ty "list") (by rfl) B.lst PyProof.Rows.boot_list rfl) pa_nil)))
      (pe_one (pe_callB (cr_all rfl) (by rfl) B.all bootAll (pa_cons (by exact (pe_lc (own := [("part", 1)]) (g := gName 1) (tt := tYes) rfl scIsPatterns.nd (pi_list (pv 0))
          (blkOk_by (own := [("part", 1)]) (N := ["value", "part"]) (sc := defScope sIsPatterns) (by decide +kernel))
          (fun _ _ _ _ _ => pg_name (i := 1) scIsPatterns.nd rfl (Or.inl rfl)) (fun _ _ _ _ _ => pts_nil)
          (fun _ _ _ _ _ => by exact (pe_call GN hr (by rfl) gN kN bN .nil pass0 (pa_cons (pv 1) pa_nil))))) pa_nil))))), ?_⟩
    cases o with
    | none =>
      obtain ⟨t, ht, hk⟩ := h
      refine ⟨_, rfl, _, _, _, _, false, rfl, .ty _, ht, hk, false, rfl, iteF ?_⟩
      exact q H (Same.refl H)
    | some ls =>
      obtain ⟨a, xs, rfl, e, ha, hl⟩ := h
      have hxl := ha.len
      refine ⟨_, rfl, _, _, _, _, true, rfl, .ty _, tyx_lst e, kit_ty (by decide +kernel), true, rfl, iteT ?_⟩
      refine ⟨_, rfl, a, rfl, ⟨_, SqL.of e⟩, fun D nD => ?_⟩
      refine lc_list (K := K) (a := a) (xs := xs) (fun i H' => Same H H' ∧ H' D = some (.lst ((ls.take i).map fun o => V.bl (p o)))) ⟨same_new nD, upd_same⟩ (fun i H' _ y => SqL.of (y.1 _ _ e)) ?_ ?_
      · rintro i y H3 hi ⟨s3, e3⟩
        obtain ⟨o2, ho2, hy⟩ := ha.at_ hi
        refine ⟨rfl, _, rfl, y, o2, rfl, hy.same s3, fun H4 s4 => ?_⟩
        refine ⟨_, s4 _ _ e3, ?_, same_put (s3.trans s4) nD, ?_⟩
        · rw [List.length_map, List.length_take]
          exact Nat.lt_of_le_of_lt (by omega : _ ≤ 1000) (by decide)
        · rw [upd_same, take_one ho2, List.map_append] <;> rfl
      · rintro H3 ⟨s3, e3⟩
        rw [hxl, List.take_length] at e3
        refine ⟨D, ls.map p, rfl, SqL.of (by rw [e3, List.map_map] <;> rfl), ?_⟩
        rw [List.all_map]
        exact q H3 s3
theorem scIsPairs : FnScope ["value", "part"] ["value"] (defScope sIsPairs) := ⟨rfl, rfl, rfl, by decide +kernel, rfl, by decide +kernel, by decide +kernel⟩
theorem ok_isPairs {f fN : Addr} {fd fdN : FuncData} {p : Option (List (Option Str)) → Bool} (F : Fun K "is_pairs" "is_pairs" sIsPairs f fd) (B : Bp mg)
    (GN : FnOk P w K mg base CX0 3 fN fdN ["value"] (spTup K p)) (kN : PySem.W.keepIn K (.ref fN) = true) (gN : mg "is_pair" = some (.ref fN)) (bN : Binds K fdN ["value"] []) :
    FnOk P w K mg base CX0 4 f fd ["value"] (spLst K p) := by
  refine F.ok scIsPairs (fun vs H Q E h => ?_) (fun cdv A outer s H vs Q E hr h => ?_)
  · obtain ⟨v, o, rfl, _⟩ := h
    rfl
  · obtain ⟨v, o, rfl, h, q⟩ := h
    refine ⟨_, pss_one (ps_ret (pe_and (pe_callB call_isi (by rfl) B.isi bootIsi (pa_cons (pv 0) (pa_cons (pe_bltn (v := V.ty "list") (by rfl) B.lst PyProof.Rows.boot_list rfl) pa_nil)))
      (pe_one (pe_callB (cr_all rfl) (by rfl) B.all bootAll (pa_cons (by exact (pe_lc (own := [("part", 1)]) (g := gName 1) (tt := tYes) rfl scIsPairs.nd (pi_list (pv 0))
          (blkOk_by (own := [("part", 1)]) (N := ["value", "part"]) (sc := defScope sIsPairs) (by decide +kernel))
          (fun _ _ _ _ _ => pg_name (i := 1) scIsPairs.nd rfl (Or.inl rfl)) (fun _ _ _ _ _ => pts_nil)
          (fun _ _ _ _ _ => by exact (pe_call GN hr (by rfl) gN kN bN .nil pass0 (pa_cons (pv 1) pa_nil))))) pa_nil))))), ?_⟩
    cases o with
    | none =>
      obtain ⟨t, ht, hk⟩ := h
      refine ⟨_, rfl, _, _, _, _, false, rfl, .ty _, ht, hk, false, rfl, iteF ?_⟩
      exact q H (Same.refl H)
    | some ls =>
      obtain ⟨a, xs, rfl, e, ha, hl⟩ := h
      have hxl := ha.len
      refine ⟨_, rfl, _, _, _, _, true, rfl, .ty _, tyx_lst e, kit_ty (by decide +kernel), true, rfl, iteT ?_⟩
      refine ⟨_, rfl, a, rfl, ⟨_, SqL.of e⟩, fun D nD => ?_⟩
      refine lc_list (K := K) (a := a) (xs := xs) (fun i H' => Same H H' ∧ H' D = some (.lst ((ls.take i).map fun o => V.bl (p o)))) ⟨same_new nD, upd_same⟩ (fun i H' _ y => SqL.of (y.1 _ _ e)) ?_ ?_
      · rintro i y H3 hi ⟨s3, e3⟩
        obtain ⟨o2, ho2, hy⟩ := ha.at_ hi
        refine ⟨rfl, _, rfl, y, o2, rfl, hy.same s3, fun H4 s4 => ?_⟩
        refine ⟨_, s4 _ _ e3, ?_, same_put (s3.trans s4) nD, ?_⟩
        · rw [List.length_map, List.length_take]
          exact Nat.lt_of_le_of_lt (by omega : _ ≤ 1000) (by decide)
        · rw [upd_same, take_one ho2, List.map_append] <;> rfl
      · rintro H3 ⟨s3, e3⟩
        rw [hxl, List.take_length] at e3
        refine ⟨D, ls.map p, rfl, SqL.of (by rw [e3, List.map_map] <;> rfl), ?_⟩
        rw [List.all_map]
        exact q H3 s3
theorem scIsPair : FnScope ["value", "part"] ["value"] (defScope sIsPair) := ⟨rfl, rfl, rfl, by decide +kernel, rfl, by decide +kernel, by decide +kernel⟩
theorem tm_some {o : Option Str} (h : tmO o = true) : ∃ z, o = some z := by
  cases o with
  | none => cases h
  | some z => exact ⟨z, rfl⟩
theorem ok_isPair {f fT fV : Addr} {fd fdT fdV : FuncData} (F : Fun K "is_pair" "is_pair" sIsPair f fd) (B : Bp mg)
    (GT : FnOk P w K mg base CX0 2 fT fdT ["value"] (spTxt K fun z => decide (IsTm z))) (kT : PySem.W.keepIn K (.ref fT) = true) (gT : mg "is_term" = some (.ref fT)) (bT : Binds K fdT ["value"] [])
    (GV : FnOk P w K mg base CX0 1 fV fdV ["value"] (spTxt K fun z => decide (IsVr z))) (kV : PySem.W.keepIn K (.ref fV) = true) (gV : mg "is_variable" = some (.ref fV)) (bV : Binds K fdV ["value"] []) :
    FnOk P w K mg base CX0 3 f fd ["value"] (spTup K prB) := by
  refine F.ok scIsPair (fun vs H Q E h => ?_) (fun cdv A outer s H vs Q E hr h => ?_)
  · obtain ⟨v, o, rfl, _⟩ := h
    rfl
  · obtain ⟨v, o, rfl, h, q⟩ := h
    have hr1 : Room 1 _ := hr.mono (by decide)
    refine ⟨_, pss_cons (ps_if (PW.pt (pw_or (pt_not (pt_val (pe_callB call_isi (by rfl) B.isi bootIsi (pa_cons (pv 0) (pa_cons (pe_bltn (v := V.ty "tuple") (by rfl) B.tup PyProof.Rows.boot_tuple rfl) pa_nil)))))
        (pw_or (pt_cmpR op_ne (pe_callB call_len_seq (by rfl) B.len PySem.boot_len (pa_cons (pv 0) pa_nil)) pe_int (nomark _))
        (pw_or1 (pt_not (pt_val (pe_callB (cr_all rfl) (by rfl) B.all bootAll (pa_cons (by exact (pe_lc (own := [("part", 1)]) (g := gName 1) (tt := tYes) rfl scIsPair.nd (pi_tup (pv 0))
          (blkOk_by (own := [("part", 1)]) (N := ["value", "part"]) (sc := defScope sIsPair) (by decide +kernel))
          (fun _ _ _ _ _ => pg_name (i := 1) scIsPair.nd rfl (Or.inl rfl)) (fun _ _ _ _ _ => pts_nil)
          (fun _ _ _ _ _ => by exact (pe_call GT hr (by rfl) gT kT bT .nil pass0 (pa_cons (pv 1) pa_nil))))) pa_nil)))))))) (pss_one (ps_ret pe_bl)) pss_nil)
      (pss_one (ps_ret (pe_and (pe_cmpR op_ne (pe_ix ix_tup (pv 0) pe_int (fun _ _ => rfl)) (pe_ix ix_tup (pv 0) pe_int (fun _ _ => rfl)) (nomark _))
        (pe_one (pe_callB (cr_any rfl) (by rfl) B.any bootAny (pa_cons (by exact (pe_lc (own := [("part", 1)]) (g := gName 1) (tt := tYes) rfl scIsPair.nd (pi_tup (pv 0))
          (blkOk_by (own := [("part", 1)]) (N := ["value", "part"]) (sc := defScope sIsPair) (by decide +kernel))
          (fun _ _ _ _ _ => pg_name (i := 1) scIsPair.nd rfl (Or.inl rfl)) (fun _ _ _ _ _ => pts_nil)
          (fun _ _ _ _ _ => by exact (pe_call GV hr1 (by rfl) gV kV bV .nil pass0 (pa_cons (pv 1) pa_nil))))) pa_nil)))))), ?_⟩
    cases o with
    | none =>
      obtain ⟨t, ht, hk⟩ := h
      refine ⟨_, rfl, _, _, _, _, false, rfl, .ty _, ht, hk, false, rfl, iteT (iteT ?_)⟩
      exact q H (Same.refl H)
    | some os =>
      obtain ⟨t, xs, rfl, e, ha, hl⟩ := h
      have hxl := ha.len
      refine ⟨_, rfl, _, _, _, _, true, rfl, .ty _, tyx_tup e, kit_ty (by decide +kernel), true, rfl, iteF ?_⟩
      refine ⟨_, rfl, t, xs, rfl, .inr (SqT.of e), rfl, _, rfl, ?_⟩
      by_cases h2 : os.length = 2
      · obtain ⟨o1, o2, rfl⟩ : ∃ o1 o2, os = [o1, o2] := by
          match os, h2 with
          | [o1, o2], _ => exact ⟨o1, o2, rfl⟩
        have hx2 : V.int (xs.length : Int) = V.int 2 := by
          rw [hxl] <;> rfl
        rw [decide_eq_true hx2]
        refine iteF ?_
        refine ⟨_, rfl, t, rfl, ⟨_, SqT.of e⟩, fun D nD => ?_⟩
        refine lc_tup (K := K) (a := t) (xs := xs) (fun i H' => Same H H' ∧ H' D = some (.lst (([o1, o2].take i).map fun o => V.bl (tmO o)))) ⟨same_new nD, upd_same⟩ (fun i H' _ y => SqT.of (y.1 _ _ e)) ?_ ?_
        · rintro i y H3 hi ⟨s3, e3⟩
          obtain ⟨o, ho, hy⟩ := ha.at_ hi
          refine ⟨rfl, _, rfl, ?_⟩
          dsimp only [tNil]
          refine spTxt.of (hy.same s3) fun H4 s4 => ?_
          refine ⟨_, s4 _ _ e3, ?_, same_put (s3.trans s4) nD, ?_⟩
          · rw [List.length_map, List.length_take]
            exact Nat.lt_of_le_of_lt (Nat.min_le_right _ _) (by show 2 < sizeLine; decide)
          · rw [upd_same, take_one ho, List.map_append] <;> rfl
        · rintro H3 ⟨s3, e3⟩
          rw [hxl, List.take_length] at e3
          refine ⟨D, [o1, o2].map tmO, rfl, SqL.of (by rw [e3] <;> rfl), _, rfl, ?_⟩
          have hq := q H3 s3
          cases h1 : tmO o1 with
          | false =>
            have e5 : ([o1, o2].map tmO).all id = false := by simp [h1]
            rw [e5]
            refine iteT ?_
            simp only [prB, h1, Bool.false_and] at hq
            exact hq
          | true =>
            cases h3 : tmO o2 with
            | false =>
              have e5 : ([o1, o2].map tmO).all id = false := by simp [h3]
              rw [e5]
              refine iteT ?_
              simp only [prB, h1, h3, Bool.false_and, Bool.true_and] at hq
              exact hq
            | true =>
              have e5 : ([o1, o2].map tmO).all id = true := by simp [h1, h3]
              rw [e5]
              refine iteF ?_
              obtain ⟨z1, rfl⟩ := tm_some h1
              obtain ⟨z2, rfl⟩ := tm_some h3
              have q : ∀ H', Same H H' → Q (.bl (decide (some z1 ≠ some z2) && (vrO (some z1) || vrO (some z2)))) H' := fun H' s => by
                have := q H' s
                simp only [prB, h1, h3, Bool.true_and] at this
                exact this
              obtain ⟨x1, x2, rfl⟩ : ∃ x1 x2, xs = [x1, x2] := by
                match xs, hxl with
                | [x1, x2], _ => exact ⟨x1, x2, rfl⟩
              have g1 : x1 = V.str z1 := by
                obtain ⟨o, ho, hy⟩ := ha.at_ (i := 0) rfl
                cases ho
                exact hy.1
              have g2 : x2 = V.str z2 := by
                obtain ⟨o, ho, hy⟩ := ha.at_ (i := 1) rfl
                cases ho
                exact hy.1
              subst g1 g2
              refine ⟨_, rfl, t, _, _, _, rfl, rfl, SqT.of (s3 _ _ e), atI_nat (j := 0) rfl, _, rfl, t, _, _, _, rfl, rfl, SqT.of (s3 _ _ e), atI_nat (j := 1) rfl, rfl, ?_⟩
              refine ⟨!decide (V.str z1 = V.str z2), rfl, ?_⟩
              by_cases hz : z1 = z2
              · rw [decide_eq_true (by rw [hz] : V.str z1 = V.str z2)]
                refine iteF ?_
                have := q H3 s3
                have e7 : decide (some z1 ≠ some z2) = false := decide_eq_false (fun y => y (by rw [hz]))
                rw [e7, Bool.false_and] at this
                exact this
              · rw [decide_eq_false (fun y => hz (by injection y) : ¬ V.str z1 = V.str z2)]
                refine iteT ?_
                refine ⟨_, rfl, t, rfl, ⟨_, SqT.of (s3 _ _ e)⟩, fun D2 nD2 => ?_⟩
                refine lc_tup (K := K) (a := t) (xs := [V.str z1, V.str z2]) (fun i H' => Same H3 H' ∧ H' D2 = some (.lst (([some z1, some z2].take i).map fun o => V.bl (vrO o)))) ⟨same_new nD2, upd_same⟩ (fun i H' _ y => SqT.of (y.1 _ _ (s3 _ _ e))) ?_ ?_
                · rintro i y H4 hi ⟨s4, e4⟩
                  obtain ⟨o, ho, hy⟩ := ha.at_ hi
                  refine ⟨rfl, _, rfl, ?_⟩
                  dsimp only [tNil]
                  refine spTxt.of (hy.same (s3.trans s4)) fun H5 s5 => ?_
                  refine ⟨_, s5 _ _ e4, ?_, same_put (s4.trans s5) nD2, ?_⟩
                  · rw [List.length_map, List.length_take]
                    exact Nat.lt_of_le_of_lt (Nat.min_le_right _ _) (by show 2 < sizeLine; decide)
                  · rw [upd_same, take_one ho, List.map_append] <;> rfl
                · rintro H4 ⟨s4, e4⟩
                  refine ⟨D2, [some z1, some z2].map vrO, rfl, SqL.of (by rw [e4] <;> rfl), ?_⟩
                  have := q H4 (s3.trans s4)
                  have e7 : decide (some z1 ≠ some z2) = true := decide_eq_true (fun y => hz (by injection y))
                  rw [e7, Bool.true_and] at this
                  have e6 : ([some z1, some z2].map vrO).any id = (vrO (some z1) || vrO (some z2)) := by simp
                  rw [e6]
                  exact this
      · have hx2 : ¬ V.int (xs.length : Int) = V.int 2 := fun y => by
          injection y with y
          omega
        rw [decide_eq_false hx2]
        refine iteT (iteT ?_)
        have := q H (Same.refl H)
        have e5 : prB (some os) = false := by
          match os, h2 with
          | [], _ => rfl
          | [_], _ => rfl
          | [_, _], h => exact absurd rfl h
          | _ :: _ :: _ :: _, _ => rfl
        rw [e5] at this
        exact this
end
end Nv
set_option maxHeartbeats 4000000
namespace Nv
open PySem PySem.Spec PyProof.Rows L2
theorem sqT_same {K : PySem.W.Frag} {H H' : Hp} {a : Addr} {xs : List V} (e : Same H H') (h : SqT K H a xs) : SqT K H' a xs :=
  h.elim (fun h => .inl (h.elim (fun h => .inl (e _ _ h)) fun ⟨o, h⟩ => .inr ⟨o, e _ _ h⟩)) fun h => .inr h
theorem walk_any {J : It} {n : Nat} {G : Hp → Prop} {Y : Nat → Hp → V → Hp → Prop} (w : Walk J n G Y) {S : Hp → Prop} {BODY : (Hp → Prop) → V → Hp → Prop} {H0 : Hp} (Pv : Nat → Hp → Prop) (h0 : Pv 0 H0) (hG : ∀ i H, i ≤ n → Pv i H → G H)
    (hs : ∀ i x H H', i < n → Pv i H → Y i H x H' → BODY (Pv (i + 1)) x H') (hd : ∀ H, Pv n H → S H) :
    ∃ W : Nat → Nat → Hp → Prop, (∃ m, W 0 m H0) ∧ ∀ i m H, W i m H → (J.stop i H ∧ S H) ∨ (J.go i H ∧ ∃ Nx : Hp → Prop, (∀ H', Nx H' → ∃ m', m' < m ∧ W (i + 1) m' H') ∧ ∀ x H', J.yld i H x H' → BODY Nx x H') := by
  refine ⟨fun i m H => m = n - i ∧ i ≤ n ∧ Pv i H, ⟨n, by simp, Nat.zero_le _, h0⟩, ?_⟩
  rintro i m H ⟨rfl, hi, p⟩
  have q := hG i H hi p
  by_cases hlt : i < n
  · refine .inr ⟨w.goes i H hlt q, Pv (i + 1), fun H' p' => ⟨n - (i + 1), by omega, rfl, hlt, p'⟩, fun x H' y => hs i x H H' hlt p (w.yields i H x H' hlt q y)⟩
  · have e : i = n := by omega
    subst e
    exact .inl ⟨w.stops H q, hd H p⟩
section
variable {P : Program} {w : World} {K : PySem.W.Frag} {mg : Str → Option Value} {base : Heap}
def spTermsOf (K : PySem.W.Frag) : Sp := fun vs H Q _ => ∃ (a : Addr) (us : List V) (ps : List (List Str)), vs = [.ref a] ∧ SqL K H a us ∧ PaL H us ps ∧ (∀ x ∈ ps, PatOk x) ∧ ps.length ≤ 1000 ∧
  ∀ (p : Addr) (H' : Hp), H p = none → Same H H' → H' p = some (.lst ((tails ps).map V.str)) → Q (.ref p) H'
theorem scTermsOf : FnScope ["patterns", "pattern", "term"] ["patterns"] (defScope sTermsOf) := ⟨rfl, rfl, rfl, by decide +kernel, rfl, by decide +kernel, by decide +kernel⟩
theorem tails_le {ps : List (List Str)} (h : ∀ x ∈ ps, PatOk x) (hl : ps.length ≤ 1000) : (tails ps).length ≤ 3000 := by
  have := tails_len h
  omega
theorem ok_termsOf {f : Addr} {fd : FuncData} (F : Fun K "terms_of" "terms_of" sTermsOf f fd) : FnOk P w K mg base CX0 1 f fd ["patterns"] (spTermsOf K) := by
  refine F.ok scTermsOf (fun vs H Q E h => ?_) (fun cdv A outer s H vs Q E hr h => ?_)
  · obtain ⟨a, us, ps, rfl, _⟩ := h
    rfl
  · obtain ⟨a, us, ps, rfl, ha, hp, hok, hl, q⟩ := h
    refine ⟨_, pss_one (ps_ret (by exact (pe_lc2 (own := [("pattern", 1), ("term", 2)]) (vs1 := [2]) (g := gName 1) (g1 := gName 2) (tt := tYes) (tt1 := tYes) (wi1 := iTup K (tSl (rSlT K) (tVar 1) (tPart (tC (V.int 1))) tNoPart)) (te := tVar 2) rfl scTermsOf.nd (pi_list (pv 0))
      (blkOk_by (own := [("pattern", 1), ("term", 2)]) (N := ["patterns", "pattern", "term"]) (sc := defScope sTermsOf) (by decide +kernel)) (by decide)
      (fun _ _ _ _ _ => pg_name (i := 1) scTermsOf.nd rfl (Or.inl rfl)) (fun _ _ _ _ _ => pts_nil)
      (fun _ _ _ _ _ => by exact (pi_tup (pe_slice sl_tup (pv 1) (po_some pe_int) po_none)))
      (fun _ _ _ _ _ => pg_name (i := 2) scTermsOf.nd rfl (Or.inl rfl)) (fun _ _ _ _ _ => pts_nil) (fun _ _ _ _ _ => by exact (pv 2))))), ?_⟩
    have hul := hp.len
    refine ⟨_, rfl, a, rfl, ⟨_, ha⟩, fun D nD => ?_⟩
    refine walk_any (walk_list (K := K) (a := a) (xs := us)) (fun i H' => Same H H' ∧ H' D = some (.lst ((tails (ps.take i)).map V.str))) ⟨same_new nD, upd_same⟩ (fun i H' _ y => y.1.seq ha) ?_ ?_
    · rintro i v H1 H1' hi ⟨sm, e1⟩ ⟨rfl, hv⟩
      obtain ⟨t, pat, rfl, hpi, et⟩ := hp.at_ hv
      obtain ⟨wd, ts, rfl, hw, h3, hts⟩ := hok pat (List.mem_of_getElem? hpi)
      have et1 := sm _ _ et
      have hacc : (tails (ps.take i)).length ≤ 3000 := by
        refine tails_le (fun x hx => hok x (List.mem_of_mem_take hx)) ?_
        rw [List.length_take]
        omega
      rw [tails_take hpi]
      show gName 1 _ _ _ _
      generalize tails (ps.take i) = acc at e1 hacc ⊢
      refine ⟨rfl, _, rfl, 1, rfl, t, _, rfl, SqT.of et1, ?_, fun t2 nt2 => ?_⟩
      · rintro ⟨h, _⟩
        have := HT.sIx_nat ((wd :: ts).map V.str).length 0 1
        rw [show ((1 : Nat) : Int) = 1 by rfl] at this
        rw [this, List.length_map, List.length_cons] at h
        omega
      · rw [cut1]
        have sm2 : Same H (upd H1' t2 (.tup (ts.map V.str))) := same_put sm (sm.free nt2)
        have e2 : upd H1' t2 (.tup (ts.map V.str)) D = some (.lst (acc.map V.str)) := same_new nt2 _ _ e1
        have et2 : upd H1' t2 (.tup (ts.map V.str)) t2 = some (.tup (ts.map V.str)) := upd_same
        generalize upd H1' t2 (.tup (ts.map V.str)) = G at sm2 e2 et2 ⊢
        refine ⟨t2, rfl, ⟨_, SqT.of et2⟩, ?_⟩
        refine walk_any (walk_tup (K := K) (a := t2) (xs := ts.map V.str)) (fun j H' => Same H H' ∧ H' t2 = some (.tup (ts.map V.str)) ∧ H' D = some (.lst ((acc ++ ts.take j).map V.str))) ⟨sm2, et2, by rw [List.take_zero, List.append_nil]; exact e2⟩ (fun j H' _ z => SqT.of z.2.1) ?_ ?_
        · rintro j x H2 H2' hj ⟨sm3, et3, e3⟩ ⟨rfl, hx⟩
          rw [List.getElem?_map] at hx
          obtain ⟨z, hz, rfl⟩ : ∃ z, ts[j]? = some z ∧ x = V.str z := by
            cases g : ts[j]? with
            | none =>
              rw [g] at hx
              cases hx
            | some z =>
              rw [g] at hx
              exact ⟨z, rfl, (Option.some.inj hx).symm⟩
          have htD : t2 ≠ D := fun y => by
            rw [y, e3] at et3
            cases et3
          refine ⟨rfl, _, rfl, _, e3, ?_, same_put sm3 nD, ?_, ?_⟩
          · rw [List.length_map, List.length_append, List.length_take]
            exact Nat.lt_of_le_of_lt (by omega : _ ≤ 3003) (by decide)
          · rw [upd_ne htD]
            exact et3
          · rw [upd_same, take_one hz]
            simp only [List.map_append, List.map_cons, List.map_nil, List.append_assoc]
        · rintro H2 ⟨sm3, et3, e3⟩
          refine ⟨sm3, ?_⟩
          rw [e3, List.length_map, List.take_length] <;> rfl
    · rintro H1 ⟨sm, e1⟩
      rw [hul, List.take_length] at e1
      exact q D H1 nD sm e1
/-- variables_among(terms) -/
def spVarsAmong (K : PySem.W.Frag) : Sp := fun vs H Q _ => ∃ (a : Addr) (ts : List Str), vs = [.ref a] ∧ (SqL K H a (ts.map V.str) ∨ SqT K H a (ts.map V.str)) ∧ (∀ x ∈ ts, x.length ≤ 1000) ∧ ts.length ≤ 5000 ∧
  ∀ (p : Addr) (H' : Hp), H p = none → Same H H' → H' p = some (.lst ((varsIn ts).map V.str)) → Q (.ref p) H'
theorem scVarsAmong : FnScope ["terms", "found", "term"] ["terms"] (defScope sVarsAmong) := ⟨rfl, rfl, rfl, by decide +kernel, rfl, by decide +kernel, by decide +kernel⟩
def tk (z : Str) : Key × V := (Sum.inr z, V.bl true)
theorem put_tk (l : List Str) (z : Str) : putK (l.map tk) (Sum.inr z) (V.bl true) = (if z ∈ l then l else l ++ [z]).map tk := by
  unfold putK
  have e : ((l.map tk).any fun kv => decide (kv.1 = Sum.inr z)) = decide (z ∈ l) := by
    rw [List.any_map]
    by_cases h : z ∈ l
    · rw [decide_eq_true h, List.any_eq_true]
      exact ⟨z, h, decide_eq_true rfl⟩
    · rw [decide_eq_false h, List.any_eq_false]
      intro y hy y2
      have := of_decide_eq_true y2
      injection this with this
      exact h (this ▸ hy)
  rw [e]
  by_cases h : z ∈ l
  · rw [decide_eq_true h, if_pos rfl, if_pos h, List.map_map]
    refine List.map_congr_left fun y hy => ?_
    show (if (tk y).1 = Sum.inr z then ((tk y).1, V.bl true) else tk y) = tk y
    split <;> rfl
  · rw [decide_eq_false h, if_neg (by decide), if_neg h, List.map_append] <;> rfl
theorem vst_vr {acc : List Str} {z : Str} (h : IsVr z) : vst acc z = if z ∈ acc then acc else acc ++ [z] := by
  unfold vst
  by_cases hm : z ∈ acc
  · rw [if_neg (fun y => y.2 hm), if_pos hm]
  · rw [if_pos ⟨h, hm⟩, if_neg hm]
theorem vst_no {acc : List Str} {z : Str} (h : ¬ IsVr z) : vst acc z = acc := by
  unfold vst
  rw [if_neg (fun y => h y.1)]
theorem ok_varsAmong {f fV : Addr} {fd fdV : FuncData} (F : Fun K "variables_among" "variables_among" sVarsAmong f fd) (B : Bp mg)
    (GV : FnOk P w K mg base CX0 1 fV fdV ["value"] (spTxt K fun z => decide (IsVr z))) (kV : PySem.W.keepIn K (.ref fV) = true) (gV : mg "is_variable" = some (.ref fV)) (bV : Binds K fdV ["value"] []) :
    FnOk P w K mg base CX0 2 f fd ["terms"] (spVarsAmong K) := by
  refine F.ok scVarsAmong (fun vs H Q E h => ?_) (fun cdv A outer s H vs Q E hr h => ?_)
  · obtain ⟨a, ts, rfl, _⟩ := h
    rfl
  · obtain ⟨a, ts, rfl, ha, hz, hl, q⟩ := h
    have hu := hu_of hr
    have turn : ∀ (i : Nat) (x : V) (d : Addr) (σ : L2.St) (H1 : Hp) (z : Str), H d = none → x = V.str z → ts[i]? = some z → (∃ o : Option V, σ = [some (.ref a), some (.ref d), o] ∧ Same H H1 ∧ H1 d = some (.dK (((ts.take i).foldl vst []).map tk))) →
        ∃ o : Option V, σ = [some (.ref a), some (.ref d), o] ∧ Same H H1 ∧ H1 d = some (.dK (((ts.take i).foldl vst []).map tk)) ∧ ((ts.take i).foldl vst []).length ≤ 5000 ∧ (ts.take (i + 1)).foldl vst [] = vst ((ts.take i).foldl vst []) z := by
      rintro i x d σ H1 z nd rfl hi ⟨o, rfl, sm, e⟩
      refine ⟨o, rfl, sm, e, ?_, ?_⟩
      · have := fold_len (ts.take i) []
        rw [List.length_take] at this
        have h0 : ([] : List Str).length = 0 := rfl
        omega
      · rw [take_one hi, List.foldl_append] <;> rfl
    rcases ha with ha | ha
    · refine ⟨_, pss_cons (ps_set (i := 1) scVarsAmong.nd rfl (Or.inl rfl) pe_dnewK)
        (pss_cons (ps_for PassesOwn.never rfl (pi_list (pv 0)) (pg_name (i := 2) scVarsAmong.nd rfl (Or.inl rfl))
          (pss_one (ps_if (pt_val (by exact (pe_call GV hr (by rfl) gV kV bV .nil pass0 (pa_cons (pv 2) pa_nil)))) (pss_one (ps_dput hu (pv 1) (pv 2) pe_bl rfl)) pss_nil)))
        (pss_one (ps_ret (pe_callTy (call_list_dK rfl) (by rfl) B.lst PyProof.Rows.boot_list (pa_cons (pv 1) pa_nil))))), ?_⟩
      intro d nd
      refine ⟨_, rfl, a, rfl, ⟨_, (same_new nd).seq ha⟩, for_list (K := K) (a := a) (xs := ts.map V.str) (fun i σ H' => ∃ o : Option V, σ = [some (.ref a), some (.ref d), o] ∧ Same H H' ∧ H' d = some (.dK (((ts.take i).foldl vst []).map tk))) ⟨none, rfl, same_new nd, upd_same⟩ (fun i σ H' _ z => ?_) ?_ ?_⟩
      · obtain ⟨_, _, sm, _⟩ := z
        exact sm.seq ha
      · rintro i x σ H1 hi h
        rw [List.getElem?_map] at hi
        obtain ⟨z, hiz, rfl⟩ : ∃ z, ts[i]? = some z ∧ x = V.str z := by
          cases g : ts[i]? with
          | none =>
            rw [g] at hi
            cases hi
          | some z =>
            rw [g] at hi
            exact ⟨z, rfl, (Option.some.inj hi).symm⟩
        obtain ⟨o, rfl, sm, e, hl2, hf⟩ := turn i _ d σ H1 z nd rfl hiz h
        rw [hf]
        generalize (ts.take i).foldl vst [] = acc at e hl2 ⊢
        refine ⟨_, rfl, ?_⟩
        dsimp only [tNil]
        refine spTxt.yes (hz z (List.mem_of_getElem? hiz)) fun H2 s2 => ⟨_, rfl, ?_⟩
        have e2 := s2 _ _ e
        show if decide (IsVr z) = true then _ else _
        by_cases hv : IsVr z
        · rw [decide_eq_true hv]
          refine iteT ⟨_, rfl, _, rfl, d, _, rfl, DPut.k (k := Sum.inr z) e2 ?_, ?_⟩
          · rw [List.length_map]
            exact Nat.lt_of_le_of_lt hl2 (by decide)
          · refine ⟨_, rfl, same_put (sm.trans s2) nd, ?_⟩
            rw [upd_same, put_tk, vst_vr hv]
        · rw [decide_eq_false hv]
          refine iteF ⟨_, rfl, sm.trans s2, ?_⟩
          rw [vst_no hv]
          exact e2
      · rintro σ H1 ⟨o, rfl, sm, e⟩
        rw [List.length_map, List.take_length] at e
        refine ⟨_, rfl, d, _, rfl, e, fun p np => ?_⟩
        refine q p _ (sm.free np) (same_put sm (sm.free np)) ?_
        rw [upd_same, List.map_map] <;> rfl
    · refine ⟨_, pss_cons (ps_set (i := 1) scVarsAmong.nd rfl (Or.inl rfl) pe_dnewK)
        (pss_cons (ps_for PassesOwn.never rfl (pi_tup (pv 0)) (pg_name (i := 2) scVarsAmong.nd rfl (Or.inl rfl))
          (pss_one (ps_if (pt_val (by exact (pe_call GV hr (by rfl) gV kV bV .nil pass0 (pa_cons (pv 2) pa_nil)))) (pss_one (ps_dput hu (pv 1) (pv 2) pe_bl rfl)) pss_nil)))
        (pss_one (ps_ret (pe_callTy (call_list_dK rfl) (by rfl) B.lst PyProof.Rows.boot_list (pa_cons (pv 1) pa_nil))))), ?_⟩
      intro d nd
      refine ⟨_, rfl, a, rfl, ⟨_, sqT_same (same_new nd) ha⟩, for_tup (K := K) (a := a) (xs := ts.map V.str) (fun i σ H' => ∃ o : Option V, σ = [some (.ref a), some (.ref d), o] ∧ Same H H' ∧ H' d = some (.dK (((ts.take i).foldl vst []).map tk))) ⟨none, rfl, same_new nd, upd_same⟩ (fun i σ H' _ z => ?_) ?_ ?_⟩
      · obtain ⟨_, _, sm, _⟩ := z
        exact sqT_same sm ha
      · rintro i x σ H1 hi h
        rw [List.getElem?_map] at hi
        obtain ⟨z, hiz, rfl⟩ : ∃ z, ts[i]? = some z ∧ x = V.str z := by
          cases g : ts[i]? with
          | none =>
            rw [g] at hi
            cases hi
          | some z =>
            rw [g] at hi
            exact ⟨z, rfl, (Option.some.inj hi).symm⟩
        obtain ⟨o, rfl, sm, e, hl2, hf⟩ := turn i _ d σ H1 z nd rfl hiz h
        rw [hf]
        generalize (ts.take i).foldl vst [] = acc at e hl2 ⊢
        refine ⟨_, rfl, ?_⟩
        dsimp only [tNil]
        refine spTxt.yes (hz z (List.mem_of_getElem? hiz)) fun H2 s2 => ⟨_, rfl, ?_⟩
        have e2 := s2 _ _ e
        show if decide (IsVr z) = true then _ else _
        by_cases hv : IsVr z
        · rw [decide_eq_true hv]
          refine iteT ⟨_, rfl, _, rfl, d, _, rfl, DPut.k (k := Sum.inr z) e2 ?_, ?_⟩
          · rw [List.length_map]
            exact Nat.lt_of_le_of_lt hl2 (by decide)
          · refine ⟨_, rfl, same_put (sm.trans s2) nd, ?_⟩
            rw [upd_same, put_tk, vst_vr hv]
        · rw [decide_eq_false hv]
          refine iteF ⟨_, rfl, sm.trans s2, ?_⟩
          rw [vst_no hv]
          exact e2
      · rintro σ H1 ⟨o, rfl, sm, e⟩
        rw [List.length_map, List.take_length] at e
        refine ⟨_, rfl, d, _, rfl, e, fun p np => ?_⟩
        refine q p _ (sm.free np) (same_put sm (sm.free np)) ?_
        rw [upd_same, List.map_map] <;> rfl
/-- variables_of(patterns) -/
def spVarsOf (K : PySem.W.Frag) : Sp := fun vs H Q _ => ∃ (a : Addr) (us : List V) (ps : List (List Str)), vs = [.ref a] ∧ SqL K H a us ∧ PaL H us ps ∧ (∀ x ∈ ps, PatOk x) ∧ ps.length ≤ 1000 ∧
  ∀ (p : Addr) (H' : Hp), H p = none → Same H H' → H' p = some (.lst ((varsIn (tails ps)).map V.str)) → Q (.ref p) H'
theorem scVarsOf : FnScope ["patterns"] ["patterns"] (defScope sVarsOf) := ⟨rfl, rfl, rfl, by decide +kernel, rfl, by decide +kernel, by decide +kernel⟩
theorem tails_short {ps : List (List Str)} (h : ∀ x ∈ ps, PatOk x) : ∀ z ∈ tails ps, (IsVr z ∨ IsNm z) ∧ z.length ≤ 10 := by
  intro z hz
  unfold tails at hz
  obtain ⟨l, hl, hzl⟩ := List.mem_flatten.mp hz
  obtain ⟨p, hp, rfl⟩ := List.mem_map.mp hl
  obtain ⟨w, ts, rfl, _, _, ht⟩ := h p hp
  have h1 := ht z hzl
  refine ⟨h1, ?_⟩
  rcases h1 with h2 | h2
  · have := h2.2.1
    omega
  · exact h2.2.1
theorem ok_varsOf {f fT fA : Addr} {fd fdT fdA : FuncData} (F : Fun K "variables_of" "variables_of" sVarsOf f fd)
    (GT : FnOk P w K mg base CX0 1 fT fdT ["patterns"] (spTermsOf K)) (kT : PySem.W.keepIn K (.ref fT) = true) (gT : mg "terms_of" = some (.ref fT)) (bT : Binds K fdT ["patterns"] [])
    (GA : FnOk P w K mg base CX0 2 fA fdA ["terms"] (spVarsAmong K)) (kA : PySem.W.keepIn K (.ref fA) = true) (gA : mg "variables_among" = some (.ref fA)) (bA : Binds K fdA ["terms"] []) :
    FnOk P w K mg base CX0 3 f fd ["patterns"] (spVarsOf K) := by
  refine F.ok scVarsOf (fun vs H Q E h => ?_) (fun cdv A outer s H vs Q E hr h => ?_)
  · obtain ⟨a, us, ps, rfl, _⟩ := h
    rfl
  · obtain ⟨a, us, ps, rfl, ha, hp, hok, hl, q⟩ := h
    have hr1 : Room 1 _ := hr.mono (by decide)
    refine ⟨_, pss_one (ps_ret (by exact (pe_call GA hr (by rfl) gA kA bA .nil pass0 (pa_cons (by exact (pe_call GT hr1 (by rfl) gT kT bT .nil pass0 (pa_cons (pv 0) pa_nil))) pa_nil)))), ?_⟩
    refine ⟨_, rfl, a, us, ps, rfl, ha, hp, hok, hl, fun p H1 np sm e => ?_⟩
    refine ⟨p, tails ps, rfl, .inl (SqL.of e), (fun x hx => by have := (tails_short hok x hx).2; omega), by have := tails_le hok hl; omega, fun p2 H2 np2 sm2 e2 => ?_⟩
    exact q p2 H2 (sm.free np2) (sm.trans sm2) e2
end
end Nv
set_option maxHeartbeats 4000000
namespace Nv
open PySem PySem.Spec PyProof.Rows L2
def hasMore (ts : List Str) (ps : List (List Str)) : Bool := (varsIn ts).any fun x => !decide (x ∈ varsIn (tails ps))
theorem at_map {ts : List Str} {i : Nat} {x : V} (hx : (ts.map V.str)[i]? = some x) : ∃ z, ts[i]? = some z ∧ x = V.str z := by
  rw [List.getElem?_map] at hx
  cases g : ts[i]? with
  | none =>
    rw [g] at hx
    cases hx
  | some z =>
    rw [g] at hx
    exact ⟨z, rfl, (Option.some.inj hx).symm⟩
section
variable {P : Program} {w : World} {K : PySem.W.Frag} {mg : Str → Option Value} {base : Heap}
/-- _sides(pairs) -/
def spSides (K : PySem.W.Frag) : Sp := fun vs H Q _ => ∃ (a : Addr) (us : List V) (qs : List (List Str)), vs = [.ref a] ∧ SqL K H a us ∧ PaL H us qs ∧ (∀ x ∈ qs, x.length = 2) ∧ qs.length ≤ 1000 ∧
  ∀ (p : Addr) (H' : Hp), H p = none → Same H H' → H' p = some (.lst (qs.flatten.map V.str)) → Q (.ref p) H'
theorem scSides : FnScope ["pairs", "pair", "term"] ["pairs"] (defScope sSides) := ⟨rfl, rfl, rfl, by decide +kernel, rfl, by decide +kernel, by decide +kernel⟩
theorem flat_len {qs : List (List Str)} (h : ∀ x ∈ qs, x.length = 2) : qs.flatten.length = 2 * qs.length := by
  induction qs with
  | nil => rfl
  | cons q qs ih =>
    rw [List.flatten_cons, List.length_append, ih fun x hx => h x (List.mem_cons_of_mem _ hx), h q List.mem_cons_self, List.length_cons]
    omega
theorem ok_sides {f : Addr} {fd : FuncData} (F : Fun K "sides_of" "sides_of" sSides f fd) : FnOk P w K mg base CX0 1 f fd ["pairs"] (spSides K) := by
  refine F.ok scSides (fun vs H Q E h => ?_) (fun cdv A outer s H vs Q E hr h => ?_)
  · obtain ⟨a, us, ps, rfl, _⟩ := h
    rfl
  · obtain ⟨a, us, qs, rfl, ha, hp, h2, hl, q⟩ := h
    refine ⟨_, pss_one (ps_ret (by exact (pe_lc2 (own := [("pair", 1), ("term", 2)]) (vs1 := [2]) (g := gName 1) (g1 := gName 2) (tt := tYes) (tt1 := tYes) (wi1 := iTup K (tVar 1)) (te := tVar 2) rfl scSides.nd (pi_list (pv 0))
      (blkOk_by (own := [("pair", 1), ("term", 2)]) (N := ["pairs", "pair", "term"]) (sc := defScope sSides) (by decide +kernel)) (by decide)
      (fun _ _ _ _ _ => pg_name (i := 1) scSides.nd rfl (Or.inl rfl)) (fun _ _ _ _ _ => pts_nil)
      (fun _ _ _ _ _ => by exact (pi_tup (pv 1)))
      (fun _ _ _ _ _ => pg_name (i := 2) scSides.nd rfl (Or.inl rfl)) (fun _ _ _ _ _ => pts_nil) (fun _ _ _ _ _ => by exact (pv 2))))), ?_⟩
    have hul := hp.len
    refine ⟨_, rfl, a, rfl, ⟨_, ha⟩, fun D nD => ?_⟩
    refine walk_any (walk_list (K := K) (a := a) (xs := us)) (fun i H' => Same H H' ∧ H' D = some (.lst ((qs.take i).flatten.map V.str))) ⟨same_new nD, upd_same⟩ (fun i H' _ y => y.1.seq ha) ?_ ?_
    · rintro i v H1 H1' hi ⟨sm, e1⟩ ⟨rfl, hv⟩
      obtain ⟨t, ts, rfl, hpi, et⟩ := hp.at_ hv
      have et1 := sm _ _ et
      have hts := h2 ts (List.mem_of_getElem? hpi)
      have hacc : (qs.take i).flatten.length ≤ 2000 := by
        rw [flat_len fun x hx => h2 x (List.mem_of_mem_take hx), List.length_take]
        omega
      have htk : (qs.take (i + 1)).flatten = (qs.take i).flatten ++ ts := by
        rw [take_one hpi, List.flatten_append]
        simp
      rw [htk]
      show gName 1 _ _ _ _
      generalize (qs.take i).flatten = acc at e1 hacc ⊢
      refine ⟨rfl, _, rfl, t, rfl, ⟨_, SqT.of et1⟩, ?_⟩
      refine walk_any (walk_tup (K := K) (a := t) (xs := ts.map V.str)) (fun j H' => Same H H' ∧ H' D = some (.lst ((acc ++ ts.take j).map V.str))) ⟨sm, by rw [List.take_zero, List.append_nil]; exact e1⟩ (fun j H' _ z => SqT.of (z.1 _ _ et)) ?_ ?_
      · rintro j x H2 H2' hj ⟨sm3, e3⟩ ⟨rfl, hx⟩
        obtain ⟨z, hz, rfl⟩ := at_map hx
        refine ⟨rfl, _, rfl, _, e3, ?_, same_put sm3 nD, ?_⟩
        · rw [List.length_map, List.length_append, List.length_take]
          exact Nat.lt_of_le_of_lt (by omega : _ ≤ 3003) (by decide)
        · rw [upd_same, take_one hz]
          simp only [List.map_append, List.map_cons, List.map_nil, List.append_assoc]
      · rintro H2 ⟨sm3, e3⟩
        refine ⟨sm3, ?_⟩
        rw [e3, List.length_map, List.take_length] <;> rfl
    · rintro H1 ⟨sm, e1⟩
      rw [hul, List.take_length] at e1
      exact q D H1 nD sm e1
/-- _has_more(terms, told) -/
def spHasMore (K : PySem.W.Frag) : Sp := fun vs H Q _ => ∃ (a b : Addr) (ts : List Str) (us : List V) (ps : List (List Str)), vs = [.ref a, .ref b] ∧ ((SqL K H a (ts.map V.str) ∨ SqT K H a (ts.map V.str)) ∧ (∀ x ∈ ts, x.length ≤ 1000) ∧ ts.length ≤ 5000) ∧
  (SqL K H b us ∧ PaL H us ps ∧ (∀ x ∈ ps, PatOk x) ∧ ps.length ≤ 1000) ∧ ∀ H' : Hp, Same H H' → Q (.bl (hasMore ts ps)) H'
theorem scHasMore : FnScope ["terms", "told", "known", "term"] ["terms", "told"] (defScope sHasMore) := ⟨rfl, rfl, rfl, by decide +kernel, rfl, by decide +kernel, by decide +kernel⟩
theorem ok_hasMore {f fA fO : Addr} {fd fdA fdO : FuncData} (F : Fun K "has_more" "has_more" sHasMore f fd) (B : Bp mg)
    (GA : FnOk P w K mg base CX0 2 fA fdA ["terms"] (spVarsAmong K)) (kA : PySem.W.keepIn K (.ref fA) = true) (gA : mg "variables_among" = some (.ref fA)) (bA : Binds K fdA ["terms"] [])
    (GO : FnOk P w K mg base CX0 3 fO fdO ["patterns"] (spVarsOf K)) (kO : PySem.W.keepIn K (.ref fO) = true) (gO : mg "variables_of" = some (.ref fO)) (bO : Binds K fdO ["patterns"] []) :
    FnOk P w K mg base CX0 4 f fd ["terms", "told"] (spHasMore K) := by
  refine F.ok scHasMore (fun vs H Q E h => ?_) (fun cdv A outer s H vs Q E hr h => ?_)
  · obtain ⟨a, b, ts, us, ps, rfl, _⟩ := h
    rfl
  · obtain ⟨a, b, ts, us, ps, rfl, ⟨ha, hz, hl⟩, ⟨hb, hp, hok, hpl⟩, q⟩ := h
    have hr2 : Room 2 _ := hr.mono (by decide)
    refine ⟨_, pss_cons (ps_set (i := 2) scHasMore.nd rfl (Or.inr rfl) (by exact (pe_call GO hr (by rfl) gO kO bO .nil pass0 (pa_cons (pv 1) pa_nil))))
      (pss_one (ps_ret (pe_callB (cr_any rfl) (by rfl) B.any bootAny (pa_cons (by exact (pe_lc (own := [("term", 3)]) (g := gName 3) (tt := tYes) (te := tOp (rIn K true) (tVar 3) (tVar 2)) rfl scHasMore.nd
        (pi_list (by exact (pe_call GA hr2 (by rfl) gA kA bA .nil pass0 (pa_cons (pv 0) pa_nil))))
        (blkOk_by (own := [("term", 3)]) (N := ["terms", "told", "known", "term"]) (sc := defScope sHasMore) (by decide +kernel))
        (fun _ _ _ _ _ => pg_name (i := 3) scHasMore.nd rfl (Or.inl rfl)) (fun _ _ _ _ _ => pts_nil)
        (fun _ _ _ _ _ => by exact (pe_cmpR op_notIn_seq (pv 3) (pv 2) (by rfl))))) pa_nil)))), ?_⟩
    refine ⟨_, rfl, b, us, ps, rfl, hb, hp, hok, hpl, fun p1 H1 np1 sm1 e1 => ?_⟩
    refine (show ∀ G : Hp, G = H1 → tSeq _ _ { nx := fun _ H' => Q .non H', rt := Q } [some (.ref a), some (.ref b), some (.ref p1), none] G from fun G hG => ?_) _ rfl
    subst hG
    refine ⟨_, rfl, a, ts, rfl, ?_, hz, hl, fun p2 H2 np2 sm2 e2 => ?_⟩
    · rcases ha with h | h
      · exact .inl (sm1.seq h)
      · exact .inr (sqT_same sm1 h)
    · have e12 := sm2 _ _ e1
      refine ⟨p2, rfl, ⟨_, SqL.of e2⟩, fun D nD => ?_⟩
      refine lc_list (K := K) (a := p2) (xs := (varsIn ts).map V.str) (fun i H' => Same H2 H' ∧ H' D = some (.lst (((varsIn ts).take i).map fun x => V.bl (!decide (x ∈ varsIn (tails ps)))))) ⟨same_new nD, upd_same⟩ (fun i H' _ y => SqL.of (y.1 _ _ e2)) ?_ ?_
      · rintro i x H3 hi ⟨s3, e3⟩
        obtain ⟨z, hz2, rfl⟩ := at_map hi
        refine ⟨rfl, _, rfl, _, rfl, p1, _, rfl, .inl (SqL.of (s3 _ _ e12)), rfl, flat_strs _, ?_⟩
        rw [inV_strs]
        refine ⟨_, e3, ?_, same_put s3 nD, ?_⟩
        · rw [List.length_map, List.length_take]
          have := varsIn_len ts
          exact Nat.lt_of_le_of_lt (by omega : _ ≤ 5000) (by decide)
        · rw [upd_same, take_one hz2, List.map_append] <;> rfl
      · rintro H3 ⟨s3, e3⟩
        rw [List.length_map, List.take_length] at e3
        refine ⟨D, (varsIn ts).map fun x => !decide (x ∈ varsIn (tails ps)), rfl, SqL.of (by rw [e3, List.map_map] <;> rfl), ?_⟩
        rw [List.any_map]
        exact q H3 ((sm1.trans sm2).trans s3)
end
end Nv
set_option maxHeartbeats 4000000
namespace Nv
open PySem PySem.Spec PyProof.Rows
/-- texts, each once -/
def dstep (acc : List Str) (x : Str) : List Str := if acc.any (· == x) = true then acc else acc ++ [x]
def dist (l : List Str) : List Str := l.foldl dstep []
theorem dstep_any (acc : List Str) (x k : Str) : (dstep acc x).any (· == k) = (acc.any (· == k) || decide (k = x)) := by
  unfold dstep
  by_cases e : k = x
  · subst e
    by_cases h : acc.any (· == k) = true
    · simp [h]
    · simp [h]
  · have hb : (x == k) = false := beq_eq_false_iff_ne.mpr fun z => e z.symm
    by_cases h : acc.any (· == x) = true
    · simp [h, e]
    · simp [h, e, hb]
theorem dstep_len (acc : List Str) (x : Str) : (dstep acc x).length = if acc.any (· == x) then acc.length else acc.length + 1 := by
  unfold dstep
  split <;> simp
theorem dist_le : ∀ (l acc : List Str), (l.foldl dstep acc).length ≤ acc.length + l.length
  | [], acc => Nat.le_refl _
  | x :: l, acc => by
    have h1 := dist_le l (dstep acc x)
    have h2 := dstep_len acc x
    show (l.foldl dstep (dstep acc x)).length ≤ acc.length + (l.length + 1)
    split at h2 <;> omega
theorem dist_take {l : List Str} {i : Nat} {x : Str} (h : l[i]? = some x) : dist (l.take (i + 1)) = dstep (dist (l.take i)) x := by
  unfold dist
  rw [take_one h, List.foldl_append] <;> rfl
theorem dist_nd_aux : ∀ (l acc : List Str), (acc ++ l).Nodup → l.foldl dstep acc = acc ++ l
  | [], acc, _ => by simp
  | x :: l, acc, h => by
    have hx : ¬ acc.any (· == x) = true := fun z => by
      obtain ⟨y, hy, e⟩ := List.any_eq_true.mp z
      rw [eq_of_beq e] at hy
      exact (List.nodup_append.mp h).2.2 x hy x List.mem_cons_self rfl
    show l.foldl dstep (dstep acc x) = _
    have e : dstep acc x = acc ++ [x] := by
      unfold dstep
      rw [if_neg hx]
    rw [e, dist_nd_aux l (acc ++ [x]) (by rw [List.append_assoc]; exact h), List.append_assoc] <;> rfl
theorem dist_nd {l : List Str} (h : l.Nodup) : dist l = l := by
  have := dist_nd_aux l [] (by simpa using h)
  simpa [dist] using this
theorem dist_lt_aux : ∀ (l acc : List Str), ¬ (acc ++ l).Nodup → acc.Nodup → (l.foldl dstep acc).length < acc.length + l.length
  | [], acc, h, h2 => absurd (by simpa using h2) h
  | x :: l, acc, h, h2 => by
    show (l.foldl dstep (dstep acc x)).length < acc.length + (l.length + 1)
    by_cases hx : acc.any (· == x) = true
    · have e : dstep acc x = acc := by
        unfold dstep
        rw [if_pos hx]
      rw [e]
      have := dist_le l acc
      omega
    · have e : dstep acc x = acc ++ [x] := by
        unfold dstep
        rw [if_neg hx]
      rw [e]
      have hn : x ∉ acc := fun z => hx (List.any_eq_true.mpr ⟨x, z, beq_self_eq_true x⟩)
      have := dist_lt_aux l (acc ++ [x]) (by rw [List.append_assoc]; exact h) (List.nodup_append.mpr ⟨h2, by simp, fun a ha b hb z => by
        rw [List.mem_singleton.mp hb] at z
        exact hn (z ▸ ha)⟩)
      rw [List.length_append, List.length_singleton] at this
      omega
theorem dist_lt {l : List Str} : decide ((dist l).length < l.length) = !decide l.Nodup := by
  by_cases h : l.Nodup
  · rw [dist_nd h, decide_eq_true h, decide_eq_false (Nat.lt_irrefl _)] <;> rfl
  · have := dist_lt_aux l [] (by simpa using h) List.nodup_nil
    rw [decide_eq_false h, decide_eq_true (by simpa [dist] using this)] <;> rfl
theorem str_at : ∀ {us : List Value} {zs : List Str}, StrsAre us zs → ∀ {j : Nat} {u : Value}, us[j]? = some u → ∃ (z : Str) (t : Tok), zs[j]? = some z ∧ u = .str z t
  | _, _, .nil, j, u, h => by cases j <;> cases h
  | _, _, .cons z t r, 0, u, h => by
    cases h
    exact ⟨z, t, rfl, rfl⟩
  | _, _, .cons z t r, j + 1, u, h => str_at r (j := j) (by simpa using h)
section
variable {prog : Program} {w : World} {A : Around} {R : Result → Shared → Prop} {J : Addr} {fp wr : List Addr} {G : Array GenState → Array GenState → Prop} {n : Nat} {P : Nat → Value → Prop} {St : Nat → Shared → Prop}
/-- a set is filled from a walk over texts -/
theorem fillStrs (W : WalksS prog w A.in1 J fp wr G n P St) (b : Addr) (hb : b ∉ fp) (zs : List Str) (hn : n = zs.length) (hs : n + 1 < scanBound) (hP : ∀ i v, P i v → ∃ z t, zs[i]? = some z ∧ v = .str z t) :
    ∀ (k i : Nat) (s : Shared), n - i = k → i ≤ n → St i s → s.heap.SetOf (PySem.strKind prog w) b (fun x => (dist (zs.take i)).any (· == x)) (dist (zs.take i)).length →
      (∀ s', Moved (b :: wr) G s s' → s'.heap.SetOf (PySem.strKind prog w) b (fun x => (dist zs).any (· == x)) (dist zs).length → R (.ok (.ret .none)) s') →
      codeAny (model prog w) A (.builtin "set.update.loop" ⟨[.ref b, .ref J], []⟩) R s := by
  have hbw : b ∉ wr := fun h => hb (W.sub _ h)
  have more : ∀ c ∈ wr, c ∈ b :: wr := fun c hc => List.mem_cons_of_mem _ hc
  intro k
  induction k with
  | zero =>
    intro i s hk hi hst hS hR
    have e : i = n := by omega
    subst e
    refine codeAny_builtin PyProof.Rows.F.entry_set_update_loop ?_
    rw [Around.under_plainId PyProof.Rows.F.plain_set_update_loop _]
    show wpAny _ A.in1 (pyNext (.ref J) >>= _) _ _ s
    refine wpAny_bind (W.done s _ _ hst fun s1 m1 => ?_)
    show wpAny _ A.in1 (ret Value.none) _ _ s1
    obtain ⟨o, es, ep, t, ho, rest⟩ := hS
    rw [hn, List.take_length] at rest
    exact wpAny_pure (hR s1 (m1.mono more) ⟨o, es, ep, t, m1.heap b _ hbw ho, rest⟩)
  | succ k ih =>
    intro i s hk hi hst hS hR
    have lt : i < n := by omega
    refine codeAny_builtin PyProof.Rows.F.entry_set_update_loop ?_
    rw [Around.under_plainId PyProof.Rows.F.plain_set_update_loop _]
    show wpAny _ A.in1 (pyNext (.ref J) >>= _) _ _ s
    refine wpAny_bind (W.item i s _ _ lt hst fun v s1 hPv st1 m1 => ?_)
    obtain ⟨z, t, hz, rfl⟩ := hP i v hPv
    have hS1 : s1.heap.SetOf (PySem.strKind prog w) b (fun x => (dist (zs.take i)).any (· == x)) (dist (zs.take i)).length := by
      obtain ⟨o, es, ep, tb, ho, rest⟩ := hS
      exact ⟨o, es, ep, tb, m1.heap b _ hbw ho, rest⟩
    show wpAny _ A.in1 (holding [Value.str z t] (setAdd b (.str z t)) >>= _) _ _ s1
    refine wpAny_bind (wpAny_holding ?_)
    unfold setAdd
    refine wpAny_holding (wpAny_bind ((PySem.strKind prog w).pyHash (k := z) (strKind_is _ _ _ _) ?_))
    have room : (dist (zs.take i)).length + 1 < scanBound := by
      have := dist_le (zs.take i) []
      rw [List.length_take] at this
      have h0 : ([] : List Str).length = 0 := rfl
      unfold dist
      omega
    refine wpAny_setAddHashed_of (knd := PySem.strKind prog w) (s := { s1 with toks := s1.toks + 1 }) (strKind_is _ _ _ _) rfl hS1 room fun h2 sb2 hS2 => ?_
    have hS3 : h2.SetOf (PySem.strKind prog w) b (fun x => (dist (zs.take (i + 1))).any (· == x)) (dist (zs.take (i + 1))).length :=
      SetOf_congr hS2 (fun x => by rw [dist_take hz, dstep_any]) (by rw [dist_take hz, dstep_len])
    have else2 : ∀ c, c ≠ b → h2.get? c = s1.heap.get? c := fun c hc => sb2.2 c hc
    refine wpAny_pure ⟨plainId_quiet PyProof.Rows.F.plain_set_update_loop _, ih (i + 1) _ (by omega) lt (W.frame _ s1 _ _ st1 (Nat.le_succ _) fun c hc o e => ?_) hS3 fun s3 m3 hS4 => ?_⟩
    · rw [else2 c fun z => hb (z ▸ hc)]
      exact e
    · refine hR s3 (Moved.trans W.gtrans ((m1.mono more).then_heap (Nat.le_succ _) fun c o hc e => ?_) m3) hS4
      rw [else2 c fun z => hc (by rw [z]; exact List.mem_cons_self)]
      exact e
end
end Nv
set_option maxHeartbeats 4000000
namespace Nv
open PySem PySem.Spec PyProof.Rows
section
variable {prog : Program} {w : World} {A : Around} {E : Value → Shared → Prop} {s : Shared}
/-- the empty set, as it is laid -/
abbrev freshSet (led : Bool) : Obj := { cls := .type "set", dict := none, data := .set #[] 0 (.fresh 0 0 led) }
/-- the set at b, of the texts zs, laid behind all that stood -/
abbrev Filled (prog : Program) (w : World) (zs : List Str) (b : Addr) (h0 h1 : Heap) : Prop :=
  h1.SetOf (PySem.strKind prog w) b (fun x => (dist zs).any (· == x)) (dist zs).length ∧ ∀ c o, c < b → h0.get? c = some o → h1.get? c = some o
/-- set(xs), xs a list of texts -/
theorem set_of_strs {l : Addr} {its : Array Value} {zs : List Str} {Q : Value → Shared → Prop} (calm : A.handled = none) (hl : s.heap.IsList l its) (hz : StrsAre its.toList zs) (few : zs.length + 1 < scanBound)
    (hq : ∀ (h1 : Heap) (tk : Nat), Filled prog w zs s.heap.objs.size s.heap h1 → Q (.ref s.heap.objs.size) { s with heap := h1, toks := tk }) : wpAny (model prog w) A (call (.type "set") [.ref l]) Q E s := by
  obtain ⟨c, tl, m0⟩ := PySem.F.called_set.mro
  have m1 := PySem.F.called_set.made; have m2 := PySem.F.called_set.sub; have m3 := PySem.F.called_set.notType; have m4 := PySem.F.called_set.canCreate
  have m5 := PySem.F.typeCall_set_1 (.ref l)
  have size : its.size = zs.length := by rw [← Array.length_toList]; exact hz.len_eq
  refine wpAny_call (codeAny_of_tree (show wpAny _ _ (callAny (.type "set") _) _ _ _ from wpAny_pure ⟨Code.quiet_builtin _ (by decide +kernel), codeAny_builtin PySem.F.entry_type_call ?_⟩))
  rw [Around.under_plain (weight_type_call_type "set" [.ref l] []) rfl]
  repeat (any_goals (first | assumption | wp_step))
  refine codeAny_mono (code_set_new_1 (.ref l) (E := E) (Q₁ := fun v s1 => ∃ led : Bool, v = .ref s.heap.objs.size ∧ s1 = { s with heap := s.heap.push (freshSet led) }) fun led => ⟨led, rfl, rfl⟩) fun r s1 hr => ?_
  rcases r with e | fl
  · exact hr
  cases fl with
  | ret v =>
    obtain ⟨led, rfl, rfl⟩ := hr
    have at0 : (s.heap.push (freshSet led)).get? s.heap.objs.size = some (freshSet led) := Heap.get?_push_size _ rfl
    have ty : Shared.TypeIs { s with heap := s.heap.push (freshSet led) } (.ref s.heap.objs.size) "set" := ⟨_, at0, rfl⟩
    have i1 := PySem.F.called_set.init.lookup; have i2 := PySem.F.called_set.init.bind (.ref s.heap.objs.size)
    repeat (any_goals (first | assumption | wp_step))
    refine codeAny_mono (codeAny_call_builtin (R := wants (fun v s2 => v = .none ∧ ∃ h1 tk, s2 = { s with heap := h1, toks := tk } ∧ Filled prog w zs s.heap.objs.size s.heap h1) E) PySem.F.called_set.init.plain PySem.F.entry_set_init (check_set_init_1 ty ?_)) fun r2 s2 hr2 => ?_
    · obtain ⟨⟨oc, od, odt, osl⟩, ho, e1, nl, e2⟩ := hl
      simp only at e1 e2; subst e1; subst e2
      have ho1 : (s.heap.push (freshSet led)).get? l = some { cls := .type "list", dict := od, data := .seq its nl, slots := osl } := Heap.get?_push_of_some _ ho
      have f1 := PySem.F.sub_list_set; have f2 := PySem.F.sub_list_frozenset; have f3 : (Value.type "list" == Value.type "dict") = false := by decide
      have lst : (s.heap.push (freshSet led)).IsList l its := ⟨_, ho1, rfl, nl, rfl⟩
      have lt : l < s.heap.objs.size := Heap.lt_size ho
      unfold Builtin.«set.__init__» noKeywords Builtin.Frozenset.updateFrom; generalize hI : pyIter = PI
      wp_walk; subst hI
      refine wpAny_pyIter_list lst (wpAny_bind (wpAny_runValue ?_))
      have n1 : l ≠ (s.heap.push (freshSet led)).objs.size := by rw [Heap.size_push]; exact Nat.ne_of_lt (Nat.lt_succ_of_lt lt)
      have n2 : s.heap.objs.size ∉ [(s.heap.push (freshSet led)).objs.size, l] := by
        rw [Heap.size_push]; simp only [List.mem_cons, List.not_mem_nil, or_false, not_or]; exact ⟨Nat.ne_of_lt (Nat.lt_succ_self _), Nat.ne_of_gt lt⟩
      refine fillStrs ((Walks.list (by simp [calm]) _ l n1 its).toS) s.heap.objs.size n2 zs size (by omega) (fun i v hv => ?_) (its.size - 0) 0 _ (by omega) (Nat.zero_le _) ⟨⟨_, Heap.get?_push_size _ rfl, rfl, rfl⟩, lst.push _⟩ ?_ ?_
      · exact str_at hz (j := i) (by rw [Array.getElem?_toList]; exact hv)
      · exact SetOf_congr ((setObjOf_fresh (knd := PySem.strKind prog w) led).setOf (Heap.get?_push_of_some _ at0) (by unfold scanBound; omega)) (fun _ => rfl) rfl
      · intro s3 m hS
        obtain ⟨h3, g3, d3, t3, o3⟩ := s3
        have eg : g3 = s.gens := m.gens; have ed : d3 = s.drawn := m.drawn; have eo : o3 = s.os := m.os
        subst eg; subst ed; subst eo
        refine show wpAny _ _ _ _ _ _ from wpAny_pure (show wpAny _ _ (ret Value.none) _ _ _ from wpAny_pure ⟨rfl, h3, t3, rfl, hS, fun c o hc e => ?_⟩)
        refine m.heap c o ?_ (Heap.get?_push_of_some _ (Heap.get?_push_of_some _ e))
        rw [Heap.size_push]; simp only [List.mem_cons, List.not_mem_nil, or_false, not_or]; exact ⟨Nat.ne_of_lt hc, Nat.ne_of_lt (Nat.lt_succ_of_lt hc)⟩
    · rcases r2 with e | fl2
      · exact hr2
      cases fl2 with
      | ret v2 =>
        obtain ⟨rfl, h1, tk, rfl, hF⟩ := hr2
        repeat (any_goals (first | assumption | wp_step))
        exact hq _ _ hF
      | _ => exact hr2.elim
  | _ => exact hr.elim
end
end Nv
set_option maxHeartbeats 4000000
namespace Nv
open PySem PySem.Spec PyProof.Rows L2
/-- len(set(xs)), xs a list of texts: how many unlike ones -/
def tDist (K : PySem.W.Frag) (ta : TE) : TE := fun σ H Q => ta σ H fun x H1 => ∃ (l : Addr) (zs : List Str), x = .ref l ∧ SqL K H1 l (zs.map V.str) ∧ zs.length ≤ 4000 ∧ Q (.int ((dist zs).length : Nat)) H1
theorem pe_dist {X : Cx} {a : Expr} {ta : TE} {p p2 q pos : Pos} (gl : Gl X "len") (ml : X.mg "len" = none) (gs : Gl X "set") (ms : X.mg "set" = none) (ha : PE X a ta) (calm : X.calm = true := by rfl)
    (na : starEach [a] X.env = (false, eval a X.env) :: starEach [] X.env := by rfl) : PE X (.Call (.Name "len" p) [.Call (.Name "set" p2) [a] [] q] [] pos) (tDist X.K ta) := by
  refine ⟨fun pins s σ H Q I h => ?_⟩
  refine Call_ (ld_blt I gl ml boot_len (PyProof.Rows.callWith_builtin1 (PyProof.Rows.args_cons (Call_ (ld_blt I gs ms boot_set ?_)) rfl) rfl rfl))
  refine PyProof.Rows.callWith_type1 (PyProof.Rows.args_cons (thn (ha.run pins s σ H _ I h) fun v s1 ⟨x, H1, I1, r1, q1⟩ => PyProof.Rows.args_nil ?_) na) na rfl
  obtain ⟨l, zs, rfl, hl, few, q1⟩ := q1
  cases r1
  obtain ⟨its, r, pl, _⟩ := I1.list hl
  have hz : ∀ {ys : List Str} {us : List Value}, Vals (ys.map V.str) us → StrsAre us ys := by
    intro ys
    induction ys with
    | nil =>
      intro us r
      cases r
      exact .nil
    | cons y ys ih =>
      intro us r
      cases r with
      | cons r t =>
        obtain ⟨k, rfl⟩ := r
        exact .cons y k (ih t)
  refine set_of_strs (zs := zs) (I1.ok.hd calm) pl.isList (by simpa using hz r) (by unfold scanBound; omega) fun h1 tk hF => PyProof.Rows.args_nil ?_
  obtain ⟨hS, kept⟩ := hF
  obtain ⟨o, es, ep, t, ho, hex, hd, _, _, _, hf, hn⟩ := hS
  have I2 : Inv X pins σ H1 { s1 with heap := h1, toks := tk } := I1.kept fun b o e => kept b o (Heap.lt_size e) e
  have small : (dist zs).length ≤ 0 + zs.length := dist_le zs []
  exact call_len_set ho hex hd hf (by rw [hn]; omega) ⟨.int ((dist zs).length : Nat), H1, I2.tok _, ⟨_, by rw [hn]⟩, q1⟩
end Nv
set_option maxHeartbeats 4000000
namespace Nv
open PySem PySem.Spec PyProof.Rows L2
section
variable {P : Program} {w : World} {K : PySem.W.Frag} {mg : Str → Option Value} {base : Heap}
/-- _has_double(labels) -/
def spHasDouble (K : PySem.W.Frag) : Sp := fun vs H Q _ => ∃ (a : Addr) (zs : List Str), vs = [.ref a] ∧ SqL K H a (zs.map V.str) ∧ zs.length ≤ 4000 ∧ Q (.bl (!decide zs.Nodup)) H
theorem scHasDouble : FnScope ["labels"] ["labels"] (defScope sHasDouble) := ⟨rfl, rfl, rfl, by decide +kernel, rfl, by decide +kernel, by decide +kernel⟩
theorem ok_hasDouble {f : Addr} {fd : FuncData} (F : Fun K "_has_double" "_has_double" sHasDouble f fd) (B : Bp mg) : FnOk P w K mg base CX0 1 f fd ["labels"] (spHasDouble K) := by
  refine F.ok scHasDouble (fun vs H Q E h => ?_) (fun cdv A outer s H vs Q E hr h => ?_)
  · obtain ⟨a, zs, rfl, _⟩ := h
    rfl
  · obtain ⟨a, zs, rfl, ha, hl, q⟩ := h
    refine ⟨_, pss_one (ps_ret (pe_cmpR op_lt (by exact (pe_dist (by rfl) B.len (by rfl) B.set (pv 0))) (pe_callB call_len_seq (by rfl) B.len PySem.boot_len (pa_cons (pv 0) pa_nil)) (nomark _))), ?_⟩
    refine ⟨_, rfl, a, zs, rfl, ha, hl, _, rfl, a, _, rfl, .inl ha, _, _, rfl, rfl, ?_⟩
    have e : decide (((dist zs).length : Int) < ((zs.map V.str).length : Int)) = !decide zs.Nodup := by
      rw [← dist_lt, List.length_map]
      exact decide_eq_decide.mpr (by omega)
    show Q (.bl (decide (((dist zs).length : Int) < ((zs.map V.str).length : Int)))) H
    rw [e]
    exact q
/-- _place(label, labels), a label that is there -/
def spPlace (K : PySem.W.Frag) : Sp := fun vs H Q _ => ∃ (z : Str) (b : Addr) (zs : List Str) (j : Nat), vs = [.str z, .ref b] ∧ SqL K H b (zs.map V.str) ∧ zs[j]? = some z ∧ zs.Nodup ∧ Q (.int (j : Nat)) H
theorem scPlace : FnScope ["label", "labels"] ["label", "labels"] (defScope sPlace) := ⟨rfl, rfl, rfl, by decide +kernel, rfl, by decide +kernel, by decide +kernel⟩
theorem ok_place {f : Addr} {fd : FuncData} (F : Fun K "_place" "_place" sPlace f fd) : FnOk P w K mg base CX0 1 f fd ["label", "labels"] (spPlace K) := by
  refine F.ok scPlace (fun vs H Q E h => ?_) (fun cdv A outer s H vs Q E hr h => ?_)
  · obtain ⟨z, b, zs, j, rfl, _⟩ := h
    rfl
  · obtain ⟨z, b, zs, j, rfl, hb, hj, nd, q⟩ := h
    refine ⟨_, pss_cons (ps_if (pt_cmpR op_notIn_seq (pv 0) (pv 1) (by rfl)) (pss_one ps_never) pss_nil)
      (pss_one (ps_ret (pe_bm PySem.F.plainAttrs_list PySem.F.slot_list_index PySem.F.type_list_index mt_index (pv 1) (pa_cons (pv 0) pa_nil)))), ?_⟩
    refine ⟨_, rfl, _, rfl, b, _, rfl, .inl hb, rfl, flat_strs _, _, rfl, ?_⟩
    rw [inV_strs, decide_eq_true (List.mem_of_getElem? hj)]
    refine iteF ?_
    refine ⟨_, rfl, .inl ⟨rfl, _, hb⟩, _, rfl, b, zs.map V.str, _, j, .str z, rfl, rfl, hb, rfl, flat_strs _, by rw [List.getElem?_map, hj] <;> rfl, by show (z == z) = true; exact beq_self_eq_true z, fun m v hm hv => ?_, q⟩
    obtain ⟨y, hy, rfl⟩ := at_map hv
    show (y == z) = false
    refine beq_eq_false_iff_ne.mpr fun e => ?_
    subst e
    obtain ⟨h1, e1⟩ := List.getElem?_eq_some_iff.mp hy
    obtain ⟨h2, e2⟩ := List.getElem?_eq_some_iff.mp hj
    exact absurd (e1.trans e2.symm) (List.pairwise_iff_getElem.mp nd m j h1 h2 hm)
end
end Nv
set_option maxHeartbeats 4000000
namespace Nv
open PySem PySem.Spec PyProof.Rows L2
abbrev sRuleInit : Stmt := inClass cRule 0
/-- a list or None, of tuples of texts -/
def Opt (H : Hp) (v : V) (ps : List (List Str)) : Prop := (v = .non ∧ ps = []) ∨ ∃ (a : Addr) (us : List V), v = .ref a ∧ H a = some (.lst us) ∧ PaL H us ps ∧ ps.length ≤ 300
def PairOk (q : List Str) : Prop := ∃ x y, q = [x, y] ∧ x ≠ y ∧ IsTm x ∧ IsTm y ∧ (IsVr x ∨ IsVr y)
theorem tm_len {z : Str} (h : IsTm z) : z.length ≤ 10 := by
  rcases h with h | h
  · exact h.2.1
  · have := h.2.1
    omega
theorem PatOk.small {p : List Str} (h : PatOk p) : p.length ≤ 1000 ∧ ∀ x ∈ p, x.length ≤ 1000 := by
  obtain ⟨w, ts, rfl, hw, h3, ht⟩ := h
  refine ⟨by rw [List.length_cons]; omega, fun x hx => ?_⟩
  rcases List.mem_cons.mp hx with rfl | hx
  · have := hw.2.1
    omega
  · have := tm_len (Or.symm (ht x hx))
    omega
theorem PairOk.small {p : List Str} (h : PairOk p) : p.length ≤ 1000 ∧ ∀ x ∈ p, x.length ≤ 1000 := by
  obtain ⟨x, y, rfl, _, h1, h2, _⟩ := h
  refine ⟨by show 2 ≤ 1000; decide, fun z hz => ?_⟩
  simp only [List.mem_cons, List.not_mem_nil, or_false] at hz
  have h3 := tm_len h1
  have h4 := tm_len h2
  rcases hz with rfl | rfl <;> omega
theorem PatOk.yes {p : List Str} (h : PatOk p) : patB (some (p.map some)) = true := by
  obtain ⟨w, ts, rfl, hw, h3, ht⟩ := h
  show (decide ((ts.map some).length ≤ 3) && (nmO (some w) && (ts.map some).all tmO)) = true
  rw [List.length_map, decide_eq_true h3, Bool.true_and, show nmO (some w) = true from decide_eq_true hw, Bool.true_and, List.all_map, List.all_eq_true]
  intro x hx
  exact decide_eq_true (Or.symm (ht x hx))
theorem PairOk.yes {p : List Str} (h : PairOk p) : prB (some (p.map some)) = true := by
  obtain ⟨x, y, rfl, hn, h1, h2, h3⟩ := h
  show (tmO (some x) && (tmO (some y) && (decide (some x ≠ some y) && (vrO (some x) || vrO (some y))))) = true
  rw [show tmO (some x) = true from decide_eq_true h1, show tmO (some y) = true from decide_eq_true h2, show decide (some x ≠ some y) = true from decide_eq_true (fun e => hn (by injection e)), Bool.true_and, Bool.true_and, Bool.true_and]
  rcases h3 with h | h
  · rw [show vrO (some x) = true from decide_eq_true h] <;> rfl
  · rw [show vrO (some y) = true from decide_eq_true h, Bool.or_true]
theorem all_yes {p : Option (List (Option Str)) → Bool} {ps : List (List Str)} (h : ∀ x ∈ ps, p (some (x.map some)) = true) : listB p (some (ps.map fun q => some (q.map some))) = true := by
  show ((ps.map fun q => some (q.map some)).all p) = true
  rw [List.all_map, List.all_eq_true]
  exact h
/-- the rule's object r (its dict dx), of these parts: th its head's tuple; l1, l2, l3 its own lists -/
abbrev ruleF (l : Str) (th l1 l2 l3 : Addr) : List (Str × V) := [("_label", .str l), ("_head", .ref th), ("_told", .ref l1), ("_pairs", .ref l2), ("_denied", .ref l3)]
/-- the class Rule, as the top leaves it -/
structure RC (K : PySem.W.Frag) (C : Addr) : Prop where
  cl : Cls K C
  n1 : NoAttr K C "_label"
  n2 : NoAttr K C "_head"
  n3 : NoAttr K C "_told"
  n4 : NoAttr K C "_pairs"
  n5 : NoAttr K C "_denied"
/-- the promises of what the classes' defs call -/
structure Ct (P : Program) (w : World) (K : PySem.W.Frag) (mg : Str → Option Value) (base : Heap) : Prop where
  nm : ∃ f fd, FnOk P w K mg base CX0 1 f fd ["value"] (spTxt K fun z => decide (IsNm z)) ∧ PySem.W.keepIn K (.ref f) = true ∧ mg "is_name" = some (.ref f) ∧ Binds K fd ["value"] []
  vr : ∃ f fd, FnOk P w K mg base CX0 1 f fd ["value"] (spTxt K fun z => decide (IsVr z)) ∧ PySem.W.keepIn K (.ref f) = true ∧ mg "is_variable" = some (.ref f) ∧ Binds K fd ["value"] []
  pt : ∃ f fd, FnOk P w K mg base CX0 3 f fd ["value"] (spTup K patB) ∧ PySem.W.keepIn K (.ref f) = true ∧ mg "is_pattern" = some (.ref f) ∧ Binds K fd ["value"] []
  ps : ∃ f fd, FnOk P w K mg base CX0 4 f fd ["value"] (spLst K patB) ∧ PySem.W.keepIn K (.ref f) = true ∧ mg "is_patterns" = some (.ref f) ∧ Binds K fd ["value"] []
  pr : ∃ f fd, FnOk P w K mg base CX0 4 f fd ["value"] (spLst K prB) ∧ PySem.W.keepIn K (.ref f) = true ∧ mg "is_pairs" = some (.ref f) ∧ Binds K fd ["value"] []
  to : ∃ f fd, FnOk P w K mg base CX0 1 f fd ["patterns"] (spTermsOf K) ∧ PySem.W.keepIn K (.ref f) = true ∧ mg "terms_of" = some (.ref f) ∧ Binds K fd ["patterns"] []
  sd : ∃ f fd, FnOk P w K mg base CX0 1 f fd ["pairs"] (spSides K) ∧ PySem.W.keepIn K (.ref f) = true ∧ mg "sides_of" = some (.ref f) ∧ Binds K fd ["pairs"] []
  hm : ∃ f fd, FnOk P w K mg base CX0 4 f fd ["terms", "told"] (spHasMore K) ∧ PySem.W.keepIn K (.ref f) = true ∧ mg "has_more" = some (.ref f) ∧ Binds K fd ["terms", "told"] []
theorem PaL.sbo {H H1 : Hp} {r C dx : Addr} {fs : List (Str × V)} {vs : List V} {ps : List (List Str)} (h : PaL H vs ps) (e : H r = some (.ins C dx fs)) (s : Sb r H H1) : PaL H1 vs ps := by
  induction h with
  | nil => exact .nil
  | cons e1 _ ih => exact .cons (s _ _ (fun z => by rw [z, e] at e1; cases e1) e1) ih
section
variable {P : Program} {w : World} {K : PySem.W.Frag} {mg : Str → Option Value} {base : Heap}
def spRuleInit (C : Addr) : Sp := fun vs H Q _ => ∃ (r dx : Addr) (l : Str) (th tt : Addr) (h : List Str) (us : List V) (ps : List (List Str)) (vp : V) (qs : List (List Str)) (vd : V) (ds : List (List Str)), vs = [.ref r, .str l, .ref th, .ref tt, vp, vd] ∧
  H r = some (.ins C dx []) ∧ IsNm l ∧ (H th = some (.tup (h.map V.str)) ∧ PatOk h) ∧ (H tt = some (.lst us) ∧ PaL H us ps ∧ (∀ x ∈ ps, PatOk x) ∧ ps.length ≤ 300) ∧ (Opt H vp qs ∧ ∀ x ∈ qs, PairOk x) ∧ (Opt H vd ds ∧ ∀ x ∈ ds, PatOk x) ∧
  (hasMore h.tail ps = false ∧ hasMore qs.flatten ps = false ∧ hasMore (tails ds) ps = false) ∧
  ∀ (l1 l2 l3 : Addr) (us2 us3 : List V) (H' : Hp), H l1 = none → H l2 = none → H l3 = none → Sb r H H' → H' r = some (.ins C dx (ruleF l th l1 l2 l3)) → H' l1 = some (.lst us) → H' l2 = some (.lst us2) → PaL H' us2 qs → H' l3 = some (.lst us3) → PaL H' us3 ds → Q .non H'
theorem scRuleInit : FnScope ["self", "label", "head", "told", "pairs", "denied"] ["self", "label", "head", "told", "pairs", "denied"] (defScope sRuleInit) := ⟨rfl, rfl, rfl, by decide +kernel, rfl, by decide +kernel, by decide +kernel⟩
theorem Opt.tru {H : Hp} {v : V} {ps : List (List Str)} (h : Opt H v ps) : TruV K v H (!ps.isEmpty) := by
  rcases h with ⟨rfl, rfl⟩ | ⟨a, us, rfl, e, hp, _⟩
  · rfl
  · refine .inl ⟨us, SqL.of e, ?_⟩
    cases hp <;> rfl
theorem Opt.same {H H1 : Hp} {v : V} {ps : List (List Str)} (h : Opt H v ps) (s : Same H H1) : Opt H1 v ps := by
  rcases h with ⟨rfl, rfl⟩ | ⟨a, us, rfl, e, hp, l⟩
  · exact .inl ⟨rfl, rfl⟩
  · exact .inr ⟨a, us, rfl, s _ _ e, hp.same s, l⟩
theorem Opt.sbo {H H1 : Hp} {r C dx : Addr} {fs : List (Str × V)} {v : V} {ps : List (List Str)} (h : Opt H v ps) (e : H r = some (.ins C dx fs)) (s : Sb r H H1) : Opt H1 v ps := by
  rcases h with ⟨rfl, rfl⟩ | ⟨a, us, rfl, e1, hp, l⟩
  · exact .inl ⟨rfl, rfl⟩
  · exact .inr ⟨a, us, rfl, s _ _ (fun z => by rw [z, e] at e1; cases e1) e1, hp.sbo e s, l⟩
theorem opt_and {v : V} {A : Prop} {Qf : Hp → Prop} {H3 : Hp} (k : ∀ G, Same H3 G → Qf G) (h2 : (∀ G, Same H3 G → Qf G) → v ≠ .non → A) : ∃ c, V.bl (!decide (v = .non)) = V.bl c ∧ if c = true then A else Qf H3 := by
  refine ⟨_, rfl, ?_⟩
  by_cases h : v = .non
  · rw [decide_eq_true h]
    exact iteF (k _ (Same.refl _))
  · rw [decide_eq_false h]
    exact iteT (h2 k h)
theorem or_list {i : Nat} {v : V} {ps : List (List Str)} {H3 : Hp} {σ : L2.St} {Z : VK} (o : Opt H3 v ps) (hi : σ[i]? = some (some v)) (k : ∀ (a : Addr) (us : List V) (G : Hp), Same H3 G → G a = some (.lst us) → PaL G us ps → Z (.ref a) G) :
    tOrT K (tVar i) (tLst tNil) σ H3 Z := by
  refine ⟨v, hi, _, o.tru, ?_⟩
  rcases o with ⟨rfl, rfl⟩ | ⟨a, us, rfl, e, hp, _⟩
  · exact iteF ⟨Nat.zero_le _, fun p np => k p [] _ (same_new np) upd_same .nil⟩
  · cases ps with
    | nil =>
      exact iteF ⟨Nat.zero_le _, fun p np => k p [] _ (same_new np) upd_same .nil⟩
    | cons p ps => exact iteT (k a us _ (Same.refl _) e hp)
theorem if_opt {i : Nat} {p : Option (List (Option Str)) → Bool} {v : V} {qs : List (List Str)} {D : Ends} {σ : L2.St} {H : Hp} (o : Opt H v qs) (hi : σ[i]? = some (some v)) (sm : ∀ x ∈ qs, x.length ≤ 1000 ∧ ∀ y ∈ x, y.length ≤ 1000) (ok : ∀ x ∈ qs, p (some (x.map some)) = true)
    (k : ∀ G, Same H G → D.nx σ G) : tIfS (tAnd (tTest (tOp (fun x y H Q => y = V.non ∧ Q (V.bl (!decide (x = V.non))) H) (tVar i) (tC V.non))) (tNot (tB (tCall (spLst K p) [] E0 (tCons (tVar i) tNil))))) tNever tNext D σ H := by
  refine ⟨v, hi, rfl, !decide (v = .non), rfl, ?_⟩
  rcases o with ⟨rfl, _⟩ | ⟨a, us, rfl, e, hp, l⟩
  · rw [decide_eq_true rfl]
    exact iteF (iteF (k H (Same.refl H)))
  · rw [decide_eq_false (fun z : V.ref a = V.non => by cases z)]
    have tq : Tps K H (.ref a) (some (qs.map fun q => some (q.map some))) := ⟨a, us, rfl, e, hp.tps sm, by rw [List.length_map]; omega⟩
    refine iteT ⟨_, hi, _, _, rfl, tq, fun G sG => ⟨_, rfl, ?_⟩⟩
    rw [all_yes ok]
    exact iteF (k G sG)
theorem if_sides {i j : Nat} {v : V} {tt : Addr} {us : List V} {ps qs : List (List Str)} {D : Ends} {σ : L2.St} {H : Hp} (o : Opt H v qs) (hi : σ[i]? = some (some v)) (hj : σ[j]? = some (some (.ref tt))) (ok : ∀ x ∈ qs, PairOk x)
    (et : H tt = some (.lst us)) (hp : PaL H us ps) (hok : ∀ x ∈ ps, PatOk x) (hpl : ps.length ≤ 300) (m : hasMore qs.flatten ps = false) (k : ∀ G, Same H G → D.nx σ G) :
    tIfS (tB (tCall (spHasMore K) [] E0 (tCons (tCall (spSides K) [] E0 (tCons (tOrT K (tVar i) (tLst tNil)) tNil)) (tCons (tVar j) tNil)))) tNever tNext D σ H := by
  have ql : qs.length ≤ 1000 := by
    rcases o with ⟨_, rfl⟩ | ⟨_, _, _, _, _, l⟩
    · exact Nat.zero_le _
    · omega
  show tOrT K (tVar i) (tLst tNil) σ H _
  refine or_list o hi fun a us2 G sG ea pa => ?_
  refine ⟨a, us2, qs, rfl, SqL.of ea, pa, fun x hx => ?_, ql, fun b G2 nb s2 eb => ?_⟩
  · obtain ⟨x1, x2, rfl, _⟩ := ok x hx
    rfl
  · have s3 := sG.trans s2
    refine ⟨_, hj, b, tt, qs.flatten, us, ps, rfl, ⟨.inl (SqL.of eb), fun x hx => ?_, ?_⟩, ⟨SqL.of (s3 _ _ et), hp.same s3, hok, by omega⟩, fun G4 s4 => ⟨_, rfl, ?_⟩⟩
    · obtain ⟨y, hy, hx⟩ := List.mem_flatten.mp hx
      exact (ok y hy).small.2 x hx
    · rw [flat_len fun x hx => by obtain ⟨x1, x2, rfl, _⟩ := ok x hx; rfl]
      omega
    · rw [m]
      exact iteF (k G4 (s3.trans s4))
theorem if_terms {i j : Nat} {v : V} {tt : Addr} {us : List V} {ps qs : List (List Str)} {D : Ends} {σ : L2.St} {H : Hp} (o : Opt H v qs) (hi : σ[i]? = some (some v)) (hj : σ[j]? = some (some (.ref tt))) (ok : ∀ x ∈ qs, PatOk x)
    (et : H tt = some (.lst us)) (hp : PaL H us ps) (hok : ∀ x ∈ ps, PatOk x) (hpl : ps.length ≤ 300) (m : hasMore (tails qs) ps = false) (k : ∀ G, Same H G → D.nx σ G) :
    tIfS (tB (tCall (spHasMore K) [] E0 (tCons (tCall (spTermsOf K) [] E0 (tCons (tOrT K (tVar i) (tLst tNil)) tNil)) (tCons (tVar j) tNil)))) tNever tNext D σ H := by
  have ql : qs.length ≤ 1000 := by
    rcases o with ⟨_, rfl⟩ | ⟨_, _, _, _, _, l⟩
    · exact Nat.zero_le _
    · omega
  show tOrT K (tVar i) (tLst tNil) σ H _
  refine or_list o hi fun a us2 G sG ea pa => ?_
  refine ⟨a, us2, qs, rfl, SqL.of ea, pa, ok, ql, fun b G2 nb s2 eb => ?_⟩
  have s3 := sG.trans s2
  refine ⟨_, hj, b, tt, tails qs, us, ps, rfl, ⟨.inl (SqL.of eb), fun x hx => ?_, ?_⟩, ⟨SqL.of (s3 _ _ et), hp.same s3, hok, by omega⟩, fun G4 s4 => ⟨_, rfl, ?_⟩⟩
  · have := (tails_short ok x hx).2
    omega
  · have := tails_le ok ql
    omega
  · rw [m]
    exact iteF (k G4 (s3.trans s4))
theorem putF_new {f : Str} {v : V} : ∀ {fs : List (Str × V)} {ns : List Str}, fs.map (·.1) = ns → f ∉ ns → putF f v fs = fs ++ [(f, v)]
  | [], _, _, _ => rfl
  | (g, x) :: fs, _, rfl, h => by
    unfold putF
    rw [if_neg (fun e => h (by rw [e]; exact List.mem_cons_self)), putF_new (fs := fs) rfl (fun e => h (List.mem_cons_of_mem _ e))] <;> rfl
abbrev Flds := List (Str × V)
theorem putF2 {l : Str} {th : Addr} : putF "_head" (V.ref th) ([("_label", V.str l)] : Flds) = ([("_label", V.str l), ("_head", V.ref th)] : Flds) := putF_new (ns := ["_label"]) rfl (by decide +kernel)
theorem putF3 {l : Str} {th l1 : Addr} : putF "_told" (V.ref l1) ([("_label", V.str l), ("_head", V.ref th)] : Flds) = ([("_label", V.str l), ("_head", V.ref th), ("_told", V.ref l1)] : Flds) := putF_new (ns := ["_label", "_head"]) rfl (by decide +kernel)
theorem putF4 {l : Str} {th l1 l2 : Addr} : putF "_pairs" (V.ref l2) ([("_label", V.str l), ("_head", V.ref th), ("_told", V.ref l1)] : Flds) = ([("_label", V.str l), ("_head", V.ref th), ("_told", V.ref l1), ("_pairs", V.ref l2)] : Flds) := putF_new (ns := ["_label", "_head", "_told"]) rfl (by decide +kernel)
theorem putF5 {l : Str} {th l1 l2 l3 : Addr} : putF "_denied" (V.ref l3) ([("_label", V.str l), ("_head", V.ref th), ("_told", V.ref l1), ("_pairs", V.ref l2)] : Flds) = ruleF l th l1 l2 l3 := putF_new (ns := ["_label", "_head", "_told", "_pairs"]) rfl (by decide +kernel)
theorem fld_list {i : Nat} {v : V} {qs : List (List Str)} {D : Ends} {σ : L2.St} {H : Hp} {r C dx : Addr} {fs : List (Str × V)} {f : Str} (o : Opt H v qs) (hi : σ[i]? = some (some v)) (h0 : σ[0]? = some (some (.ref r))) (er : H r = some (.ins C dx fs)) (cl : Cls K C) (na : NoAttr K C f) (hf : fs.length < 1000)
    (k : ∀ (l2 : Addr) (us2 : List V) (G : Hp), H l2 = none → Sb r H G → G r = some (.ins C dx (putF f (.ref l2) fs)) → G l2 = some (.lst us2) → PaL G us2 qs → D.nx σ G) :
    sFld K (tVar 0) (tCB (fun xs H Q => ∃ p ys, xs = [V.ref p] ∧ (SqL K H p ys ∨ SqT K H p ys) ∧ ∀ l, H l = none → Q (.ref l) (upd H l (.lst ys))) (tCons (tOrT K (tVar i) (tLst tNil)) tNil)) f D σ H := by
  show tOrT K (tVar i) (tLst tNil) σ H _
  refine or_list o hi fun a us G sG ea pa => ?_
  refine ⟨a, us, rfl, .inl (SqL.of ea), fun l2 n2 => ⟨_, h0, r, C, dx, fs, rfl, ?_, cl, na, hf, ?_⟩⟩
  · exact same_new n2 _ _ (sG _ _ er)
  · have nr : l2 ≠ r := fun z => by
      rw [z, sG _ _ er] at n2
      cases n2
    have e2 : upd G l2 (.lst us) r = some (.ins C dx fs) := same_new n2 _ _ (sG _ _ er)
    have s2 : Sb r H (upd (upd G l2 (.lst us)) r (.ins C dx (putF f (.ref l2) fs))) := (Sb.of (same_put sG (sG.free n2))).trans Sb.upd
    refine k l2 us _ (sG.free n2) s2 upd_same ?_ ?_
    · rw [upd_ne nr, upd_same]
    · exact (pa.same (same_new n2)).sbo e2 Sb.upd
theorem ok_ruleInit {f C : Addr} {fd : FuncData} (F : FunD K "__init__" "Rule.__init__" (defArgs sRuleInit) (defBody sRuleInit) (defScope sRuleInit) [.non, .non] [] f fd) (B : Bp mg) (R : RC K C) (T : Ct P w K mg base) :
    FnOk P w K mg base CX0 5 f fd ["self", "label", "head", "told", "pairs", "denied"] (spRuleInit C) := by
  obtain ⟨fN, dN, GN, kN, gN, bN⟩ := T.nm
  obtain ⟨fP, dP, GP, kP, gP, bP⟩ := T.pt
  obtain ⟨fS, dS, GS, kS, gS, bS⟩ := T.ps
  obtain ⟨fR, dR, GR, kR, gR, bR⟩ := T.pr
  obtain ⟨fT, dT, GT, kT, gT, bT⟩ := T.to
  obtain ⟨fD, dD, GD, kD, gD, bD⟩ := T.sd
  obtain ⟨fM, dM, GM, kM, gM, bM⟩ := T.hm
  refine F.ok scRuleInit (fun vs H Q E h => ?_) (fun cdv A outer s H vs Q E hr h => ?_)
  · obtain ⟨r, dx, l, th, tt, h, us, ps, vp, qs, vd, ds, rfl, _⟩ := h
    rfl
  · obtain ⟨r, dx, l, th, tt, h, us, ps, vp, qs, vd, ds, rfl, er, hl, ⟨eh, hh⟩, ⟨et, hp, hok, hpl⟩, ⟨oq, hq⟩, ⟨od, hd⟩, ⟨m1, m2, m3⟩, q⟩ := h
    have hr1 : Room 1 _ := hr.mono (by decide)
    have hr3 : Room 3 _ := hr.mono (by decide)
    refine ⟨_, pss_cons (ps_if (pt_not (pt_val (by exact (pe_call GN hr1 (by rfl) gN kN bN .nil pass0 (pa_cons (pv 1) pa_nil))))) (pss_one ps_never) pss_nil)
      (pss_cons (ps_if (pt_not (pt_val (by exact (pe_call GP hr3 (by rfl) gP kP bP .nil pass0 (pa_cons (pv 2) pa_nil))))) (pss_one ps_never) pss_nil)
      (pss_cons (ps_if (pt_not (pt_val (by exact (pe_call GS hr (by rfl) gS kS bS .nil pass0 (pa_cons (pv 3) pa_nil))))) (pss_one ps_never) pss_nil)
      (pss_cons (ps_if (PW.pt (pw_and (pt_cmpR op_notN (pv 4) pe_non (nomark _)) (pw_and1 (pt_not (pt_val (by exact (pe_call GR hr (by rfl) gR kR bR .nil pass0 (pa_cons (pv 4) pa_nil)))))))) (pss_one ps_never) pss_nil)
      (pss_cons (ps_if (PW.pt (pw_and (pt_cmpR op_notN (pv 5) pe_non (nomark _)) (pw_and1 (pt_not (pt_val (by exact (pe_call GS hr (by rfl) gS kS bS .nil pass0 (pa_cons (pv 5) pa_nil)))))))) (pss_one ps_never) pss_nil)
      (pss_cons (ps_if (pt_val (by exact (pe_call GM hr (by rfl) gM kM bM .nil pass0 (pa_cons (pe_slice sl_tup (pv 2) (po_some pe_int) po_none) (pa_cons (pv 3) pa_nil))))) (pss_one ps_never) pss_nil)
      (pss_cons (ps_if (pt_val (by exact (pe_call GM hr (by rfl) gM kM bM .nil pass0 (pa_cons (by exact (pe_call GD hr1 (by rfl) gD kD bD .nil pass0 (pa_cons (pe_orT (pv 4) (pe_one (pe_lst pa_nil))) pa_nil))) (pa_cons (pv 3) pa_nil))))) (pss_one ps_never) pss_nil)
      (pss_cons (ps_if (pt_val (by exact (pe_call GM hr (by rfl) gM kM bM .nil pass0 (pa_cons (by exact (pe_call GT hr1 (by rfl) gT kT bT .nil pass0 (pa_cons (pe_orT (pv 5) (pe_one (pe_lst pa_nil))) pa_nil))) (pa_cons (pv 3) pa_nil))))) (pss_one ps_never) pss_nil)
      (pss_cons (ps_fld (pv 0) (pv 1) rfl)
      (pss_cons (ps_fld (pv 0) (pv 2) rfl)
      (pss_cons (ps_fld (pv 0) (pe_callTy call_list_of (by rfl) B.lst PyProof.Rows.boot_list (pa_cons (pv 3) pa_nil)) rfl)
      (pss_cons (ps_fld (pv 0) (pe_callTy call_list_of (by rfl) B.lst PyProof.Rows.boot_list (pa_cons (pe_orT (pv 4) (pe_one (pe_lst pa_nil))) pa_nil)) rfl)
      (pss_one (ps_fld (pv 0) (pe_callTy call_list_of (by rfl) B.lst PyProof.Rows.boot_list (pa_cons (pe_orT (pv 5) (pe_one (pe_lst pa_nil))) pa_nil)) rfl))))))))))))), ?_⟩
    refine ⟨_, rfl, ?_⟩
    dsimp only [tNil]
    refine spTxt.yes (by have := hl.2.1; omega) fun H1 s1 => ⟨_, rfl, ?_⟩
    show if (!decide (IsNm l)) = true then _ else _
    rw [decide_eq_true hl]
    refine iteF ?_
    refine ⟨_, rfl, _, some (h.map some), rfl, tp_strs (s1 _ _ eh) hh.small.2 hh.small.1, fun H2 s2 => ⟨_, rfl, ?_⟩⟩
    rw [hh.yes]
    refine iteF ?_
    have s12 := s1.trans s2
    have tps : ∀ G, Same H G → Tps K G (.ref tt) (some (ps.map fun q => some (q.map some))) := fun G sG => ⟨tt, us, rfl, sG _ _ et, (hp.same sG).tps fun p hpp => (hok p hpp).small, by rw [List.length_map]; omega⟩
    refine ⟨_, rfl, _, _, rfl, tps _ s12, fun H3 s3 => ⟨_, rfl, ?_⟩⟩
    rw [all_yes fun x hx => (hok x hx).yes]
    refine iteF ?_
    have s13 := s12.trans s3
    show tSeq _ _ _ _ _
    refine if_opt (v := vp) (o := oq.same s13) rfl (fun x hx => (hq x hx).small) (fun x hx => (hq x hx).yes) fun G4 s4 => ?_
    replace s13 := s13.trans s4
    show tSeq _ _ _ _ _
    refine if_opt (v := vd) (o := od.same s13) rfl (fun x hx => (hd x hx).small) (fun x hx => (hd x hx).yes) fun G5 s5 => ?_
    replace s13 := s13.trans s5
    clear s4 s5 tps
    obtain ⟨wd, tms, rfl, hw, h3, hts⟩ := hh
    have small : ∀ x, IsVr x ∨ IsNm x → x.length ≤ 1000 := fun x hx => by
      have := tm_len (Or.symm hx)
      omega
    -- head[1:]
    refine ⟨_, rfl, 1, rfl, th, _, rfl, SqT.of (s13 _ _ eh), ?_, fun t6 nt6 => ?_⟩
    · rintro ⟨h, _⟩
      have := HT.sIx_nat ((wd :: tms).map V.str).length 0 1
      rw [show ((1 : Nat) : Int) = 1 by rfl] at this
      rw [this, List.length_map, List.length_cons] at h
      omega
    rw [cut1]
    have s6 : Same H (upd G5 t6 (.tup (tms.map V.str))) := same_put s13 (s13.free nt6)
    refine ⟨_, rfl, t6, tt, tms, us, ps, rfl, ⟨.inr (SqT.of upd_same), fun x hx => small x (hts x hx), by omega⟩, ⟨SqL.of (s6 _ _ et), hp.same s6, hok, by omega⟩, fun G7 s7 => ⟨_, rfl, ?_⟩⟩
    rw [show hasMore tms ps = false from m1]
    refine iteF ?_
    replace s13 := s6.trans s7
    clear s6 s7
    show tSeq _ _ _ _ _
    refine if_sides (K := K) (v := vp) (o := oq.same s13) rfl rfl (fun x hx => hq x hx) (s13 _ _ et) (hp.same s13) hok hpl m2 fun G8 s8 => ?_
    replace s13 := s13.trans s8
    show tSeq _ _ _ _ _
    refine if_terms (K := K) (v := vd) (o := od.same s13) rfl rfl hd (s13 _ _ et) (hp.same s13) hok hpl m3 fun G9 s9 => ?_
    replace s13 := s13.trans s9
    clear s8 s9
    -- the fields
    refine ⟨_, rfl, _, rfl, r, C, dx, [], rfl, s13 _ _ er, R.cl, R.n1, (by show 0 < 1000; decide), ?_⟩
    have f1 : Sb r H (upd G9 r (.ins C dx (putF "_label" (V.str l) []))) := (Sb.of s13).trans Sb.upd
    have e1 : upd G9 r (.ins C dx (putF "_label" (V.str l) [])) r = some (.ins C dx [("_label", .str l)]) := upd_same
    generalize upd G9 r (.ins C dx (putF "_label" (V.str l) [])) = G at f1 e1 ⊢
    refine ⟨_, rfl, _, rfl, r, C, dx, _, rfl, e1, R.cl, R.n2, (by show 1 < 1000; decide), ?_⟩
    rw [putF2]
    have f2 : Sb r H (upd G r (.ins C dx [("_label", .str l), ("_head", .ref th)])) := f1.trans Sb.upd
    have e2 : upd G r (.ins C dx [("_label", .str l), ("_head", .ref th)]) r = some (.ins C dx [("_label", .str l), ("_head", .ref th)]) := upd_same
    generalize upd G r (.ins C dx [("_label", .str l), ("_head", .ref th)]) = G at f2 e2 ⊢
    have tne : tt ≠ r := fun z => by
      rw [z, er] at et
      cases et
    refine ⟨_, rfl, tt, us, rfl, .inl (SqL.of (f2 _ _ tne et)), fun l1 n1 => ⟨_, rfl, r, C, dx, _, rfl, same_new n1 _ _ e2, R.cl, R.n3, (by show 2 < 1000; decide), ?_⟩⟩
    rw [putF3]
    have l1r : l1 ≠ r := fun z => by
      rw [z, e2] at n1
      cases n1
    have n1H : H l1 = none := by
      cases g : H l1 with
      | none => rfl
      | some o =>
        rw [f2 _ _ l1r g] at n1
        cases n1
    have f3 : Sb r H (upd (upd G l1 (.lst us)) r (.ins C dx [("_label", .str l), ("_head", .ref th), ("_told", .ref l1)])) := (f2.put n1H).trans Sb.upd
    have e3 : upd (upd G l1 (.lst us)) r (.ins C dx [("_label", .str l), ("_head", .ref th), ("_told", .ref l1)]) r = some (.ins C dx [("_label", .str l), ("_head", .ref th), ("_told", .ref l1)]) := upd_same
    have el1 : upd (upd G l1 (.lst us)) r (.ins C dx [("_label", .str l), ("_head", .ref th), ("_told", .ref l1)]) l1 = some (.lst us) := by rw [upd_ne l1r, upd_same]
    generalize upd (upd G l1 (.lst us)) r (.ins C dx [("_label", .str l), ("_head", .ref th), ("_told", .ref l1)]) = G3 at f3 e3 el1 ⊢
    refine fld_list (K := K) (v := vp) (oq.sbo er f3) rfl rfl e3 R.cl R.n4 (by show 3 < 1000; decide) fun l2 us2 G4 n2 s4 e4 el2 p2 => ?_
    rw [putF4] at e4
    have f4 := f3.trans s4
    have l2r : l2 ≠ r := fun z => by
      rw [z, e3] at n2
      cases n2
    have el1' := s4 _ _ l1r el1
    have n2H : H l2 = none := by
      cases g : H l2 with
      | none => rfl
      | some o =>
        rw [f3 _ _ l2r g] at n2
        cases n2
    refine fld_list (K := K) (v := vd) (od.sbo er f4) rfl rfl e4 R.cl R.n5 (by show 4 < 1000; decide) fun l3 us3 G5 n3 s5 e5 el3 p3 => ?_
    rw [putF5] at e5
    have l3r : l3 ≠ r := fun z => by
      rw [z, e4] at n3
      cases n3
    have n3H : H l3 = none := by
      cases g : H l3 with
      | none => rfl
      | some o =>
        rw [f4 _ _ l3r g] at n3
        cases n3
    exact q l1 l2 l3 us2 us3 G5 n1H n2H n3H (f4.trans s5) e5 (s5 _ _ l1r el1') (s5 _ _ l2r el2) (p2.sbo e4 s5) el3 p3
end
end Nv
set_option maxHeartbeats 4000000
namespace Nv
open PySem PySem.Spec PyProof.Rows L2
/-- what a rule is made of -/
structure Rl where
  l : Str
  h : List Str
  ps : List (List Str)
  qs : List (List Str)
  ds : List (List Str)
  deriving DecidableEq
structure Rl.Ok (x : Rl) : Prop where
  l : IsNm x.l
  h : PatOk x.h
  ps : ∀ y ∈ x.ps, PatOk y
  pl : x.ps.length ≤ 300
  qs : ∀ y ∈ x.qs, PairOk y
  ql : x.qs.length ≤ 300
  ds : ∀ y ∈ x.ds, PatOk y
  dl : x.ds.length ≤ 300
/-- the rule x stands at r -/
def RA (C : Addr) (H : Hp) (r : Addr) (x : Rl) : Prop := ∃ (dx th l1 l2 l3 : Addr) (us us2 us3 : List V), H r = some (.ins C dx (ruleF x.l th l1 l2 l3)) ∧ H th = some (.tup (x.h.map V.str)) ∧ (H l1 = some (.lst us) ∧ PaL H us x.ps) ∧ (H l2 = some (.lst us2) ∧ PaL H us2 x.qs) ∧ H l3 = some (.lst us3) ∧ PaL H us3 x.ds
theorem RA.same {C : Addr} {H H1 : Hp} {r : Addr} {x : Rl} (h : RA C H r x) (s : Same H H1) : RA C H1 r x := by
  obtain ⟨dx, th, l1, l2, l3, us, us2, us3, e, e1, ⟨e2, p2⟩, ⟨e3, p3⟩, e4, p4⟩ := h
  exact ⟨dx, th, l1, l2, l3, us, us2, us3, s _ _ e, s _ _ e1, ⟨s _ _ e2, p2.same s⟩, ⟨s _ _ e3, p3.same s⟩, s _ _ e4, p4.same s⟩
theorem PairOk.asc {p : List Str} (h : PairOk p) : ∀ x ∈ p, Asc x := by
  obtain ⟨x, y, rfl, _, h1, h2, _⟩ := h
  intro z hz
  simp only [List.mem_cons, List.not_mem_nil, or_false] at hz
  have : ∀ z, IsTm z → Asc z := fun z h => by
    rcases h with h | h
    · exact h.asc
    · exact h.asc
  rcases hz with rfl | rfl
  · exact this _ h1
  · exact this _ h2
/-- what isinstance asks of an own class -/
structure IC (K : PySem.W.Frag) (C : Addr) : Prop where
  ha : PySem.W.findIn K (.ref C) "__class__" = some (some (.builtin "object.__class__"))
  hn : PySem.W.specialIn K (.builtin "object.__class__") "__get__" = some (some (.builtin "getset_descriptor.__get__"))
  ht : PySem.W.takesIn K (.builtin "object.__class__") = some true
  hm : PySem.W.mroIn K C (.type "object") = some true
  me : PySem.W.kitOne K (.ref C) (.ref C) = some true
section
variable {P : Program} {w : World} {K : PySem.W.Frag} {mg : Str → Option Value} {base : Heap}
/-- a list that an object keeps, told anew -/
def spGetL (C : Addr) (f : Str) : Sp := fun vs H Q _ => ∃ (r dx l : Addr) (fs : List (Str × V)) (us : List V), vs = [.ref r] ∧ H r = some (.ins C dx fs) ∧ fs.lookup f = some (.ref l) ∧ H l = some (.lst us) ∧ ∀ p, H p = none → Q (.ref p) (upd H p (.lst us))
theorem ok_getL {name qual f : Str} {st : Stmt} {fa C : Addr} {fd : FuncData} {p1 p2 p3 p4 p5 : Pos} (F : Fun K name qual st fa fd) (S : FnScope ["self"] ["self"] (defScope st)) (hb : defBody st = [.Return (some (.Call (.Name "list" p1) [.Attribute (.Name "self" p2) f p3] [] p4)) p5])
    (hl : ∀ X : Cx, X.env.scope = defScope st → Gl X "list") (cl : Cls K C) (na : NoAttr K C f) (B : Bp mg) : FnOk P w K mg base CX0 1 fa fd ["self"] (spGetL C f) := by
  refine F.ok S (fun vs H Q E h => ?_) (fun cdv A outer s H vs Q E hr h => ?_)
  · obtain ⟨r, dx, l, fs, us, rfl, _⟩ := h
    rfl
  · obtain ⟨r, dx, l, fs, us, rfl, er, ef, el, q⟩ := h
    rw [hb]
    refine ⟨_, pss_one (ps_ret (pe_callTy call_list_of (hl _ rfl) B.lst PyProof.Rows.boot_list (pa_cons (pe_fld (pe_var (i := 0) rfl ((S.par "self" (List.Mem.head _)).elim (fun z => .inl z) (fun z => .inr (.inl z)))) rfl) pa_nil))), ?_⟩
    exact ⟨_, rfl, r, C, dx, fs, _, rfl, er, cl, na, ef, l, us, rfl, .inl (SqL.of el), fun p np => q p np⟩
/-- Rule.__eq__ -/
abbrev sRuleEq : Stmt := inClass cRule 1
def spRuleEq (K : PySem.W.Frag) (C : Addr) : Sp := fun vs H Q _ => ∃ (a : Addr) (x : Rl) (v : V), vs = [.ref a, v] ∧ RA C H a x ∧ x.Ok ∧
  ((∃ (b : Addr) (y : Rl), v = .ref b ∧ RA C H b y ∧ y.Ok ∧ Q (.bl (decide (x = y))) H) ∨ (∃ t : Value, TyX K H v t ∧ PySem.W.kitOne K t (.ref C) = some false ∧ Q (.bl false) H))
theorem scRuleEq : FnScope ["self", "other"] ["self", "other"] (defScope sRuleEq) := ⟨rfl, rfl, rfl, by decide +kernel, rfl, by decide +kernel, by decide +kernel⟩
theorem lk_no {k g : Str} {v : V} {r : List (Str × V)} (h : (k == g) = false) : List.lookup k ((g, v) :: r) = List.lookup k r := by
  rw [List.lookup_cons, h]
theorem lk_yes {k : Str} {v : V} {r : List (Str × V)} : List.lookup k ((k, v) :: r) = some v := by
  rw [List.lookup_cons, beq_self_eq_true]
theorem lk1 {l : Str} {th l1 l2 l3 : Addr} : (ruleF l th l1 l2 l3).lookup ("_label" : Str) = some (V.str l) := lk_yes
theorem lk2 {l : Str} {th l1 l2 l3 : Addr} : (ruleF l th l1 l2 l3).lookup ("_head" : Str) = some (V.ref th) := (lk_no (by decide +kernel)).trans lk_yes
theorem lk3 {l : Str} {th l1 l2 l3 : Addr} : (ruleF l th l1 l2 l3).lookup ("_told" : Str) = some (V.ref l1) := (lk_no (by decide +kernel)).trans ((lk_no (by decide +kernel)).trans lk_yes)
theorem lk4 {l : Str} {th l1 l2 l3 : Addr} : (ruleF l th l1 l2 l3).lookup ("_pairs" : Str) = some (V.ref l2) := (lk_no (by decide +kernel)).trans ((lk_no (by decide +kernel)).trans ((lk_no (by decide +kernel)).trans lk_yes))
theorem lk5 {l : Str} {th l1 l2 l3 : Addr} : (ruleF l th l1 l2 l3).lookup ("_denied" : Str) = some (V.ref l3) := (lk_no (by decide +kernel)).trans ((lk_no (by decide +kernel)).trans ((lk_no (by decide +kernel)).trans ((lk_no (by decide +kernel)).trans lk_yes)))
theorem ok_ruleEq {f C : Addr} {fd : FuncData} (F : Fun K "__eq__" "Rule.__eq__" sRuleEq f fd) (B : Bp mg) (R : RC K C) (I : IC K C) (gC : mg "Rule" = some (.ref C)) : FnOk P w K mg base CX0 1 f fd ["self", "other"] (spRuleEq K C) := by
  refine F.ok scRuleEq (fun vs H Q E h => ?_) (fun cdv A outer s H vs Q E hr h => ?_)
  · obtain ⟨a, x, v, rfl, _⟩ := h
    rfl
  · obtain ⟨a, x, v, rfl, ra, xo, h⟩ := h
    refine ⟨_, pss_cons (ps_if (pt_not (pt_val (pe_callB call_isi (by rfl) B.isi bootIsi (pa_cons (pv 1) (pa_cons (pe_glob (v := V.ref C) (by rfl) gC rfl) pa_nil))))) (pss_one (ps_ret pe_bl)) pss_nil)
      (pss_cons (ps_if (PW.pt (pw_or (pt_cmpR op_ne (pe_fld (pv 0) rfl) (pe_fld (pv 1) rfl) (nomark _)) (pw_or (pt_cmpR (op_neD hr.units) (pe_fld (pv 0) rfl) (pe_fld (pv 1) rfl) (nomark _)) (pw_or1 (pt_cmpR (op_neD hr.units) (pe_fld (pv 0) rfl) (pe_fld (pv 1) rfl) (nomark _)))))) (pss_one (ps_ret pe_bl)) pss_nil)
      (pss_one (ps_ret (pe_and (pe_cmpR (op_eqD hr.units) (pe_fld (pv 0) rfl) (pe_fld (pv 1) rfl) (nomark _)) (pe_one (pe_cmpR (op_eqD hr.units) (pe_fld (pv 0) rfl) (pe_fld (pv 1) rfl) (nomark _))))))), ?_⟩
    rcases h with ⟨b, y, rfl, rb, yo, q⟩ | ⟨t, ht, hk, q⟩
    · obtain ⟨dx, th, l1, l2, l3, us, us2, us3, e, e1, ⟨e2, p2⟩, ⟨e3, p3⟩, e4, p4⟩ := ra
      obtain ⟨dx', th', m1, m2, m3, ws, ws2, ws3, g, g1, ⟨g2, r2⟩, ⟨g3, r3⟩, g4, r4⟩ := rb
      refine ⟨_, rfl, _, _, _, _, true, rfl, .own _, .base (.ins g R.cl I.ha I.hn I.ht I.hm), I.me, true, rfl, iteF ?_⟩
      refine ⟨_, rfl, a, C, dx, _, _, rfl, e, R.cl, R.n1, lk1, _, rfl, b, C, dx', _, _, rfl, g, R.cl, R.n1, lk1, rfl, _, rfl, ?_⟩
      obtain ⟨xl, xh, xp, xq, xd⟩ := x
      obtain ⟨yl, yh, yp, yq, yd⟩ := y
      have no : (⟨xl, xh, xp, xq, xd⟩ : Rl) ≠ ⟨yl, yh, yp, yq, yd⟩ → Q (.bl false) H := fun z => by
        rw [decide_eq_false z] at q
        exact q
      by_cases z1 : xl = yl
      · rw [decide_eq_true (by rw [z1] : V.str xl = V.str yl)]
        refine iteF ?_
        refine ⟨_, rfl, a, C, dx, _, _, rfl, e, R.cl, R.n2, lk2, _, rfl, b, C, dx', _, _, rfl, g, R.cl, R.n2, lk2, dT xh, dT yh, dp_T e1, dp_T g1, (lay_dT xo.h.asc).shaped (by decide), (lay_dT yo.h.asc).shaped (by decide), _, rfl, ?_⟩
        rw [eqv_T]
        by_cases z2 : xh = yh
        · rw [decide_eq_true z2]
          refine iteF ?_
          refine ⟨_, rfl, a, C, dx, _, _, rfl, e, R.cl, R.n3, lk3, _, rfl, b, C, dx', _, _, rfl, g, R.cl, R.n3, lk3, dL xp, dL yp, dp_L (SqL.of e2) p2, dp_L (SqL.of g2) r2, (lay_dL fun p hp => (xo.ps p hp).asc).shaped (by decide), (lay_dL fun p hp => (yo.ps p hp).asc).shaped (by decide), _, rfl, ?_⟩
          rw [eqv_L]
          by_cases z3 : xp = yp
          · rw [decide_eq_true z3]
            refine iteF ?_
            refine ⟨_, rfl, a, C, dx, _, _, rfl, e, R.cl, R.n4, lk4, _, rfl, b, C, dx', _, _, rfl, g, R.cl, R.n4, lk4, dL xq, dL yq, dp_L (SqL.of e3) p3, dp_L (SqL.of g3) r3, (lay_dL fun p hp => (xo.qs p hp).asc).shaped (by decide), (lay_dL fun p hp => (yo.qs p hp).asc).shaped (by decide), ?_⟩
            rw [eqv_L]
            refine ⟨_, rfl, ?_⟩
            by_cases z4 : xq = yq
            · rw [decide_eq_true z4]
              refine iteT ?_
              refine ⟨_, rfl, a, C, dx, _, _, rfl, e, R.cl, R.n5, lk5, _, rfl, b, C, dx', _, _, rfl, g, R.cl, R.n5, lk5, dL xd, dL yd, dp_L (SqL.of e4) p4, dp_L (SqL.of g4) r4, (lay_dL fun p hp => (xo.ds p hp).asc).shaped (by decide), (lay_dL fun p hp => (yo.ds p hp).asc).shaped (by decide), ?_⟩
              rw [eqv_L]
              have e5 : decide ((⟨xl, xh, xp, xq, xd⟩ : Rl) = ⟨yl, yh, yp, yq, yd⟩) = decide (xd = yd) := decide_eq_decide.mpr ⟨fun w => by injection w, fun w => by rw [z1, z2, z3, z4, w]⟩
              rw [e5] at q
              exact q
            · rw [decide_eq_false z4]
              exact iteF (no fun w => z4 (by injection w))
          · rw [decide_eq_false z3]
            exact iteT (no fun w => z3 (by injection w))
        · rw [decide_eq_false z2]
          exact iteT (iteT (no fun w => z2 (by injection w)))
      · rw [decide_eq_false (fun w => z1 (by injection w) : ¬ V.str xl = V.str yl)]
        exact iteT (iteT (no fun w => z1 (by injection w)))
    · refine ⟨_, rfl, _, _, _, _, false, rfl, .own _, ht, hk, false, rfl, iteT ?_⟩
      exact q
end
end Nv
set_option maxHeartbeats 4000000
namespace Nv
open PySem PySem.Spec PyProof.Rows L2
abbrev sBookInit : Stmt := inClass cBook 0
abbrev sBookEq : Stmt := inClass cBook 1
abbrev sBookLen : Stmt := inClass cBook 2
abbrev sBookAdd : Stmt := inClass cBook 3
abbrev sBookRules : Stmt := inClass cBook 4
abbrev sBookLabels : Stmt := inClass cBook 5
abbrev sBookRule : Stmt := inClass cBook 6
abbrev sBookWithout : Stmt := inClass cBook 7
abbrev sBookPlain : Stmt := inClass cBook 8
theorem RA.sbo {C C2 : Addr} {H H1 : Hp} {a r dx : Addr} {x : Rl} (h : RA C H a x) (e : H r = some (.ins C2 dx [])) (s : Sb r H H1) : RA C H1 a x := by
  obtain ⟨dx, th, l1, l2, l3, us, us2, us3, e0, e1, ⟨e2, p2⟩, ⟨e3, p3⟩, e4, p4⟩ := h
  refine ⟨dx, th, l1, l2, l3, us, us2, us3, s _ _ (fun z => ?_) e0, s _ _ (fun z => ?_) e1, ⟨s _ _ (fun z => ?_) e2, p2.sbo e s⟩, ⟨s _ _ (fun z => ?_) e3, p3.sbo e s⟩, s _ _ (fun z => ?_) e4, p4.sbo e s⟩
  · rw [z, e] at e0
    injection e0 with e0
    injection e0 with _ _ e0
    cases e0
  · rw [z, e] at e1
    cases e1
  · rw [z, e] at e2
    cases e2
  · rw [z, e] at e3
    cases e3
  · rw [z, e] at e4
    cases e4
section
variable {P : Program} {w : World} {K : PySem.W.Frag} {mg : Str → Option Value} {base : Heap}
theorem ok_get {name qual f : Str} {st : Stmt} {fa C : Addr} {fd : FuncData} {p2 p3 p5 : Pos} (F : Fun K name qual st fa fd) (S : FnScope ["self"] ["self"] (defScope st)) (hb : defBody st = [.Return (some (.Attribute (.Name "self" p2) f p3)) p5])
    (cl : Cls K C) (na : NoAttr K C f) : FnOk P w K mg base CX0 1 fa fd ["self"] (getSp C f) := by
  refine F.ok S (fun vs H Q E h => ?_) (fun cdv A outer s H vs Q E hr h => ?_)
  · obtain ⟨a, dx, fs, v, rfl, _⟩ := h
    rfl
  · obtain ⟨a, dx, fs, v, rfl, ea, l, q⟩ := h
    rw [hb]
    refine ⟨_, pss_one (ps_ret (pe_fld (pe_var (i := 0) rfl ((S.par "self" (List.Mem.head _)).elim (fun z => .inl z) (fun z => .inr (.inl z)))) rfl)), ?_⟩
    exact ⟨.ref a, rfl, a, C, dx, fs, v, rfl, ea, cl, na, l, q⟩
/-- the property Rule.label -/
structure PL (P : Program) (w : World) (K : PySem.W.Frag) (mg : Str → Option Value) (base : Heap) (C : Addr) (x f : Str) : Prop where
  ex : ∃ p g fd, PropOf K C x p g ∧ FnOk P w K mg base CX0 1 g fd ["self"] (getSp C f) ∧ Binds K fd ["self"] []
/-- rules, as a list of the heap -/
def RAs (C : Addr) (H : Hp) (rs : List Addr) (xs : List Rl) : Prop := All2 (fun r x => RA C H r x) rs xs
theorem RAs.same {C : Addr} {H H1 : Hp} {rs : List Addr} {xs : List Rl} (h : RAs C H rs xs) (s : Same H H1) : RAs C H1 rs xs := h.imp fun _ _ z => z.same s
theorem at_ref {rs : List Addr} {i : Nat} {x : V} (hx : (rs.map V.ref)[i]? = some x) : ∃ r, rs[i]? = some r ∧ x = V.ref r := by
  rw [List.getElem?_map] at hx
  cases g : rs[i]? with
  | none =>
    rw [g] at hx
    cases hx
  | some z =>
    rw [g] at hx
    exact ⟨z, rfl, (Option.some.inj hx).symm⟩
theorem spHasDouble.no {H : Hp} {a : Addr} {zs : List Str} {Q : VK} {E : XK} (e : SqL K H a (zs.map V.str)) (hl : zs.length ≤ 4000) (nd : zs.Nodup) (q : Q (.bl false) H) : spHasDouble K [.ref a] H Q E := ⟨a, zs, rfl, e, hl, by rw [decide_eq_true nd]; exact q⟩
def spBookInit (CR C : Addr) : Sp := fun vs H Q _ => ∃ (r dx a : Addr) (rs : List Addr) (xs : List Rl), vs = [.ref r, .ref a] ∧ H r = some (.ins C dx []) ∧ H a = some (.lst (rs.map V.ref)) ∧ RAs CR H rs xs ∧ (xs.map Rl.l).Nodup ∧ xs.length ≤ 100 ∧
  ∀ (l1 : Addr) (H' : Hp), H l1 = none → Sb r H H' → H' r = some (.ins C dx [("_rules", .ref l1)]) → H' l1 = some (.lst (rs.map V.ref)) → Q .non H'
theorem scBookInit : FnScope ["self", "rules", "part"] ["self", "rules"] (defScope sBookInit) := ⟨rfl, rfl, rfl, by decide +kernel, rfl, by decide +kernel, by decide +kernel⟩
theorem ok_bookInit {f C CR fH : Addr} {fd dH : FuncData} (F : Fun K "__init__" "Book.__init__" sBookInit f fd) (B : Bp mg) (cl : Cls K C) (na : NoAttr K C "_rules") (R : RC K CR) (I : IC K CR) (gR : mg "Rule" = some (.ref CR)) (L : PL P w K mg base CR "label" "_label")
    (GH : FnOk P w K mg base CX0 1 fH dH ["labels"] (spHasDouble K)) (kH : PySem.W.keepIn K (.ref fH) = true) (gH : mg "_has_double" = some (.ref fH)) (bH : Binds K dH ["labels"] []) :
    FnOk P w K mg base CX0 3 f fd ["self", "rules"] (spBookInit CR C) := by
  obtain ⟨pp, pg, pd, PO, PF, PB⟩ := L.ex
  refine F.ok scBookInit (fun vs H Q E h => ?_) (fun cdv A outer s H vs Q E hr h => ?_)
  · obtain ⟨r, dx, a, rs, xs, rfl, _⟩ := h
    rfl
  · obtain ⟨r, dx, a, rs, xs, rfl, er, ea, hx, nd, hl, q⟩ := h
    have hr1 : Room 1 _ := hr.mono (by decide)
    have hxl := hx.len
    refine ⟨_, pss_cons (ps_if (PW.pt (pw_or (pt_not (pt_val (pe_callB call_isi (by rfl) B.isi bootIsi (pa_cons (pv 1) (pa_cons (pe_bltn (v := V.ty "list") (by rfl) B.lst PyProof.Rows.boot_list rfl) pa_nil)))))
        (pw_or1 (pt_not (pt_val (pe_callB (cr_all rfl) (by rfl) B.all bootAll (pa_cons (by exact (pe_lc (own := [("part", 2)]) (g := gName 2) (tt := tYes) (te := tCB (rIsi K) (tCons (tVar 2) (tCons (tC (.ref CR)) tNil))) rfl scBookInit.nd (pi_list (pv 1))
          (blkOk_by (own := [("part", 2)]) (N := ["self", "rules", "part"]) (sc := defScope sBookInit) (by decide +kernel))
          (fun _ _ _ _ _ => pg_name (i := 2) scBookInit.nd rfl (Or.inl rfl)) (fun _ _ _ _ _ => pts_nil)
          (fun _ _ _ _ _ => by exact (pe_callB call_isi (by rfl) B.isi bootIsi (pa_cons (pv 2) (pa_cons (pe_glob (v := V.ref CR) (by rfl) gR rfl) pa_nil)))))) pa_nil))))))) (pss_one ps_never) pss_nil)
      (pss_cons (ps_if (pt_val (by exact (pe_call GH hr1 (by rfl) gH kH bH .nil pass0 (pa_cons (by exact (pe_lc (own := [("part", 2)]) (g := gName 2) (tt := tYes) (te := tProp CR (getSp CR "_label") [] E0 (tVar 2)) rfl scBookInit.nd (pi_list (pv 1))
          (blkOk_by (own := [("part", 2)]) (N := ["self", "rules", "part"]) (sc := defScope sBookInit) (by decide +kernel))
          (fun _ _ _ _ _ => pg_name (i := 2) scBookInit.nd rfl (Or.inl rfl)) (fun _ _ _ _ _ => pts_nil)
          (fun _ _ _ _ _ => by exact (pe_prop (pv 2) R.cl PO PF hr PB .nil pass0 rfl)))) pa_nil)))) (pss_one ps_never) pss_nil)
      (pss_one (ps_fld (pv 0) (pe_callTy call_list_of (by rfl) B.lst PyProof.Rows.boot_list (pa_cons (pv 1) pa_nil)) rfl))), ?_⟩
    refine ⟨_, rfl, _, _, _, _, true, rfl, .ty _, tyx_lst ea, kit_ty (by decide +kernel), true, rfl, iteF ?_⟩
    refine ⟨_, rfl, a, rfl, ⟨_, SqL.of ea⟩, fun D nD => ?_⟩
    refine lc_list (K := K) (a := a) (xs := rs.map V.ref) (fun i H' => Same H H' ∧ H' D = some (.lst ((rs.take i).map fun _ => V.bl true))) ⟨same_new nD, upd_same⟩ (fun i H' _ y => SqL.of (y.1 _ _ ea)) ?_ ?_
    · rintro i v H1 hi ⟨s1, e1⟩
      obtain ⟨ri, hri, rfl⟩ := at_ref hi
      obtain ⟨x, hxi, ra⟩ := hx.at_ hri
      obtain ⟨dx2, th, l1, l2, l3, us, us2, us3, g, _⟩ := ra.same s1
      refine ⟨rfl, _, rfl, _, _, _, _, true, rfl, .own _, .base (.ins g R.cl I.ha I.hn I.ht I.hm), I.me, ?_⟩
      refine ⟨_, e1, ?_, same_put s1 nD, ?_⟩
      · rw [List.length_map, List.length_take]
        exact Nat.lt_of_le_of_lt (by omega : _ ≤ 100) (by decide)
      · rw [upd_same, take_one hri, List.map_append] <;> rfl
    · rintro H1 ⟨s1, e1⟩
      rw [List.length_map, List.take_length] at e1
      refine ⟨D, rs.map fun _ => true, rfl, SqL.of (by rw [e1, List.map_map] <;> rfl), _, rfl, ?_⟩
      have eall : (rs.map fun _ => true).all id = true := by simp
      rw [eall]
      refine iteF ?_
      refine ⟨_, rfl, a, rfl, ⟨_, SqL.of (s1 _ _ ea)⟩, fun D2 nD2 => ?_⟩
      refine lc_list (K := K) (a := a) (xs := rs.map V.ref) (fun i H' => Same H H' ∧ H' D2 = some (.lst (((xs.map Rl.l).take i).map V.str))) ⟨same_put s1 (s1.free nD2), upd_same⟩ (fun i H' _ y => SqL.of (y.1 _ _ ea)) ?_ ?_
      · rintro i v H2 hi ⟨s2, e2⟩
        obtain ⟨ri, hri, rfl⟩ := at_ref hi
        obtain ⟨x, hxi, ra⟩ := hx.at_ hri
        obtain ⟨dx2, th, l1, l2, l3, us, us2, us3, g, _⟩ := ra.same s2
        have hz : (xs.map Rl.l)[i]? = some x.l := by rw [List.getElem?_map, hxi] <;> rfl
        refine ⟨rfl, _, rfl, ri, dx2, _, rfl, g, ri, dx2, _, _, rfl, g, lk1, ?_⟩
        refine ⟨_, e2, ?_, same_put s2 (s1.free nD2), ?_⟩
        · rw [List.length_map, List.length_take, List.length_map]
          exact Nat.lt_of_le_of_lt (by omega : _ ≤ 100) (by decide)
        · rw [upd_same, take_one hz, List.map_append] <;> rfl
      · rintro H2 ⟨s2, e2⟩
        have hfull : (xs.map Rl.l).take (rs.map V.ref).length = xs.map Rl.l := List.take_of_length_le (by rw [List.length_map, List.length_map]; omega)
        rw [hfull] at e2
        refine ⟨D2, xs.map Rl.l, rfl, SqL.of e2, by rw [List.length_map]; omega, _, rfl, ?_⟩
        rw [decide_eq_true nd]
        refine iteF ?_
        refine ⟨_, rfl, a, _, rfl, .inl (SqL.of (s2 _ _ ea)), fun l1 n1 => ⟨_, rfl, r, C, dx, [], rfl, same_new n1 _ _ (s2 _ _ er), cl, na, (by show 0 < 1000; decide), ?_⟩⟩
        have n1r : l1 ≠ r := fun z => by
          rw [z, s2 _ _ er] at n1
          cases n1
        exact q l1 _ (s2.free n1) ((Sb.of (same_put s2 (s2.free n1))).trans Sb.upd) upd_same (by rw [upd_ne n1r, upd_same])
end
end Nv
set_option maxHeartbeats 4000000
namespace Nv
open PySem PySem.Spec PyProof.Rows L2
/-- the book of the rules rs stands at b -/
def BA (C : Addr) (H : Hp) (b : Addr) (rs : List Addr) : Prop := ∃ dx l : Addr, H b = some (.ins C dx [("_rules", .ref l)]) ∧ H l = some (.lst (rs.map V.ref))
theorem BA.same {C : Addr} {H H1 : Hp} {b : Addr} {rs : List Addr} (h : BA C H b rs) (s : Same H H1) : BA C H1 b rs := by
  obtain ⟨dx, l, e1, e2⟩ := h
  exact ⟨dx, l, s _ _ e1, s _ _ e2⟩
theorem lkR {l : Addr} : List.lookup ("_rules" : Str) ([("_rules", V.ref l)] : Flds) = some (V.ref l) := lk_yes
section
variable {P : Program} {w : World} {K : PySem.W.Frag} {mg : Str → Option Value} {base : Heap}
/-- Book.labels() -/
def spBookLabels (CR C : Addr) : Sp := fun vs H Q _ => ∃ (b : Addr) (rs : List Addr) (xs : List Rl), vs = [.ref b] ∧ BA C H b rs ∧ RAs CR H rs xs ∧ xs.length ≤ 1000 ∧ ∀ (p : Addr) (H' : Hp), H p = none → Same H H' → H' p = some (.lst ((xs.map Rl.l).map V.str)) → Q (.ref p) H'
theorem scBookLabels : FnScope ["self", "part"] ["self"] (defScope sBookLabels) := ⟨rfl, rfl, rfl, by decide +kernel, rfl, by decide +kernel, by decide +kernel⟩
theorem ok_bookLabels {f C CR : Addr} {fd : FuncData} (F : Fun K "labels" "Book.labels" sBookLabels f fd) (cl : Cls K C) (na : NoAttr K C "_rules") (R : RC K CR) (L : PL P w K mg base CR "label" "_label") : FnOk P w K mg base CX0 3 f fd ["self"] (spBookLabels CR C) := by
  obtain ⟨pp, pg, pd, PO, PF, PB⟩ := L.ex
  refine F.ok scBookLabels (fun vs H Q E h => ?_) (fun cdv A outer s H vs Q E hr h => ?_)
  · obtain ⟨b, rs, xs, rfl, _⟩ := h
    rfl
  · obtain ⟨b, rs, xs, rfl, ⟨dx, l, eb, el⟩, hx, hl, q⟩ := h
    have hxl := hx.len
    refine ⟨_, pss_one (ps_ret (by exact (pe_lc (own := [("part", 1)]) (g := gName 1) (tt := tYes) (te := tProp CR (getSp CR "_label") [] E0 (tVar 1)) rfl scBookLabels.nd (pi_list (pe_fld (pv 0) rfl))
      (blkOk_by (own := [("part", 1)]) (N := ["self", "part"]) (sc := defScope sBookLabels) (by decide +kernel))
      (fun _ _ _ _ _ => pg_name (i := 1) scBookLabels.nd rfl (Or.inl rfl)) (fun _ _ _ _ _ => pts_nil)
      (fun _ _ _ _ _ => by exact (pe_prop (pv 1) R.cl PO PF hr PB .nil pass0 rfl))))), ?_⟩
    refine ⟨_, rfl, b, C, dx, _, _, rfl, eb, cl, na, lkR, l, rfl, ⟨_, SqL.of el⟩, fun D nD => ?_⟩
    refine lc_list (K := K) (a := l) (xs := rs.map V.ref) (fun i H' => Same H H' ∧ H' D = some (.lst (((xs.map Rl.l).take i).map V.str))) ⟨same_new nD, upd_same⟩ (fun i H' _ y => SqL.of (y.1 _ _ el)) ?_ ?_
    · rintro i v H2 hi ⟨s2, e2⟩
      obtain ⟨ri, hri, rfl⟩ := at_ref hi
      obtain ⟨x, hxi, ra⟩ := hx.at_ hri
      obtain ⟨dx2, th, l1, l2, l3, us, us2, us3, g, _⟩ := ra.same s2
      have hz : (xs.map Rl.l)[i]? = some x.l := by rw [List.getElem?_map, hxi] <;> rfl
      refine ⟨rfl, _, rfl, ri, dx2, _, rfl, g, ri, dx2, _, _, rfl, g, lk1, ?_⟩
      refine ⟨_, e2, ?_, same_put s2 nD, ?_⟩
      · rw [List.length_map, List.length_take, List.length_map]
        exact Nat.lt_of_le_of_lt (by omega : _ ≤ 1000) (by decide)
      · rw [upd_same, take_one hz, List.map_append] <;> rfl
    · rintro H2 ⟨s2, e2⟩
      have hfull : (xs.map Rl.l).take (rs.map V.ref).length = xs.map Rl.l := List.take_of_length_le (by rw [List.length_map, List.length_map]; omega)
      rw [hfull] at e2
      exact q D H2 nD s2 e2
/-- Book.rule(label), a label that is there -/
def spBookRule (CR C : Addr) : Sp := fun vs H Q _ => ∃ (b : Addr) (z : Str) (rs : List Addr) (xs : List Rl) (j : Nat) (r : Addr), vs = [.ref b, .str z] ∧ BA C H b rs ∧ RAs CR H rs xs ∧ xs.length ≤ 1000 ∧ (xs.map Rl.l).Nodup ∧ (xs.map Rl.l)[j]? = some z ∧ rs[j]? = some r ∧ ∀ H', Same H H' → Q (.ref r) H'
theorem scBookRule : FnScope ["self", "label"] ["self", "label"] (defScope sBookRule) := ⟨rfl, rfl, rfl, by decide +kernel, rfl, by decide +kernel, by decide +kernel⟩
theorem ok_bookRule {f C CR fL fP : Addr} {fd dL dP : FuncData} (F : Fun K "rule" "Book.rule" sBookRule f fd) (cl : Cls K C) (na : NoAttr K C "_rules")
    (GL : FnOk P w K mg base CX0 3 fL dL ["self"] (spBookLabels CR C)) (mL : Meth K C "labels" fL) (bL : Binds K dL ["self"] [])
    (GP : FnOk P w K mg base CX0 1 fP dP ["label", "labels"] (spPlace K)) (kP : PySem.W.keepIn K (.ref fP) = true) (gP : mg "_place" = some (.ref fP)) (bP : Binds K dP ["label", "labels"] []) : FnOk P w K mg base CX0 4 f fd ["self", "label"] (spBookRule CR C) := by
  refine F.ok scBookRule (fun vs H Q E h => ?_) (fun cdv A outer s H vs Q E hr h => ?_)
  · obtain ⟨b, z, rs, xs, j, r, rfl, _⟩ := h
    rfl
  · obtain ⟨b, z, rs, xs, j, r, rfl, ba, hx, hl, nd, hj, hrj, q⟩ := h
    obtain ⟨dx, l, eb, el⟩ := id ba
    have hr1 : Room 1 _ := hr.mono (by decide)
    refine ⟨_, pss_one (ps_ret (pe_ix ix_list (pe_fld (pv 0) rfl) (by exact (pe_call GP hr1 (by rfl) gP kP bP .nil pass0 (pa_cons (pv 1) (pa_cons (by exact (pe_meth0 (pv 0) cl mL GL hr bL .nil pass0)) pa_nil)))) (fun _ _ => rfl))), ?_⟩
    refine ⟨_, rfl, b, C, dx, _, _, rfl, eb, cl, na, lkR, _, rfl, _, rfl, b, dx, _, rfl, eb, (lk_no (by decide +kernel)), b, rs, xs, rfl, ba, hx, hl, fun p H1 np s1 e1 => ?_⟩
    refine ⟨z, p, xs.map Rl.l, j, rfl, SqL.of e1, hj, nd, ?_⟩
    refine ⟨l, _, _, .ref r, rfl, rfl, SqL.of (s1 _ _ el), atI_nat (by rw [List.getElem?_map, hrj] <;> rfl), q H1 s1⟩
end
end Nv
set_option maxHeartbeats 4000000
namespace Nv
open PySem PySem.Spec PyProof.Rows L2
section
variable {P : Program} {w : World} {K : PySem.W.Frag} {mg : Str → Option Value} {base : Heap}
theorem All2.split {α β : Type} {R : α → β → Prop} {xs : List α} {ys : List β} (h : All2 R xs ys) : ∀ j, All2 R (xs.take j) (ys.take j) ∧ All2 R (xs.drop j) (ys.drop j) := by
  induction h with
  | nil =>
    intro j
    rw [List.take_nil, List.drop_nil, List.take_nil, List.drop_nil]
    exact ⟨All2.nil, All2.nil⟩
  | cons a _ ih =>
    intro j
    cases j with
    | zero => exact ⟨.nil, .cons a (by simpa using (ih 0).2)⟩
    | succ j => exact ⟨.cons a (ih j).1, (ih j).2⟩
theorem All2.app {α β : Type} {R : α → β → Prop} {xs xs' : List α} {ys ys' : List β} (h : All2 R xs ys) (h' : All2 R xs' ys') : All2 R (xs ++ xs') (ys ++ ys') := by
  induction h with
  | nil => exact h'
  | cons a _ ih => exact .cons a ih
def less {α : Type} (xs : List α) (j : Nat) : List α := xs.take j ++ xs.drop (j + 1)
theorem less_sub {α : Type} (xs : List α) (j : Nat) : (less xs j).Sublist xs := by
  have h : (xs.take j ++ xs.drop (j + 1)).Sublist (xs.take j ++ xs.drop j) := by
    refine List.Sublist.append (List.Sublist.refl _) ?_
    rw [← List.drop_drop]
    exact List.drop_sublist _ _
  rw [List.take_append_drop] at h
  exact h
theorem less_map {α β : Type} (f : α → β) (xs : List α) (j : Nat) : (less xs j).map f = less (xs.map f) j := by
  unfold less
  rw [List.map_append, List.map_take, List.map_drop]
/-- a new instance: what stood stands -/
theorem made_same {H H1 H2 : Hp} {x dx C : Addr} (s : Same H H1) (nx : H1 x = none) (nd : H1 dx = none) (sb : Sb x (upd (upd H1 dx (.own x)) x (.ins C dx [])) H2) : Same H H2 := by
  intro b o e
  have e1 := s b o e
  have n1 : b ≠ x := ne_of_none e1 nx
  refine sb b o n1 ?_
  rw [upd_ne n1, upd_ne (ne_of_none e1 nd)]
  exact e1
/-- Book.without(label), a label that is there -/
def spBookWithout (CR C : Addr) : Sp := fun vs H Q _ => ∃ (b : Addr) (z : Str) (rs : List Addr) (xs : List Rl) (j : Nat), vs = [.ref b, .str z] ∧ BA C H b rs ∧ RAs CR H rs xs ∧ xs.length ≤ 100 ∧ (xs.map Rl.l).Nodup ∧ (xs.map Rl.l)[j]? = some z ∧
  ∀ (b2 : Addr) (H' : Hp), H b2 = none → BA C H' b2 (less rs j) → Same H H' → Q (.ref b2) H'
theorem scBookWithout : FnScope ["self", "label", "place"] ["self", "label"] (defScope sBookWithout) := ⟨rfl, rfl, rfl, by decide +kernel, rfl, by decide +kernel, by decide +kernel⟩
theorem ok_bookWithout {f C CR fL fP fI : Addr} {fd dL dP dI : FuncData} (F : Fun K "without" "Book.without" sBookWithout f fd) (cl : Cls K C) (na : NoAttr K C "_rules")
    (GL : FnOk P w K mg base CX0 3 fL dL ["self"] (spBookLabels CR C)) (mL : Meth K C "labels" fL) (bL : Binds K dL ["self"] [])
    (GP : FnOk P w K mg base CX0 1 fP dP ["label", "labels"] (spPlace K)) (kP : PySem.W.keepIn K (.ref fP) = true) (gP : mg "_place" = some (.ref fP)) (bP : Binds K dP ["label", "labels"] [])
    (GI : FnOk P w K mg base CX0 3 fI dI ["self", "rules"] (spBookInit CR C)) (MI : Mk K C fI) (gB : mg "Book" = some (.ref C)) (bI : Binds K dI ["self", "rules"] []) : FnOk P w K mg base CX0 5 f fd ["self", "label"] (spBookWithout CR C) := by
  refine F.ok scBookWithout (fun vs H Q E h => ?_) (fun cdv A outer s H vs Q E hr h => ?_)
  · obtain ⟨b, z, rs, xs, j, rfl, _⟩ := h
    rfl
  · obtain ⟨b, z, rs, xs, j, rfl, ba, hx, hl, nd, hj, q⟩ := h
    obtain ⟨dx, l, eb, el⟩ := id ba
    have hr1 : Room 1 _ := hr.mono (by decide)
    have hr3 : Room 3 _ := hr.mono (by decide)
    have hxl := hx.len
    have hjl : j < rs.length := by
      have := (List.getElem?_eq_some_iff.mp hj).1
      rw [List.length_map] at this
      omega
    refine ⟨_, pss_cons (ps_set (i := 2) scBookWithout.nd rfl (Or.inl rfl) (by exact (pe_call GP hr1 (by rfl) gP kP bP .nil pass0 (pa_cons (pv 1) (pa_cons (by exact (pe_meth0 (pv 0) cl mL GL hr3 bL .nil pass0)) pa_nil)))))
      (pss_one (ps_ret (by exact (pe_make MI GI hr (by rfl) gB bI .nil pass0 (pa_cons (pe_op op_cat (pe_slice sl_list (pe_fld (pv 0) rfl) po_none (po_some (pv 2))) (pe_slice sl_list (pe_fld (pv 0) rfl) (po_some (pe_op op_add (pv 2) pe_int)) po_none)) pa_nil))))), ?_⟩
    refine ⟨_, rfl, _, rfl, b, dx, _, rfl, eb, (lk_no (by decide +kernel)), b, rs, xs, rfl, ba, hx, by omega, fun p H1 np s1 e1 => ?_⟩
    refine ⟨z, p, xs.map Rl.l, j, rfl, SqL.of e1, hj, nd, ?_⟩
    have hc1 : cutV (rs.map V.ref) none (some (j : Int)) = (rs.take j).map V.ref := by
      unfold cutV
      rw [HT.sIx_none, HT.sIx_nat, List.drop_zero, Nat.sub_zero, List.length_map, Nat.min_eq_left (by omega), List.map_take]
    have hc2 : cutV (rs.map V.ref) (some ((j : Int) + 1)) none = (rs.drop (j + 1)).map V.ref := by
      unfold cutV
      have e : ((j : Int) + 1) = ((j + 1 : Nat) : Int) := by omega
      rw [e, HT.sIx_none, HT.sIx_nat, List.length_map, Nat.min_eq_left (by omega), List.map_drop, List.take_of_length_le (by rw [List.length_drop, List.length_map]; exact Nat.le_refl _)]
    refine ⟨_, rfl, b, C, dx, _, _, rfl, s1 _ _ eb, cl, na, lkR, _, rfl, _, rfl, l, _, rfl, SqL.of (s1 _ _ el), fun q1 n1 => ?_⟩
    rw [hc1]
    have s2 : Same H (upd H1 q1 (.lst ((rs.take j).map V.ref))) := same_put s1 (s1.free n1)
    have g1 : upd H1 q1 (.lst ((rs.take j).map V.ref)) q1 = some (.lst ((rs.take j).map V.ref)) := upd_same
    generalize upd H1 q1 (.lst ((rs.take j).map V.ref)) = G2 at s2 g1 ⊢
    refine ⟨_, rfl, b, C, dx, _, _, rfl, s2 _ _ eb, cl, na, lkR, _, rfl, _, _, rfl, rfl, _, rfl, l, _, rfl, SqL.of (s2 _ _ el), fun q2 n2 => ?_⟩
    rw [hc2]
    have s3 : Same H (upd G2 q2 (.lst ((rs.drop (j + 1)).map V.ref))) := same_put s2 (s2.free n2)
    have g2 : upd G2 q2 (.lst ((rs.drop (j + 1)).map V.ref)) q1 = some (.lst ((rs.take j).map V.ref)) := same_new n2 _ _ g1
    have g3 : upd G2 q2 (.lst ((rs.drop (j + 1)).map V.ref)) q2 = some (.lst ((rs.drop (j + 1)).map V.ref)) := upd_same
    generalize upd G2 q2 (.lst ((rs.drop (j + 1)).map V.ref)) = G3 at s3 g2 g3 ⊢
    refine ⟨_, _, _, _, rfl, rfl, g2, g3, ?_, fun q3 n3 => ?_⟩
    · rw [List.length_map, List.length_map, List.length_take, List.length_drop]
      exact Nat.le_trans (by omega : _ ≤ 1000) (by decide)
    · have hls : (rs.take j).map V.ref ++ (rs.drop (j + 1)).map V.ref = (less rs j).map V.ref := by
        unfold less
        rw [List.map_append]
      rw [hls]
      have s4 : Same H (upd G3 q3 (.lst ((less rs j).map V.ref))) := same_put s3 (s3.free n3)
      have g4 : upd G3 q3 (.lst ((less rs j).map V.ref)) q3 = some (.lst ((less rs j).map V.ref)) := upd_same
      generalize upd G3 q3 (.lst ((less rs j).map V.ref)) = G4 at s4 g4 ⊢
      intro x dx2 nx ndx ne
      have s5 : Same G4 (upd (upd G4 dx2 (.own x)) x (.ins C dx2 [])) := fun b o e => by
        rw [upd_ne (ne_of_none e nx), upd_ne (ne_of_none e ndx)]
        exact e
      refine ⟨x, dx2, q3, less rs j, less xs j, rfl, upd_same, s5 _ _ g4, ?_, ?_, ?_, fun l1 H5 n1 sb e5 e6 => ⟨rfl, ?_⟩⟩
      · have h1 := hx.split j
        have h2 := hx.split (j + 1)
        exact RAs.same (RAs.same (h1.1.app h2.2) s4) s5
      · rw [less_map]
        exact List.Nodup.sublist (less_sub _ _) nd
      · have := (less_sub xs j).length_le
        omega
      · exact q x H5 (s4.free nx) ⟨dx2, l1, e5, e6⟩ (made_same s4 nx ndx sb)

end
end Nv
set_option maxHeartbeats 4000000
namespace Nv
open PySem PySem.Spec PyProof.Rows L2
section
variable {X : Cx} {C f : Addr} {k : Nat} {fd : FuncData} {ps : List Str} {sp : Sp}
/-- a def of the text, called at values from below the running body -/
theorem call_own {A : Around} {pins : List (Addr × Obj)} {σ : L2.St} {H : Hp} {s : Shared} {vs : List V} {us : List Value} {Q : VK} {E2 : Value → Shared → Prop} (F : FnOk X.prog X.w X.K X.mg X.base CX0 k f fd ps sp) (hr : Room k A) (fr : A.frames = X.A.frames) (hb : Binds X.K fd ps [])
    (I : Inv X pins σ H s) (r : Vals vs us) (h : sp vs H Q E0) : wpAny (model X.prog X.w) A (call (.ref f) us) (EP X pins σ Q) E2 s := by
  have e0 : Env0 X.prog X.w X.K X.mg X.base A X.stack s H := by
    have e := I.env0
    exact ⟨by rw [fr]; exact e.frames, e.mod, e.bs, e.bsz, e.funs, e.frf, e.hok, e.bare⟩
  have hl : us.length = ps.length := by rw [← F.len _ _ _ _ h, r.length]
  refine wpAny_call (codeAny_mono (F.run A X.stack s H ⟨us, []⟩ us vs Q E0 hr e0 (by simpa using hb s us I.kIn (by simpa using hl)) r h) fun q s1 hq => ?_)
  rcases q with e | fl
  · exact hq.elim
  cases fl with
  | ret w => exact I.after hq
  | _ => exact hq.elim
/-- x == y by the own __eq__ of x's class -/
def rOwnEq (K : PySem.W.Frag) (C : Addr) (sp : Sp) : R2 := fun x y H Q => ∃ (a dx : Addr) (fs : List (Str × V)) (t : Value), x = .ref a ∧ H a = some (.ins C dx fs) ∧ TyX K H y t ∧ PySem.W.notFirst K C t = true ∧ sp [x, y] H (fun v H' => ∃ b, v = .bl b ∧ Q (.bl b) H') E0
theorem op_ownEq (F : FnOk X.prog X.w X.K X.mg X.base CX0 k f fd ps sp) (hr : Room k X.A) (hs : PySem.W.findIn X.K (.ref C) "__eq__" = some (some (.ref f))) (hf : PySem.W.isFn X.K (.ref f) = true) (hb : Binds X.K fd ps []) : OpR X (compareOp .Eq) (rOwnEq X.K C sp) := by
  intro pins s σ H x y v u Q I rx ry hq
  obtain ⟨a, dx, fs, t, rfl, ha, ht, hn, hsp⟩ := hq
  obtain ⟨P, Z, p, _⟩ := kit_of I ry ht
  have ty := Z.ty (model X.prog X.w) s.heap I.kIn p
  cases rx
  obtain ⟨mA, J, _⟩ := ins_get I.hok ha
  obtain ⟨od, J, _⟩ := J.look
  obtain ⟨m, hF⟩ := I.fr
  show wpAny (model X.prog X.w) X.A (richCompare .Eq (.ref a) u) (EP X pins σ Q) X.xe s
  refine PySem.W.cmp_K (op := .Eq) (tb := t) hr.units0 hF I.ok.mod.kin J ty hn hs hf ?_
  refine wpAny_mono (call_own (X := X) F hr rfl hb I (vs := [.ref a, y]) (.cons rfl (.cons ry .nil)) hsp) (fun w s1 h => ?_) fun _ _ e => e
  obtain ⟨z, H1, I1, rz, b, rfl, q⟩ := h
  cases rz
  exact ⟨.bl b, H1, I1, rfl, q⟩
/-- len(x) by an own __len__ -/
def rOwnLen (C : Addr) (sp : Sp) : List V → Hp → VK → Prop := fun xs H Q => ∃ (a dx : Addr) (fs : List (Str × V)), xs = [.ref a] ∧ H a = some (.ins C dx fs) ∧ sp [.ref a] H (fun v H' => ∃ n : Int, v = .int n ∧ (0 ≤ n ∧ n < 2 ^ 63) ∧ Q (.int n) H') E0
theorem call_ownLen (F : FnOk X.prog X.w X.K X.mg X.base CX0 k f fd ps sp) (hr : Room k X.A.in1) (hs : PySem.W.findIn X.K (.ref C) "__len__" = some (some (.ref f))) (hf : PySem.W.isFn X.K (.ref f) = true) (hb : Binds X.K fd ps []) : CallR X (.builtin "len") (rOwnLen C sp) := by
  intro pins s σ H xs us Q I r hq
  obtain ⟨a, dx, fs, rfl, ha, hsp⟩ := hq
  obtain ⟨u, rfl, rx⟩ := vals1 r
  cases rx
  obtain ⟨mA, J, _⟩ := ins_get I.hok ha
  obtain ⟨od, J, _⟩ := J.look
  obtain ⟨m, hF⟩ := I.fr
  refine PySem.W.len_K hF I.ok.mod.kin J hs hf ?_
  refine wpAny_mono (call_own (X := X) F hr rfl hb I (vs := [.ref a]) (.cons rfl .nil) hsp) (fun w s1 h => ?_) fun _ _ e => e
  obtain ⟨z, H1, I1, rz, n, rfl, hn, q⟩ := h
  obtain ⟨t, rfl⟩ := rz
  exact ⟨hn, .int n, H1, I1.tok _, ⟨_, rfl⟩, q⟩
/-- x + y by an own __add__, both of one class -/
def rOwnAdd (C : Addr) (sp : Sp) : R2 := fun x y H Q => ∃ (a b dx dy : Addr) (fs gs : List (Str × V)), x = .ref a ∧ y = .ref b ∧ H a = some (.ins C dx fs) ∧ H b = some (.ins C dy gs) ∧ sp [x, y] H (fun v H' => ∃ c, v = .ref c ∧ Q (.ref c) H') E0
theorem op_ownAdd (F : FnOk X.prog X.w X.K X.mg X.base CX0 k f fd ps sp) (hr : Room k X.A) (hc : PySem.W.selfFirst X.K C = true) (hs : PySem.W.findIn X.K (.ref C) "__add__" = some (some (.ref f))) (hf : PySem.W.isFn X.K (.ref f) = true) (hb : Binds X.K fd ps []) : OpR X (binaryOp .Add) (rOwnAdd C sp) := by
  intro pins s σ H x y v u Q I rx ry hq
  obtain ⟨a, b, dx, dy, fs, gs, rfl, rfl, ha, hb2, hsp⟩ := hq
  cases rx
  cases ry
  obtain ⟨mA, J, _⟩ := ins_get I.hok ha
  obtain ⟨od, J, _⟩ := J.look
  obtain ⟨mB, J2, _⟩ := ins_get I.hok hb2
  obtain ⟨od2, J2, _⟩ := J2.look
  obtain ⟨m, hF⟩ := I.fr
  refine PySem.W.binop_K (op := .Add) hF I.ok.mod.kin J J2.type hc hs hf ?_
  refine wpAny_mono (call_own (X := X) F hr rfl hb I (vs := [.ref a, .ref b]) (.cons rfl (.cons rfl .nil)) hsp) (fun w s1 h => ?_) fun _ _ e => e
  obtain ⟨z, H1, I1, rz, c, rfl, q⟩ := h
  cases rz
  exact ⟨.ref c, H1, I1, rfl, q⟩
end
end Nv
set_option maxHeartbeats 4000000
namespace Nv
open PySem PySem.Spec PyProof.Rows L2 PySem.W
section
variable {prog : Program} {w : World} {A : Around} {E : Value → Shared → Prop} {s : Shared} {K : PySem.W.Frag} {x C f : Addr} {ox : Obj} {od : Option Obj} {b tb : Value}
/-- the body of the built-in != of an instance with an own ==, at another around -/
theorem ne_body {Q : Fin → Shared → Prop} (X : K.In s.heap) (I : InstAt s.heap x ox C od) (he : findIn K (.ref C) "__eq__" = some (some (.ref f))) (hf : isFn K (.ref f) = true) (hu : A.units < cLine)
    (h : wpAny (model prog w) A (call (.ref f) [.ref x, b]) (fun v s' => ∃ c, v = .bool c ∧ Q (.done (.ret (.bool (!c)))) s') E s) : wpAny (model prog w) A (Builtin.«object.__ne__» ⟨[.ref x, b], []⟩) Q E s := by
  have eq : wpAny (model prog w) A (callSpecialIfBound? (.ref x) "__eq__" [b]) (fun r s' => ∃ c, r = some (.bool c) ∧ Q (.done (.ret (.bool (!c)))) s') E s :=
    ifBound_K X I he hf (wpAny_mono h (fun v s' ⟨c, e, q⟩ => ⟨c, by rw [e], q⟩) fun _ _ e => e)
  unfold Builtin.«object.__ne__»
  repeat (first
    | with_reducible refine wpAny_cRoomFor hu ?_
    | (refine wpAny_bind (m := callSpecialIfBound? (.ref x) (Str.ofString "__eq__") [b]) (wpAny_mono eq (fun r s' hr => by
        obtain ⟨c, rfl, hq⟩ := hr
        repeat (first | exact hq | exact wpAny_pure hq | exact wpAny_truthy_bool hq | (refine wpAny_bind (m := truthy (.bool _)) (wpAny_truthy_bool ?_)) | wp_step)) fun _ _ e => e))
    | wp_step)
theorem ifBound_ne {args : List Value} {Q : Option Value → Shared → Prop} (X : K.In s.heap) (I : InstAt s.heap x ox C od) (hs : findIn K (.ref C) "__ne__" = some (some (.builtin "object.__ne__")))
    (h : wpAny (model prog w) A (call (.builtin "object.__ne__") (.ref x :: args)) (fun v => Q (some v)) E s) : wpAny (model prog w) A (callSpecialIfBound? (.ref x) "__ne__" args) Q E s := by
  simp only [callSpecialIfBound?, bindSpecialIfBound?]
  refine wpAny_holding (wpAny_bind (wpAny_bind (wpAny_bind (I.type.here ((looks_findIn X hs).here (wpAny_bind (wpAny_askSetting (wpAny_ite ?_))))))))
  have fin2 : wpAny (model prog w) A (call (.builtin "object.__ne__") ([.ref x] ++ args) >>= fun v => pure (some v)) Q E s := wpAny_bind (wpAny_mono h (fun v s' q => wpAny_pure q) fun _ _ q => q)
  split
  · exact wpAny_bind (wpAny_of_eq (F.cmp_object.ne.bind _) (wpAny_pure (by exact fin2)))
  · exact wpAny_tryCatch (wpAny_bind (wpAny_of_eq (F.cmp_object.ne.bind _) (wpAny_pure (by exact fin2))))
theorem rich_ne {Q : Value → Shared → Prop} (hu : A.units + 1 < cLine) (X : K.In s.heap) (I : InstAt s.heap x ox C od) (hm : mroIn K C (.type "object") = some true) (hb : Looks (model prog w) s.heap (typeOf b) tb) (hn : notFirst K C tb = true)
    (hne : findIn K (.ref C) "__ne__" = some (some (.builtin "object.__ne__"))) (he : findIn K (.ref C) "__eq__" = some (some (.ref f))) (hf : isFn K (.ref f) = true)
    (h : wpAny (model prog w) A.in1 (call (.ref f) [.ref x, b]) (fun v s' => ∃ c, v = .bool c ∧ Q (.bool (!c)) s') E s) : wpAny (model prog w) A (richCompare .NotEq (.ref x) b) Q E s := by
  have one : wpAny (model prog w) A (tryCompare (.ref x) "__ne__" b) (fun r s' => ∃ v, r = some v ∧ Q v s') E s := by
    unfold tryCompare
    refine wpAny_bind (ifBound_ne X I hne (wpAny_call (codeAny_call_builtin F.cmp_object.ne.plain F.cmpEntry_ne (check_slot F.cmpKind_ne F.cmpSplit_ne (I.type.andThen (looks_mroIn X hm)) (F.cmpArgs_ne _ _) (ne_body (A := A.in1) X I he hf hu (wpAny_mono h (fun v s' hv => ?_) fun _ _ e => e))))))
    obtain ⟨c, rfl, q⟩ := hv
    exact ⟨c, rfl, wpAny_pure ⟨_, rfl, q⟩⟩
  simp only [richCompare, cmpInfo_NotEq, oneThing_ref]
  refine wpAny_holding (wpAny_bind (wpAny_cRoomFor (Nat.lt_of_succ_lt hu) (wpAny_bind (I.type.here (wpAny_bind (hb.here ?_))))))
  split
  · rename_i z
    have e : subIn K tb (.ref C) = some false := by
      rcases Bool.or_eq_true_iff.mp hn with e | e
      · rw [beq_iff_eq.mp e] at z
        simp at z
      · exact beq_iff_eq.mp e
    refine wpAny_bind ((looks_subIn X e).here ?_)
    simp only [Bool.false_eq_true, if_false]
    refine wpAny_bind (wpAny_mono one (fun r s' ⟨v, e1, q⟩ => ?_) fun _ _ e => e)
    subst e1
    exact wpAny_pure q
  · refine wpAny_bind (wpAny_pure ?_)
    simp only [Bool.false_eq_true, if_false]
    refine wpAny_bind (wpAny_mono one (fun r s' ⟨v, e1, q⟩ => ?_) fun _ _ e => e)
    subst e1
    exact wpAny_pure q
end
section
variable {X : Cx} {C f : Addr} {k : Nat} {fd : FuncData} {ps : List Str} {sp : Sp}
/-- x != y by the own __eq__ of x's class -/
def rOwnNe (K : PySem.W.Frag) (C : Addr) (sp : Sp) : R2 := fun x y H Q => ∃ (a dx : Addr) (fs : List (Str × V)) (t : Value), x = .ref a ∧ H a = some (.ins C dx fs) ∧ TyX K H y t ∧ PySem.W.notFirst K C t = true ∧ sp [x, y] H (fun v H' => ∃ b, v = .bl b ∧ Q (.bl (!b)) H') E0
theorem op_ownNe (F : FnOk X.prog X.w X.K X.mg X.base CX0 k f fd ps sp) (hr : Room (k + 1) X.A) (hs : PySem.W.findIn X.K (.ref C) "__eq__" = some (some (.ref f))) (hne : PySem.W.findIn X.K (.ref C) "__ne__" = some (some (.builtin "object.__ne__"))) (hm : PySem.W.mroIn X.K C (.type "object") = some true)
    (hf : PySem.W.isFn X.K (.ref f) = true) (hb : Binds X.K fd ps []) : OpR X (compareOp .NotEq) (rOwnNe X.K C sp) := by
  intro pins s σ H x y v u Q I rx ry hq
  obtain ⟨a, dx, fs, t, rfl, ha, ht, hn, hsp⟩ := hq
  obtain ⟨P, Z, p, _⟩ := kit_of I ry ht
  have ty := Z.ty (model X.prog X.w) s.heap I.kIn p
  cases rx
  obtain ⟨mA, J, _⟩ := ins_get I.hok ha
  obtain ⟨od, J, _⟩ := J.look
  show wpAny (model X.prog X.w) X.A (richCompare .NotEq (.ref a) u) (EP X pins σ Q) X.xe s
  refine rich_ne (hu_of hr) I.kIn J hm ty hn hne hs hf ?_
  refine wpAny_mono (call_own (X := X) F hr.in1 rfl hb I (vs := [.ref a, y]) (.cons rfl (.cons ry .nil)) hsp) (fun w s1 h => ?_) fun _ _ e => e
  obtain ⟨z, H1, I1, rz, b, rfl, q⟩ := h
  cases rz
  exact ⟨b, rfl, .bl (!b), H1, I1, rfl, q⟩
end
end Nv
set_option maxHeartbeats 4000000
namespace Nv
open PySem PySem.Spec PyProof.Rows L2
abbrev sQInit : Stmt := inClass cQuestion 0
abbrev sQEq : Stmt := inClass cQuestion 1
/-- what a question is made of -/
structure Ql where
  cs : List Str
  ps : List (List Str)
  qs : List (List Str)
  deriving DecidableEq
structure Ql.Ok (x : Ql) : Prop where
  cs : ∀ y ∈ x.cs, IsVr y
  cl : x.cs.length ≤ 300
  ps : ∀ y ∈ x.ps, PatOk y
  pl : x.ps.length ≤ 300
  qs : ∀ y ∈ x.qs, PairOk y
  ql : x.qs.length ≤ 300
abbrev qF (l1 l2 l3 : Addr) : Flds := [("_columns", .ref l1), ("_told", .ref l2), ("_pairs", .ref l3)]
theorem qF2 {l1 l2 : Addr} : putF "_told" (V.ref l2) ([("_columns", V.ref l1)] : Flds) = ([("_columns", V.ref l1), ("_told", V.ref l2)] : Flds) := putF_new (ns := ["_columns"]) rfl (by decide +kernel)
theorem qF3 {l1 l2 l3 : Addr} : putF "_pairs" (V.ref l3) ([("_columns", V.ref l1), ("_told", V.ref l2)] : Flds) = qF l1 l2 l3 := putF_new (ns := ["_columns", "_told"]) rfl (by decide +kernel)
theorem qk1 {l1 l2 l3 : Addr} : (qF l1 l2 l3).lookup ("_columns" : Str) = some (V.ref l1) := lk_yes
theorem qk2 {l1 l2 l3 : Addr} : (qF l1 l2 l3).lookup ("_told" : Str) = some (V.ref l2) := (lk_no (by decide +kernel)).trans lk_yes
theorem qk3 {l1 l2 l3 : Addr} : (qF l1 l2 l3).lookup ("_pairs" : Str) = some (V.ref l3) := (lk_no (by decide +kernel)).trans ((lk_no (by decide +kernel)).trans lk_yes)
structure QC (K : PySem.W.Frag) (C : Addr) : Prop where
  cl : Cls K C
  n1 : NoAttr K C "_columns"
  n2 : NoAttr K C "_told"
  n3 : NoAttr K C "_pairs"
/-- the question x stands at r -/
def QA (C : Addr) (H : Hp) (r : Addr) (x : Ql) : Prop := ∃ (dx l1 l2 l3 : Addr) (us us2 : List V), H r = some (.ins C dx (qF l1 l2 l3)) ∧ H l1 = some (.lst (x.cs.map V.str)) ∧ (H l2 = some (.lst us) ∧ PaL H us x.ps) ∧ H l3 = some (.lst us2) ∧ PaL H us2 x.qs
theorem QA.same {C : Addr} {H H1 : Hp} {r : Addr} {x : Ql} (h : QA C H r x) (s : Same H H1) : QA C H1 r x := by
  obtain ⟨dx, l1, l2, l3, us, us2, e, e1, ⟨e2, p2⟩, e3, p3⟩ := h
  exact ⟨dx, l1, l2, l3, us, us2, s _ _ e, s _ _ e1, ⟨s _ _ e2, p2.same s⟩, s _ _ e3, p3.same s⟩
theorem free_sb {H G : Hp} {r l C dx : Addr} {fs : Flds} (s : Sb r H G) (e : G r = some (.ins C dx fs)) (n : G l = none) : l ≠ r ∧ H l = none := by
  have hn : l ≠ r := fun z => by
    rw [z, e] at n
    cases n
  refine ⟨hn, ?_⟩
  cases g : H l with
  | none => rfl
  | some o =>
    rw [s _ _ hn g] at n
    cases n
section
variable {P : Program} {w : World} {K : PySem.W.Frag} {mg : Str → Option Value} {base : Heap}
def spQInit (C : Addr) : Sp := fun vs H Q _ => ∃ (r dx tc tt : Addr) (cs : List Str) (us : List V) (ps : List (List Str)) (vp : V) (qs : List (List Str)), vs = [.ref r, .ref tc, .ref tt, vp] ∧ H r = some (.ins C dx []) ∧
  (H tc = some (.lst (cs.map V.str)) ∧ (∀ x ∈ cs, IsVr x) ∧ cs.length ≤ 300) ∧ (H tt = some (.lst us) ∧ PaL H us ps ∧ (∀ x ∈ ps, PatOk x) ∧ ps.length ≤ 300) ∧ (Opt H vp qs ∧ ∀ x ∈ qs, PairOk x) ∧ (hasMore cs ps = false ∧ hasMore qs.flatten ps = false) ∧
  ∀ (l1 l2 l3 : Addr) (us2 : List V) (H' : Hp), H l1 = none → H l2 = none → H l3 = none → Sb r H H' → H' r = some (.ins C dx (qF l1 l2 l3)) → H' l1 = some (.lst (cs.map V.str)) → H' l2 = some (.lst us) → PaL H' us ps → H' l3 = some (.lst us2) → PaL H' us2 qs → Q .non H'
theorem scQInit : FnScope ["self", "columns", "told", "pairs", "part"] ["self", "columns", "told", "pairs"] (defScope sQInit) := ⟨rfl, rfl, rfl, by decide +kernel, rfl, by decide +kernel, by decide +kernel⟩
theorem ok_qInit {f C : Addr} {fd : FuncData} (F : FunD K "__init__" "Question.__init__" (defArgs sQInit) (defBody sQInit) (defScope sQInit) [.non] [] f fd) (B : Bp mg) (R : QC K C) (T : Ct P w K mg base) :
    FnOk P w K mg base CX0 5 f fd ["self", "columns", "told", "pairs"] (spQInit C) := by
  obtain ⟨fN, dN, GN, kN, gN, bN⟩ := T.vr
  obtain ⟨fS, dS, GS, kS, gS, bS⟩ := T.ps
  obtain ⟨fR, dR, GR, kR, gR, bR⟩ := T.pr
  obtain ⟨fD, dD, GD, kD, gD, bD⟩ := T.sd
  obtain ⟨fM, dM, GM, kM, gM, bM⟩ := T.hm
  refine F.ok scQInit (fun vs H Q E h => ?_) (fun cdv A outer s H vs Q E hr h => ?_)
  · obtain ⟨r, dx, tc, tt, cs, us, ps, vp, qs, rfl, _⟩ := h
    rfl
  · obtain ⟨r, dx, tc, tt, cs, us, ps, vp, qs, rfl, er, ⟨ec, hc, hcl⟩, ⟨et, hp, hok, hpl⟩, ⟨oq, hq⟩, ⟨m1, m2⟩, q⟩ := h
    have hr1 : Room 1 _ := hr.mono (by decide)
    refine ⟨_, pss_cons (ps_if (PW.pt (pw_or (pt_not (pt_val (pe_callB call_isi (by rfl) B.isi bootIsi (pa_cons (pv 1) (pa_cons (pe_bltn (v := V.ty "list") (by rfl) B.lst PyProof.Rows.boot_list rfl) pa_nil)))))
        (pw_or1 (pt_not (pt_val (pe_callB (cr_all rfl) (by rfl) B.all bootAll (pa_cons (by exact (pe_lc (own := [("part", 4)]) (g := gName 4) (tt := tYes) (te := tCall (spTxt K fun z => decide (IsVr z)) [] E0 (tCons (tVar 4) tNil)) rfl scQInit.nd (pi_list (pv 1))
          (blkOk_by (own := [("part", 4)]) (N := ["self", "columns", "told", "pairs", "part"]) (sc := defScope sQInit) (by decide +kernel))
          (fun _ _ _ _ _ => pg_name (i := 4) scQInit.nd rfl (Or.inl rfl)) (fun _ _ _ _ _ => pts_nil)
          (fun _ _ _ _ _ => by exact (pe_call GN hr1 (by rfl) gN kN bN .nil pass0 (pa_cons (pv 4) pa_nil))))) pa_nil))))))) (pss_one ps_never) pss_nil)
      (pss_cons (ps_if (pt_not (pt_val (by exact (pe_call GS hr (by rfl) gS kS bS .nil pass0 (pa_cons (pv 2) pa_nil))))) (pss_one ps_never) pss_nil)
      (pss_cons (ps_if (PW.pt (pw_and (pt_cmpR op_notN (pv 3) pe_non (nomark _)) (pw_and1 (pt_not (pt_val (by exact (pe_call GR hr (by rfl) gR kR bR .nil pass0 (pa_cons (pv 3) pa_nil)))))))) (pss_one ps_never) pss_nil)
      (pss_cons (ps_if (pt_val (by exact (pe_call GM hr (by rfl) gM kM bM .nil pass0 (pa_cons (pv 1) (pa_cons (pv 2) pa_nil))))) (pss_one ps_never) pss_nil)
      (pss_cons (ps_if (pt_val (by exact (pe_call GM hr (by rfl) gM kM bM .nil pass0 (pa_cons (by exact (pe_call GD hr1 (by rfl) gD kD bD .nil pass0 (pa_cons (pe_orT (pv 3) (pe_one (pe_lst pa_nil))) pa_nil))) (pa_cons (pv 2) pa_nil))))) (pss_one ps_never) pss_nil)
      (pss_cons (ps_fld (pv 0) (pe_callTy call_list_of (by rfl) B.lst PyProof.Rows.boot_list (pa_cons (pv 1) pa_nil)) rfl)
      (pss_cons (ps_fld (pv 0) (pe_callTy call_list_of (by rfl) B.lst PyProof.Rows.boot_list (pa_cons (pv 2) pa_nil)) rfl)
      (pss_one (ps_fld (pv 0) (pe_callTy call_list_of (by rfl) B.lst PyProof.Rows.boot_list (pa_cons (pe_orT (pv 3) (pe_one (pe_lst pa_nil))) pa_nil)) rfl)))))))), ?_⟩
    refine ⟨_, rfl, _, _, _, _, true, rfl, .ty _, tyx_lst ec, kit_ty (by decide +kernel), true, rfl, iteF ?_⟩
    refine ⟨_, rfl, tc, rfl, ⟨_, SqL.of ec⟩, fun D nD => ?_⟩
    refine lc_list (K := K) (a := tc) (xs := cs.map V.str) (fun i H' => Same H H' ∧ H' D = some (.lst ((cs.take i).map fun _ => V.bl true))) ⟨same_new nD, upd_same⟩ (fun i H' _ y => SqL.of (y.1 _ _ ec)) ?_ ?_
    · rintro i v H1 hi ⟨s1, e1⟩
      obtain ⟨z, hz, rfl⟩ := at_map hi
      have hv := hc z (List.mem_of_getElem? hz)
      refine ⟨rfl, _, rfl, ?_⟩
      dsimp only [tNil]
      refine spTxt.yes (by have := hv.2.1; omega) fun H2 s2 => ?_
      show ∃ acc, H2 D = some (.lst acc) ∧ acc.length < sizeLine ∧ _
      rw [decide_eq_true hv]
      refine ⟨_, s2 _ _ e1, ?_, same_put (s1.trans s2) nD, ?_⟩
      · rw [List.length_map, List.length_take]
        exact Nat.lt_of_le_of_lt (by omega : _ ≤ 300) (by decide)
      · rw [upd_same, take_one hz, List.map_append] <;> rfl
    · rintro H1 ⟨s1, e1⟩
      rw [List.length_map, List.take_length] at e1
      refine ⟨D, cs.map fun _ => true, rfl, SqL.of (by rw [e1, List.map_map] <;> rfl), _, rfl, ?_⟩
      have eall : (cs.map fun _ => true).all id = true := by simp
      rw [eall]
      refine iteF ?_
      have tq : Tps K H1 (.ref tt) (some (ps.map fun q => some (q.map some))) := ⟨tt, us, rfl, s1 _ _ et, (hp.same s1).tps fun p hpp => (hok p hpp).small, by rw [List.length_map]; omega⟩
      refine ⟨_, rfl, _, _, rfl, tq, fun H2 s2 => ⟨_, rfl, ?_⟩⟩
      rw [all_yes fun x hx => (hok x hx).yes]
      refine iteF ?_
      have s12 := s1.trans s2
      show tSeq _ _ _ _ _
      refine if_opt (v := vp) (o := oq.same s12) rfl (fun x hx => (hq x hx).small) (fun x hx => (hq x hx).yes) fun G3 s3 => ?_
      have s13 := s12.trans s3
      refine ⟨_, rfl, _, rfl, tc, tt, cs, us, ps, rfl, ⟨.inl (SqL.of (s13 _ _ ec)), fun x hx => by have := (hc x hx).2.1; omega, by omega⟩, ⟨SqL.of (s13 _ _ et), hp.same s13, hok, by omega⟩, fun G4 s4 => ⟨_, rfl, ?_⟩⟩
      rw [m1]
      refine iteF ?_
      replace s13 := s13.trans s4
      show tSeq _ _ _ _ _
      refine if_sides (K := K) (v := vp) (o := oq.same s13) rfl rfl (fun x hx => hq x hx) (s13 _ _ et) (hp.same s13) hok hpl m2 fun G9 s8 => ?_
      replace s13 := s13.trans s8
      clear s8 s4 s3
      refine ⟨_, rfl, tc, _, rfl, .inl (SqL.of (s13 _ _ ec)), fun l1 n1 => ⟨_, rfl, r, C, dx, [], rfl, same_new n1 _ _ (s13 _ _ er), R.cl, R.n1, (by show 0 < 1000; decide), ?_⟩⟩
      have l1r : l1 ≠ r := fun z => by
        rw [z, s13 _ _ er] at n1
        cases n1
      have n1H := s13.free n1
      have f1 : Sb r H (upd (upd G9 l1 (.lst (cs.map V.str))) r (.ins C dx (putF "_columns" (V.ref l1) []))) := (Sb.of (same_put s13 n1H)).trans Sb.upd
      have e2 : upd (upd G9 l1 (.lst (cs.map V.str))) r (.ins C dx (putF "_columns" (V.ref l1) [])) r = some (.ins C dx [("_columns", .ref l1)]) := upd_same
      have el1 : upd (upd G9 l1 (.lst (cs.map V.str))) r (.ins C dx (putF "_columns" (V.ref l1) [])) l1 = some (.lst (cs.map V.str)) := by rw [upd_ne l1r, upd_same]
      generalize upd (upd G9 l1 (.lst (cs.map V.str))) r (.ins C dx (putF "_columns" (V.ref l1) [])) = G at f1 e2 el1 ⊢
      have tne : tt ≠ r := fun z => by
        rw [z, er] at et
        cases et
      refine ⟨_, rfl, tt, us, rfl, .inl (SqL.of (f1 _ _ tne et)), fun l2 n2 => ⟨_, rfl, r, C, dx, _, rfl, same_new n2 _ _ e2, R.cl, R.n2, (by show 1 < 1000; decide), ?_⟩⟩
      rw [qF2]
      obtain ⟨l2r, n2H⟩ := free_sb f1 e2 n2
      have l12 : l1 ≠ l2 := fun z => by
        rw [← z, el1] at n2
        cases n2
      have f2 : Sb r H (upd (upd G l2 (.lst us)) r (.ins C dx [("_columns", V.ref l1), ("_told", V.ref l2)])) := (f1.put n2H).trans Sb.upd
      have e3 : upd (upd G l2 (.lst us)) r (.ins C dx [("_columns", V.ref l1), ("_told", V.ref l2)]) r = some (.ins C dx [("_columns", V.ref l1), ("_told", V.ref l2)]) := upd_same
      have el1' : upd (upd G l2 (.lst us)) r (.ins C dx [("_columns", V.ref l1), ("_told", V.ref l2)]) l1 = some (.lst (cs.map V.str)) := by rw [upd_ne l1r, upd_ne l12]; exact el1
      have el2 : upd (upd G l2 (.lst us)) r (.ins C dx [("_columns", V.ref l1), ("_told", V.ref l2)]) l2 = some (.lst us) := by rw [upd_ne l2r, upd_same]
      generalize upd (upd G l2 (.lst us)) r (.ins C dx [("_columns", V.ref l1), ("_told", V.ref l2)]) = G3 at f2 e3 el1' el2 ⊢
      refine fld_list (K := K) (v := vp) (oq.sbo er f2) rfl rfl e3 R.cl R.n3 (by show 2 < 1000; decide) fun l3 us2 G5 n3 s5 e5 el3 p3 => ?_
      rw [qF3] at e5
      obtain ⟨l3r, n3H⟩ := free_sb f2 e3 n3
      exact q l1 l2 l3 us2 G5 n1H n2H n3H (f2.trans s5) e5 (s5 _ _ l1r el1') (s5 _ _ l2r el2) ((hp.sbo er f2).sbo e3 s5) el3 p3
end
end Nv
set_option maxHeartbeats 4000000
namespace PySem
namespace Xv
open PySem.W PySem.Calls PyProof.Rows PySem.HandSPX
section
variable {prog : Program} {w : World} {A : Around} {E : Value → Shared → Prop} {R : Result → Shared → Prop}
variable {h : Heap} {g : Array GenState} {d : Drawn} {t : Nat} {os : OsState}
variable {nm q : Str} {C N : Addr} {bs bm bmB : List Value} {hdct : Bool} {sn : List Str} {sub : List Value} {ab : Bool}
variable {col : Option Bool} {dd : Option Addr} {k0 k1 k2 k3 k5 : Option Value} {B newId initId : String}
variable {kw : List (Str × Value)} {rest : List Value}
abbrev Holds (h : Heap) (nm q : Str) (C N : Addr) (bs bm : List Value) (hdct : Bool) (sn : List Str) (sub : List Value) (ab : Bool)
    (col : Option Bool) (dd : Option Addr) (k0 k1 k2 k3 k5 : Option Value) (newId : String) : Prop :=
  h.get? C = some (excClassObj nm q C N bs bm hdct sn sub ab col dd k0 k1 k2 k3 k5 newId)
abbrev AlikeTypes (bm bmB : List Value) : Prop := ∀ X : String, bm.contains (.type X) = bmB.contains (.type X)

theorem check_new (F : ExcBaseFacts B newId initId bmB) (hT : AlikeTypes bm bmB) {M : Model} {Q : Unit → Shared → Prop}
    (hC : Holds h nm q C N bs bm hdct sn sub ab col dd k0 k1 k2 k3 k5 newId) (hq : Q () ⟨h, g, d, t, os⟩) :
    wpAny M A (checkBuiltinCall newId ⟨.ref C :: rest, kw⟩) Q E ⟨h, g, d, t, os⟩ := by
  have has : (Value.ref C :: bm).contains (.type B) = true := by rw [List.contains_cons, hT, F.hasB, Bool.or_true]
  have star := F.noStar
  simp only [checkBuiltinCall, F.newKind, F.newSplit, F.newRow]
  repeat (first
    | refine wpAny_loadPart_at hC ?_
    | (refine wpAny_isSubtype_exc hC ?_; rw [has])
    | refine wpAny_staticBase_exc hC ?_
    | refine wpAny_madeBy_exc hC ?_
    | simp only [bne_self_eq_false, Bool.false_eq_true, if_false]
    | wp_step)
  exact hq

theorem new_kw (F : ExcBaseFacts B newId initId bmB) (hT : AlikeTypes bm bmB)
    (hC : Holds h nm q C N bs bm hdct sn sub ab col dd k0 k1 k2 k3 k5 newId)
    (hq : R (.ok (.ret (.ref (h.objs.size + 1)))) ⟨(h.push (kdv_tup rest)).push (excO C h.objs.size), g, d, t, os⟩) (hz : rest.length ≤ sizeLine) :
    codeAny (model prog w) A (.builtin newId ⟨.ref C :: rest, kw⟩) R ⟨h, g, d, t, os⟩ := by
  have ends := F.ends
  have hasB : (Value.ref C :: bm).contains (.type B) = true := by rw [List.contains_cons, hT, F.hasB, Bool.or_true]
  have hasA : (Value.ref C :: bm).contains (.type "AttributeError") = false := by rw [List.contains_cons, hT, F.noAttr]; rfl
  have hasN : (Value.ref C :: bm).contains (.type "NameError") = false := by rw [List.contains_cons, hT, F.noName]; rfl
  refine codeAny_builtinAt F.entry ?_
  unfold Builtin.«BaseException.__new__»
  refine wpAt_bind ?_
  show wpAt _ _ _ (stack >>= _) _ _ _
  refine wpAt_bind (wpAt_stack fun p below => wpAt_of_wpAny ?_)
  wp_walk
  refine wpAt_of_wpAny ?_
  rw [F.owner]
  repeat (first
    | with_reducible refine wpAny_madeHere_exc F.canon hC ?_
    | with_reducible refine wpAny_loadPart_at hC ?_
    | (with_reducible refine wpAny_isSubtype_exc hC ?_; first | rw [hasB] | rw [hasA] | rw [hasN])
    | wp_step)
  show R _ _
  rw [Heap.size_push]
  exact hq

theorem tcall_kw (F : ExcBaseFacts B newId initId bmB) (hT : AlikeTypes bm bmB) {fI : Addr} {Q : Fin → Shared → Prop}
    (hC : Holds h nm q C N bs bm hdct sn sub ab col dd k0 k1 k2 k3 k5 newId)
    (hi : W.Looks (model prog w) h (typeLookup (.ref C) "__init__") (some (.ref fI)))
    (hb : ∀ self, W.Looks (model prog w) h (bindSpecial (.ref fI) self) (.ref fI, [self])) (hz : rest.length ≤ sizeLine)
    (hq : codeAny (model prog w) A (.call (.ref fI) ⟨.ref (h.objs.size + 1) :: rest, kw⟩)
      (fun r s' => match r with | .ok (.ret v) => v = .none ∧ Q (.done (.ret (.ref (h.objs.size + 1)))) s' | .ok _ => False | .error e => E e s')
      ⟨(h.push (kdv_tup rest)).push (excO C h.objs.size), g, d, t, os⟩) :
    wpAny (model prog w) A (Builtin.«type.__call__» ⟨.ref C :: rest, kw⟩) Q E ⟨h, g, d, t, os⟩ := by
  repeat (first
    | with_reducible refine wpAny_loadPart_at hC ?_
    | with_reducible refine wpAny_madeBy_exc hC ?_
    | wp_step)
  refine codeAny_call_builtin_code (Code.quiet_builtin _ F.quiet) (check_new F hT hC ?_)
  refine new_kw F hT hC ?_ hz
  show wpAny _ _ _ _ _ _
  have k : ∀ b o, h.get? b = some o → ((h.push (kdv_tup rest)).push (excO C h.objs.size)).get? b = some o :=
    fun b o e => Heap.get?_push_of_some _ (Heap.get?_push_of_some _ e)
  have hC1 := k _ _ hC
  have hget : ((h.push (kdv_tup rest)).push (excO C h.objs.size)).get? (h.objs.size + 1) = some (excO C h.objs.size) := by heap_get
  have self : (Value.ref C :: bm).contains (.ref C) = true := by simp
  have i1 := hi.keeps k
  have b1 := (hb (.ref (h.objs.size + 1))).keeps k
  unfold isInstance
  repeat (first
    | with_reducible refine wpAny_loadPart_at hget ?_
    | (with_reducible refine wpAny_isSubtype_exc hC1 ?_; rw [self])
    | wp_step)
  show wpAny _ _ (typeLookup (.ref C) _) _ _ _
  refine i1.at ?_
  refine wpAny_holding (wpAny_bind (b1.at ?_))
  refine wpAny_bind (wpAny_call (codeAny_mono hq fun r s' z => ?_))
  rcases r with e | (v | _ | _ | _) <;> first | exact z | exact z.elim | skip
  obtain ⟨rfl, z⟩ := z
  first
    | exact wpAny_pure (wpAny_pure z)
    | (wp_walk; exact z)

theorem call_kw (F : ExcBaseFacts B newId initId bmB) (hT : AlikeTypes bm bmB) {fI : Addr}
    (hC : Holds h nm q C N bs bm hdct sn sub ab col dd k0 k1 k2 k3 k5 newId)
    (hi : W.Looks (model prog w) h (typeLookup (.ref C) "__init__") (some (.ref fI)))
    (hb : ∀ self, W.Looks (model prog w) h (bindSpecial (.ref fI) self) (.ref fI, [self])) (hz : rest.length ≤ sizeLine)
    (typ : W.Looks (model prog w) h (isInstance (.ref C) (.type "type")) true)
    (hq : codeAny (model prog w) (A.under (.builtin "type.__call__" ⟨.ref C :: rest, kw⟩)) (.call (.ref fI) ⟨.ref (h.objs.size + 1) :: rest, kw⟩)
      (W.InitBack (h.objs.size + 1) R) ⟨(h.push (kdv_tup rest)).push (excO C h.objs.size), g, d, t, os⟩) :
    codeAny (model prog w) A (.call (.ref C) ⟨rest, kw⟩) R ⟨h, g, d, t, os⟩ := by
  have f1 := tc_lookup
  have f2 := tc_bind (.ref C)
  have hTy : (⟨h, g, d, t, os⟩ : Shared).TypeIs (.ref C) "type" := ⟨_, hC, rfl⟩
  refine codeAny_of_tree ?_
  show wpAny _ _ (callAny (.ref C) _) _ _ _
  repeat (any_goals (first | assumption | with_reducible refine wpAny_loadPart_at hC ?_ | wp_step))
  refine ⟨rfl, ?_⟩
  refine codeAny_call_builtin_at (Code.quiet_builtin _ (by decide +kernel)) entry_typeCall (W.check_slot tc_kind tc_split typ (tc_args _ _ _) ?_)
  refine tcall_kw F hT hC hi hb hz ?_
  refine codeAny_mono hq fun r s' z => ?_
  rcases r with e | (v | _ | _ | _) <;> exact z
end
end Xv
end PySem
set_option maxHeartbeats 4000000
namespace L2
open PySem PySem.Spec PyProof.Rows
/-- at a stands an exception of the class at C whose one field f holds v -/
def EA (H : Hp) (a C : Addr) (f : Str) (v : V) : Prop := ∃ d, H a = some (exo a C (some d)) ∧ H d = some (exd d [(f, v)])
theorem EA.mono {H H' : Hp} {a C : Addr} {f : Str} {v : V} (x : EA H a C f v) (e : Same H H') : EA H' a C f v :=
  let ⟨d, h1, h2⟩ := x
  ⟨d, e _ _ h1, e _ _ h2⟩
/-- the promise of such a class's __init__ -/
def spXI (C : Addr) (f : Str) : Sp := fun vs H Q _ => ∃ (a : Addr) (v : V), vs = [.ref a, v] ∧ H a = some (exo a C none) ∧
  ∀ dx, H dx = none → dx ≠ a → Q .non (upd (upd H dx (exd dx [(f, v)])) a (exo a C (some dx)))
/-- what is known of an exception class x (at C, its field f) behind the top -/
structure XC (P : Program) (w : World) (K : PySem.W.Frag) (mg : Str → Option Value) (base : Heap) (x f : Str) (C : Addr) : Prop where
  oex : OexC K C
  gC : mg x = some (.ref C)
  noF : PySem.W.findIn K (.ref C) f = some none
  ga : PySem.W.findIn K (.ref C) "__getattribute__" = some (some (.builtin "BaseException.__getattribute__"))
  gg : PySem.W.findIn K (.ref C) "__getattr__" = some none
  hdC : PySem.W.hasDictIn K C = true
  run : ∃ (fI : Addr) (fd : FuncData), PySem.W.findIn K (.ref C) "__init__" = some (some (.ref fI)) ∧ PySem.W.typeIn K (.ref fI) = some (.type "function") ∧
    FnOk P w K mg base CX0 1 fI fd ["self", f] (spXI C f) ∧
    (∀ (s : Shared) (a b : Value), K.In s.heap → BindsTo s fd ⟨[a, b], []⟩ ((["self", f] : List Str).zip [a, b])) ∧
    (∀ (s : Shared) (a : Value), K.In s.heap → BindsTo s fd ⟨[a], []⟩ ((["self", f] : List Str).zip [a, .none])) ∧
    (∀ (s : Shared) (a b : Value), K.In s.heap → BindsTo s fd ⟨[a], ([f] : List Str).zip [b]⟩ ((["self", f] : List Str).zip [a, b]))
section
variable {X : Cx} {x f : Str} {C : Addr}
theorem run_x {pins : List (Addr × Obj)} {σ : St} {H : Hp} {s : Shared} {Q : VK} {us : List Value} {kw : List (Str × Value)} {v : V} {u : Value} {fI : Addr} {fd : FuncData} (T : OexC X.K C)
    (iC : PySem.W.findIn X.K (.ref C) "__init__" = some (some (.ref fI))) (tI : PySem.W.typeIn X.K (.ref fI) = some (.type "function"))
    (F1 : FnOk X.prog X.w X.K X.mg X.base CX0 1 fI fd ["self", f] (spXI C f)) (hr : Room 2 X.A) (I : Inv X pins σ H s) (hz : us.length ≤ 1000) (rv : RelV v u)
    (hb : ∀ (s : Shared) (a : Value), X.K.In s.heap → BindsTo s fd ⟨a :: us, kw⟩ ((["self", f] : List Str).zip [a, u]))
    (h : ∀ (a : Addr) (H' : Hp), H a = none → Same H H' → EA H' a C f v → Q (.ref a) H') :
    wpAny (model X.prog X.w) X.A (call (.ref C) us kw) (EP X pins σ Q) X.xe s := by
  obtain ⟨nm, q, N, bs, bm, sn, sub, ab, col, dd, k0, k1, k2, k3, k5, hC, hbm⟩ := T.cls
  have kin := I.kIn
  have typ : PySem.W.Looks (model X.prog X.w) s.heap (isInstance (.ref C) (.type "type")) true :=
    (PySem.W.looks_typeIn kin T.tyC).andThen (PySem.W.looks_subIn kin (show PySem.W.subIn X.K (.type "type") (.type "type") = some true by rfl))
  obtain ⟨hp, g, dr, tk, os⟩ := s
  have hsz : hp.objs.size ≤ hp.objs.size + 1 := Nat.le_succ _
  have hn : H (hp.objs.size + 1) = none := I.hok.fresh hsz
  have old : ∀ b o, hp.get? b = some o → ((hp.push (PySem.W.kdv_tup us)).push (PySem.HandSPX.excO C hp.objs.size)).get? b = some o :=
    fun b o e => Heap.get?_push_of_some _ (Heap.get?_push_of_some _ e)
  have there : ((hp.push (PySem.W.kdv_tup us)).push (PySem.HandSPX.excO C hp.objs.size)).get? (hp.objs.size + 1) = some (PySem.HandSPX.excO C hp.objs.size) := by heap_get
  have I2 := I.laid (t' := tk) (a := hp.objs.size + 1) (o := exo (hp.objs.size + 1) C none) old hsz (exo_ok there)
  have r2 : Vals [V.ref (hp.objs.size + 1), v] [Value.ref (hp.objs.size + 1), u] := .cons rfl (.cons rv .nil)
  have hus : us.length ≤ sizeLine := by
    rw [sizeLine_eq]
    omega
  refine wpAny_call (PySem.Xv.call_kw (kw := kw) F.excBase_ValueError (fun Y => PySem.HandSPX.refsVE_contains Y bm hbm) (kin _ _ hC) (PySem.W.looks_findIn kin iC)
    (fun self => PySem.W.bind_fn kin self tI) hus typ (codeAny_mono (F1.run _ X.stack _ (upd H (hp.objs.size + 1) (exo (hp.objs.size + 1) C none)) ⟨Value.ref (hp.objs.size + 1) :: us, kw⟩ [Value.ref (hp.objs.size + 1), u] _
      (fun r H2 => r = .non ∧ ∃ dx, dx ≠ hp.objs.size + 1 ∧ H dx = none ∧ H2 = upd (upd (upd H (hp.objs.size + 1) (exo (hp.objs.size + 1) C none)) dx (exd dx [(f, v)])) (hp.objs.size + 1) (exo (hp.objs.size + 1) C (some dx)))
      (fun _ _ _ => False) (hr.make C us kw) (I2.env0.make C us kw) (hb _ _ I2.kIn) r2 ?_) fun r s' hq' => ?_))
  · refine ⟨_, v, rfl, upd_same, fun dx nd ne => ⟨rfl, dx, ne, ?_, rfl⟩⟩
    rw [upd_ne ne] at nd
    exact nd
  cases r with
  | error er => exact False.elim hq'
  | ok fl =>
    cases fl with
    | ret z =>
      obtain ⟨r, H2, I3, rr, er, dx, ne, nd, eH⟩ := I2.after hq'
      subst er
      have same : Same H H2 := fun b o e => by
        have n1 : b ≠ hp.objs.size + 1 := ne_of_none e hn
        have n2 : b ≠ dx := ne_of_none e nd
        rw [eH, upd_ne n1, upd_ne n2, upd_ne n1]
        exact e
      refine ⟨rr, V.ref (hp.objs.size + 1), H2, I3, rfl, h _ H2 hn same ⟨dx, ?_, ?_⟩⟩
      · rw [eH]
        exact upd_same
      · rw [eH, upd_ne ne]
        exact upd_same
    | next => exact False.elim hq'
    | brk => exact False.elim hq'
    | cont => exact False.elim hq'
/-- C(e) -/
def tX1 (C : Addr) (f : Str) (te : TE) : TE := fun σ H Q => te σ H fun y H1 => ∃ v, [y] = [v] ∧
  ∀ (a : Addr) (H' : Hp), H1 a = none → Same H1 H' → EA H' a C f v → Q (.ref a) H'
/-- C() -/
def tX0 (C : Addr) (f : Str) : TE := fun _ H Q => ∀ (a : Addr) (H' : Hp), H a = none → Same H H' → EA H' a C f .non → Q (.ref a) H'
variable {e : Expr} {te : TE} {p pos kpos : Pos}
theorem pe_x1 (c : XC X.prog X.w X.K X.mg X.base x f C) (hr : Room 2 X.A) (hg : Gl X x) (he : PE X e te)
    (hs : starEach [e] X.env = (false, eval e X.env) :: starEach [] X.env := by rfl) (hdb : (x == ("__debug__" : Str)) = false := by decide)
    (hpl : (backTo pos (starEach [] X.env)).any (·.1) = false := by rfl) :
    PE X (.Call (.Name x p) [e] [] pos) (tX1 C f te) := by
  obtain ⟨fI, fd, iC, tI, F1, b2, _, _⟩ := c.run
  refine ⟨fun pins s σ H Q I h => ?_⟩
  refine wpAny_Call_Name_kw (ld_glob I hg c.gC ?_ hdb)
  have ha : PA X [e] (tCons te tNil) := pa_cons he pa_nil hs
  refine PySem.W.callWith_K (h₀ := X.base) I.ok.mod.kin c.oex.kC (thn (ha.run pos pins s σ H (fun vs H1 => ∃ v, vs = [v] ∧ ∀ (a : Addr) (H' : Hp), H1 a = none → Same H1 H' → EA H' a C f v → Q (.ref a) H') I h)
    fun us s1 ⟨vs, H1, I1, r1, v, ev, q1⟩ => ⟨I1.kIn, ?_⟩) hs hpl
  subst ev
  cases r1 with
  | cons rv rn =>
    cases rn
    exact run_x c.oex iC tI F1 hr I1 (by show 1 ≤ 1000; decide) rv (fun s a k => b2 s a _ k) q1
theorem pe_x0 (c : XC X.prog X.w X.K X.mg X.base x f C) (hr : Room 2 X.A) (hg : Gl X x) (hdb : (x == ("__debug__" : Str)) = false := by decide) :
    PE X (.Call (.Name x p) [] [] pos) (tX0 C f) := by
  obtain ⟨fI, fd, iC, tI, F1, _, b1, _⟩ := c.run
  refine ⟨fun pins s σ H Q I h => ?_⟩
  refine wpAny_Call_Name_kw (ld_glob I hg c.gC ?_ hdb)
  exact PySem.W.callWith_K0 I.kIn c.oex.kC (run_x (us := []) (u := .none) (v := .non) c.oex iC tI F1 hr I (Nat.zero_le _) rfl (fun s a k => b1 s a k) h)
/-- C(f=e) -/
theorem pe_xk (c : XC X.prog X.w X.K X.mg X.base x f C) (hr : Room 2 X.A) (hg : Gl X x) (he : PE X e te) (hdb : (x == ("__debug__" : Str)) = false := by decide) :
    PE X (.Call (.Name x p) [] [⟨some f, e, kpos⟩] pos) (tX1 C f te) := by
  obtain ⟨fI, fd, iC, tI, F1, _, _, bk⟩ := c.run
  refine ⟨fun pins s σ H Q I h => ?_⟩
  refine wpAny_Call_Name_kw (ld_glob I hg c.gC ?_ hdb)
  have hk : PK X [⟨some f, e, kpos⟩] (tCons te tNil) := pk_cons he pk_nil
  refine PySem.W.callWith_KW0 (h₀ := X.base) I.ok.mod.kin c.oex.kC (by rfl) ?_ (by rfl)
  refine thn (hk.run pos pins s σ H (fun vs H1 => ∃ v, vs = [v] ∧ ∀ (a : Addr) (H' : Hp), H1 a = none → Same H1 H' → EA H' a C f v → Q (.ref a) H') I h) fun us s1 ⟨vs, H1, I1, r1, v, ev, q1⟩ => ⟨I1.kIn, ?_⟩
  subst ev
  cases r1 with
  | cons rv rn =>
    cases rn
    exact run_x (us := []) c.oex iC tI F1 hr I1 (Nat.zero_le _) rv (fun s a k => bk s a _ k) q1
/-- x.f of such an exception -/
def tXF (K : PySem.W.Frag) (P : Program) (w : World) (mg : Str → Option Value) (base : Heap) (f : Str) (te : TE) : TE := fun σ H Q => te σ H fun y H1 =>
  ∃ (a C : Addr) (x : Str) (v : V), y = .ref a ∧ XC P w K mg base x f C ∧ EA H1 a C f v ∧ Q v H1
theorem pe_xf1 (he : PE X e te) (hb : attributeBase e f X.env (eval e X.env) = eval e X.env := by rfl) : PE X (.Attribute e f pos) (tXF X.K X.prog X.w X.mg X.base f te) := by
  refine ⟨fun pins s σ H Q I h => ?_⟩
  refine attr_of hb (thn (he.run pins s σ H _ I h) fun u s1 hh => ?_)
  obtain ⟨y, H1, I1, ry, a, C, x, v, rfl, c, ⟨d, e1, e2⟩, q⟩ := hh
  obtain rfl : u = Value.ref a := ry
  obtain ⟨t1, ho⟩ := exo_at I1.hok e1
  obtain ⟨mA, hns, rel⟩ := exd_at I1.hok e2
  obtain ⟨od, hod, hl⟩ := lookIn_ns hns
  have l : List.lookup f [(f, v)] = some v := by simp [List.lookup]
  obtain ⟨u, hu, ru⟩ := RelO.some_of (v := v) (o := mA f) (by rw [← l]; exact rel f)
  have J : PySem.W.InstAt s1.heap a _ C (some od) := ⟨ho, rfl, rfl, hod⟩
  exact HandSPX.exc_get I1.kIn J c.ga c.gg c.oex.exC (PySem.W.findObj_own c.hdC c.noF rfl (by rw [hl, hu])) (handed_of ru) ⟨v, H1, I1.tok _, ru, q⟩
end
end L2
set_option maxHeartbeats 4000000
namespace L2
open PySem PySem.Spec PyProof.Rows
/-- what isinstance asks of an exception class -/
structure XKit (K : PySem.W.Frag) (D : Addr) : Prop where
  cl : (PySem.W.clsIn K D).isSome = true
  ga : PySem.W.findIn K (.ref D) "__getattribute__" = some (some (.builtin "BaseException.__getattribute__"))
  gg : PySem.W.findIn K (.ref D) "__getattr__" = some none
  sb : PySem.W.subIn K (.ref D) (.type "BaseException") = some true
  cc : PySem.W.findIn K (.ref D) "__class__" = some (some (.builtin "object.__class__"))
  ob : PySem.W.mroIn K D (.type "object") = some true
/-- .. and of the written part -/
structure XObj (K : PySem.W.Frag) : Prop where
  gt : PySem.W.specialIn K (.builtin "object.__class__") "__get__" = some (some (.builtin "getset_descriptor.__get__"))
  tk : PySem.W.takesIn K (.builtin "object.__class__") = some true
/-- an exception of D stands at a -/
def IsX (H : Hp) (a D : Addr) : Prop := (∃ f v, EA H a D f v) ∨ H a = some (ExO (.ref D) a)
theorem IsX.mono {H H' : Hp} {a D : Addr} (x : IsX H a D) (e : Same H H') : IsX H' a D := by
  rcases x with ⟨f, v, x⟩ | x
  · exact .inl ⟨f, v, x.mono e⟩
  · exact .inr (e _ _ x)
def rIsX (K : PySem.W.Frag) : List V → Hp → VK → Prop := fun xs H Q => ∃ (a D : Addr) (c : V) (u : Value) (b : Bool),
  xs = [.ref a, c] ∧ IsX H a D ∧ XKit K D ∧ ClsV c u ∧ PySem.W.kitOne K (.ref D) u = some b ∧ Q (.bl b) H
section
variable {X : Cx} {x f : Str} {C : Addr}
theorem call_isX (O : XObj X.K) : CallR X (.builtin "isinstance") (rIsX X.K) := by
  intro pins s σ H xs us Q I r h
  obtain ⟨a, D, c, u, b, rfl, hx, T, k, e, q⟩ := h
  obtain ⟨u1, u2, rfl, r1, r2⟩ := vals2 r
  have e2 := k.eq r2
  subst e2
  cases (show u1 = Value.ref a from r1)
  have J : ∃ ox od, PySem.W.InstAt s.heap a ox D od := by
    rcases hx with ⟨f, v, d, e1, e2⟩ | hx
    · obtain ⟨t1, ho⟩ := exo_at I.hok e1
      obtain ⟨mA, hns, rel⟩ := exd_at I.hok e2
      obtain ⟨od, hod, hl⟩ := lookIn_ns hns
      exact ⟨_, some od, ho, rfl, rfl, hod⟩
    · obtain ⟨⟨oe, vs, ho, hz, hd, _⟩, _, _⟩ := I.hok a _ hx
      obtain ⟨oc, odd, oda, osl⟩ := oe
      obtain ⟨h1, h2⟩ := hz
      dsimp only at h1 h2 hd
      subst h1 h2 hd
      exact ⟨_, none, ho, rfl, rfl, trivial⟩
  obtain ⟨ox, od, J⟩ := J
  exact PySem.W.kia_one (PySem.W.kitx_exc T.cl T.ga T.gg T.sb T.cc O.gt O.tk T.ob) I.kIn J e (fun z => nomatch z) fun tk => ⟨.bl b, H, I.tok tk, rfl, q⟩
/-- X(), an own exception class without own __init__, as a value -/
theorem pe_exc0 {bmB : List Value} {B newId initId : String} {p pos : Pos} (F : ExcBaseFacts B newId initId bmB) (q : PySem.W.excIn X.K C bmB newId = true) (gC : X.mg x = some (.ref C)) (kC : PySem.W.keepIn X.K (.ref C) = true) (hg : Gl X x)
    (hdb : (x == ("__debug__" : Str)) = false := by decide) :
    PE X (.Call (.Name x p) [] [] pos) (fun _ H Q => ∀ a, H a = none → Q (.ref a) (upd H a (ExO (.ref C) a))) := by
  refine ⟨fun pins s σ H Q I h => ?_⟩
  refine wpAny_Call_Name_kw (ld_glob I hg gC ?_ hdb)
  refine PySem.W.callWith_K0 I.kIn kC ?_
  show wpAny _ _ (call (.ref C) []) _ _ _
  obtain ⟨bm, N, nm, qn, bs, hdct, sn, sub, ab, col, dd, k0, k1, k2, k3, k5, mN, hC, hN, hni, T⟩ := exc_obj I.kIn q
  refine wpAny_call_exc_subT F T hC hN hni (fun h' a hm => ?_) (Nat.zero_le _)
  have hn : H a = none := I.hok.gone hm.new
  obtain ⟨t, ht, _, _⟩ := hm.there
  exact ⟨.ref a, upd H a (ExO (.ref C) a), I.laidN hm.keeps hm.new hn (exO_ok ht ⟨rfl, rfl⟩ rfl rfl rfl (show 4 < 6 by decide)), rfl, h a hn⟩
end
/-! ### repr of what is known as data -/
/-- v is the data d, wherever the abstract heap is held -/
def Rdd (P : Program) (w : World) (K : PySem.W.Frag) (H : Hp) (v : V) (d : PyData) : Prop :=
  ∀ (h : Heap) (u : Value), HOk P w H h → K.In h → RelV v u → ∃ as, Reads h u d as ∧ ∀ b ∈ as, H b ≠ none
def RddAll (P : Program) (w : World) (K : PySem.W.Frag) (H : Hp) (vs : List V) (ds : List PyData) : Prop :=
  ∀ (h : Heap) (us : List Value), HOk P w H h → K.In h → Vals vs us → ∃ as, ReadsAll h us ds as ∧ ∀ b ∈ as, H b ≠ none
section
variable {P : Program} {w : World} {K : PySem.W.Frag} {H : Hp} {v : V} {vs : List V} {d : PyData} {ds : List PyData} {a : Addr}
theorem rdd_non : Rdd P w K H .non .none := fun h u _ _ r => by
  obtain rfl : u = Value.none := r
  exact ⟨[], .none, fun b z => nomatch z⟩
theorem rdd_bl (b : Bool) : Rdd P w K H (.bl b) (.bool b) := fun h u _ _ r => by
  obtain rfl : u = Value.bool b := r
  exact ⟨[], .bool b, fun b z => nomatch z⟩
theorem rdd_int (i : Int) : Rdd P w K H (.int i) (.int i) := fun h u _ _ r => by
  obtain ⟨t, rfl⟩ := (show ∃ t, u = Value.int i t from r)
  exact ⟨[], .int i t, fun b z => nomatch z⟩
theorem rdd_str (x : Str) : Rdd P w K H (.str x) (.str x) := fun h u _ _ r => by
  obtain ⟨t, rfl⟩ := (show ∃ t, u = Value.str x t from r)
  exact ⟨[], .str x t, fun b z => nomatch z⟩
theorem rddAll_nil : RddAll P w K H [] [] := fun h us _ _ r => by
  cases r
  exact ⟨[], .nil, fun b z => nomatch z⟩
theorem rddAll_cons (h1 : Rdd P w K H v d) (h2 : RddAll P w K H vs ds) : RddAll P w K H (v :: vs) (d :: ds) := fun h us ok kin r => by
  cases r with
  | cons r1 r2 =>
    obtain ⟨as, x1, y1⟩ := h1 h _ ok kin r1
    obtain ⟨bs, x2, y2⟩ := h2 h _ ok kin r2
    exact ⟨as ++ bs, .cons x1 x2, fun b hb => (List.mem_append.mp hb).elim (y1 b) (y2 b)⟩
theorem rdd_lst (e : H a = some (.lst vs)) (h1 : RddAll P w K H vs ds) : Rdd P w K H (.ref a) (.list ds) := fun h u ok kin r => by
  obtain rfl : u = Value.ref a := r
  obtain ⟨_, its, n, rv, ho⟩ := (show ObjOk P w H h a (.lst vs) from ok a _ e)
  obtain ⟨as, x1, y1⟩ := h1 h _ ok kin rv
  refine ⟨a :: as, .list ho rfl rfl x1, fun b hb => ?_⟩
  rcases List.mem_cons.mp hb with z | z
  · rw [z, e]
    exact fun q => nomatch q
  · exact y1 b z
theorem rdd_tup (e : H a = some (.tup vs)) (h1 : RddAll P w K H vs ds) : Rdd P w K H (.ref a) (.tuple ds) := fun h u ok kin r => by
  obtain rfl : u = Value.ref a := r
  obtain ⟨_, its, rv, o, ho, hc, n, hd⟩ := (show ObjOk P w H h a (.tup vs) from ok a _ e)
  obtain ⟨as, x1, y1⟩ := h1 h _ ok kin rv
  exact ⟨as, .tuple ho hc hd x1, y1⟩
end
section
variable {X : Cx}
/-- repr(x), x known as data -/
def rRepr (P : Program) (w : World) (K : PySem.W.Frag) : List V → Hp → VK → Prop := fun xs H Q => ∃ (a : Addr) (d : PyData),
  xs = [.ref a] ∧ Rdd P w K H (.ref a) d ∧ d.showable = true ∧ d.shown.length ≤ sizeLine ∧ d.depth ≤ 60 ∧ Q (.str d.shown) H
theorem call_repr (hg : X.A.guards = some []) (hs : ∃ o, X.base.get? sysModules = some o) (hu : X.A.units + 64 < cLine) : CallR X (.builtin "repr") (rRepr X.prog X.w X.K) := by
  intro pins s σ H xs us Q I r h
  obtain ⟨a, d, rfl, rd, sh, sz, dp, q⟩ := h
  obtain ⟨u, rfl, ru⟩ := vals1 r
  obtain rfl : u = Value.ref a := ru
  obtain ⟨as, x1, y1⟩ := rd s.heap _ I.hok I.kIn rfl
  obtain ⟨o, ho⟩ := hs
  have nosys : sysModules ∉ as := fun hm => y1 _ hm (I.bs _ _ ho).2
  exact PySem.repr_of_reads' x1 sh (fun _ => nosys) hg (by omega) (fun _ _ z => z) (fun h' u tk k => ⟨.str _, H, I.kept k, ⟨_, rfl⟩, q⟩) sz
end
end L2
set_option maxHeartbeats 4000000
namespace L2
open PySem PySem.Spec PyProof.Rows
/-! # An except suite that keeps the caught exception: from the suite on it is tracked -/
/-- a caught exception of the class cls, its dict at d, stands at a -/
def CtH (cls : Value) (d : Option Addr) (a : Addr) : HO := .ext fun h => ∃ (oe : Obj) (vs : Array Value), h.get? a = some oe ∧ Zc cls d oe ∧ oe.data = .fields vs
theorem ctH_ok {P : Program} {w : World} {H : Hp} {h : Heap} {a : Addr} {cls : Value} {d : Option Addr} {oe : Obj} {vs : Array Value} (e : h.get? a = some oe) (z : Zc cls d oe) (hd : oe.data = .fields vs) : ObjOk P w H h a (CtH cls d a) :=
  ⟨⟨oe, vs, e, z, hd⟩, ⟨oe, e⟩, fun _ _ ⟨o, v, q, r⟩ k => ⟨o, v, k o q, r⟩⟩
theorem ctH_at {P : Program} {w : World} {H : Hp} {h : Heap} {a : Addr} {cls : Value} {d : Option Addr} (ok : HOk P w H h) (e : H a = some (CtH cls d a)) : ∃ oe vs, h.get? a = some oe ∧ Zc cls d oe ∧ oe.data = .fields vs := (ok a _ e).1
/-- a is none of what the def began with, of its frames, of what is pinned -/
structure Strange (X : Cx) (pins : List (Addr × Obj)) (a : Addr) : Prop where
  loc : a ≠ X.env.locals
  fs : a ∉ X.fs
  old : X.s_0.heap.get? a = none
  pin : ∀ p ∈ X.pn ++ pins, p.1 ≠ a
section
variable {X : Cx} {pins : List (Addr × Obj)} {σ : St} {H : Hp} {s : Shared}
/-- what was not tracked is tracked from here on -/
theorem track {a : Addr} {o : HO} {ob : Obj} {vs : Array Value} (I : Inv X pins σ H s) (na : H a = none) (st : Strange X pins a) (here : s.heap.get? a = some ob) (hd : ob.data = .fields vs)
    (new : ObjOk X.prog X.w (upd H a o) s.heap a o) : Inv X pins σ (upd H a o) s := by
  have off : ∀ {b : Addr} {u : HO}, H b = some u → upd H a o b = some u := fun r => by rw [upd_ne (ne_of_none r na)]; exact r
  refine ⟨I.ok, I.os, I.bare, ⟨I.base.keep, I.base.slot, fun b u e n hx => ?_, I.base.there, fun b xs q => off (I.base.tups b xs q), fun b u v q => off (I.base.frzs b u v q), fun b ps q => ?_⟩, I.loc, I.cell, ?_, fun x c e => ?_, fun p hp => ?_, fun b u q => ?_, I.len⟩
  · rw [upd_ne (fun z => by rw [z, st.old] at e; cases e)]
    exact I.base.free b u e n hx
  · obtain ⟨m, z⟩ := I.base.tbls b ps q
    exact ⟨m, off z⟩
  · rw [upd_ne (Ne.symm st.loc)]
    exact I.free
  · obtain ⟨v, oc, ho, hc⟩ := I.cell x c e
    rw [upd_ne (fun z => by rw [z, here] at ho; cases ho; rw [hd] at hc; cases hc)]
    exact I.freeC x c e
  · obtain ⟨e, n, r⟩ := I.pin p hp
    exact ⟨e, by rw [upd_ne (st.pin p hp)]; exact n, r⟩
  · by_cases hb : b = a
    · subst hb
      rw [upd_same] at q
      cases q
      exact new
    · rw [upd_ne hb] at q
      exact (I.hok b u q).stay (fun _ _ _ r => r) (fun c r => off r) fun c xs r => off r
/-- into a suite without a pin, and out of it -/
theorem intoSuite (I : Inv X pins σ H s) (a : Addr) : Inv (X.suite a (X.pn ++ pins)) [] σ H s :=
  { I with ok := I.ok.suite _ _, pin := fun p hp => I.pin p (by simpa using hp) }
theorem outOfSuite {a : Addr} (ok : X.Ok) (I : Inv (X.suite a (X.pn ++ pins)) [] σ H s) : Inv X pins σ H s :=
  { I with ok := ok, pin := fun p hp => I.pin p (by simpa using hp) }
end
/-- what such a clause 'except x as n' wishes of an exception of the body -/
def wAk (K : PySem.W.Frag) (c : Value) (i : Nat) (ts : Addr → Value → Option Addr → TS) (Wout : WX) (D : Ends) : WX := fun cls d σ H =>
  ∃ b, PySem.W.exmOne K cls c = some b ∧ (b = true → ∀ a, H a = none → ts a cls d ⟨fun τ G => D.nx (τ.set i none) G, D.rt, fun τ G => D.bk (τ.set i none) G, fun τ G => D.ct (τ.set i none) G⟩ (σ.set i (some (.ref a))) (upd H a (CtH cls d a))) ∧
    (b = false → Wout cls d σ H)
/-- an exception of the class cls (its dict at d) that stands at a, seen from sI, the state without it -/
structure Air (X : Cx) (pins : List (Addr × Obj)) (σ : St) (H : Hp) (sI s : Shared) (B : Heap) (a : Addr) (cls : Value) (d : Option Addr) : Prop where
  inv : Inv X pins σ H sI
  gr : ∀ b o, sI.heap.get? b = some o → b ∉ frs X.stack → B.get? b = some o
  up : sI.heap.UpToSlots s.heap
  fly : HandSPX.FlyingZ B (X.env :: X.outer) a (Zc cls d) s.heap
  na : H a = none
  os : s.os = sI.os
  bare : AllBare s.gens
section
variable {X : Cx} {pins : List (Addr × Obj)} {σ : St} {H : Hp} {sI s : Shared} {B : Heap} {a : Addr} {cls : Value} {d : Option Addr} {x n : Str} {c : Value} {i : Nat} {suite : List Stmt} {b₀ : Stmt} {np pos pos' : Pos} {D : Ends}
theorem Air.to (A : Air X pins σ H sI s B a cls d) {h : Heap} (fl : HandSPX.FlyingZ B (X.env :: X.outer) a (Zc cls d) h) (u : s.heap.UpToSlots h) : Air X pins σ H sI { s with heap := h } B a cls d :=
  ⟨A.inv, A.gr, A.up.trans u, fl, A.na, A.os, A.bare⟩
theorem Air.here (A : Air X pins σ H sI s B a cls d) : Inv X pins σ H s := A.inv.landed A.gr A.fly.1 A.up A.os A.bare
theorem Air.strange (A : Air X pins σ H sI s B a cls d) (hs : X.stack = X.env :: X.outer) (hf : X.env.frame = some X.env.locals) (hex : X.ex = []) : Strange X pins a := by
  obtain ⟨oe, vs, he, _, hd⟩ := A.fly.there
  have out : a ∉ frs (X.env :: X.outer) := fun hm => by
    obtain ⟨_, o, e, hnf⟩ := Heap.FunFrames.mem A.fly.2.2.1 hm
    rw [he] at e
    cases e
    exact hnf _ hd
  have new : sI.heap.get? a = none := by
    cases q : sI.heap.get? a with
    | none => rfl
    | some o => exact absurd (A.gr a o q (by rw [hs]; exact out)) (by rw [A.fly.2.1]; exact fun z => nomatch z)
  have sub : ∀ b ∈ X.env.locals :: X.fs, b ∈ frs (X.env :: X.outer) := fun b hb => by
    unfold frs
    rw [List.filterMap_cons, hf]
    exact hb
  refine ⟨fun z => out (sub a (by rw [z]; exact List.mem_cons_self)), fun z => out (sub a (List.mem_cons_of_mem _ z)), ?_, fun p hp z => ?_⟩
  · cases q : X.s_0.heap.get? a with
    | none => rfl
    | some o =>
      obtain ⟨o', e⟩ := A.inv.base.there a o q (by rw [hex]; exact List.not_mem_nil)
      rw [new] at e
      cases e
  · have e := (A.inv.pin p hp).1
    rw [z, new] at e
    cases e
/-- the clause that fits -/
theorem keeps_it {ts : TS} (A : Air X pins σ H sI s B a cls d) (hs : X.stack = X.env :: X.outer) (hf : X.env.frame = some X.env.locals) (hex : X.ex = []) (hN : X.N.Nodup) (hi : X.N[i]? = some n) (hln : X.env.kindOf n = some .local)
    (hc : Names X x c) (hm : PySem.W.exmOne X.K cls c = some true) (su : ∀ pn, PSs (X.suite a pn) (b₀ :: suite) ts)
    (q : ts ⟨fun τ G => D.nx (τ.set i none) G, D.rt, fun τ G => D.bk (τ.set i none) G, fun τ G => D.ct (τ.set i none) G⟩ (σ.set i (some (.ref a))) (upd H a (CtH cls d a))) :
    wpAny (model X.prog X.w) X.A (handleBy (.ref a) X.env [.ExceptHandler (some (.Name x np)) (some n) (b₀ :: suite) pos']) (SP X pins D) X.xe s := by
  have st := A.strange hs hf hex
  obtain ⟨oe, vs, he, hz, hd⟩ := A.fly.there
  have looks : PySem.W.Looks (model X.prog X.w) s.heap (typeOf (.ref a)) cls := fun _ _ _ _ k r => wpAny_typeOf_ref (k _ _ he) (by rw [hz.1]; exact r)
  have named : ∀ {R F : Value → Shared → Prop}, R c s → wpAny (model X.prog X.w) (X.A.mark (some (.ref a))) (eval (.Name x np) X.env) R F s := fun {R F} r => by
    obtain ⟨g, db, e | ⟨e, b, ne⟩⟩ := hc
    · exact ld_glob (intoSuite A.here a) g e r db
    · exact ld_blt (intoSuite A.here a) g e b r ne db
  refine wpAny_handleBy_cons (codeAny_handlers_test (named ((PySem.W.exm_one A.here.kIn looks hm).here (codeAny_handlers_suite_as (HandSPX.lands_againZ A.fly fun h fl u => ?_))))) (fun z => nomatch z)
  have A2 := A.to fl u
  obtain ⟨oe, vs, he, hz, hd⟩ := A2.fly.there
  refine store_ok (X := X.suite a (X.pn ++ pins)) (v := .ref a) (intoSuite (track A2.here A2.na st he hd (ctH_ok he hz hd)) a) hN hi (.inl hln) rfl (fun s1 I1 => ?_) (.inr hln)
  refine wpAny_mono ((su (X.pn ++ pins)).run [] s1 _ _ _ I1 q) (fun f s2 hsp => ?_) (fun _ _ z => False.elim z)
  have fin : ∀ {τ : St} {G : Hp} {R : Shared → Prop}, Inv (X.suite a (X.pn ++ pins)) [] τ G s2 → (∀ s3, Inv X pins (τ.set i none) G s3 → R s3) →
      wpAny (model X.prog X.w) X.A (do bindName X.env n .none; unbindBehindTheSuite X.env n pos') (fun _ s3 => R s3) X.xe s2 := fun {τ G R} J r => gone_ok (outOfSuite A.inv.ok J) hN hi hln r
  cases f with
  | ret v =>
    obtain ⟨y, τ, G, J, r, e⟩ := hsp
    exact fin J fun _ J3 => ⟨y, _, _, J3, r, e⟩
  | next =>
    obtain ⟨τ, G, J, e⟩ := hsp
    exact fin J fun _ J3 => ⟨_, _, J3, e⟩
  | brk =>
    obtain ⟨τ, G, J, e⟩ := hsp
    exact fin J fun _ J3 => ⟨_, _, J3, e⟩
  | cont =>
    obtain ⟨τ, G, J, e⟩ := hsp
    exact fin J fun _ J3 => ⟨_, _, J3, e⟩
/-- the clause that does not -/
theorem lets_it {Wout : WX} (A : Air X pins σ H sI s B a cls d) (hs : X.stack = X.env :: X.outer) (hf : X.env.frame = some X.env.locals) (hc : Names X x c) (hm : PySem.W.exmOne X.K cls c = some false) (tk : Takes X Wout) (q : Wout cls d σ H) :
    wpAny (model X.prog X.w) X.A (handleBy (.ref a) X.env [.ExceptHandler (some (.Name x np)) (some n) (b₀ :: suite) pos']) (SP X pins D) X.xe s := by
  obtain ⟨oe, vs, he, hz, hd⟩ := A.fly.there
  have looks : PySem.W.Looks (model X.prog X.w) s.heap (typeOf (.ref a)) cls := fun _ _ _ _ k r => wpAny_typeOf_ref (k _ _ he) (by rw [hz.1]; exact r)
  have named : ∀ {R F : Value → Shared → Prop}, R c s → wpAny (model X.prog X.w) (X.A.mark (some (.ref a))) (eval (.Name x np) X.env) R F s := fun {R F} r => by
    obtain ⟨g, db, e | ⟨e, b, ne⟩⟩ := hc
    · exact ld_glob (intoSuite A.here a) g e r db
    · exact ld_blt (intoSuite A.here a) g e b r ne db
  refine wpAny_handleBy_cons (codeAny_handlers_test (named ((PySem.W.exm_one A.here.kIn looks hm).here ?_))) (fun z => nomatch z)
  refine wpAny_handleBy_nil ?_
  obtain ⟨_, _, _, oe, vs, T, _, _, he, _, hd, h1, _⟩ := id A.fly
  unfold PySem.passOn
  refine wpAny_bind (wpAny_field he hd h1 ?_)
  rw [if_neg (fun z => by simp at z)]
  have off : wpAny (model X.prog X.w) X.A (setFlight (.ref a) X.env.frame) (fun _ s1 => wpAny (model X.prog X.w) X.A (throw (.ref a) : Sem Flow) (SP X pins D) X.xe s1) X.xe s := by
    rw [hf]
    exact HandSPX.setFlight_upZ A.fly fun h hh u => wpAny_throw (tk _ _ ⟨a, B, sI, pins, σ, H, cls, d, rfl, A.inv, A.gr, A.up.trans u, .inr (.inr (by rw [hs]; exact hh)), A.na, A.os, A.bare, q⟩)
  first
    | exact wpAny_bind (wpAny_pure (wpAny_bind off))
    | exact wpAny_bind off
end
section
variable {X : Cx} {x n : Str} {c : Value} {i : Nat} {body suite : List Stmt} {b₀ : Stmt} {np pos pos' : Pos} {tb : WX → TS} {ts : Addr → Value → Option Addr → TS} {Wout : WX}
theorem ps_try_keep (hs : X.stack = X.env :: X.outer) (hf : X.env.frame = some X.env.locals) (hex : X.ex = []) (hN : X.N.Nodup) (hi : X.N[i]? = some n) (hln : X.env.kindOf n = some .local) (hc : Names X x c) (tk : Takes X Wout)
    (bd : ∀ (W : WX) (pn : List (Addr × Obj)) (xe : Value → Shared → Prop), Takes (X.tr pn xe) W → PassesOwn (model X.prog X.w) X.A X.env xe → PSs (X.tr pn xe) body (tb W))
    (su : ∀ (a : Addr) (cls : Value) (d : Option Addr) (pn : List (Addr × Obj)), PSs (X.suite a pn) (b₀ :: suite) (ts a cls d)) :
    PS X (.Try body [.ExceptHandler (some (.Name x np)) (some n) (b₀ :: suite) pos'] [] [] pos) (fun D σ H => tb (wAk X.K c i ts Wout D) D σ H) := by
  refine ⟨fun pins s σ H D I h => wpAny_Try_except (wpAny_mono ((bd (wAk X.K c i ts Wout D) (X.pn ++ pins) _ (fun e s1 xx => ?_) PassesOwn.looking).run [] s σ H D (I.toTry _) h) (fun f s1 hsp => ?_) (fun _ _ z => z))⟩
  · obtain ⟨a, B, sI, pins', τ, G, cls, d, rfl, J, gr, up, sky, na, os, ag, b, hm, yes, no⟩ := xx
    refine Sky.land Zc.steady (show X.A.frames = some (X.env :: X.outer) by rw [I.ok.frames, hs]) hf (show Sky B (X.env :: X.outer) a (Zc cls d) X.env.locals s1.heap by rw [← hs]; exact sky) fun h3 fl up3 => ?_
    have A : Air X pins τ G sI { s1 with heap := h3 } B a cls d := ⟨J.ofTry I.ok, gr, up.trans up3, fl, na, os, ag⟩
    cases b with
    | true => exact keeps_it A hs hf hex hN hi hln hc hm (su a cls d) (yes rfl a na)
    | false => exact lets_it A hs hf hc hm tk (no rfl)
  · cases f with
    | ret u =>
      obtain ⟨v, τ, G, J, r, q⟩ := hsp
      exact ⟨v, τ, G, J.ofTry I.ok, r, q⟩
    | next =>
      obtain ⟨τ, G, J, q⟩ := hsp
      exact wpAny_execs_nil ⟨τ, G, J.ofTry I.ok, q⟩
    | brk =>
      obtain ⟨τ, G, J, q⟩ := hsp
      exact ⟨τ, G, J.ofTry I.ok, q⟩
    | cont =>
      obtain ⟨τ, G, J, q⟩ := hsp
      exact ⟨τ, G, J.ofTry I.ok, q⟩
end
end L2
set_option maxHeartbeats 4000000
namespace L2
open PySem PySem.Spec PyProof.Rows
/-! # raise x(e), x an exception class whose __init__ keeps one field -/
/-- what is wished of the exception: all else stands, its dict (new, at d) holds the field -/
def Wx (C : Addr) (f : Str) (H : Hp) (v : V) (E : Value → Option Addr → Hp → Prop) : Prop := ∀ (d : Addr) (G : Hp), Same H G → H d = none → G d = some (.xd [(f, v)]) → E (.ref C) (some d) G
def tRz (C : Addr) (f : Str) (te : TE) (W : WX) : TS := fun _ σ H => te σ H fun v H1 => Wx C f H1 v fun c d G => W c d σ G
section
variable {X : Cx} {x f : Str} {C : Addr} {e : Expr} {te : TE} {p pos pos2 : Pos} {W : WX}
theorem ps_rz (c : XC X.prog X.w X.K X.mg X.base x f C) (hr : Room 2 X.A) (hcalm : X.calm = true) (tk : Takes X W) (hg : Gl X x) (he : PE X e te)
    (hs : starEach [e] X.env = (false, eval e X.env) :: starEach [] X.env := by rfl) (hdb : (x == ("__debug__" : Str)) = false := by decide)
    (hpl : (backTo pos (starEach [] X.env)).any (·.1) = false := by rfl) :
    PS X (.Raise (some (.Call (.Name x p) [e] [] pos)) none pos2) (tRz C f te W) := by
  obtain ⟨fI, fd, iC, tI, F1, b2, _, _⟩ := c.run
  have hb : Binds X.K fd ["self", f] [] := fun s us k hl => by
    match us, hl with
    | [a, b], _ => exact b2 s a b k
  have he2 : PE X e (fun σ H Q => ∃ R : VK, te σ H R ∧ ∀ v G, R v G → Q v G) := ⟨fun pins s σ H Q I ⟨R, h, r⟩ => wpAny_mono (he.run pins s σ H R I h) (fun u s1 ⟨v, G, J, rv, q⟩ => ⟨v, G, J, rv, r v G q⟩) fun _ _ z => z⟩
  refine ⟨fun pins s σ H D I h => (ps_raise hcalm tk (pmk_oex (CX := CX0) c.oex iC tI F1 hr hb .nil pass0 hg c.gC (pa_cons he2 pa_nil hs) hdb hs hpl)).run pins s σ H D I ?_⟩
  refine ⟨_, h, fun v H1 q => ⟨(by show 1 ≤ 1000; decide), fun a na => ⟨a, v, rfl, upd_same, fun dx nd ne => ⟨rfl, dx, [(f, v)], upd_same, by rw [upd_ne ne, upd_same], ?_, q dx _ ?_ ?_ upd_same⟩⟩⟩⟩
  · rw [upd_ne ne] at nd
    exact nd
  · intro b o e1
    have b1 : b ≠ dx := fun z => by
      rw [upd_ne ne] at nd
      rw [z, nd] at e1
      cases e1
    have b2 : b ≠ a := fun z => by
      rw [z, na] at e1
      cases e1
    rw [upd_ne b1, del_ne b2, upd_ne b2, upd_ne b1, upd_ne b2]
    exact e1
  · rw [upd_ne ne] at nd
    exact nd
end
end L2
set_option maxHeartbeats 4000000
namespace Nv
open PySem PySem.Spec PyProof.Rows L2
/-! # Rule.__init__, also where it raises -/
section
variable {P : Program} {w : World} {K : PySem.W.Frag} {mg : Str → Option Value} {base : Heap}
/-- an optional list argument: whether it is let -/
def OptX (K : PySem.W.Frag) (H : Hp) (v : V) (p : Option (List (Option Str)) → Bool) (b : Bool) : Prop := (v = .non ∧ b = true) ∨ ∃ o, v ≠ .non ∧ Tps K H v o ∧ b = listB p o
theorem OptX.same {H G : Hp} {v : V} {p : Option (List (Option Str)) → Bool} {b : Bool} (h : OptX K H v p b) (s : Same H G) : OptX K G v p b := by
  rcases h with h | ⟨o, n, t, e⟩
  · exact .inl h
  · exact .inr ⟨o, n, t.same s, e⟩
theorem Opt.x {H : Hp} {v : V} {qs : List (List Str)} {p : Option (List (Option Str)) → Bool} (o : Opt H v qs) (sm : ∀ x ∈ qs, x.length ≤ 1000 ∧ ∀ y ∈ x, y.length ≤ 1000) (ok : ∀ x ∈ qs, p (some (x.map some)) = true) : OptX K H v p true := by
  rcases o with ⟨rfl, _⟩ | ⟨a, us, rfl, e, hp, l⟩
  · exact .inl ⟨rfl, rfl⟩
  · exact .inr ⟨some (qs.map fun q => some (q.map some)), (fun z => by cases z), ⟨a, us, rfl, e, hp.tps sm, by rw [List.length_map]; omega⟩, (all_yes ok).symm⟩
theorem notB {b : Bool} {A B R S : Prop} (h : if b = false then R else S) (ka : R → A) (kb : S → B) : if (!b) = true then A else B := by
  cases b with
  | false =>
    rw [if_pos rfl] at h
    exact iteT (ka h)
  | true =>
    rw [if_neg (fun z => by cases z)] at h
    exact iteF (kb h)
theorem yesB {b : Bool} {A B R S : Prop} (h : if b = true then R else S) (ka : R → A) (kb : S → B) : if b = true then A else B := by
  cases b with
  | false =>
    rw [if_neg (fun z => by cases z)] at h ⊢
    exact kb h
  | true =>
    rw [if_pos rfl] at h ⊢
    exact ka h
theorem optx_if {i : Nat} {p : Option (List (Option Str)) → Bool} {v : V} {b : Bool} {tb : TS} {D : Ends} {σ : L2.St} {H : Hp} {R S : Prop} (o : OptX K H v p b) (hi : σ[i]? = some (some v)) (h : if b = false then R else S)
    (ka : R → ∀ G, Same H G → tb D σ G) (kb : S → ∀ G, Same H G → D.nx σ G) :
    tIfS (tAnd (tTest (tOp (fun x y H Q => y = V.non ∧ Q (V.bl (!decide (x = V.non))) H) (tVar i) (tC V.non))) (tNot (tB (tCall (spLst K p) [] E0 (tCons (tVar i) tNil))))) tb tNext D σ H := by
  refine ⟨v, hi, rfl, !decide (v = .non), rfl, ?_⟩
  rcases o with ⟨rfl, rfl⟩ | ⟨o, n, t, rfl⟩
  · rw [decide_eq_true rfl]
    rw [if_neg (fun z => by cases z)] at h
    exact iteF (iteF (kb h H (Same.refl H)))
  · rw [decide_eq_false n]
    refine iteT ⟨_, hi, _, _, rfl, t, fun G sG => ⟨_, rfl, ?_⟩⟩
    exact notB h (fun r => ka r G sG) (fun r => kb r G sG)
theorem if_sidesX {i j : Nat} {v : V} {tt : Addr} {us : List V} {ps qs : List (List Str)} {tb : TS} {R S : Prop} {D : Ends} {σ : L2.St} {H : Hp} (o : Opt H v qs) (hi : σ[i]? = some (some v)) (hj : σ[j]? = some (some (.ref tt))) (ok : ∀ x ∈ qs, PairOk x)
    (et : H tt = some (.lst us)) (hp : PaL H us ps) (hok : ∀ x ∈ ps, PatOk x) (hpl : ps.length ≤ 300) (m : if hasMore qs.flatten ps = true then R else S) (ka : R → ∀ G, Same H G → tb D σ G) (kb : S → ∀ G, Same H G → D.nx σ G) :
    tIfS (tB (tCall (spHasMore K) [] E0 (tCons (tCall (spSides K) [] E0 (tCons (tOrT K (tVar i) (tLst tNil)) tNil)) (tCons (tVar j) tNil)))) tb tNext D σ H := by
  have ql : qs.length ≤ 1000 := by
    rcases o with ⟨_, rfl⟩ | ⟨_, _, _, _, _, l⟩
    · exact Nat.zero_le _
    · omega
  show tOrT K (tVar i) (tLst tNil) σ H _
  refine or_list o hi fun a us2 G sG ea pa => ?_
  refine ⟨a, us2, qs, rfl, SqL.of ea, pa, fun x hx => ?_, ql, fun b G2 nb s2 eb => ?_⟩
  · obtain ⟨x1, x2, rfl, _⟩ := ok x hx
    rfl
  · have s3 := sG.trans s2
    refine ⟨_, hj, b, tt, qs.flatten, us, ps, rfl, ⟨.inl (SqL.of eb), fun x hx => ?_, ?_⟩, ⟨SqL.of (s3 _ _ et), hp.same s3, hok, by omega⟩, fun G4 s4 => ⟨_, rfl, ?_⟩⟩
    · obtain ⟨y, hy, hx⟩ := List.mem_flatten.mp hx
      exact (ok y hy).small.2 x hx
    · rw [flat_len fun x hx => by obtain ⟨x1, x2, rfl, _⟩ := ok x hx; rfl]
      omega
    · exact yesB m (fun r => ka r G4 (s3.trans s4)) (fun r => kb r G4 (s3.trans s4))
theorem if_termsX {i j : Nat} {v : V} {tt : Addr} {us : List V} {ps qs : List (List Str)} {tb : TS} {R S : Prop} {D : Ends} {σ : L2.St} {H : Hp} (o : Opt H v qs) (hi : σ[i]? = some (some v)) (hj : σ[j]? = some (some (.ref tt))) (ok : ∀ x ∈ qs, PatOk x)
    (et : H tt = some (.lst us)) (hp : PaL H us ps) (hok : ∀ x ∈ ps, PatOk x) (hpl : ps.length ≤ 300) (m : if hasMore (tails qs) ps = true then R else S) (ka : R → ∀ G, Same H G → tb D σ G) (kb : S → ∀ G, Same H G → D.nx σ G) :
    tIfS (tB (tCall (spHasMore K) [] E0 (tCons (tCall (spTermsOf K) [] E0 (tCons (tOrT K (tVar i) (tLst tNil)) tNil)) (tCons (tVar j) tNil)))) tb tNext D σ H := by
  have ql : qs.length ≤ 1000 := by
    rcases o with ⟨_, rfl⟩ | ⟨_, _, _, _, _, l⟩
    · exact Nat.zero_le _
    · omega
  show tOrT K (tVar i) (tLst tNil) σ H _
  refine or_list o hi fun a us2 G sG ea pa => ?_
  refine ⟨a, us2, qs, rfl, SqL.of ea, pa, ok, ql, fun b G2 nb s2 eb => ?_⟩
  have s3 := sG.trans s2
  refine ⟨_, hj, b, tt, tails qs, us, ps, rfl, ⟨.inl (SqL.of eb), fun x hx => ?_, ?_⟩, ⟨SqL.of (s3 _ _ et), hp.same s3, hok, by omega⟩, fun G4 s4 => ⟨_, rfl, ?_⟩⟩
  · have := (tails_short ok x hx).2
    omega
  · have := tails_le ok ql
    omega
  · exact yesB m (fun r => ka r G4 (s3.trans s4)) (fun r => kb r G4 (s3.trans s4))
/-- the promise: what is raised, or what is made -/
def spRuleX (C CE : Addr) : Sp := fun vs H Q E => ∃ (r dx : Addr) (v0 v1 v2 v3 v4 : V), vs = [.ref r, v0, v1, v2, v3, v4] ∧ H r = some (.ins C dx []) ∧
  ∃ o0, Tv K H v0 o0 ∧ if nmO o0 = false then (∀ G, Same H G → Wx CE "value" G v0 E) else
  ∃ o1, Tp K H v1 o1 ∧ if patB o1 = false then (∀ G, Same H G → Wx CE "value" G v1 E) else
  ∃ o2, Tps K H v2 o2 ∧ if listB patB o2 = false then (∀ G, Same H G → Wx CE "value" G v2 E) else
  ∃ b3, OptX K H v3 prB b3 ∧ if b3 = false then (∀ G, Same H G → Wx CE "value" G v3 E) else
  ∃ b4, OptX K H v4 patB b4 ∧ if b4 = false then (∀ G, Same H G → Wx CE "value" G v4 E) else
  ∃ (l : Str) (th tt : Addr) (h : List Str) (us : List V) (ps : List (List Str)) (qs : List (List Str)) (ds : List (List Str)), v0 = .str l ∧ v1 = .ref th ∧ v2 = .ref tt ∧
  (H th = some (.tup (h.map V.str)) ∧ PatOk h) ∧ (H tt = some (.lst us) ∧ PaL H us ps ∧ (∀ x ∈ ps, PatOk x) ∧ ps.length ≤ 300) ∧ (Opt H v3 qs ∧ ∀ x ∈ qs, PairOk x) ∧ (Opt H v4 ds ∧ ∀ x ∈ ds, PatOk x) ∧
  if hasMore h.tail ps = true then (∀ G, Same H G → Wx CE "value" G v1 E) else
  if hasMore qs.flatten ps = true then (∀ G, Same H G → Wx CE "value" G v3 E) else
  if hasMore (tails ds) ps = true then (∀ G, Same H G → Wx CE "value" G v4 E) else
  ∀ (l1 l2 l3 : Addr) (us2 us3 : List V) (H' : Hp), H l1 = none → H l2 = none → H l3 = none → Sb r H H' → H' r = some (.ins C dx (ruleF l th l1 l2 l3)) → H' l1 = some (.lst us) → H' l2 = some (.lst us2) → PaL H' us2 qs → H' l3 = some (.lst us3) → PaL H' us3 ds → Q .non H'
theorem ok_ruleX {f C CE : Addr} {fd : FuncData} (F : FunD K "__init__" "Rule.__init__" (defArgs sRuleInit) (defBody sRuleInit) (defScope sRuleInit) [.non, .non] [] f fd) (B : Bp mg) (R : RC K C) (T : Ct P w K mg base) (c : XC P w K mg base "InvalidRule" "value" CE) :
    FnOk P w K mg base (CX P w) 5 f fd ["self", "label", "head", "told", "pairs", "denied"] (spRuleX (K := K) C CE) := by
  obtain ⟨fN, dN, GN, kN, gN, bN⟩ := T.nm
  obtain ⟨fP, dP, GP, kP, gP, bP⟩ := T.pt
  obtain ⟨fS, dS, GS, kS, gS, bS⟩ := T.ps
  obtain ⟨fR, dR, GR, kR, gR, bR⟩ := T.pr
  obtain ⟨fT, dT, GT, kT, gT, bT⟩ := T.to
  obtain ⟨fD, dD, GD, kD, gD, bD⟩ := T.sd
  obtain ⟨fM, dM, GM, kM, gM, bM⟩ := T.hm
  refine F.ok scRuleInit (fun vs H Q E h => ?_) (fun cdv A outer s H vs Q E hr h => ?_)
  · obtain ⟨r, dx, v0, v1, v2, v3, v4, rfl, _⟩ := h
    rfl
  · obtain ⟨r, dx, v0, v1, v2, v3, v4, rfl, er, o0, t0, h⟩ := h
    have hr1 : Room 1 _ := hr.mono (by decide)
    have hr2 : Room 2 _ := hr.mono (by decide)
    have hr3 : Room 3 _ := hr.mono (by decide)
    refine ⟨_, pss_cons (ps_if (pt_not (pt_val (by exact (pe_call GN hr1 (by rfl) gN kN bN .nil pass0 (pa_cons (pv 1) pa_nil))))) (pss_one (ps_rz c hr2 (by rfl) (takes_of rfl rfl rfl rfl) (by rfl) (pv 1))) pss_nil)
      (pss_cons (ps_if (pt_not (pt_val (by exact (pe_call GP hr3 (by rfl) gP kP bP .nil pass0 (pa_cons (pv 2) pa_nil))))) (pss_one (ps_rz c hr2 (by rfl) (takes_of rfl rfl rfl rfl) (by rfl) (pv 2))) pss_nil)
      (pss_cons (ps_if (pt_not (pt_val (by exact (pe_call GS hr (by rfl) gS kS bS .nil pass0 (pa_cons (pv 3) pa_nil))))) (pss_one (ps_rz c hr2 (by rfl) (takes_of rfl rfl rfl rfl) (by rfl) (pv 3))) pss_nil)
      (pss_cons (ps_if (PW.pt (pw_and (pt_cmpR op_notN (pv 4) pe_non (nomark _)) (pw_and1 (pt_not (pt_val (by exact (pe_call GR hr (by rfl) gR kR bR .nil pass0 (pa_cons (pv 4) pa_nil)))))))) (pss_one (ps_rz c hr2 (by rfl) (takes_of rfl rfl rfl rfl) (by rfl) (pv 4))) pss_nil)
      (pss_cons (ps_if (PW.pt (pw_and (pt_cmpR op_notN (pv 5) pe_non (nomark _)) (pw_and1 (pt_not (pt_val (by exact (pe_call GS hr (by rfl) gS kS bS .nil pass0 (pa_cons (pv 5) pa_nil)))))))) (pss_one (ps_rz c hr2 (by rfl) (takes_of rfl rfl rfl rfl) (by rfl) (pv 5))) pss_nil)
      (pss_cons (ps_if (pt_val (by exact (pe_call GM hr (by rfl) gM kM bM .nil pass0 (pa_cons (pe_slice sl_tup (pv 2) (po_some pe_int) po_none) (pa_cons (pv 3) pa_nil))))) (pss_one (ps_rz c hr2 (by rfl) (takes_of rfl rfl rfl rfl) (by rfl) (pv 2))) pss_nil)
      (pss_cons (ps_if (pt_val (by exact (pe_call GM hr (by rfl) gM kM bM .nil pass0 (pa_cons (by exact (pe_call GD hr1 (by rfl) gD kD bD .nil pass0 (pa_cons (pe_orT (pv 4) (pe_one (pe_lst pa_nil))) pa_nil))) (pa_cons (pv 3) pa_nil))))) (pss_one (ps_rz c hr2 (by rfl) (takes_of rfl rfl rfl rfl) (by rfl) (pv 4))) pss_nil)
      (pss_cons (ps_if (pt_val (by exact (pe_call GM hr (by rfl) gM kM bM .nil pass0 (pa_cons (by exact (pe_call GT hr1 (by rfl) gT kT bT .nil pass0 (pa_cons (pe_orT (pv 5) (pe_one (pe_lst pa_nil))) pa_nil))) (pa_cons (pv 3) pa_nil))))) (pss_one (ps_rz c hr2 (by rfl) (takes_of rfl rfl rfl rfl) (by rfl) (pv 5))) pss_nil)
      (pss_cons (ps_fld (pv 0) (pv 1) rfl)
      (pss_cons (ps_fld (pv 0) (pv 2) rfl)
      (pss_cons (ps_fld (pv 0) (pe_callTy call_list_of (by rfl) B.lst PyProof.Rows.boot_list (pa_cons (pv 3) pa_nil)) rfl)
      (pss_cons (ps_fld (pv 0) (pe_callTy call_list_of (by rfl) B.lst PyProof.Rows.boot_list (pa_cons (pe_orT (pv 4) (pe_one (pe_lst pa_nil))) pa_nil)) rfl)
      (pss_one (ps_fld (pv 0) (pe_callTy call_list_of (by rfl) B.lst PyProof.Rows.boot_list (pa_cons (pe_orT (pv 5) (pe_one (pe_lst pa_nil))) pa_nil)) rfl))))))))))))), ?_⟩
    have wx : ∀ {i : Nat} {u : V} {D : Ends} {σ : L2.St} {G : Hp}, σ[i]? = some (some u) → Same H G → (∀ G, Same H G → Wx CE "value" G u E) → tRz CE "value" (tVar i) (fun c d _ G => E c d G) D σ G := fun {i u D σ G} e s r => ⟨u, e, r G s⟩
    refine ⟨_, rfl, ?_⟩
    dsimp only [tNil]
    refine spTxt.of t0 fun H1 s1 => ⟨_, rfl, ?_⟩
    refine notB h (wx rfl s1) fun h => ?_
    obtain ⟨o1, t1, h⟩ := h
    refine ⟨_, rfl, _, o1, rfl, t1.same s1, fun H2 s2 => ⟨_, rfl, ?_⟩⟩
    have s12 := s1.trans s2
    refine notB h (wx rfl s12) fun h => ?_
    obtain ⟨o2, t2, h⟩ := h
    refine ⟨_, rfl, _, _, rfl, t2.same s12, fun H3 s3 => ⟨_, rfl, ?_⟩⟩
    have s13 := s12.trans s3
    refine notB h (wx rfl s13) fun h => ?_
    obtain ⟨b3, x3, h⟩ := h
    show tSeq _ _ _ _ _
    refine optx_if (x3.same s13) rfl h (fun r G s => wx rfl (s13.trans s) r) fun h G4 s4 => ?_
    replace s13 := s13.trans s4
    obtain ⟨b4, x4, h⟩ := h
    show tSeq _ _ _ _ _
    refine optx_if (x4.same s13) rfl h (fun r G s => wx rfl (s13.trans s) r) fun h G5 s5 => ?_
    replace s13 := s13.trans s5
    clear s4 s5 s1 s2 s12 s3 t0 t1 t2 x3 x4
    obtain ⟨l, th, tt, h, us, ps, qs, ds, rfl, rfl, rfl, ⟨eh, hh⟩, ⟨et, hp, hok, hpl⟩, ⟨oq, hq⟩, ⟨od, hd⟩, q⟩ := h
    obtain ⟨wd, tms, rfl, hw, h3, hts⟩ := hh
    have small : ∀ x, IsVr x ∨ IsNm x → x.length ≤ 1000 := fun x hx => by
      have := tm_len (Or.symm hx)
      omega
    -- head[1:]
    refine ⟨_, rfl, 1, rfl, th, _, rfl, SqT.of (s13 _ _ eh), ?_, fun t6 nt6 => ?_⟩
    · rintro ⟨h, _⟩
      have := HT.sIx_nat ((wd :: tms).map V.str).length 0 1
      rw [show ((1 : Nat) : Int) = 1 by rfl] at this
      rw [this, List.length_map, List.length_cons] at h
      omega
    rw [cut1]
    have s6 : Same H (upd G5 t6 (.tup (tms.map V.str))) := same_put s13 (s13.free nt6)
    refine ⟨_, rfl, t6, tt, tms, us, ps, rfl, ⟨.inr (SqT.of upd_same), fun x hx => small x (hts x hx), by omega⟩, ⟨SqL.of (s6 _ _ et), hp.same s6, hok, by omega⟩, fun G7 s7 => ⟨_, rfl, ?_⟩⟩
    replace s13 := s6.trans s7
    refine yesB (show if hasMore tms ps = true then _ else _ from q) (fun r => wx rfl s13 r) fun q => ?_
    clear s6 s7
    show tSeq _ _ _ _ _
    refine if_sidesX (K := K) (v := v3) (o := oq.same s13) rfl rfl (fun x hx => hq x hx) (s13 _ _ et) (hp.same s13) hok hpl q (fun r G s => wx rfl (s13.trans s) r) fun q G8 s8 => ?_
    replace s13 := s13.trans s8
    show tSeq _ _ _ _ _
    refine if_termsX (K := K) (v := v4) (o := od.same s13) rfl rfl hd (s13 _ _ et) (hp.same s13) hok hpl q (fun r G s => wx rfl (s13.trans s) r) fun q G9 s9 => ?_
    replace s13 := s13.trans s9
    clear s8 s9
    -- the fields
    refine ⟨_, rfl, _, rfl, r, C, dx, [], rfl, s13 _ _ er, R.cl, R.n1, (by show 0 < 1000; decide), ?_⟩
    have f1 : Sb r H (upd G9 r (.ins C dx (putF "_label" (V.str l) []))) := (Sb.of s13).trans Sb.upd
    have e1 : upd G9 r (.ins C dx (putF "_label" (V.str l) [])) r = some (.ins C dx [("_label", .str l)]) := upd_same
    generalize upd G9 r (.ins C dx (putF "_label" (V.str l) [])) = G at f1 e1 ⊢
    refine ⟨_, rfl, _, rfl, r, C, dx, _, rfl, e1, R.cl, R.n2, (by show 1 < 1000; decide), ?_⟩
    rw [putF2]
    have f2 : Sb r H (upd G r (.ins C dx [("_label", .str l), ("_head", .ref th)])) := f1.trans Sb.upd
    have e2 : upd G r (.ins C dx [("_label", .str l), ("_head", .ref th)]) r = some (.ins C dx [("_label", .str l), ("_head", .ref th)]) := upd_same
    generalize upd G r (.ins C dx [("_label", .str l), ("_head", .ref th)]) = G at f2 e2 ⊢
    have tne : tt ≠ r := fun z => by
      rw [z, er] at et
      cases et
    refine ⟨_, rfl, tt, us, rfl, .inl (SqL.of (f2 _ _ tne et)), fun l1 n1 => ⟨_, rfl, r, C, dx, _, rfl, same_new n1 _ _ e2, R.cl, R.n3, (by show 2 < 1000; decide), ?_⟩⟩
    rw [putF3]
    have l1r : l1 ≠ r := fun z => by
      rw [z, e2] at n1
      cases n1
    have n1H : H l1 = none := by
      cases g : H l1 with
      | none => rfl
      | some o =>
        rw [f2 _ _ l1r g] at n1
        cases n1
    have f3 : Sb r H (upd (upd G l1 (.lst us)) r (.ins C dx [("_label", .str l), ("_head", .ref th), ("_told", .ref l1)])) := (f2.put n1H).trans Sb.upd
    have e3 : upd (upd G l1 (.lst us)) r (.ins C dx [("_label", .str l), ("_head", .ref th), ("_told", .ref l1)]) r = some (.ins C dx [("_label", .str l), ("_head", .ref th), ("_told", .ref l1)]) := upd_same
    have el1 : upd (upd G l1 (.lst us)) r (.ins C dx [("_label", .str l), ("_head", .ref th), ("_told", .ref l1)]) l1 = some (.lst us) := by rw [upd_ne l1r, upd_same]
    generalize upd (upd G l1 (.lst us)) r (.ins C dx [("_label", .str l), ("_head", .ref th), ("_told", .ref l1)]) = G3 at f3 e3 el1 ⊢
    refine fld_list (K := K) (v := v3) (oq.sbo er f3) rfl rfl e3 R.cl R.n4 (by show 3 < 1000; decide) fun l2 us2 G4 n2 s4 e4 el2 p2 => ?_
    rw [putF4] at e4
    have f4 := f3.trans s4
    have l2r : l2 ≠ r := fun z => by
      rw [z, e3] at n2
      cases n2
    have el1' := s4 _ _ l1r el1
    have n2H : H l2 = none := by
      cases g : H l2 with
      | none => rfl
      | some o =>
        rw [f3 _ _ l2r g] at n2
        cases n2
    refine fld_list (K := K) (v := v4) (od.sbo er f4) rfl rfl e4 R.cl R.n5 (by show 4 < 1000; decide) fun l3 us3 G5 n3 s5 e5 el3 p3 => ?_
    rw [putF5] at e5
    have l3r : l3 ≠ r := fun z => by
      rw [z, e4] at n3
      cases n3
    have n3H : H l3 = none := by
      cases g : H l3 with
      | none => rfl
      | some o =>
        rw [f4 _ _ l3r g] at n3
        cases n3
    exact q l1 l2 l3 us2 us3 G5 n1H n2H n3H (f4.trans s5) e5 (s5 _ _ l1r el1') (s5 _ _ l2r el2) (p2.sbo e4 s5) el3 p3
end
end Nv
set_option maxHeartbeats 4000000
namespace Nv
open PySem PySem.Spec PyProof.Rows L2
/-! # Question.__init__, also where it raises -/
section
variable {P : Program} {w : World} {K : PySem.W.Frag} {mg : Str → Option Value} {base : Heap}
/-- a value that may be a list of texts: its parts, where it is a list -/
def Tl (K : PySem.W.Frag) (H : Hp) (v : V) : Option (List (Option Str)) → Prop
  | some os => ∃ (a : Addr) (xs : List V), v = .ref a ∧ H a = some (.lst xs) ∧ All2 (Tv K H) xs os ∧ os.length ≤ 1000
  | none => ∃ t : Value, TyX K H v t ∧ PySem.W.kitOne K t (.type "list") = some false
theorem Tl.same {H G : Hp} {v : V} : ∀ {o : Option (List (Option Str))}, Tl K H v o → Same H G → Tl K G v o
  | some os, ⟨t, xs, e, h, a, l⟩, s => ⟨t, xs, e, s _ _ h, a.imp fun _ _ z => z.same s, l⟩
  | none, ⟨t, h, k⟩, s => ⟨t, tyx_same s h, k⟩
def colB : Option (List (Option Str)) → Bool
  | some os => os.all vrO
  | none => false
theorem tl_strs {H : Hp} {t : Addr} {p : List Str} (e : H t = some (.lst (p.map V.str))) (hp : ∀ x ∈ p, x.length ≤ 1000) (hl : p.length ≤ 1000) : Tl K H (.ref t) (some (p.map some)) := by
  refine ⟨t, _, rfl, e, ?_, by rw [List.length_map]; exact hl⟩
  clear e hl
  induction p with
  | nil => exact .nil
  | cons x p ih => exact .cons ⟨rfl, Nat.le_trans (hp x List.mem_cons_self) big1000⟩ (ih fun y hy => hp y (List.mem_cons_of_mem _ hy))
/-- the promise: what is raised, or what is made -/
def spQX (K : PySem.W.Frag) (C CE : Addr) : Sp := fun vs H Q E => ∃ (r dx : Addr) (v1 v2 v3 : V), vs = [.ref r, v1, v2, v3] ∧ H r = some (.ins C dx []) ∧
  ∃ o1, Tl K H v1 o1 ∧ if colB o1 = false then (∀ G, Same H G → Wx CE "value" G v1 E) else
  ∃ o2, Tps K H v2 o2 ∧ if listB patB o2 = false then (∀ G, Same H G → Wx CE "value" G v2 E) else
  ∃ b3, OptX K H v3 prB b3 ∧ if b3 = false then (∀ G, Same H G → Wx CE "value" G v3 E) else
  ∃ (tc tt : Addr) (cs : List Str) (us : List V) (ps : List (List Str)) (qs : List (List Str)), v1 = .ref tc ∧ v2 = .ref tt ∧
  (H tc = some (.lst (cs.map V.str)) ∧ (∀ x ∈ cs, IsVr x) ∧ cs.length ≤ 300) ∧ (H tt = some (.lst us) ∧ PaL H us ps ∧ (∀ x ∈ ps, PatOk x) ∧ ps.length ≤ 300) ∧ (Opt H v3 qs ∧ ∀ x ∈ qs, PairOk x) ∧
  if hasMore cs ps = true then (∀ G, Same H G → Wx CE "value" G v1 E) else
  if hasMore qs.flatten ps = true then (∀ G, Same H G → Wx CE "value" G v3 E) else
  ∀ (l1 l2 l3 : Addr) (us2 : List V) (H' : Hp), H l1 = none → H l2 = none → H l3 = none → Sb r H H' → H' r = some (.ins C dx (qF l1 l2 l3)) → H' l1 = some (.lst (cs.map V.str)) → H' l2 = some (.lst us) → PaL H' us ps → H' l3 = some (.lst us2) → PaL H' us2 qs → Q .non H'
theorem ok_qX {f C CE : Addr} {fd : FuncData} (F : FunD K "__init__" "Question.__init__" (defArgs sQInit) (defBody sQInit) (defScope sQInit) [.non] [] f fd) (B : Bp mg) (R : QC K C) (T : Ct P w K mg base) (c : XC P w K mg base "InvalidQuestion" "value" CE) :
    FnOk P w K mg base (CX P w) 5 f fd ["self", "columns", "told", "pairs"] (spQX K C CE) := by
  obtain ⟨fN, dN, GN, kN, gN, bN⟩ := T.vr
  obtain ⟨fS, dS, GS, kS, gS, bS⟩ := T.ps
  obtain ⟨fR, dR, GR, kR, gR, bR⟩ := T.pr
  obtain ⟨fD, dD, GD, kD, gD, bD⟩ := T.sd
  obtain ⟨fM, dM, GM, kM, gM, bM⟩ := T.hm
  refine F.ok scQInit (fun vs H Q E h => ?_) (fun cdv A outer s H vs Q E hr h => ?_)
  · obtain ⟨r, dx, v1, v2, v3, rfl, _⟩ := h
    rfl
  · obtain ⟨r, dx, v1, v2, v3, rfl, er, o1, t1, h⟩ := h
    have hr1 : Room 1 _ := hr.mono (by decide)
    have hr2 : Room 2 _ := hr.mono (by decide)
    refine ⟨_, pss_cons (ps_if (PW.pt (pw_or (pt_not (pt_val (pe_callB call_isi (by rfl) B.isi bootIsi (pa_cons (pv 1) (pa_cons (pe_bltn (v := V.ty "list") (by rfl) B.lst PyProof.Rows.boot_list rfl) pa_nil)))))
        (pw_or1 (pt_not (pt_val (pe_callB (cr_all rfl) (by rfl) B.all bootAll (pa_cons (by exact (pe_lc (own := [("part", 4)]) (g := gName 4) (tt := tYes) (te := tCall (spTxt K fun z => decide (IsVr z)) [] E0 (tCons (tVar 4) tNil)) rfl scQInit.nd (pi_list (pv 1))
          (blkOk_by (own := [("part", 4)]) (N := ["self", "columns", "told", "pairs", "part"]) (sc := defScope sQInit) (by decide +kernel))
          (fun _ _ _ _ _ => pg_name (i := 4) scQInit.nd rfl (Or.inl rfl)) (fun _ _ _ _ _ => pts_nil)
          (fun _ _ _ _ _ => by exact (pe_call GN hr1 (by rfl) gN kN bN .nil pass0 (pa_cons (pv 4) pa_nil))))) pa_nil))))))) (pss_one (ps_rz c hr2 (by rfl) (takes_of rfl rfl rfl rfl) (by rfl) (pv 1))) pss_nil)
      (pss_cons (ps_if (pt_not (pt_val (by exact (pe_call GS hr (by rfl) gS kS bS .nil pass0 (pa_cons (pv 2) pa_nil))))) (pss_one (ps_rz c hr2 (by rfl) (takes_of rfl rfl rfl rfl) (by rfl) (pv 2))) pss_nil)
      (pss_cons (ps_if (PW.pt (pw_and (pt_cmpR op_notN (pv 3) pe_non (nomark _)) (pw_and1 (pt_not (pt_val (by exact (pe_call GR hr (by rfl) gR kR bR .nil pass0 (pa_cons (pv 3) pa_nil)))))))) (pss_one (ps_rz c hr2 (by rfl) (takes_of rfl rfl rfl rfl) (by rfl) (pv 3))) pss_nil)
      (pss_cons (ps_if (pt_val (by exact (pe_call GM hr (by rfl) gM kM bM .nil pass0 (pa_cons (pv 1) (pa_cons (pv 2) pa_nil))))) (pss_one (ps_rz c hr2 (by rfl) (takes_of rfl rfl rfl rfl) (by rfl) (pv 1))) pss_nil)
      (pss_cons (ps_if (pt_val (by exact (pe_call GM hr (by rfl) gM kM bM .nil pass0 (pa_cons (by exact (pe_call GD hr1 (by rfl) gD kD bD .nil pass0 (pa_cons (pe_orT (pv 3) (pe_one (pe_lst pa_nil))) pa_nil))) (pa_cons (pv 2) pa_nil))))) (pss_one (ps_rz c hr2 (by rfl) (takes_of rfl rfl rfl rfl) (by rfl) (pv 3))) pss_nil)
      (pss_cons (ps_fld (pv 0) (pe_callTy call_list_of (by rfl) B.lst PyProof.Rows.boot_list (pa_cons (pv 1) pa_nil)) rfl)
      (pss_cons (ps_fld (pv 0) (pe_callTy call_list_of (by rfl) B.lst PyProof.Rows.boot_list (pa_cons (pv 2) pa_nil)) rfl)
      (pss_one (ps_fld (pv 0) (pe_callTy call_list_of (by rfl) B.lst PyProof.Rows.boot_list (pa_cons (pe_orT (pv 3) (pe_one (pe_lst pa_nil))) pa_nil)) rfl)))))))), ?_⟩
    have wx : ∀ {i : Nat} {u : V} {D : Ends} {σ : L2.St} {G : Hp}, σ[i]? = some (some u) → Same H G → (∀ G, Same H G → Wx CE "value" G u E) → tRz CE "value" (tVar i) (fun c d _ G => E c d G) D σ G := fun {i u D σ G} e s r => ⟨u, e, r G s⟩
    cases o1 with
    | none =>
      obtain ⟨t, ht, hk⟩ := t1
      exact ⟨_, rfl, _, _, _, _, false, rfl, .ty _, ht, hk, false, rfl, iteT (iteT (wx rfl (Same.refl _) (by rw [if_pos (show colB none = false from rfl)] at h; exact h)))⟩
    | some os =>
    obtain ⟨tc, xs, rfl, ec, hx, hxl⟩ := t1
    have hxx := hx.len
    refine ⟨_, rfl, _, _, _, _, true, rfl, .ty _, tyx_lst ec, kit_ty (by decide +kernel), true, rfl, iteF ?_⟩
    refine ⟨_, rfl, tc, rfl, ⟨_, SqL.of ec⟩, fun D nD => ?_⟩
    refine lc_list (K := K) (a := tc) (xs := xs) (fun i H' => Same H H' ∧ H' D = some (.lst ((os.take i).map fun o => V.bl (vrO o)))) ⟨same_new nD, upd_same⟩ (fun i H' _ y => SqL.of (y.1 _ _ ec)) ?_ ?_
    · rintro i v H1 hi ⟨s1, e1⟩
      obtain ⟨o, ho, tv⟩ := hx.at_ hi
      refine ⟨rfl, _, rfl, ?_⟩
      dsimp only [tNil]
      refine spTxt.of (tv.same s1) fun H2 s2 => ?_
      show ∃ acc, H2 D = some (.lst acc) ∧ acc.length < sizeLine ∧ _
      refine ⟨_, s2 _ _ e1, ?_, same_put (s1.trans s2) nD, ?_⟩
      · rw [List.length_map, List.length_take]
        exact Nat.lt_of_le_of_lt (by omega : _ ≤ 1000) (by decide)
      · rw [upd_same, take_one ho, List.map_append] <;> rfl
    · rintro H1 ⟨s1, e1⟩
      rw [hxx, List.take_length] at e1
      refine ⟨D, os.map vrO, rfl, SqL.of (by rw [e1, List.map_map] <;> rfl), _, rfl, ?_⟩
      have eall : (os.map vrO).all id = colB (some os) := by
        show _ = os.all vrO
        rw [List.all_map]
        rfl
      rw [eall]
      refine notB h (wx rfl s1) fun h => ?_
      obtain ⟨o2, t2, h⟩ := h
      refine ⟨_, rfl, _, _, rfl, t2.same s1, fun H2 s2 => ⟨_, rfl, ?_⟩⟩
      have s12 := s1.trans s2
      refine notB h (wx rfl s12) fun h => ?_
      obtain ⟨b3, x3, h⟩ := h
      show tSeq _ _ _ _ _
      refine optx_if (x3.same s12) rfl h (fun r G s => wx rfl (s12.trans s) r) fun h G3 s3 => ?_
      have s13 := s12.trans s3
      clear s3 s12 s2 s1 e1 t2 x3
      obtain ⟨tc', tt, cs, us, ps, qs, ev, rfl, ⟨ec2, hc, hcl⟩, ⟨et, hp, hok, hpl⟩, ⟨oq, hq⟩, q⟩ := h
      cases ev
      clear hx hxx ec
      replace ec := ec2
      refine ⟨_, rfl, _, rfl, tc, tt, cs, us, ps, rfl, ⟨.inl (SqL.of (s13 _ _ ec)), fun x hx => by have := (hc x hx).2.1; omega, by omega⟩, ⟨SqL.of (s13 _ _ et), hp.same s13, hok, by omega⟩, fun G4 s4 => ⟨_, rfl, ?_⟩⟩
      replace s13 := s13.trans s4
      refine yesB q (fun r => wx rfl s13 r) fun q => ?_
      show tSeq _ _ _ _ _
      refine if_sidesX (K := K) (v := v3) (o := oq.same s13) rfl rfl (fun x hx => hq x hx) (s13 _ _ et) (hp.same s13) hok hpl q (fun r G s => wx rfl (s13.trans s) r) fun q G9 s8 => ?_
      replace s13 := s13.trans s8
      clear s8 s4
      refine ⟨_, rfl, tc, _, rfl, .inl (SqL.of (s13 _ _ ec)), fun l1 n1 => ⟨_, rfl, r, C, dx, [], rfl, same_new n1 _ _ (s13 _ _ er), R.cl, R.n1, (by show 0 < 1000; decide), ?_⟩⟩
      have l1r : l1 ≠ r := fun z => by
        rw [z, s13 _ _ er] at n1
        cases n1
      have n1H := s13.free n1
      have f1 : Sb r H (upd (upd G9 l1 (.lst (cs.map V.str))) r (.ins C dx (putF "_columns" (V.ref l1) []))) := (Sb.of (same_put s13 n1H)).trans Sb.upd
      have e2 : upd (upd G9 l1 (.lst (cs.map V.str))) r (.ins C dx (putF "_columns" (V.ref l1) [])) r = some (.ins C dx [("_columns", .ref l1)]) := upd_same
      have el1 : upd (upd G9 l1 (.lst (cs.map V.str))) r (.ins C dx (putF "_columns" (V.ref l1) [])) l1 = some (.lst (cs.map V.str)) := by rw [upd_ne l1r, upd_same]
      generalize upd (upd G9 l1 (.lst (cs.map V.str))) r (.ins C dx (putF "_columns" (V.ref l1) [])) = G at f1 e2 el1 ⊢
      have tne : tt ≠ r := fun z => by
        rw [z, er] at et
        cases et
      refine ⟨_, rfl, tt, us, rfl, .inl (SqL.of (f1 _ _ tne et)), fun l2 n2 => ⟨_, rfl, r, C, dx, _, rfl, same_new n2 _ _ e2, R.cl, R.n2, (by show 1 < 1000; decide), ?_⟩⟩
      rw [qF2]
      obtain ⟨l2r, n2H⟩ := free_sb f1 e2 n2
      have l12 : l1 ≠ l2 := fun z => by
        rw [← z, el1] at n2
        cases n2
      have f2 : Sb r H (upd (upd G l2 (.lst us)) r (.ins C dx [("_columns", V.ref l1), ("_told", V.ref l2)])) := (f1.put n2H).trans Sb.upd
      have e3 : upd (upd G l2 (.lst us)) r (.ins C dx [("_columns", V.ref l1), ("_told", V.ref l2)]) r = some (.ins C dx [("_columns", V.ref l1), ("_told", V.ref l2)]) := upd_same
      have el1' : upd (upd G l2 (.lst us)) r (.ins C dx [("_columns", V.ref l1), ("_told", V.ref l2)]) l1 = some (.lst (cs.map V.str)) := by rw [upd_ne l1r, upd_ne l12]; exact el1
      have el2 : upd (upd G l2 (.lst us)) r (.ins C dx [("_columns", V.ref l1), ("_told", V.ref l2)]) l2 = some (.lst us) := by rw [upd_ne l2r, upd_same]
      generalize upd (upd G l2 (.lst us)) r (.ins C dx [("_columns", V.ref l1), ("_told", V.ref l2)]) = G3 at f2 e3 el1' el2 ⊢
      refine fld_list (K := K) (v := v3) (oq.sbo er f2) rfl rfl e3 R.cl R.n3 (by show 2 < 1000; decide) fun l3 us2 G5 n3 s5 e5 el3 p3 => ?_
      rw [qF3] at e5
      obtain ⟨l3r, n3H⟩ := free_sb f2 e3 n3
      exact q l1 l2 l3 us2 G5 n1H n2H n3H (f2.trans s5) e5 (s5 _ _ l1r el1') (s5 _ _ l2r el2) ((hp.sbo er f2).sbo e3 s5) el3 p3
end
end Nv
set_option maxHeartbeats 4000000
namespace Nv
open PySem PySem.Spec PyProof.Rows L2
/-! # Book.__init__, also where it raises -/
section
variable {P : Program} {w : World} {K : PySem.W.Frag} {mg : Str → Option Value} {base : Heap}
/-- a value, and whether isinstance finds it to be of the class at C -/
def Tr (K : PySem.W.Frag) (C : Addr) (H : Hp) (v : V) (b : Bool) : Prop := ∃ t : Value, TyX K H v t ∧ PySem.W.kitOne K t (.ref C) = some b
theorem Tr.same {C : Addr} {H G : Hp} {v : V} {b : Bool} (h : Tr K C H v b) (s : Same H G) : Tr K C G v b :=
  let ⟨t, ht, hk⟩ := h
  ⟨t, tyx_same s ht, hk⟩
/-- the promise: what is raised, or what is made -/
def spBookX (K : PySem.W.Frag) (CR C CE : Addr) : Sp := fun vs H Q E => ∃ (r dx : Addr) (v : V), vs = [.ref r, v] ∧ H r = some (.ins C dx []) ∧
  (((∃ t : Value, TyX K H v t ∧ PySem.W.kitOne K t (.type "list") = some false) ∧ ∀ G, Same H G → Wx CE "value" G v E) ∨
  ∃ (a : Addr) (xs : List V) (bs : List Bool), v = .ref a ∧ H a = some (.lst xs) ∧ All2 (Tr K CR H) xs bs ∧ bs.length ≤ 1000 ∧
    if bs.all id = false then (∀ G, Same H G → Wx CE "value" G v E) else
    ∃ (rs : List Addr) (ys : List Rl), xs = rs.map V.ref ∧ RAs CR H rs ys ∧ ys.length ≤ 100 ∧
    if (!decide (ys.map Rl.l).Nodup) = true then (∀ G, Same H G → Wx CE "value" G v E) else
    ∀ (l1 : Addr) (H' : Hp), H l1 = none → Sb r H H' → H' r = some (.ins C dx [("_rules", .ref l1)]) → H' l1 = some (.lst (rs.map V.ref)) → Q .non H')
theorem ok_bookX {f C CR CE fH : Addr} {fd dH : FuncData} (F : Fun K "__init__" "Book.__init__" sBookInit f fd) (B : Bp mg) (cl : Cls K C) (na : NoAttr K C "_rules") (R : RC K CR) (I : IC K CR) (gR : mg "Rule" = some (.ref CR)) (L : PL P w K mg base CR "label" "_label")
    (GH : FnOk P w K mg base CX0 1 fH dH ["labels"] (spHasDouble K)) (kH : PySem.W.keepIn K (.ref fH) = true) (gH : mg "_has_double" = some (.ref fH)) (bH : Binds K dH ["labels"] []) (c : XC P w K mg base "InvalidBook" "value" CE) :
    FnOk P w K mg base (CX P w) 3 f fd ["self", "rules"] (spBookX K CR C CE) := by
  obtain ⟨pp, pg, pd, PO, PF, PB⟩ := L.ex
  refine F.okX scBookInit (fun vs H Q E h => ?_) (fun cdv A outer s H vs Q E hr h => ?_)
  · obtain ⟨r, dx, v, rfl, _⟩ := h
    rfl
  · obtain ⟨r, dx, v, rfl, er, h⟩ := h
    have hr1 : Room 1 _ := hr.mono (by decide)
    refine ⟨_, pss_cons (ps_if (PW.pt (pw_or (pt_not (pt_val (pe_callB call_isi (by rfl) B.isi bootIsi (pa_cons (pv 1) (pa_cons (pe_bltn (v := V.ty "list") (by rfl) B.lst PyProof.Rows.boot_list rfl) pa_nil)))))
        (pw_or1 (pt_not (pt_val (pe_callB (cr_all rfl) (by rfl) B.all bootAll (pa_cons (by exact (pe_lc (own := [("part", 2)]) (g := gName 2) (tt := tYes) (te := tCB (rIsi K) (tCons (tVar 2) (tCons (tC (.ref CR)) tNil))) rfl scBookInit.nd (pi_list (pv 1))
          (blkOk_by (own := [("part", 2)]) (N := ["self", "rules", "part"]) (sc := defScope sBookInit) (by decide +kernel))
          (fun _ _ _ _ _ => pg_name (i := 2) scBookInit.nd rfl (Or.inl rfl)) (fun _ _ _ _ _ => pts_nil)
          (fun _ _ _ _ _ => by exact (pe_callB call_isi (by rfl) B.isi bootIsi (pa_cons (pv 2) (pa_cons (pe_glob (v := V.ref CR) (by rfl) gR rfl) pa_nil)))))) pa_nil))))))) (pss_one (ps_rz c hr (by rfl) (takes_of rfl rfl rfl rfl) (by rfl) (pv 1))) pss_nil)
      (pss_cons (ps_if (pt_val (by exact (pe_call GH hr1 (by rfl) gH kH bH .nil pass0 (pa_cons (by exact (pe_lc (own := [("part", 2)]) (g := gName 2) (tt := tYes) (te := tProp CR (getSp CR "_label") [] E0 (tVar 2)) rfl scBookInit.nd (pi_list (pv 1))
          (blkOk_by (own := [("part", 2)]) (N := ["self", "rules", "part"]) (sc := defScope sBookInit) (by decide +kernel))
          (fun _ _ _ _ _ => pg_name (i := 2) scBookInit.nd rfl (Or.inl rfl)) (fun _ _ _ _ _ => pts_nil)
          (fun _ _ _ _ _ => by exact (pe_prop (pv 2) R.cl PO PF hr PB .nil pass0 rfl)))) pa_nil)))) (pss_one (ps_rz c hr (by rfl) (takes_of rfl rfl rfl rfl) (by rfl) (pv 1))) pss_nil)
      (pss_one (ps_fld (pv 0) (pe_callTy call_list_of (by rfl) B.lst PyProof.Rows.boot_list (pa_cons (pv 1) pa_nil)) rfl))), ?_⟩
    have wx : ∀ {i : Nat} {u : V} {D : Ends} {σ : L2.St} {G : Hp}, σ[i]? = some (some u) → Same H G → (∀ G, Same H G → Wx CE "value" G u E) → tRz CE "value" (tVar i) (fun c d _ G => E c d G) D σ G := fun {i u D σ G} e s r => ⟨u, e, r G s⟩
    rcases h with ⟨⟨t, ht, hk⟩, h⟩ | ⟨a, xs, bs, rfl, ea, hx, hl, h⟩
    · exact ⟨_, rfl, _, _, _, _, false, rfl, .ty _, ht, hk, false, rfl, iteT (iteT (wx rfl (Same.refl _) h))⟩
    have hxx := hx.len
    refine ⟨_, rfl, _, _, _, _, true, rfl, .ty _, tyx_lst ea, kit_ty (by decide +kernel), true, rfl, iteF ?_⟩
    refine ⟨_, rfl, a, rfl, ⟨_, SqL.of ea⟩, fun D nD => ?_⟩
    refine lc_list (K := K) (a := a) (xs := xs) (fun i H' => Same H H' ∧ H' D = some (.lst ((bs.take i).map V.bl))) ⟨same_new nD, upd_same⟩ (fun i H' _ y => SqL.of (y.1 _ _ ea)) ?_ ?_
    · rintro i v H1 hi ⟨s1, e1⟩
      obtain ⟨b, hb, tr⟩ := hx.at_ hi
      obtain ⟨t, ht, hk⟩ := tr.same s1
      refine ⟨rfl, _, rfl, _, _, _, _, b, rfl, .own _, ht, hk, ?_⟩
      refine ⟨_, e1, ?_, same_put s1 nD, ?_⟩
      · rw [List.length_map, List.length_take]
        exact Nat.lt_of_le_of_lt (by omega : _ ≤ 1000) (by decide)
      · rw [upd_same, take_one hb, List.map_append] <;> rfl
    · rintro H1 ⟨s1, e1⟩
      rw [hxx, List.take_length] at e1
      refine ⟨D, bs, rfl, SqL.of e1, _, rfl, ?_⟩
      refine notB h (wx rfl s1) fun h => ?_
      obtain ⟨rs, ys, rfl, ha, hyl, q⟩ := h
      clear hx hxx e1
      have hxl := ha.len
      refine ⟨_, rfl, a, rfl, ⟨_, SqL.of (s1 _ _ ea)⟩, fun D2 nD2 => ?_⟩
      refine lc_list (K := K) (a := a) (xs := rs.map V.ref) (fun i H' => Same H H' ∧ H' D2 = some (.lst (((ys.map Rl.l).take i).map V.str))) ⟨same_put s1 (s1.free nD2), upd_same⟩ (fun i H' _ y => SqL.of (y.1 _ _ ea)) ?_ ?_
      · rintro i v H2 hi ⟨s2, e2⟩
        obtain ⟨ri, hri, rfl⟩ := at_ref hi
        obtain ⟨x, hxi, ra⟩ := ha.at_ hri
        obtain ⟨dx2, th, l1, l2, l3, us, us2, us3, g, _⟩ := ra.same s2
        have hz : (ys.map Rl.l)[i]? = some x.l := by rw [List.getElem?_map, hxi] <;> rfl
        refine ⟨rfl, _, rfl, ri, dx2, _, rfl, g, ri, dx2, _, _, rfl, g, lk1, ?_⟩
        refine ⟨_, e2, ?_, same_put s2 (s1.free nD2), ?_⟩
        · rw [List.length_map, List.length_take, List.length_map]
          exact Nat.lt_of_le_of_lt (by omega : _ ≤ 100) (by decide)
        · rw [upd_same, take_one hz, List.map_append] <;> rfl
      · rintro H2 ⟨s2, e2⟩
        have hfull : (ys.map Rl.l).take (rs.map V.ref).length = ys.map Rl.l := List.take_of_length_le (by rw [List.length_map, List.length_map]; omega)
        rw [hfull] at e2
        refine ⟨D2, ys.map Rl.l, rfl, SqL.of e2, by rw [List.length_map]; omega, _, rfl, ?_⟩
        refine yesB q (wx rfl s2) fun q => ?_
        refine ⟨_, rfl, a, _, rfl, .inl (SqL.of (s2 _ _ ea)), fun l1 n1 => ⟨_, rfl, r, C, dx, [], rfl, same_new n1 _ _ (s2 _ _ er), cl, na, (by show 0 < 1000; decide), ?_⟩⟩
        have n1r : l1 ≠ r := fun z => by
          rw [z, s2 _ _ er] at n1
          cases n1
        exact q l1 _ (s2.free n1) ((Sb.of (same_put s2 (s2.free n1))).trans Sb.upd) upd_same (by rw [upd_ne n1r, upd_same])
end
end Nv
set_option maxHeartbeats 4000000
namespace L2
open PySem PySem.Spec PyProof.Rows
/-! # A caught exception with one field: isinstance, its field; an instance made by an __init__ that may raise, inside a try -/
/-- at a stands a caught exception of the class at C, whose field f holds v -/
def CtX (H : Hp) (a C : Addr) (f : Str) (v : V) : Prop := ∃ d, H a = some (CtH (.ref C) (some d) a) ∧ H d = some (.xd [(f, v)])
theorem CtX.same {H H' : Hp} {a C : Addr} {f : Str} {v : V} (x : CtX H a C f v) (e : Same H H') : CtX H' a C f v :=
  let ⟨d, h1, h2⟩ := x
  ⟨d, e _ _ h1, e _ _ h2⟩
theorem CtX.inst {P : Program} {w : World} {H : Hp} {h : Heap} {a C : Addr} {f : Str} {v : V} (ok : HOk P w H h) (x : CtX H a C f v) :
    ∃ ox od u, PySem.W.InstAt h a ox C (some od) ∧ RelV v u ∧ PySem.W.lookIn f od = some (some u) := by
  obtain ⟨d, e1, e2⟩ := x
  obtain ⟨⟨oc, odd, oda, osl⟩, vs, ho, ⟨h1, h2⟩, hd⟩ := ctH_at ok e1
  dsimp only at h1 h2 hd
  subst h1 h2 hd
  obtain ⟨mA, hns, rel⟩ := ok d _ e2
  obtain ⟨od, hod, hl⟩ := lookIn_ns hns
  have l : List.lookup f [(f, v)] = some v := by simp [List.lookup]
  obtain ⟨u, hu, ru⟩ := RelO.some_of (v := v) (o := mA f) (by rw [← l]; exact rel f)
  exact ⟨_, od, u, ⟨ho, rfl, rfl, hod⟩, ru, by rw [hl, hu]⟩
section
variable {X : Cx} {e : Expr} {te : TE} {f : Str} {pos : Pos}
def rIsC (K : PySem.W.Frag) : List V → Hp → VK → Prop := fun xs H Q => ∃ (a D : Addr) (f : Str) (v c : V) (u : Value) (b : Bool),
  xs = [.ref a, c] ∧ CtX H a D f v ∧ XKit K D ∧ ClsV c u ∧ PySem.W.kitOne K (.ref D) u = some b ∧ Q (.bl b) H
theorem call_isC (O : XObj X.K) : CallR X (.builtin "isinstance") (rIsC X.K) := by
  intro pins s σ H xs us Q I r h
  obtain ⟨a, D, f, v, c, u, b, rfl, hx, T, k, e, q⟩ := h
  obtain ⟨u1, u2, rfl, r1, r2⟩ := vals2 r
  have e2 := k.eq r2
  subst e2
  cases (show u1 = Value.ref a from r1)
  obtain ⟨ox, od, _, J, _, _⟩ := hx.inst I.hok
  exact PySem.W.kia_one (PySem.W.kitx_exc T.cl T.ga T.gg T.sb T.cc O.gt O.tk T.ob) I.kIn J e (fun z => nomatch z) fun tk => ⟨.bl b, H, I.tok tk, rfl, q⟩
/-- x.f of a caught exception -/
def tXC (K : PySem.W.Frag) (P : Program) (w : World) (mg : Str → Option Value) (base : Heap) (f : Str) (te : TE) : TE := fun σ H Q => te σ H fun y H1 =>
  ∃ (a C : Addr) (x : Str) (v : V), y = .ref a ∧ XC P w K mg base x f C ∧ CtX H1 a C f v ∧ Q v H1
theorem pe_xc (he : PE X e te) (hb : attributeBase e f X.env (eval e X.env) = eval e X.env := by rfl) : PE X (.Attribute e f pos) (tXC X.K X.prog X.w X.mg X.base f te) := by
  refine ⟨fun pins s σ H Q I h => ?_⟩
  refine attr_of hb (thn (he.run pins s σ H _ I h) fun u s1 hh => ?_)
  obtain ⟨y, H1, I1, ry, a, C, x, v, rfl, c, hx, q⟩ := hh
  obtain rfl : u = Value.ref a := ry
  obtain ⟨ox, od, u, J, ru, l⟩ := hx.inst I1.hok
  exact HandSPX.exc_get I1.kIn J c.ga c.gg c.oex.exC (PySem.W.findObj_own c.hdC c.noF rfl l) (handed_of ru) ⟨v, H1, I1.tok _, ru, q⟩
end
section
variable {X : Cx} {CX : CXT} {k : Nat} {f C : Addr} {fd : FuncData} {ps : List Str} {sp : Sp} {E : St → XK} {x : Str} {p pos : Pos} {e : Expr} {es : List Expr} {t : TA} {ds : List Value} {dvs : List V}
theorem run_mkS {pins : List (Addr × Obj)} {σ : St} {H : Hp} {s : Shared} {Q : VK} {us : List Value} {vs : List V} (M : Mk X.K C f) (F : FnOk X.prog X.w X.K X.mg X.base CX k f fd ps sp) (hr : Room (k + 1) X.A) (hb : Binds X.K fd ps ds) (hd : Vals dvs ds)
    (hx : PassesAt CX X σ (E σ)) (I : Inv X pins σ H s) (r : Vals vs us)
    (h : ∀ y dy, H y = none → H dy = none → dy ≠ y → sp (.ref y :: (vs ++ dvs)) (upd (upd H dy (.own y)) y (.ins C dy [])) (fun v G => v = .non ∧ Q (.ref y) G) (E σ)) :
    wpAny (model X.prog X.w) X.A (call (.ref C) us) (EP X pins σ Q) X.xe s := by
  have z := Nat.lt_succ_self s.heap.objs.size
  have nw := h _ _ (I.hok.fresh (Nat.le_of_lt z)) (I.hok.fresh (Nat.le_refl _)) (Nat.ne_of_lt z)
  have J := Inv.made (C := C) I
  have vv : Vals (V.ref (s.heap.objs.size + 1) :: (vs ++ dvs)) (Value.ref (s.heap.objs.size + 1) :: (us ++ ds)) := .cons rfl (r.append hd)
  have len := vv.length.symm.trans (F.len _ _ _ _ nw)
  have made := F.run _ X.stack _ _ _ _ _ _ (E σ) (hr.make C us []) (J.env0.make C us []) (hb _ (Value.ref (s.heap.objs.size + 1) :: us) J.kIn len) vv nw
  refine wpAny_call (make_map (f := f) I.kIn M.makes M.init (beq_iff_eq.mp M.fn) (codeAny_mono made fun o t q => ?_))
  match o, q with
  | .error e, q => exact hx pins _ _ e t J q
  | .ok (.ret u), q =>
    obtain ⟨v, G, J2, rv, rfl, y⟩ := J.after q
    exact ⟨rv, ⟨V.ref (s.heap.objs.size + 1), G, J2, rfl, y⟩⟩
  | .ok .next, q => exact False.elim q
  | .ok .brk, q => exact False.elim q
  | .ok .cont, q => exact False.elim q
def tMakeS (C : Addr) (sp : Sp) (dvs : List V) (E : St → XK) (t : TA) : TE := fun σ H Q => t σ H fun vs H1 => ∀ y dy, H1 y = none → H1 dy = none → dy ≠ y →
  sp (.ref y :: (vs ++ dvs)) (upd (upd H1 dy (.own y)) y (.ins C dy [])) (fun v G => v = .non ∧ Q (.ref y) G) (E σ)
theorem pe_mkS (M : Mk X.K C f) (F : FnOk X.prog X.w X.K X.mg X.base CX k f fd ps sp) (hr : Room (k + 1) X.A) (hg : Gl X x) (hm : X.mg x = some (.ref C)) (hb : Binds X.K fd ps ds) (hd : Vals dvs ds) (hx : ∀ σ, PassesAt CX X σ (E σ)) (ha : PA X (e :: es) t)
    (hdb : (x == ("__debug__" : Str)) = false := by decide) (he : starEach (e :: es) X.env = (false, eval e X.env) :: starEach es X.env := by rfl) (hpl : (backTo pos (starEach es X.env)).any (·.1) = false := by rfl) :
    PE X (.Call (.Name x p) (e :: es) [] pos) (tMakeS C sp dvs E t) :=
  ⟨fun pins s σ H Q I h => wpAny_Call_Name_kw (ld_glob I hg hm (PySem.W.callWith_K (h₀ := X.base) I.ok.mod.kin M.kp (thn (ha.run pos pins s σ H _ I h) fun _ _ ⟨_, _, J, r, q⟩ => ⟨J.kIn, run_mkS M F hr hb hd (hx σ) J r q⟩) he hpl) hdb)⟩
end
/-- a promise with weaker wishes -/
def Wk (sp : Sp) : Sp := fun vs H Q E => ∃ (Q' : VK) (E' : XK), sp vs H Q' E' ∧ (∀ v G, Q' v G → Q v G) ∧ ∀ c d G, E' c d G → E c d G
theorem fnok_wk {P : Program} {w : World} {K : PySem.W.Frag} {mg : Str → Option Value} {base : Heap} {k : Nat} {f : Addr} {fd : FuncData} {ps : List Str} {sp : Sp} (F : FnOk P w K mg base (CX P w) k f fd ps sp) : FnOk P w K mg base (CX P w) k f fd ps (Wk sp) := by
  refine ⟨fun vs H Q E ⟨Q', E', h, _⟩ => F.len vs H Q' E' h, fun A outer s H args us vs Q E hr e0 hb hv ⟨Q', E', h, hq, he⟩ => codeAny_mono (F.run A outer s H args us vs Q' E' hr e0 hb hv h) fun r s' z => ?_⟩
  cases r with
  | error e =>
    obtain ⟨a, B, H', cls, d, h1, h2, h3, h4, h5, h6, h7, h8⟩ := z
    exact ⟨a, B, H', cls, d, h1, h2, h3, h4, h5, h6, h7, he _ _ _ h8⟩
  | ok fl =>
    cases fl with
    | ret u =>
      obtain ⟨v, H', h1, h2, h3, h4, h5, h6⟩ := z
      exact ⟨v, H', h1, h2, h3, h4, h5, hq _ _ h6⟩
    | next => exact z
    | brk => exact z
    | cont => exact z
end L2
set_option maxHeartbeats 4000000
namespace Nv
open PySem PySem.Spec PyProof.Rows L2
/-! # _law_made: Rule, Question or Book made of a row, or the exception caught -/
section
variable {P : Program} {w : World} {K : PySem.W.Frag} {mg : Str → Option Value} {base : Heap}
/-- what is wished of making an instance of the class at C: it, or the exception caught -/
def Makes (K : PySem.W.Frag) (CN C : Addr) (sp : Sp) (us : List V) (H : Hp) (Q : VK) : Prop := ∀ y dy, H y = none → H dy = none → dy ≠ y →
  sp (.ref y :: us) (upd (upd H dy (.own y)) y (.ins C dy [])) (fun v G => v = .non ∧ Q (.ref y) G) (fun cls d G => PySem.W.exmOne K cls (.ref CN) = some true ∧ ∀ a, G a = none → Q (.ref a) (upd G a (CtH cls d a)))
def spMade (K : PySem.W.Frag) (CN CR CQ CB CEr CEq CEb : Addr) : Sp := fun vs H Q _ => ∃ (b : Addr) (us : List V),
  (vs = [.int 0, .ref b] ∧ (∃ v0 v1 v2 v3 v4, us = [v0, v1, v2, v3, v4]) ∧ H b = some (.lst us) ∧ Makes K CN CR (spRuleX (K := K) CR CEr) us H Q) ∨
  (vs = [.int 1, .ref b] ∧ (∃ v0 v1 v2, us = [v0, v1, v2]) ∧ H b = some (.lst us) ∧ Makes K CN CQ (spQX K CQ CEq) us H Q) ∨
  (vs = [.int 2, .ref b] ∧ (∃ v0, us = [v0]) ∧ H b = some (.lst us) ∧ Makes K CN CB (spBookX K CR CB CEb) us H Q)
theorem scMade : FnScope ["_law_way", "_law_row", "_law_caught", "error"] ["_law_way", "_law_row"] (defScope sMade) := ⟨rfl, rfl, rfl, by decide +kernel, rfl, by decide +kernel, by decide +kernel⟩
def rowAt (K : PySem.W.Frag) (i : Int) : TE := tOp (rIxL K) (tVar 1) (tC (.int i))
def tMadeB (K : PySem.W.Frag) (CR CQ CB CEr CEq CEb : Addr) (W : WX) : TS :=
  tIfS (tTest (tOp rEq (tVar 0) (tC (.int 0)))) (tAsg (tMakeS CR (Wk (spRuleX (K := K) CR CEr)) [] (WE W) (tCons (rowAt K 0) (tCons (rowAt K 1) (tCons (rowAt K 2) (tCons (rowAt K 3) (tCons (rowAt K 4) tNil)))))) (gName 2))
  (tIfS (tTest (tOp rEq (tVar 0) (tC (.int 1)))) (tAsg (tMakeS CQ (Wk (spQX K CQ CEq)) [] (WE W) (tCons (rowAt K 0) (tCons (rowAt K 1) (tCons (rowAt K 2) tNil)))) (gName 2))
  (tAsg (tMakeS CB (Wk (spBookX K CR CB CEb)) [] (WE W) (tCons (rowAt K 0) tNil)) (gName 2)))
/-- a class, how it is made, what its __init__ promises -/
structure MkX (P : Program) (w : World) (K : PySem.W.Frag) (mg : Str → Option Value) (base : Heap) (x : Str) (C : Addr) (k : Nat) (ps : List Str) (sp : Sp) : Prop where
  ex : ∃ (f : Addr) (fd : FuncData), Mk K C f ∧ FnOk P w K mg base (CX P w) k f fd ps sp ∧ Binds K fd ps [] ∧ mg x = some (.ref C)
theorem ok_made {f CN CR CQ CB CEr CEq CEb : Addr} {fd : FuncData} (F : Fun K "_law_made" "_law_made" sMade f fd) (gN : mg "NeverError" = some (.ref CN))
    (MR : MkX P w K mg base "Rule" CR 5 ["self", "label", "head", "told", "pairs", "denied"] (spRuleX (K := K) CR CEr)) (MQ : MkX P w K mg base "Question" CQ 5 ["self", "columns", "told", "pairs"] (spQX K CQ CEq))
    (MB : MkX P w K mg base "Book" CB 3 ["self", "rules"] (spBookX K CR CB CEb)) :
    FnOk P w K mg base CX0 7 f fd ["_law_way", "_law_row"] (spMade K CN CR CQ CB CEr CEq CEb) := by
  obtain ⟨fR, dR, mR, GR, bR, gR⟩ := MR
  obtain ⟨fQ, dQ, mQ, GQ, bQ, gQ⟩ := MQ
  obtain ⟨fB, dB, mB, GB, bB, gB⟩ := MB
  refine F.ok scMade (fun vs H Q E h => ?_) (fun cdv A outer s H vs Q E hr h => ?_)
  · obtain ⟨b, us, ⟨rfl, _⟩ | ⟨rfl, _⟩ | ⟨rfl, _⟩⟩ := h <;> rfl
  · have hr4 : Room 4 _ := hr.mono (by decide)
    refine ⟨_, pss_cons (ps_set (i := 2) scMade.nd rfl (Or.inl rfl) pe_non)
      (pss_cons (ps_try_keep (i := 3) (tb := tMadeB K CR CQ CB CEr CEq CEb) (ts := fun _ _ _ => tAsg (tVar 3) (gName 2)) (Wout := fun _ _ _ _ => False) rfl rfl rfl scMade.nd rfl rfl ⟨rfl, by decide, Or.inl gN⟩ takes0
        (fun W pn xe tk _ => pss_one (ps_if (pt_cmpR op_eq (pv 0) pe_int (nomark _))
          (pss_one (ps_set (i := 2) scMade.nd rfl (Or.inl rfl) (by exact (pe_mkS mR (fnok_wk GR) hr (by rfl) gR bR .nil (fun σ => passAt tk σ) (pa_cons (pe_ix ix_list (pv 1) pe_int (fun _ _ => rfl)) (pa_cons (pe_ix ix_list (pv 1) pe_int (fun _ _ => rfl)) (pa_cons (pe_ix ix_list (pv 1) pe_int (fun _ _ => rfl)) (pa_cons (pe_ix ix_list (pv 1) pe_int (fun _ _ => rfl)) (pa_cons (pe_ix ix_list (pv 1) pe_int (fun _ _ => rfl)) pa_nil)))))))))
          (pss_one (ps_if (pt_cmpR op_eq (pv 0) pe_int (nomark _))
            (pss_one (ps_set (i := 2) scMade.nd rfl (Or.inl rfl) (by exact (pe_mkS mQ (fnok_wk GQ) hr (by rfl) gQ bQ .nil (fun σ => passAt tk σ) (pa_cons (pe_ix ix_list (pv 1) pe_int (fun _ _ => rfl)) (pa_cons (pe_ix ix_list (pv 1) pe_int (fun _ _ => rfl)) (pa_cons (pe_ix ix_list (pv 1) pe_int (fun _ _ => rfl)) pa_nil)))))))
            (pss_one (ps_set (i := 2) scMade.nd rfl (Or.inl rfl) (by exact (pe_mkS mB (fnok_wk GB) hr4 (by rfl) gB bB .nil (fun σ => passAt tk σ) (pa_cons (pe_ix ix_list (pv 1) pe_int (fun _ _ => rfl)) pa_nil)))))))))
        (fun a cls d pn => pss_one (ps_set (i := 2) scMade.nd rfl (Or.inl rfl) (pv 3))))
      (pss_one (ps_ret (pv 2)))), ?_⟩
    obtain ⟨b, us, ⟨rfl, ⟨v0, v1, v2, v3, v4, rfl⟩, eb, mk⟩ | ⟨rfl, ⟨v0, v1, v2, rfl⟩, eb, mk⟩ | ⟨rfl, ⟨v0, rfl⟩, eb, mk⟩⟩ := h
    · show tSeq _ _ _ _ _
      refine ⟨_, rfl, rfl, _, rfl, ?_⟩
      rw [decide_eq_true rfl]
      refine iteT ?_
      have ix : ∀ {i : Int} {v : V} {R : VK} {σ : L2.St}, σ[1]? = some (some (.ref b)) → atI [v0, v1, v2, v3, v4] i = some v → R v H → rowAt K i σ H R := fun {i v R σ} h1 h2 r => ⟨_, h1, b, _, i, v, rfl, rfl, SqL.of eb, h2, r⟩
      refine ix rfl rfl (ix rfl rfl (ix rfl rfl (ix rfl rfl (ix rfl rfl fun y dy n1 n2 ne => ⟨_, _, mk y dy n1 n2 ne, fun v G ⟨e, q⟩ => ⟨e, ?_⟩, fun c d G ⟨hm, q⟩ => ⟨true, hm, fun _ a na => ?_, fun z => nomatch z⟩⟩))))
      · exact ⟨_, rfl, q⟩
      · exact ⟨_, rfl, _, rfl, q a na⟩
    · show tSeq _ _ _ _ _
      refine ⟨_, rfl, rfl, _, rfl, ?_⟩
      rw [decide_eq_false (fun z => by cases z)]
      refine iteF ?_
      refine ⟨_, rfl, rfl, _, rfl, ?_⟩
      rw [decide_eq_true rfl]
      refine iteT ?_
      have ix : ∀ {i : Int} {v : V} {R : VK} {σ : L2.St}, σ[1]? = some (some (.ref b)) → atI [v0, v1, v2] i = some v → R v H → rowAt K i σ H R := fun {i v R σ} h1 h2 r => ⟨_, h1, b, _, i, v, rfl, rfl, SqL.of eb, h2, r⟩
      refine ix rfl rfl (ix rfl rfl (ix rfl rfl (fun y dy n1 n2 ne => ⟨_, _, mk y dy n1 n2 ne, fun v G ⟨e, q⟩ => ⟨e, ?_⟩, fun c d G ⟨hm, q⟩ => ⟨true, hm, fun _ a na => ?_, fun z => nomatch z⟩⟩)))
      · exact ⟨_, rfl, q⟩
      · exact ⟨_, rfl, _, rfl, q a na⟩
    · show tSeq _ _ _ _ _
      refine ⟨_, rfl, rfl, _, rfl, ?_⟩
      rw [decide_eq_false (fun z => by cases z)]
      refine iteF ?_
      refine ⟨_, rfl, rfl, _, rfl, ?_⟩
      rw [decide_eq_false (fun z => by cases z)]
      refine iteF ?_
      have ix : ∀ {i : Int} {v : V} {R : VK} {σ : L2.St}, σ[1]? = some (some (.ref b)) → atI [v0] i = some v → R v H → rowAt K i σ H R := fun {i v R σ} h1 h2 r => ⟨_, h1, b, _, i, v, rfl, rfl, SqL.of eb, h2, r⟩
      refine ix rfl rfl (fun y dy n1 n2 ne => ⟨_, _, mk y dy n1 n2 ne, fun v G ⟨e, q⟩ => ⟨e, ?_⟩, fun c d G ⟨hm, q⟩ => ⟨true, hm, fun _ a na => ?_, fun z => nomatch z⟩⟩)
      · exact ⟨_, rfl, q⟩
      · exact ⟨_, rfl, _, rfl, q a na⟩
end
end Nv
set_option maxHeartbeats 4000000
namespace Nv
open PySem PySem.Spec PyProof.Rows L2
/-! # _law_named: which of four exception classes a caught exception is of -/
section
variable {P : Program} {w : World} {K : PySem.W.Frag} {mg : Str → Option Value} {base : Heap}
def namedBy (b1 b2 b3 b4 : Bool) : Str := if b1 = true then "rule" else if b2 = true then "question" else if b3 = true then "book" else if b4 = true then "unknown" else "none"
def spNamed (K : PySem.W.Frag) (CEr CEq CEb CU : Addr) : Sp := fun vs H Q _ => ∃ (a D : Addr) (f : Str) (v : V) (b1 b2 b3 b4 : Bool), vs = [.ref a] ∧ CtX H a D f v ∧ XKit K D ∧
  PySem.W.kitOne K (.ref D) (.ref CEr) = some b1 ∧ PySem.W.kitOne K (.ref D) (.ref CEq) = some b2 ∧ PySem.W.kitOne K (.ref D) (.ref CEb) = some b3 ∧ PySem.W.kitOne K (.ref D) (.ref CU) = some b4 ∧ Q (.str (namedBy b1 b2 b3 b4)) H
theorem scNamed : FnScope ["_law_caught"] ["_law_caught"] (defScope sNamed) := ⟨rfl, rfl, rfl, by decide +kernel, rfl, by decide +kernel, by decide +kernel⟩
theorem ok_named {f CEr CEq CEb CU : Addr} {fd : FuncData} (F : Fun K "_law_named" "_law_named" sNamed f fd) (B : Bp mg) (O : XObj K) (g1 : mg "InvalidRule" = some (.ref CEr)) (g2 : mg "InvalidQuestion" = some (.ref CEq)) (g3 : mg "InvalidBook" = some (.ref CEb)) (g4 : mg "UnknownName" = some (.ref CU)) :
    FnOk P w K mg base CX0 1 f fd ["_law_caught"] (spNamed K CEr CEq CEb CU) := by
  refine F.ok scNamed (fun vs H Q E h => ?_) (fun cdv A outer s H vs Q E hr h => ?_)
  · obtain ⟨a, D, g, v, b1, b2, b3, b4, rfl, _⟩ := h
    rfl
  · obtain ⟨a, D, g, v, b1, b2, b3, b4, rfl, hx, T, k1, k2, k3, k4, q⟩ := h
    refine ⟨_, pss_cons (ps_if (pt_val (pe_callB (call_isC O) (by rfl) B.isi bootIsi (pa_cons (pv 0) (pa_cons (pe_glob (v := V.ref CEr) (by rfl) g1 rfl) pa_nil)))) (pss_one (ps_ret pe_str)) pss_nil)
      (pss_cons (ps_if (pt_val (pe_callB (call_isC O) (by rfl) B.isi bootIsi (pa_cons (pv 0) (pa_cons (pe_glob (v := V.ref CEq) (by rfl) g2 rfl) pa_nil)))) (pss_one (ps_ret pe_str)) pss_nil)
      (pss_cons (ps_if (pt_val (pe_callB (call_isC O) (by rfl) B.isi bootIsi (pa_cons (pv 0) (pa_cons (pe_glob (v := V.ref CEb) (by rfl) g3 rfl) pa_nil)))) (pss_one (ps_ret pe_str)) pss_nil)
      (pss_one (ps_ret (pe_ifExp (pt_val (pe_callB (call_isC O) (by rfl) B.isi bootIsi (pa_cons (pv 0) (pa_cons (pe_glob (v := V.ref CU) (by rfl) g4 rfl) pa_nil)))) pe_str pe_str))))), ?_⟩
    refine ⟨_, rfl, a, D, g, v, _, _, _, rfl, hx, T, .own _, k1, _, rfl, ?_⟩
    cases b1 with
    | true => exact iteT q
    | false =>
    refine iteF ?_
    refine ⟨_, rfl, a, D, g, v, _, _, _, rfl, hx, T, .own _, k2, _, rfl, ?_⟩
    cases b2 with
    | true => exact iteT q
    | false =>
    refine iteF ?_
    refine ⟨_, rfl, a, D, g, v, _, _, _, rfl, hx, T, .own _, k3, _, rfl, ?_⟩
    cases b3 with
    | true => exact iteT q
    | false =>
    refine iteF ?_
    refine ⟨_, rfl, a, D, g, v, _, _, _, rfl, hx, T, .own _, k4, _, rfl, ?_⟩
    cases b4 with
    | true => exact iteT q
    | false => exact iteF q
end
end Nv
set_option maxHeartbeats 4000000
namespace Nv
open PySem PySem.Spec PyProof.Rows L2 PySem.SeqAt
open AutoSeq1 (wpAny_loadPart')
open MeetsSeq MeetsSeq2 MeetsSeq3 SeqRoads2
section
variable {prog : Program} {w : World} {A : Around} {R : Result → Shared → Prop}
/-- two lists of N items each are compared: at turn i the answer is ans i -/
def Turns (prog : Program) (w : World) (A : Around) (E : Value → Shared → Prop) (l b : Addr) (N : Nat) (ans : Nat → Bool) (J : Nat → Shared → Prop) : Prop :=
  ∀ i s, J i s → ∃ (xs ys : Array Value) (n m : Nat), s.heap.get? l = some { cls := .type "list", data := .seq xs n } ∧ s.heap.get? b = some { cls := .type "list", data := .seq ys m } ∧ xs.size = N ∧ ys.size = N ∧
    ∀ (h1 : i < xs.size) (h2 : i < ys.size), wpAny (model prog w) A.in1 (eqBool xs[i] ys[i]) (fun r s' => r = ans i ∧ J (i + 1) s') E s
theorem loopB (l b : Addr) (N : Nat) (ans : Nat → Bool) (J : Nat → Shared → Prop) (tn : Turns prog w A (fun e s' => R (.error e) s') l b N ans J) (yes : (∀ j, j < N → ans j = true) → ∀ s, J N s → R (.ok (.ret (.bool true))) s) (no : ∀ i s, i < N → ans i = false → J (i + 1) s → R (.ok (.ret (.bool false))) s) (k : Nat) :
    ∀ i : Nat, N - i = k → i ≤ N → (∀ j, j < i → ans j = true) → ∀ s, J i s → wpAny (model prog w) A.in1 (Builtin.«list.__eq__.loop» ⟨[.ref l, .ref b, rawInt i, rawInt 2], []⟩) (GQ.FinOf prog w A R) (fun e s' => R (.error e) s') s := by
  induction k with
  | zero =>
    intro i hk hi ht0 s h
    obtain ⟨xs, ys, n, m, g1, g2, z1, z2, _⟩ := tn _ _ h
    have e : i = N := by omega
    have done : R (.ok (.ret (.bool true))) s := yes (e ▸ ht0) s (e ▸ h)
    obtain ⟨hp, g, d, tk, os⟩ := s
    wp_walk using wpAny_loadPart' g1, wpAny_loadPart' g2
    have o1 : xs[((i : Nat) : Int).toNat]? = none := by simp; omega
    have o2 : ys[((i : Nat) : Int).toNat]? = none := by simp; omega
    rw [o1, o2]
    wp_walk using wpAny_loadPart' g1, wpAny_loadPart' g2
    show R (.ok (.ret (.bool (xs.size == ys.size)))) _
    rw [z1, z2]
    simpa using done
  | succ k ih =>
    intro i hk hi ht0 s h
    obtain ⟨xs, ys, n, m, g1, g2, z1, z2, turn⟩ := tn _ _ h
    have h1 : i < xs.size := by omega
    have h2 : i < ys.size := by omega
    have ht := turn h1 h2
    obtain ⟨hp, g, d, tk, os⟩ := s
    wp_walk using wpAny_loadPart' g1, wpAny_loadPart' g2
    have o1 : xs[((i : Nat) : Int).toNat]? = some xs[i] := by simp [h1]
    have o2 : ys[((i : Nat) : Int).toNat]? = some ys[i] := by simp [h2]
    have one : ((i : Int) + 1) = ((i + 1 : Nat) : Int) := by omega
    rw [o1, o2]
    refine wpAny_bind (wpAny_mono ht (fun r s2 q2 => ?_) fun _ _ x => x)
    obtain ⟨hr, q2⟩ := q2
    subst hr
    cases ha : ans i with
    | true =>
      have rec_ := ih (i + 1) (by omega) (by omega) (fun j hj => by
        rcases Nat.lt_or_ge j i with h | h
        · exact ht0 j h
        · have : j = i := by omega
          rw [this]
          exact ha) s2 q2
      obtain ⟨hp2, g', d2, tk2, os2⟩ := s2
      wp_walk
      rw [one]
      exact ⟨plainId_quiet plain_eq_loop _, codeAny_builtin entry_eq_loop (by
        rw [Around.under_plainId plain_eq_loop _]
        exact rec_)⟩
    | false =>
      have stop := no i s2 (by omega) ha q2
      obtain ⟨xs2, ys2, n2, m2, g3, g4, z3, z4, _⟩ := tn _ _ q2
      obtain ⟨hp2, g', d2, tk2, os2⟩ := s2
      have o3 : xs2[((i : Nat) : Int).toNat]? = some (xs2[i]'(by omega)) := by simp
      have o4 : ys2[((i : Nat) : Int).toNat]? = some (ys2[i]'(by omega)) := by simp
      wp_walk using wpAny_loadPart' g3, wpAny_loadPart' g4
      rw [o3, o4]
      wp_walk
      exact stop
theorem bodyB (l b : Addr) (N : Nat) (ans : Nat → Bool) (J : Nat → Shared → Prop) (tn : Turns prog w A (fun e s' => R (.error e) s') l b N ans J) (yes : (∀ j, j < N → ans j = true) → ∀ s, J N s → R (.ok (.ret (.bool true))) s) (no : ∀ i s, i < N → ans i = false → J (i + 1) s → R (.ok (.ret (.bool false))) s) {s : Shared} (h : J 0 s) :
    wpAny (model prog w) A.in1 (Builtin.«list.__eq__» ⟨[.ref l, .ref b], []⟩) (GQ.FinOf prog w A R) (fun e s' => R (.error e) s') s := by
  obtain ⟨xs, ys, n, m, g1, g2, z1, z2, _⟩ := tn _ _ h
  have rec_ := loopB (A := A) (R := R) l b N ans J tn yes no _ 0 rfl (Nat.zero_le _) (fun j hj => absurd hj (Nat.not_lt_zero _)) s h
  obtain ⟨hp, g, d, tk, os⟩ := s
  have sub := AutoSeq1.sub_list_list
  have same : ¬ (xs.size != ys.size) = true := by simp [z1, z2]
  wp_walk using wpAny_loadPart' g1, wpAny_loadPart' g2
  exact ⟨plainId_quiet plain_eq_loop _, codeAny_builtin entry_eq_loop (by
    rw [Around.under_plainId plain_eq_loop _]
    exact rec_)⟩
theorem bodyL (l b : Addr) {xs ys : Array Value} {n m : Nat} {s : Shared} (g1 : s.heap.get? l = some { cls := .type "list", data := .seq xs n }) (g2 : s.heap.get? b = some { cls := .type "list", data := .seq ys m }) (ne : xs.size ≠ ys.size) (q : R (.ok (.ret (.bool false))) s) :
    wpAny (model prog w) A.in1 (Builtin.«list.__eq__» ⟨[.ref l, .ref b], []⟩) (GQ.FinOf prog w A R) (fun e s' => R (.error e) s') s := by
  obtain ⟨hp, g, d, tk, os⟩ := s
  have sub := AutoSeq1.sub_list_list
  have unlike : (xs.size != ys.size) = true := by simp [ne]
  wp_walk using wpAny_loadPart' g1, wpAny_loadPart' g2
  exact q
end
section
variable {prog : Program} {w : World} {A : Around} {E : Value → Shared → Prop} {s : Shared}
theorem rcB {l b : Addr} {N : Nat} {ans : Nat → Bool} {Q : Value → Shared → Prop} (hu : A.units < cLine) (J : Nat → Shared → Prop) (tn : Turns prog w A E l b N ans J) (yes : (∀ j, j < N → ans j = true) → ∀ s, J N s → Q (.bool true) s) (no : ∀ i s, i < N → ans i = false → J (i + 1) s → Q (.bool false) s) (h : J 0 s) :
    wpAny (model prog w) A (richCompare .Eq (.ref l) (.ref b)) Q E s := by
  obtain ⟨xs, ys, n, m, g1, g2, _⟩ := tn _ _ h
  refine wpAny_richCompare_same_room (op := .Eq) ⟨_, g1, rfl⟩ ⟨_, g2, rfl⟩ F.slot_list_eq (GQ.call_here F.slot_list_eq ⟨_, g1, rfl⟩ F.entry_list_eq (F.args_list_eq_2 _ _) ?_) hu
  exact bodyB (R := wants (fun v s' => v ≠ .notImplemented ∧ Q v s') E) l b N ans J tn (fun ht s' q => ⟨(fun x => nomatch x), yes ht s' q⟩) (fun i s' hi ha q => ⟨(fun x => nomatch x), no i s' hi ha q⟩) h
theorem rcL {l b : Addr} {xs ys : Array Value} {n m : Nat} {Q : Value → Shared → Prop} (hu : A.units < cLine) (g1 : s.heap.get? l = some { cls := .type "list", data := .seq xs n }) (g2 : s.heap.get? b = some { cls := .type "list", data := .seq ys m }) (ne : xs.size ≠ ys.size) (q : Q (.bool false) s) :
    wpAny (model prog w) A (richCompare .Eq (.ref l) (.ref b)) Q E s := by
  refine wpAny_richCompare_same_room (op := .Eq) ⟨_, g1, rfl⟩ ⟨_, g2, rfl⟩ F.slot_list_eq (GQ.call_here F.slot_list_eq ⟨_, g1, rfl⟩ F.entry_list_eq (F.args_list_eq_2 _ _) ?_) hu
  exact bodyL (R := wants (fun v s' => v ≠ .notImplemented ∧ Q v s') E) l b g1 g2 ne ⟨(fun x => nomatch x), q⟩
end
/-- how two values compare, by the heap -/
abbrev EqD := V → V → Hp → Bool → Prop
def MonD (D : EqD) : Prop := ∀ x y H H' b, Same H H' → D x y H b → D x y H' b
/-- == inside a list gives what D says, and only makes objects -/
def EqB (X : Cx) (n : Nat) (D : EqD) : Prop :=
  ∀ (A : Around) (pins : List (Addr × Obj)) (s : Shared) (σ : L2.St) (H : Hp) (x y : V) (u v : Value) (b : Bool), Sub X n A → Inv X pins σ H s → RelV x u → RelV y v → D x y H b →
    wpAny (model X.prog X.w) A (eqBool u v) (fun r s' => r = b ∧ ∃ H', Inv X pins σ H' s' ∧ Same H H') X.xe s
def RcB (X : Cx) (n : Nat) (D : EqD) : Prop :=
  ∀ (A : Around) (pins : List (Addr × Obj)) (s : Shared) (σ : L2.St) (H : Hp) (x y : V) (u v : Value) (b : Bool), Sub X n A → Inv X pins σ H s → RelV x u → RelV y v → D x y H b →
    wpAny (model X.prog X.w) A (richCompare .Eq u v) (fun r s' => r = .bool b ∧ ∃ H', Inv X pins σ H' s' ∧ Same H H') X.xe s
/-- lists, item by item -/
def DLst (D : EqD) : EqD := fun x y H b => ∃ (a c : Addr) (xs ys : List V), x = .ref a ∧ y = .ref c ∧ H a = some (.lst xs) ∧ H c = some (.lst ys) ∧
  ((xs.length ≠ ys.length ∧ b = false) ∨ ∃ bs : List Bool, xs.length = ys.length ∧ bs.length = xs.length ∧ (∀ (i : Nat) u v t, xs[i]? = some u → ys[i]? = some v → bs[i]? = some t → D u v H t) ∧ b = bs.all id)
theorem mon_lst {D : EqD} (hD : MonD D) : MonD (DLst D) := fun x y H H' b s d => by
  obtain ⟨a, c, xs, ys, e1, e2, h1, h2, d⟩ := d
  refine ⟨a, c, xs, ys, e1, e2, s _ _ h1, s _ _ h2, ?_⟩
  rcases d with d | ⟨bs, l1, l2, k, e⟩
  · exact .inl d
  · exact .inr ⟨bs, l1, l2, fun i u v t hu hv ht => hD _ _ _ _ _ s (k i u v t hu hv ht), e⟩
section
variable {X : Cx} {n : Nat} {D : EqD}
theorem rcB_list (hD : MonD D) (h : EqB X n D) : RcB X (n + 1) (DLst D) := by
  intro A pins s σ H x y u v b sb I rx ry d
  obtain ⟨a, c, xs, ys, rfl, rfl, ha, hc, d⟩ := d
  cases rx
  cases ry
  rcases d with ⟨ne, rfl⟩ | ⟨bs, l1, l2, k, rfl⟩
  · obtain ⟨z, its, k1, r, e⟩ := I.hok a _ ha
    obtain ⟨z2, its2, k2, r2, e2⟩ := I.hok c _ hc
    refine rcL sb.room.units0 e e2 ?_ ⟨rfl, H, I, Same.refl H⟩
    rw [List.size_toArray, List.size_toArray, ← r.length, ← r2.length]
    exact ne
  · have at_ : ∀ i, i < xs.length → ∃ t, bs[i]? = some t ∧ bs.getD i true = t := fun i hi => by
      refine ⟨bs[i]'(by omega), List.getElem?_eq_getElem (by omega), ?_⟩
      rw [List.getD_eq_getElem?_getD, List.getElem?_eq_getElem (by omega)] <;> rfl
    refine rcB (N := xs.length) (ans := fun i => bs.getD i true) sb.room.units0 (fun i s' => ∃ H', Inv X pins σ H' s' ∧ Same H H') ?_ ?_ ?_ ⟨H, I, Same.refl H⟩
    · rintro i s' ⟨H1, I1, s1⟩
      obtain ⟨z, its, k1, r, e⟩ := I1.hok a _ (s1 _ _ ha)
      obtain ⟨z2, its2, k2, r2, e2⟩ := I1.hok c _ (s1 _ _ hc)
      refine ⟨its.toArray, its2.toArray, k1, k2, e, e2, by rw [List.size_toArray, ← r.length], by rw [List.size_toArray, ← r2.length, ← l1], fun h1 h2 => ?_⟩
      have m1 : i < xs.length := by rw [r.length]; simpa using h1
      have m2 : i < ys.length := by omega
      obtain ⟨u, hu, ru⟩ := r.get (List.getElem?_eq_getElem m1)
      obtain ⟨v, hv, rv⟩ := r2.get (List.getElem?_eq_getElem m2)
      have g1 : its[i]? = some its.toArray[i] := by
        rw [List.getElem?_eq_getElem (by simpa using h1)] <;> simp
      have g2 : its2[i]? = some its2.toArray[i] := by
        rw [List.getElem?_eq_getElem (by simpa using h2)] <;> simp
      rw [g1] at hu
      rw [g2] at hv
      rw [Option.some.inj hu, Option.some.inj hv]
      obtain ⟨t, ht, et⟩ := at_ i m1
      have dd := hD _ _ _ _ _ s1 (k i _ _ t (List.getElem?_eq_getElem m1) (List.getElem?_eq_getElem m2) ht)
      refine wpAny_mono (h A.in1 pins s' σ H1 _ _ u v t sb.in1 I1 ru rv dd) (fun q s2 w => ?_) fun _ _ w => w
      obtain ⟨e3, H2, I2, s2'⟩ := w
      exact ⟨e3.trans et.symm, H2, I2, s1.trans s2'⟩
    · rintro ht s' ⟨H1, I1, s1⟩
      refine ⟨?_, H1, I1, s1⟩
      refine congrArg Value.bool (Eq.symm ?_)
      rw [List.all_eq_true]
      intro t htm
      obtain ⟨i, hi⟩ := List.mem_iff_getElem?.mp htm
      have hil : i < xs.length := by
        rw [← l2]
        exact (List.getElem?_eq_some_iff.mp hi).1
      obtain ⟨t', h1, h2⟩ := at_ i hil
      rw [hi] at h1
      have := ht i hil
      rw [h2] at this
      rw [Option.some.inj h1, this] <;> rfl
    · rintro i s' hi ha2 ⟨H1, I1, s1⟩
      refine ⟨?_, H1, I1, s1⟩
      refine congrArg Value.bool (Eq.symm ?_)
      obtain ⟨t, h1, h2⟩ := at_ i hi
      have ha3 : bs.getD i true = false := ha2
      rw [h2] at ha3
      cases g : bs.all id with
      | false => rfl
      | true =>
        have := List.all_eq_true.mp g t (List.mem_of_getElem? h1)
        rw [ha3] at this
        cases this
end
end Nv
set_option maxHeartbeats 4000000
namespace Nv
open PySem PySem.Spec PyProof.Rows L2
/-- call_own, from anywhere below -/
theorem call_ownS {X : Cx} {f : Addr} {k : Nat} {fd : FuncData} {ps : List Str} {sp : Sp} {A : Around} {pins : List (Addr × Obj)} {σ : L2.St} {H : Hp} {s : Shared} {vs : List V} {us : List Value} {Q : VK} {E2 : Value → Shared → Prop} (F : FnOk X.prog X.w X.K X.mg X.base CX0 k f fd ps sp) (sb : Sub X k A) (hb : Binds X.K fd ps [])
    (I : Inv X pins σ H s) (r : Vals vs us) (h : sp vs H Q E0) : wpAny (model X.prog X.w) A (call (.ref f) us) (EP X pins σ Q) E2 s := call_own F sb.room sb.fr hb I r h
/-- two rules -/
def DRule (C : Addr) : EqD := fun u v H b => ∃ (a c : Addr) (x y : Rl), u = .ref a ∧ v = .ref c ∧ RA C H a x ∧ RA C H c y ∧ x.Ok ∧ y.Ok ∧ b = decide (x = y) ∧ (a = c → b = true)
theorem mon_rule {C : Addr} : MonD (DRule C) := fun u v H H' b s d => by
  obtain ⟨a, c, x, y, e1, e2, h1, h2, d⟩ := d
  exact ⟨a, c, x, y, e1, e2, h1.same s, h2.same s, d⟩
section
variable {X : Cx} {n : Nat} {D : EqD}
/-- from a rich comparison of references to == inside a list -/
theorem RcB.eqB (h : RcB X n D) (hr : ∀ x y H b, D x y H b → ∃ a c, x = .ref a ∧ y = .ref c ∧ (a = c → b = true)) : EqB X n D := by
  intro A pins s σ H x y u v b sb I rx ry d
  obtain ⟨a, c, rfl, rfl, hid⟩ := hr _ _ _ _ d
  cases rx
  cases ry
  by_cases hac : a = c
  · subst hac
    rw [hid rfl]
    exact SeqAt.EqAt.same (A := A) (s := s) (.ref a) X.prog X.w X.xe _ ⟨rfl, H, I, Same.refl H⟩
  · refine GQ.eqBool_refG hac (wpAny_mono (h A pins s σ H (.ref a) (.ref c) _ _ b sb I rfl rfl d) (fun r s' q => ?_) fun _ _ x => x)
    obtain ⟨hr', q⟩ := q
    exact ⟨b, hr', rfl, q⟩
theorem rcB_rule {C f : Addr} {fd : FuncData} (F : FnOk X.prog X.w X.K X.mg X.base CX0 1 f fd ["self", "other"] (spRuleEq X.K C)) (R : RC X.K C) (I0 : IC X.K C) (hs : PySem.W.findIn X.K (.ref C) "__eq__" = some (some (.ref f))) (hf : PySem.W.isFn X.K (.ref f) = true) (hb : Binds X.K fd ["self", "other"] []) : RcB X 1 (DRule C) := by
  intro A pins s σ H x y u v b sb I rx ry d
  obtain ⟨a, c, p, q, rfl, rfl, ra, rc, po, qo, rfl, _⟩ := d
  cases rx
  cases ry
  obtain ⟨dx, th, l1, l2, l3, us, us2, us3, e, _⟩ := id ra
  obtain ⟨dx', th', m1, m2, m3, ws, ws2, ws3, e', _⟩ := id rc
  obtain ⟨mA, J, _⟩ := ins_get I.hok e
  obtain ⟨od, J, _⟩ := J.look
  obtain ⟨mB, J', _⟩ := ins_get I.hok e'
  obtain ⟨od', J', _⟩ := J'.look
  obtain ⟨m, hF⟩ := I.fr
  refine PySem.W.cmp_K (op := .Eq) (tb := .ref C) sb.room.units0 hF I.ok.mod.kin J J'.type (by simp [PySem.W.notFirst]) hs hf ?_
  have hsp : spRuleEq X.K C [.ref a, .ref c] H (fun v H' => v = .bl (decide (p = q)) ∧ H' = H) E0 := ⟨a, p, .ref c, rfl, ra, po, .inl ⟨c, q, rfl, rc, qo, rfl, rfl⟩⟩
  refine wpAny_mono (call_ownS (X := X) F sb hb I (vs := [.ref a, .ref c]) (.cons rfl (.cons rfl .nil)) hsp) (fun w s1 h => ?_) fun _ _ e => e
  obtain ⟨z, H1, I1, rz, rfl, rfl⟩ := h
  cases rz
  exact ⟨rfl, H1, I1, Same.refl _⟩
theorem eqB_rule {C f : Addr} {fd : FuncData} (F : FnOk X.prog X.w X.K X.mg X.base CX0 1 f fd ["self", "other"] (spRuleEq X.K C)) (R : RC X.K C) (I0 : IC X.K C) (hs : PySem.W.findIn X.K (.ref C) "__eq__" = some (some (.ref f))) (hf : PySem.W.isFn X.K (.ref f) = true) (hb : Binds X.K fd ["self", "other"] []) : EqB X 1 (DRule C) :=
  (rcB_rule F R I0 hs hf hb).eqB fun _ _ _ _ d => by
    obtain ⟨a, c, p, q, e1, e2, _, _, _, _, _, hid⟩ := d
    exact ⟨a, c, e1, e2, hid⟩
/-- x == y of two such -/
def rEqB (D : EqD) : R2 := fun x y H Q => ∃ b, D x y H b ∧ ∀ H', Same H H' → Q (.bl b) H'
theorem op_eqB (h : RcB X n D) (hr : Room n X.A) : OpR X (compareOp .Eq) (rEqB D) := by
  intro pins s σ H x y v u Q I rx ry hq
  obtain ⟨b, d, q⟩ := hq
  show wpAny (model X.prog X.w) X.A (richCompare .Eq v u) (EP X pins σ Q) X.xe s
  refine wpAny_mono (h X.A pins s σ H x y v u b ⟨hr, rfl⟩ I rx ry d) (fun r s' z => ?_) fun _ _ x => x
  obtain ⟨hr', H', I', e⟩ := z
  subst hr'
  exact ⟨.bl b, H', I', rfl, q H' e⟩
end
/-- two lists of rules -/
theorem dlst_rules {C : Addr} {H : Hp} {a c : Addr} {rs ss : List Addr} {xs ys : List Rl} (ea : H a = some (.lst (rs.map V.ref))) (ec : H c = some (.lst (ss.map V.ref))) (hx : RAs C H rs xs) (hy : RAs C H ss ys) (ox : ∀ x ∈ xs, x.Ok) (oy : ∀ y ∈ ys, y.Ok)
    (same : ∀ (i : Nat) (r : Addr) (x y : Rl), rs[i]? = some r → ss[i]? = some r → xs[i]? = some x → ys[i]? = some y → x = y) : DLst (DRule C) (.ref a) (.ref c) H (decide (xs = ys)) := by
  refine ⟨a, c, _, _, rfl, rfl, ea, ec, ?_⟩
  have l1 := hx.len
  have l2 := hy.len
  by_cases hl : xs.length = ys.length
  · refine .inr ⟨(List.range xs.length).map fun i => decide (xs[i]? = ys[i]?), by rw [List.length_map, List.length_map]; omega, by rw [List.length_map, List.length_map, List.length_range]; omega, fun i u v t hu hv ht => ?_, ?_⟩
    · obtain ⟨r, hr, rfl⟩ := at_ref hu
      obtain ⟨s, hs, rfl⟩ := at_ref hv
      obtain ⟨x, hxi, rx⟩ := hx.at_ hr
      obtain ⟨y, hyi, ry⟩ := hy.at_ hs
      have hil : i < xs.length := (List.getElem?_eq_some_iff.mp hxi).1
      rw [List.getElem?_map, List.getElem?_range hil] at ht
      have ht2 : t = decide (x = y) := by
        have hd : decide (xs[i]? = ys[i]?) = t := Option.some.inj ht
        rw [← hd, hxi, hyi]
        exact decide_eq_decide.mpr ⟨fun e => Option.some.inj e, fun e => by rw [e]⟩
      exact ⟨r, s, x, y, rfl, rfl, rx, ry, ox x (List.mem_of_getElem? hxi), oy y (List.mem_of_getElem? hyi), ht2, fun e => by
        subst e
        rw [ht2]
        exact decide_eq_true (same i r x y hr hs hxi hyi)⟩
    · rw [List.all_map]
      by_cases e : xs = ys
      · subst e
        rw [decide_eq_true rfl]
        symm
        rw [List.all_eq_true]
        intro i _
        exact decide_eq_true rfl
      · rw [decide_eq_false e]
        cases g : (List.range xs.length).all (id ∘ fun i => decide (xs[i]? = ys[i]?)) with
        | false => rfl
        | true =>
          refine absurd (List.ext_getElem? fun i => ?_) e
          rcases Nat.lt_or_ge i xs.length with h | h
          · exact of_decide_eq_true (List.all_eq_true.mp g i (List.mem_range.mpr h))
          · rw [List.getElem?_eq_none h, List.getElem?_eq_none (by omega)]
  · exact .inl ⟨by rw [List.length_map, List.length_map]; omega, decide_eq_false fun e => hl (by rw [e])⟩
end Nv
set_option maxHeartbeats 4000000
namespace Nv
open PySem PySem.Spec PyProof.Rows L2
section
variable {P : Program} {w : World} {K : PySem.W.Frag} {mg : Str → Option Value} {base : Heap}
/-- one rule, one making -/
def One (rs ss : List Addr) (xs ys : List Rl) : Prop := ∀ (i : Nat) (r : Addr) (x y : Rl), rs[i]? = some r → ss[i]? = some r → xs[i]? = some x → ys[i]? = some y → x = y
def spBookEq (K : PySem.W.Frag) (CR C : Addr) : Sp := fun vs H Q _ => ∃ (a : Addr) (rs : List Addr) (xs : List Rl) (v : V), vs = [.ref a, v] ∧ BA C H a rs ∧ RAs CR H rs xs ∧ (∀ x ∈ xs, x.Ok) ∧
  ((∃ (b : Addr) (ss : List Addr) (ys : List Rl), v = .ref b ∧ BA C H b ss ∧ RAs CR H ss ys ∧ (∀ y ∈ ys, y.Ok) ∧ One rs ss xs ys ∧ ∀ H', Same H H' → Q (.bl (decide (xs = ys))) H') ∨ (∃ t : Value, TyX K H v t ∧ PySem.W.kitOne K t (.ref C) = some false ∧ Q (.bl false) H))
theorem scBookEq : FnScope ["self", "other"] ["self", "other"] (defScope sBookEq) := ⟨rfl, rfl, rfl, by decide +kernel, rfl, by decide +kernel, by decide +kernel⟩
theorem ok_bookEq {f C CR fE : Addr} {fd dE : FuncData} (F : Fun K "__eq__" "Book.__eq__" sBookEq f fd) (B : Bp mg) (cl : Cls K C) (na : NoAttr K C "_rules") (I : IC K C) (gB : mg "Book" = some (.ref C)) (R : RC K CR) (IR : IC K CR)
    (FE : FnOk P w K mg base CX0 1 fE dE ["self", "other"] (spRuleEq K CR)) (hs : PySem.W.findIn K (.ref CR) "__eq__" = some (some (.ref fE))) (hf : PySem.W.isFn K (.ref fE) = true) (hb : Binds K dE ["self", "other"] []) : FnOk P w K mg base CX0 3 f fd ["self", "other"] (spBookEq K CR C) := by
  refine F.ok scBookEq (fun vs H Q E h => ?_) (fun cdv A outer s H vs Q E hr h => ?_)
  · obtain ⟨a, rs, xs, v, rfl, _⟩ := h
    rfl
  · obtain ⟨a, rs, xs, v, rfl, ⟨dx, l, eb, el⟩, hx, ox, h⟩ := h
    refine ⟨_, pss_one (ps_ret (pe_and (pe_callB call_isi (by rfl) B.isi bootIsi (pa_cons (pv 1) (pa_cons (pe_glob (v := V.ref C) (by rfl) gB rfl) pa_nil)))
      (pe_one (pe_cmpR (op_eqB (rcB_list mon_rule (eqB_rule FE R IR hs hf hb)) hr) (pe_fld (pv 0) rfl) (pe_fld (pv 1) rfl) (nomark _))))), ?_⟩
    rcases h with ⟨b, ss, ys, rfl, ⟨dy, m, eb2, el2⟩, hy, oy, one, q⟩ | ⟨t, ht, hk, q⟩
    · refine ⟨_, rfl, _, _, _, _, true, rfl, .own _, .base (.ins eb2 cl I.ha I.hn I.ht I.hm), I.me, true, rfl, iteT ?_⟩
      refine ⟨_, rfl, a, C, dx, _, _, rfl, eb, cl, na, lkR, _, rfl, b, C, dy, _, _, rfl, eb2, cl, na, lkR, _, dlst_rules el el2 hx hy ox oy one, fun H' s => q H' s⟩
    · refine ⟨_, rfl, _, _, _, _, false, rfl, .own _, ht, hk, false, rfl, iteF ?_⟩
      exact q
/-- Book.__len__ -/
def spBookLen (C : Addr) : Sp := fun vs H Q _ => ∃ (a : Addr) (rs : List Addr), vs = [.ref a] ∧ BA C H a rs ∧ Q (.int (rs.length : Nat)) H
theorem scBookLen : FnScope ["self"] ["self"] (defScope sBookLen) := ⟨rfl, rfl, rfl, by decide +kernel, rfl, by decide +kernel, by decide +kernel⟩
theorem ok_bookLen {f C : Addr} {fd : FuncData} (F : Fun K "__len__" "Book.__len__" sBookLen f fd) (B : Bp mg) (cl : Cls K C) (na : NoAttr K C "_rules") : FnOk P w K mg base CX0 1 f fd ["self"] (spBookLen C) := by
  refine F.ok scBookLen (fun vs H Q E h => ?_) (fun cdv A outer s H vs Q E hr h => ?_)
  · obtain ⟨a, rs, rfl, _⟩ := h
    rfl
  · obtain ⟨a, rs, rfl, ⟨dx, l, eb, el⟩, q⟩ := h
    refine ⟨_, pss_one (ps_ret (pe_callB call_len_seq (by rfl) B.len PySem.boot_len (pa_cons (pe_fld (pv 0) rfl) pa_nil))), ?_⟩
    refine ⟨_, rfl, a, C, dx, _, _, rfl, eb, cl, na, lkR, l, _, rfl, .inl (SqL.of el), ?_⟩
    rw [List.length_map]
    exact q
/-- Book.__add__ of two books without a label in common -/
def spBookAdd (CR C : Addr) : Sp := fun vs H Q _ => ∃ (a b : Addr) (rs ss : List Addr) (xs ys : List Rl), vs = [.ref a, .ref b] ∧ BA C H a rs ∧ RAs CR H rs xs ∧ BA C H b ss ∧ RAs CR H ss ys ∧ ((xs ++ ys).map Rl.l).Nodup ∧ xs.length + ys.length ≤ 100 ∧
  ∀ (b2 : Addr) (H' : Hp), H b2 = none → BA C H' b2 (rs ++ ss) → Same H H' → Q (.ref b2) H'
theorem scBookAdd : FnScope ["self", "other"] ["self", "other"] (defScope sBookAdd) := ⟨rfl, rfl, rfl, by decide +kernel, rfl, by decide +kernel, by decide +kernel⟩
theorem ok_bookAdd {f C CR fL fI fH fR : Addr} {fd dL dI dH dR : FuncData} (F : Fun K "__add__" "Book.__add__" sBookAdd f fd) (B : Bp mg) (cl : Cls K C) (na : NoAttr K C "_rules") (I : IC K C) (gB : mg "Book" = some (.ref C))
    (GL : FnOk P w K mg base CX0 3 fL dL ["self"] (spBookLabels CR C)) (mL : Meth K C "labels" fL) (bL : Binds K dL ["self"] [])
    (GR : FnOk P w K mg base CX0 1 fR dR ["self"] (spGetL C "_rules")) (mR : Meth K C "rules" fR) (bR : Binds K dR ["self"] [])
    (GH : FnOk P w K mg base CX0 1 fH dH ["labels"] (spHasDouble K)) (kH : PySem.W.keepIn K (.ref fH) = true) (gH : mg "_has_double" = some (.ref fH)) (bH : Binds K dH ["labels"] [])
    (GI : FnOk P w K mg base CX0 3 fI dI ["self", "rules"] (spBookInit CR C)) (MI : Mk K C fI) (bI : Binds K dI ["self", "rules"] []) : FnOk P w K mg base CX0 5 f fd ["self", "other"] (spBookAdd CR C) := by
  refine F.ok scBookAdd (fun vs H Q E h => ?_) (fun cdv A outer s H vs Q E hr h => ?_)
  · obtain ⟨a, b, rs, ss, xs, ys, rfl, _⟩ := h
    rfl
  · obtain ⟨a, b, rs, ss, xs, ys, rfl, ba, hx, bb, hy, nd, hl, q⟩ := h
    obtain ⟨dx, l, eb, el⟩ := id ba
    obtain ⟨dy, m, eb2, el2⟩ := id bb
    have hr1 : Room 1 _ := hr.mono (by decide)
    have hr3 : Room 3 _ := hr.mono (by decide)
    have lx := hx.len
    have ly := hy.len
    refine ⟨_, pss_cons (ps_if (PW.pt (pw_or (pt_not (pt_val (pe_callB call_isi (by rfl) B.isi bootIsi (pa_cons (pv 1) (pa_cons (pe_glob (v := V.ref C) (by rfl) gB rfl) pa_nil)))))
        (pw_or1 (pt_val (by exact (pe_call GH hr1 (by rfl) gH kH bH .nil pass0 (pa_cons (pe_op op_cat (by exact (pe_meth0 (pv 0) cl mL GL hr3 bL .nil pass0)) (by exact (pe_meth0 (pv 1) cl mL GL hr3 bL .nil pass0))) pa_nil))))))) (pss_one ps_never) pss_nil)
      (pss_one (ps_ret (by exact (pe_make MI GI hr (by rfl) gB bI .nil pass0 (pa_cons (pe_op op_cat (by exact (pe_meth0 (pv 0) cl mR GR hr1 bR .nil pass0)) (by exact (pe_meth0 (pv 1) cl mR GR hr1 bR .nil pass0))) pa_nil))))), ?_⟩
    refine ⟨_, rfl, _, _, _, _, true, rfl, .own _, .base (.ins eb2 cl I.ha I.hn I.ht I.hm), I.me, true, rfl, iteF ?_⟩
    refine ⟨_, rfl, a, dx, _, rfl, eb, (lk_no (by decide +kernel)), a, rs, xs, rfl, ba, hx, by omega, fun p1 H1 n1 s1 e1 => ?_⟩
    refine ⟨_, rfl, b, dy, _, rfl, s1 _ _ eb2, (lk_no (by decide +kernel)), b, ss, ys, rfl, bb.same s1, hy.same s1, by omega, fun p2 H2 n2 s2 e2 => ?_⟩
    refine ⟨_, _, _, _, rfl, rfl, s2 _ _ e1, e2, ?_, fun p3 n3 => ?_⟩
    · rw [List.length_map, List.length_map, List.length_map, List.length_map]
      exact Nat.le_trans (by omega : _ ≤ 1000) (by decide)
    · have s12 := s1.trans s2
      have s3 : Same H (upd H2 p3 (.lst ((xs.map Rl.l).map V.str ++ (ys.map Rl.l).map V.str))) := same_put s12 (s12.free n3)
      have e3 : upd H2 p3 (.lst ((xs.map Rl.l).map V.str ++ (ys.map Rl.l).map V.str)) p3 = some (.lst (((xs ++ ys).map Rl.l).map V.str)) := by rw [upd_same, List.map_append, List.map_append]
      generalize upd H2 p3 (.lst ((xs.map Rl.l).map V.str ++ (ys.map Rl.l).map V.str)) = G at s3 e3 ⊢
      refine ⟨p3, (xs ++ ys).map Rl.l, rfl, SqL.of e3, by rw [List.length_map, List.length_append]; omega, _, rfl, ?_⟩
      rw [decide_eq_true nd]
      refine iteF ?_
      refine ⟨_, rfl, a, dx, _, rfl, s3 _ _ eb, (lk_no (by decide +kernel)), a, dx, l, _, _, rfl, s3 _ _ eb, lkR, s3 _ _ el, fun p4 n4 => ?_⟩
      have s4 : Same H (upd G p4 (.lst (rs.map V.ref))) := same_put s3 (s3.free n4)
      have e4 : upd G p4 (.lst (rs.map V.ref)) p4 = some (.lst (rs.map V.ref)) := upd_same
      generalize upd G p4 (.lst (rs.map V.ref)) = G4 at s4 e4 ⊢
      refine ⟨_, rfl, b, dy, _, rfl, s4 _ _ eb2, (lk_no (by decide +kernel)), b, dy, m, _, _, rfl, s4 _ _ eb2, lkR, s4 _ _ el2, fun p5 n5 => ?_⟩
      have s5 : Same H (upd G4 p5 (.lst (ss.map V.ref))) := same_put s4 (s4.free n5)
      have e5 : upd G4 p5 (.lst (ss.map V.ref)) p5 = some (.lst (ss.map V.ref)) := upd_same
      have e45 : upd G4 p5 (.lst (ss.map V.ref)) p4 = some (.lst (rs.map V.ref)) := same_new n5 _ _ e4
      generalize upd G4 p5 (.lst (ss.map V.ref)) = G5 at s5 e5 e45 ⊢
      refine ⟨_, _, _, _, rfl, rfl, e45, e5, ?_, fun p6 n6 => ?_⟩
      · rw [List.length_map, List.length_map]
        exact Nat.le_trans (by omega : _ ≤ 1000) (by decide)
      · rw [← List.map_append]
        have s6 : Same H (upd G5 p6 (.lst ((rs ++ ss).map V.ref))) := same_put s5 (s5.free n6)
        have e6 : upd G5 p6 (.lst ((rs ++ ss).map V.ref)) p6 = some (.lst ((rs ++ ss).map V.ref)) := upd_same
        generalize upd G5 p6 (.lst ((rs ++ ss).map V.ref)) = G6 at s6 e6 ⊢
        intro x dx2 nx ndx ne
        have s7 : Same G6 (upd (upd G6 dx2 (.own x)) x (.ins C dx2 [])) := fun b o e => by
          rw [upd_ne (ne_of_none e nx), upd_ne (ne_of_none e ndx)]
          exact e
        refine ⟨x, dx2, p6, rs ++ ss, xs ++ ys, rfl, upd_same, s7 _ _ e6, RAs.same (RAs.same (hx.app hy) s6) s7, nd, by rw [List.length_append]; omega, fun l1 H8 n8 sb e8 e9 => ⟨rfl, ?_⟩⟩
        exact q x H8 (s6.free nx) ⟨dx2, l1, e8, e9⟩ (made_same s6 nx ndx sb)
end
end Nv
set_option maxHeartbeats 4000000
namespace Nv
open PySem PySem.Spec PyProof.Rows L2
section
variable {P : Program} {w : World} {K : PySem.W.Frag} {mg : Str → Option Value} {base : Heap}
def spQEq (K : PySem.W.Frag) (C : Addr) : Sp := fun vs H Q _ => ∃ (a : Addr) (x : Ql) (v : V), vs = [.ref a, v] ∧ QA C H a x ∧ x.Ok ∧
  ((∃ (b : Addr) (y : Ql), v = .ref b ∧ QA C H b y ∧ y.Ok ∧ Q (.bl (decide (x = y))) H) ∨ (∃ t : Value, TyX K H v t ∧ PySem.W.kitOne K t (.ref C) = some false ∧ Q (.bl false) H))
theorem scQEq : FnScope ["self", "other"] ["self", "other"] (defScope sQEq) := ⟨rfl, rfl, rfl, by decide +kernel, rfl, by decide +kernel, by decide +kernel⟩
theorem ok_qEq {f C : Addr} {fd : FuncData} (F : Fun K "__eq__" "Question.__eq__" sQEq f fd) (B : Bp mg) (R : QC K C) (I : IC K C) (gC : mg "Question" = some (.ref C)) : FnOk P w K mg base CX0 1 f fd ["self", "other"] (spQEq K C) := by
  refine F.ok scQEq (fun vs H Q E h => ?_) (fun cdv A outer s H vs Q E hr h => ?_)
  · obtain ⟨a, x, v, rfl, _⟩ := h
    rfl
  · obtain ⟨a, x, v, rfl, ra, xo, h⟩ := h
    refine ⟨_, pss_cons (ps_if (pt_not (pt_val (pe_callB call_isi (by rfl) B.isi bootIsi (pa_cons (pv 1) (pa_cons (pe_glob (v := V.ref C) (by rfl) gC rfl) pa_nil))))) (pss_one (ps_ret pe_bl)) pss_nil)
      (pss_one (ps_ret (pe_and (pe_cmpR (op_eqD hr.units) (pe_fld (pv 0) rfl) (pe_fld (pv 1) rfl) (nomark _)) (pe_and (pe_cmpR (op_eqD hr.units) (pe_fld (pv 0) rfl) (pe_fld (pv 1) rfl) (nomark _)) (pe_one (pe_cmpR (op_eqD hr.units) (pe_fld (pv 0) rfl) (pe_fld (pv 1) rfl) (nomark _))))))), ?_⟩
    rcases h with ⟨b, y, rfl, rb, yo, q⟩ | ⟨t, ht, hk, q⟩
    · obtain ⟨dx, l1, l2, l3, us, us2, e, e1, ⟨e2, p2⟩, e3, p3⟩ := ra
      obtain ⟨dx', m1, m2, m3, ws, ws2, g, g1, ⟨g2, r2⟩, g3, r3⟩ := rb
      refine ⟨_, rfl, _, _, _, _, true, rfl, .own _, .base (.ins g R.cl I.ha I.hn I.ht I.hm), I.me, true, rfl, iteF ?_⟩
      obtain ⟨xc, xp, xq⟩ := x
      obtain ⟨yc, yp, yq⟩ := y
      have no : (⟨xc, xp, xq⟩ : Ql) ≠ ⟨yc, yp, yq⟩ → Q (.bl false) H := fun z => by
        rw [decide_eq_false z] at q
        exact q
      refine ⟨_, rfl, a, C, dx, _, _, rfl, e, R.cl, R.n1, qk1, _, rfl, b, C, dx', _, _, rfl, g, R.cl, R.n1, qk1, dS xc, dS yc, dp_S (SqL.of e1), dp_S (SqL.of g1), (lay_dS fun p hp => (xo.cs p hp).asc).shaped (by decide), (lay_dS fun p hp => (yo.cs p hp).asc).shaped (by decide), ?_⟩
      rw [eqv_S]
      refine ⟨_, rfl, ?_⟩
      by_cases z1 : xc = yc
      · rw [decide_eq_true z1]
        refine iteT ?_
        refine ⟨_, rfl, a, C, dx, _, _, rfl, e, R.cl, R.n2, qk2, _, rfl, b, C, dx', _, _, rfl, g, R.cl, R.n2, qk2, dL xp, dL yp, dp_L (SqL.of e2) p2, dp_L (SqL.of g2) r2, (lay_dL fun p hp => (xo.ps p hp).asc).shaped (by decide), (lay_dL fun p hp => (yo.ps p hp).asc).shaped (by decide), ?_⟩
        rw [eqv_L]
        refine ⟨_, rfl, ?_⟩
        by_cases z2 : xp = yp
        · rw [decide_eq_true z2]
          refine iteT ?_
          refine ⟨_, rfl, a, C, dx, _, _, rfl, e, R.cl, R.n3, qk3, _, rfl, b, C, dx', _, _, rfl, g, R.cl, R.n3, qk3, dL xq, dL yq, dp_L (SqL.of e3) p3, dp_L (SqL.of g3) r3, (lay_dL fun p hp => (xo.qs p hp).asc).shaped (by decide), (lay_dL fun p hp => (yo.qs p hp).asc).shaped (by decide), ?_⟩
          rw [eqv_L]
          have e5 : decide ((⟨xc, xp, xq⟩ : Ql) = ⟨yc, yp, yq⟩) = decide (xq = yq) := decide_eq_decide.mpr ⟨fun w => by injection w, fun w => by rw [z1, z2, w]⟩
          rw [e5] at q
          exact q
        · rw [decide_eq_false z2]
          exact iteF (no fun w => z2 (by injection w))
      · rw [decide_eq_false z1]
        exact iteF (no fun w => z1 (by injection w))
    · refine ⟨_, rfl, _, _, _, _, false, rfl, .own _, ht, hk, false, rfl, iteT ?_⟩
      exact q
end
end Nv
set_option maxHeartbeats 4000000
namespace Nv
open PySem PySem.Spec PyProof.Rows L2
/-- a pair of unlike terms, one of them at least among the variables vs -/
def PrOk (vs : List Str) (q : List Str) : Prop := ∃ x y, q = [x, y] ∧ x ≠ y ∧ (x ∈ vs ∨ IsNm x) ∧ (y ∈ vs ∨ IsNm y) ∧ (x ∈ vs ∨ y ∈ vs)
section
variable {P : Program} {w : World} {K : PySem.W.Frag} {mg : Str → Option Value} {base : Heap}
/-- _law_pairs(purse, told, names) -/
def spPairs (K : PySem.W.Frag) : Sp := fun vs H Q _ => ∃ (a b c : Addr) (n : Nat) (us : List V) (ps : List (List Str)) (zs : List Str), vs = [.ref a, .ref b, .ref c] ∧ Pu H a (n + 5) ∧ (SqL K H b us ∧ PaL H us ps ∧ (∀ x ∈ ps, PatOk x) ∧ ps.length ≤ 300) ∧
  (SqL K H c (zs.map V.str) ∧ c ≠ a ∧ zs.length ≤ 100 ∧ ∀ z ∈ zs, IsNm z) ∧
  ∀ (p : Addr) (ws : List V) (qs : List (List Str)) (H' : Hp), PaL H' ws qs → qs.length ≤ 1 → (∀ x ∈ qs, PrOk (varsIn (tails ps)) x) → H p = none → Pu H' a n → Sb a H H' → H' p = some (.lst ws) → Q (.ref p) H'
theorem scPairs : FnScope ["_law_purse_here", "_law_told_here", "_law_names_here", "_law_some", "_law_one", "_law_others", "_law_term"] ["_law_purse_here", "_law_told_here", "_law_names_here"] (defScope sPairs) := ⟨rfl, rfl, rfl, by decide +kernel, rfl, by decide +kernel, by decide +kernel⟩
theorem two_perm {α : Type} {x y : α} {zs : List α} (h : zs.Perm [x, y]) : zs = [x, y] ∨ zs = [y, x] := by
  have hl := h.length_eq
  match zs, hl with
  | [u, v], _ =>
    have hu : u = x ∨ u = y := by
      have := h.mem_iff.mp (List.mem_cons_self (a := u))
      simpa using this
    rcases hu with rfl | rfl
    · have h2 := (List.perm_cons u).mp h
      have := h2.mem_iff.mp (List.mem_singleton.mpr rfl : v ∈ [v])
      rw [List.mem_singleton.mp this]
      exact .inl rfl
    · have h2 : [v].Perm [x] := by
        have h3 : (u :: [v]).Perm (u :: [x]) := h.trans (List.Perm.swap _ _ _)
        exact (List.perm_cons u).mp h3
      have := h2.mem_iff.mp (List.mem_singleton.mpr rfl : v ∈ [v])
      rw [List.mem_singleton.mp this]
      exact .inr rfl
theorem ok_pairs {f fV fD fO fS : Addr} {fd fdV fdD fdO fdS : FuncData} (F : Fun K "_law_pairs" "_law_pairs" sPairs f fd)
    (GV : FnOk P w K mg base CX0 1 fV fdV ["_law_told_here"] (spVariables K)) (kV : PySem.W.keepIn K (.ref fV) = true) (gV : mg "_law_variables" = some (.ref fV)) (bV : Binds K fdV ["_law_told_here"] [])
    (GD : FnOk P w K mg base CX0 2 fD fdD ["_law_purse_here", "_law_many"] spDraw) (kD : PySem.W.keepIn K (.ref fD) = true) (gD : mg "_law_draw" = some (.ref fD)) (bD : Binds K fdD ["_law_purse_here", "_law_many"] [])
    (GO : FnOk P w K mg base CX0 3 fO fdO ["_law_purse_here", "_law_some"] (spOneOf K)) (kO : PySem.W.keepIn K (.ref fO) = true) (gO : mg "_law_one_of" = some (.ref fO)) (bO : Binds K fdO ["_law_purse_here", "_law_some"] [])
    (GS : FnOk P w K mg base CX0 3 fS fdS ["_law_purse_here", "_law_some"] (spShuffled K)) (kS : PySem.W.keepIn K (.ref fS) = true) (gS : mg "_law_shuffled" = some (.ref fS)) (bS : Binds K fdS ["_law_purse_here", "_law_some"] []) (B : Bl mg) :
    FnOk P w K mg base CX0 4 f fd ["_law_purse_here", "_law_told_here", "_law_names_here"] (spPairs K) := by
  refine F.ok scPairs (fun vs H Q E h => ?_) (fun cdv A outer s H vs Q E hr h => ?_)
  · obtain ⟨a, b, c, n, us, ps, zs, rfl, _⟩ := h
    rfl
  · obtain ⟨a, b, c, n, us, ps, zs, rfl, pu, ⟨hb, hps, hok, hpl⟩, ⟨hc, hca, hz1, hz2⟩, q⟩ := h
    have hr1 : Room 1 _ := hr.mono (by decide)
    have hr2 : Room 2 _ := hr.mono (by decide)
    refine ⟨_, pss_cons (ps_set (i := 3) scPairs.nd rfl (Or.inl rfl) (by exact (pe_call GV hr1 (by rfl) gV kV bV .nil pass0 (pa_cons (pv 1) pa_nil))))
      (pss_cons (ps_if (PW.pt (pw_or (pt_cmpR (op_eqD hr.units) (pv 3) (pe_lst pa_nil) (nomark _)) (pw_or1 (pt_cmpR op_gt (by exact (pe_call GD hr2 (by rfl) gD kD bD .nil pass0 (pa_cons (pv 0) (pa_cons pe_int pa_nil)))) pe_int (nomark _)))))
        (pss_one (ps_ret (pe_lst pa_nil))) pss_nil)
      (pss_cons (ps_set (i := 4) scPairs.nd rfl (Or.inr rfl) (by exact (pe_call GO hr (by rfl) gO kO bO .nil pass0 (pa_cons (pv 0) (pa_cons (pv 3) pa_nil)))))
      (pss_cons (ps_setLc (i := 5) (own := [("_law_term", 6)]) (g := gName 6) (tt := tTest (tOp rNe (tVar 6) (tVar 4))) (te := tVar 6) rfl scPairs.nd rfl rfl (sw_true rfl rfl rfl (by decide +kernel))
        (pi_list (pe_op op_cat (pv 3) (pe_slice sl_list (pv 2) po_none (po_some pe_int))))
        (blkOk_by (own := [("_law_term", 6)]) (N := ["_law_purse_here", "_law_told_here", "_law_names_here", "_law_some", "_law_one", "_law_others", "_law_term"]) (sc := defScope sPairs) (by decide +kernel))
        (fun _ _ _ _ _ => pg_name (i := 6) scPairs.nd rfl (Or.inl rfl)) (fun _ _ _ _ _ => pts_one (by exact (pt_cmpR op_ne (pv 6) (pv 4) (nomark _)))) (fun _ _ _ _ _ => by exact (pv 6)))
      (pss_one (ps_ret (pe_ifExp (pt_cmpR (op_neD hr.units) (pv 5) (pe_lst pa_nil) (nomark _))
        (pe_lst (pa_cons (pe_callTy call_tuple_of (by rfl) B.tup PyProof.Rows.boot_tuple (pa_cons (by exact (pe_call GS hr (by rfl) gS kS bS .nil pass0 (pa_cons (pv 0) (pa_cons
          (pe_lst (pa_cons (pv 4) (pa_cons (by exact (pe_call GO hr (by rfl) gO kO bO .nil pass0 (pa_cons (pv 0) (pa_cons (pv 5) pa_nil)))) pa_nil))) pa_nil)))) pa_nil)) pa_nil))
        (pe_lst pa_nil))))))), ?_⟩
    refine ⟨_, rfl, b, us, ps, rfl, hb, hps, hok, (by omega), fun p1 H1 np1 sm1 e1 => ?_⟩
    refine (show ∀ vs : List Str, varsIn (tails ps) = vs → H1 p1 = some (.lst (vs.map V.str)) → tSeq _ _ { nx := fun _ H' => Q .non H', rt := Q } [some (.ref a), some (.ref b), some (.ref c), some (.ref p1), none, none, none] H1 from fun vs hvs e1 => ?_) _ rfl e1
    have hv : ∀ x ∈ vs, IsVr x := fun x hx => by
      rw [← hvs] at hx
      exact (varsIn_mem.mp hx).2
    have hvl : vs.length ≤ 900 := by
      rw [← hvs]
      have h1 := varsIn_len (tails ps)
      have h2 := tails_len hok
      omega
    rw [hvs] at q
    have pu1 := pu.same sm1
    have p1a : p1 ≠ a := pu.ne np1
    refine ⟨_, rfl, by decide, fun l nl => ?_⟩
    have pu2 := pu1.put (o := .lst []) (pu1.ne nl)
    have sm2 : Same H (upd H1 l (.lst [])) := same_put sm1 (sm1.free nl)
    have e2 : upd H1 l (.lst []) p1 = some (.lst (vs.map V.str)) := same_new nl _ _ e1
    refine ⟨dS vs, dS [], dp_S (SqL.of e2), .lst (SqL.of upd_same) .nil, (lay_dS fun x hx => (hv x hx).asc).shaped (by decide), (lay_dS (xs := []) (fun x hx => nomatch hx)).shaped (by decide), _, rfl, ?_⟩
    rw [eqv_S]
    generalize upd H1 l (.lst []) = G2 at pu2 sm2 e2 ⊢
    by_cases hvs0 : vs = []
    · rw [decide_eq_true hvs0]
      refine iteT (iteT ?_)
      refine ⟨by decide, fun p np => ?_⟩
      exact q p [] [] _ .nil (by decide) (fun x hx => nomatch hx) (sm2.free np) ((pu2.put (pu2.ne np)).le (by omega)) (Sb.of (same_put sm2 (sm2.free np))) upd_same
    · rw [decide_eq_false hvs0]
      refine iteF ?_
      refine ⟨_, rfl, a, n + 4, 3, rfl, pu2, ⟨by decide, by decide⟩, fun r H3 h0 h1 pu3 sb3 => ?_⟩
      have e3 := sb3 _ _ p1a e2
      have sb3' : Sb a H H3 := (Sb.of sm2).trans sb3
      refine ⟨_, _, rfl, rfl, _, rfl, ?_⟩
      by_cases hr0 : r > 0
      · rw [decide_eq_true hr0]
        refine iteT ?_
        refine ⟨by decide, fun p np => ?_⟩
        exact q p [] [] _ .nil (by decide) (fun x hx => nomatch hx) (sb3'.free pu3 np) ((pu3.put (pu3.ne np)).le (by omega)) (sb3'.put (sb3'.free pu3 np)) upd_same
      · rw [decide_eq_false hr0]
        refine iteF ?_
        have hv1 : 1 ≤ (vs.map V.str).length := by
          rw [List.length_map]
          cases vs with
          | nil => exact absurd rfl hvs0
          | cons x xs => simp
        refine ⟨_, rfl, _, rfl, a, p1, n + 3, vs.map V.str, rfl, pu3, SqL.of e3, p1a, ⟨hv1, ?_⟩, fun v1 H4 hv4 pu4 sb4 => ?_⟩
        · rw [List.length_map]
          omega
        · obtain ⟨one, hone, rfl⟩ := List.mem_map.mp hv4
          have e4 := sb4 _ _ p1a e3
          have sb4' := sb3'.trans sb4
          refine (show ∀ G : Hp, G = H4 → tSeq _ _ { nx := fun _ H' => Q .non H', rt := Q } [some (.ref a), some (.ref b), some (.ref c), some (.ref p1), some (.str one), none, none] G from fun G hG => ?_) _ rfl
          subst hG
          refine ⟨_, rfl, _, rfl, 1, rfl, c, _, rfl, sb4'.seq hca hc, fun l2 nl2 => ?_⟩
          have hcz : cutV (zs.map V.str) none (some 1) = (zs.take 1).map V.str := by
            unfold cutV
            have hx := HT.sIx_nat (zs.map V.str).length (zs.map V.str).length 1
            rw [show ((1 : Nat) : Int) = 1 by rfl] at hx
            rw [HT.sIx_none, hx, List.drop_zero, Nat.sub_zero, List.length_map, List.map_take]
            cases zs with
            | nil => rfl
            | cons z zs =>
              rw [List.length_cons, Nat.min_eq_left (by omega)]
          rw [hcz]
          have pu5 := pu4.put (o := .lst ((zs.take 1).map V.str)) (pu4.ne nl2)
          have sb5 : Sb a H (upd G l2 (.lst ((zs.take 1).map V.str))) := sb4'.put (sb4'.free pu4 nl2)
          have e5 : upd G l2 (.lst ((zs.take 1).map V.str)) p1 = some (.lst (vs.map V.str)) := same_new nl2 _ _ e4
          have e6 : upd G l2 (.lst ((zs.take 1).map V.str)) l2 = some (.lst ((zs.take 1).map V.str)) := upd_same
          generalize upd G l2 (.lst ((zs.take 1).map V.str)) = G5 at pu5 sb5 e5 e6 ⊢
          refine ⟨_, _, _, _, rfl, rfl, e5, e6, ?_, fun l3 nl3 => ?_⟩
          · rw [List.length_map, List.length_map, List.length_take]
            exact Nat.le_trans (by omega : _ ≤ 3001) (by decide)
          · rw [← List.map_append]
            have hx : ∀ x ∈ vs ++ zs.take 1, x ∈ vs ∨ IsNm x := fun x hx => by
              rcases List.mem_append.mp hx with h | h
              · exact .inl h
              · exact .inr (hz2 x (List.mem_of_mem_take h))
            have hxl : (vs ++ zs.take 1).length ≤ 901 := by
              rw [List.length_append, List.length_take]
              omega
            generalize vs ++ zs.take 1 = xs at hx hxl ⊢
            have pu6 := pu5.put (o := .lst (xs.map V.str)) (pu5.ne nl3)
            have sb6 : Sb a H (upd G5 l3 (.lst (xs.map V.str))) := sb5.put (sb5.free pu5 nl3)
            have e7 : upd G5 l3 (.lst (xs.map V.str)) l3 = some (.lst (xs.map V.str)) := upd_same
            generalize upd G5 l3 (.lst (xs.map V.str)) = G6 at pu6 sb6 e7 ⊢
            refine ⟨l3, rfl, ⟨_, SqL.of e7⟩, fun D nD => ?_⟩
            have Da := pu6.ne nD
            refine lc_list (K := K) (a := l3) (xs := xs.map V.str) (fun i H' => Same G6 H' ∧ H' D = some (.lst (((xs.take i).filter fun x => decide (x ≠ one)).map V.str))) ⟨same_new nD, upd_same⟩ (fun i H' _ y => SqL.of (y.1 _ _ e7)) ?_ ?_
            · rintro i x H5 hi ⟨sm5, e8⟩
              rw [List.getElem?_map] at hi
              obtain ⟨z, hz, rfl⟩ : ∃ z, xs[i]? = some z ∧ x = V.str z := by
                cases g : xs[i]? with
                | none =>
                  rw [g] at hi
                  cases hi
                | some z =>
                  rw [g] at hi
                  exact ⟨z, rfl, (Option.some.inj hi).symm⟩
              have htk : (xs.take (i + 1)).filter (fun x => decide (x ≠ one)) = (xs.take i).filter (fun x => decide (x ≠ one)) ++ (if z = one then [] else [z]) := by
                rw [List.take_add_one, hz, List.filter_append]
                by_cases h : z = one
                · simp [h]
                · simp [h]
              rw [htk]
              refine ⟨rfl, _, rfl, _, rfl, rfl, _, rfl, ?_⟩
              by_cases h : z = one
              · rw [decide_eq_true (by rw [h] : V.str z = V.str one)]
                refine iteF ⟨sm5, ?_⟩
                rw [if_pos h, List.append_nil]
                exact e8
              · rw [decide_eq_false (fun e => h (by injection e) : ¬ V.str z = V.str one)]
                refine iteT ⟨_, rfl, _, e8, ?_, same_put sm5 nD, ?_⟩
                · rw [List.length_map]
                  have h1 := List.length_filter_le (fun x => decide (x ≠ one)) (xs.take i)
                  rw [List.length_take] at h1
                  exact Nat.lt_of_le_of_lt (by omega : _ ≤ 3001) (by decide)
                · rw [upd_same, if_neg h, List.map_append] <;> rfl
            · rintro H5 ⟨sm5, e8⟩
              rw [List.length_map, List.take_length] at e8
              have hy : ∀ y ∈ xs.filter (fun x => decide (x ≠ one)), (y ∈ vs ∨ IsNm y) ∧ y ≠ one := fun y hy => by
                obtain ⟨h1, h2⟩ := List.mem_filter.mp hy
                exact ⟨hx y h1, of_decide_eq_true h2⟩
              have hyl := List.length_filter_le (fun x => decide (x ≠ one)) xs
              generalize xs.filter (fun x => decide (x ≠ one)) = ys at e8 hy hyl
              have pu7 := pu6.same sm5
              have sb7 := sb6.then sm5
              refine (show ∀ G : Hp, G = H5 → tSeq _ _ { nx := fun _ H' => Q .non H', rt := Q } [some (.ref a), some (.ref b), some (.ref c), some (.ref p1), some (.str one), some (.ref D), none] G from fun G hG => ?_) _ rfl
              subst hG
              have D2a : D ≠ a := Da
              refine ⟨_, rfl, by decide, fun l4 nl4 => ?_⟩
              have e9 : upd G l4 (.lst []) D = some (.lst (ys.map V.str)) := same_new nl4 _ _ e8
              have sb8 : Sb a H (upd G l4 (.lst [])) := sb7.put (sb7.free pu7 nl4)
              have pu8 := pu7.put (o := .lst []) (pu7.ne nl4)
              have yasc : ∀ y ∈ ys, Asc y := fun y hh => by
                rcases (hy y hh).1 with h | h
                · exact (hv y h).asc
                · exact h.asc
              refine ⟨dS ys, dS [], dp_S (SqL.of e9), .lst (SqL.of upd_same) .nil, (lay_dS yasc).shaped (by decide), (lay_dS (xs := []) (fun x hx => nomatch hx)).shaped (by decide), _, rfl, ?_⟩
              rw [eqv_S]
              generalize upd G l4 (.lst []) = G7 at e9 sb8 pu8 ⊢
              by_cases hys : ys = []
              · rw [decide_eq_true hys]
                refine iteF ?_
                refine ⟨by decide, fun p np => ?_⟩
                exact q p [] [] _ .nil (by decide) (fun x hx => nomatch hx) (sb8.free pu8 np) ((pu8.put (pu8.ne np)).le (by omega)) (sb8.put (sb8.free pu8 np)) upd_same
              · rw [decide_eq_false hys]
                refine iteT ?_
                have hy1 : 1 ≤ (ys.map V.str).length := by
                  rw [List.length_map]
                  cases ys with
                  | nil => exact absurd rfl hys
                  | cons x xs => simp
                refine ⟨_, rfl, _, rfl, _, rfl, _, rfl, a, D, n + 2, ys.map V.str, rfl, pu8, SqL.of e9, Da, ⟨hy1, by rw [List.length_map]; omega⟩, fun v2 H8 hv2 pu9 sb9 => ?_⟩
                obtain ⟨two, htwo, rfl⟩ := List.mem_map.mp hv2
                obtain ⟨hto, htne⟩ := hy two htwo
                have sb10 := sb8.trans sb9
                refine ⟨(by show 2 ≤ sizeLine; decide), fun l5 nl5 => ?_⟩
                have l5a := pu9.ne nl5
                have pu10 := pu9.put (o := .lst [.str one, .str two]) l5a
                have sb11 : Sb a H (upd H8 l5 (.lst [.str one, .str two])) := sb10.put (sb10.free pu9 nl5)
                refine ⟨a, l5, n, [.str one, .str two], rfl, pu10, SqL.of upd_same, l5a, by show 2 ≤ 1000; decide, fun p2 ws H9 pm np2 pu11 sb12 e10 => ?_⟩
                have sb13 := sb11.trans sb12
                refine ⟨p2, ws, rfl, .inl ⟨SqL.of e10, fun t nt => ?_⟩⟩
                have pu12 := pu11.put (o := .tup ws) (pu11.ne nt)
                have sb14 : Sb a H (upd H9 t (.tup ws)) := sb13.put (sb13.free pu11 nt)
                refine ⟨(by show 1 ≤ sizeLine; decide), fun p3 np3 => ?_⟩
                have hne : t ≠ p3 := fun z => by
                  rw [← z, upd_same] at np3
                  cases np3
                have done : ∀ x y : Str, ws = [V.str x, V.str y] → PrOk vs [x, y] → Q (.ref p3) (upd (upd H9 t (.tup ws)) p3 (.lst [.ref t])) := fun x y hw hp => by
                  refine q p3 [.ref t] [[x, y]] _ (.cons ?_ .nil) (by show 1 ≤ 1; decide) (fun z hz => by rw [List.mem_singleton.mp hz]; exact hp) (sb14.free pu12 np3) ((pu12.put (pu12.ne np3)).le (by omega)) (sb14.put (sb14.free pu12 np3)) upd_same
                  rw [upd_ne hne, upd_same, hw] <;> rfl
                rcases two_perm pm with h | h
                · exact done one two h ⟨one, two, rfl, Ne.symm htne, .inl hone, hto, .inl hone⟩
                · exact done two one h ⟨two, one, rfl, htne, hto, .inl hone, .inr hone⟩
end
end Nv
set_option maxHeartbeats 4000000
namespace Nv
open PySem PySem.Spec PyProof.Rows L2
theorem cutA (ks : List V) (h : 1 ≤ ks.length) : cutV ks none (some 1) = ks.take 1 := by
  unfold cutV
  have e : HT.sIx ks.length ks.length (some (1 : Int)) = min 1 ks.length := HT.sIx_nat ks.length ks.length 1
  rw [e, HT.sIx_none, List.drop_zero, Nat.sub_zero, Nat.min_eq_left h]
theorem cutB (ks : List V) (h : 2 ≤ ks.length) : cutV ks (some 1) (some 2) = (ks.drop 1).take 1 := by
  unfold cutV
  have e : HT.sIx ks.length ks.length (some (2 : Int)) = min 2 ks.length := HT.sIx_nat ks.length ks.length 2
  have e2 : HT.sIx ks.length 0 (some (1 : Int)) = min 1 ks.length := HT.sIx_nat ks.length 0 1
  rw [e, e2, Nat.min_eq_left h, Nat.min_eq_left (by omega)]
theorem rep_mem {l : List V} {v : V} (h : v ∈ (List.replicate (4 : Int).toNat l).flatten) : v ∈ l := by
  obtain ⟨m, hm, hv⟩ := List.mem_flatten.mp h
  rw [List.eq_of_mem_replicate hm] at hv
  exact hv
theorem rep_len {l : List V} : (List.replicate (4 : Int).toNat l).flatten.length = 4 * l.length := by
  show (List.replicate 4 l).flatten.length = _
  simp [List.replicate]
  omega
theorem take_names {zs : List Str} : cutV (zs.map V.str) none (some 1) = (zs.take 1).map V.str := by
  unfold cutV
  have hx : HT.sIx (zs.map V.str).length (zs.map V.str).length (some (1 : Int)) = min 1 (zs.map V.str).length := HT.sIx_nat _ _ 1
  rw [HT.sIx_none, hx, List.drop_zero, Nat.sub_zero, List.length_map, List.map_take]
  cases zs with
  | nil => rfl
  | cons z zs =>
    rw [List.length_cons, Nat.min_eq_left (by omega)]
theorem lst_ne {H : Hp} {a p : Addr} {n : Nat} {o : HO} (pu : Pu H a n) (h : ∀ s d t k : Int, o ≠ .lst [.int s, .int d, .int t, .int k]) (e : H p = some o) : p ≠ a := fun z => by
  obtain ⟨s, d, t, k, e2, _⟩ := pu.ex
  rw [z, e2] at e
  exact h s d t k (Option.some.inj e).symm
theorem hasMore_no {ts : List Str} {ps : List (List Str)} (h : ∀ x ∈ ts, x ∈ varsIn (tails ps) ∨ IsNm x) : hasMore ts ps = false := by
  unfold hasMore
  rw [List.any_eq_false]
  intro x hx
  obtain ⟨h1, h2⟩ := varsIn_mem.mp hx
  rcases h x h1 with h3 | h3
  · rw [decide_eq_true h3]
    decide
  · exact absurd h2 (nm_not_vr h3)
theorem PrOk.pair {vs q : List Str} (h : PrOk vs q) (hv : ∀ x ∈ vs, IsVr x) : PairOk q := by
  obtain ⟨x, y, rfl, ne, h1, h2, h3⟩ := h
  have tm : ∀ z, z ∈ vs ∨ IsNm z → IsTm z := fun z h => h.elim (fun h => .inr (hv z h)) .inl
  exact ⟨x, y, rfl, ne, tm x h1, tm y h2, h3.elim (fun h => .inl (hv x h)) fun h => .inr (hv y h)⟩
/-- the rule y, made since H -/
def RAn (C : Addr) (H H' : Hp) (r : Addr) (x : Rl) : Prop := ∃ (dx th l1 l2 l3 : Addr) (us us2 us3 : List V), (H r = none ∧ H l1 = none ∧ H l2 = none ∧ H l3 = none) ∧ (H' r = some (.ins C dx (ruleF x.l th l1 l2 l3)) ∧ H' th = some (.tup (x.h.map V.str)) ∧ (H' l1 = some (.lst us) ∧ PaL H' us x.ps) ∧ (H' l2 = some (.lst us2) ∧ PaL H' us2 x.qs) ∧ H' l3 = some (.lst us3) ∧ PaL H' us3 x.ds)
/-- no variable stands elsewhere that doesn't stand in the told patterns -/
structure Clo (y : Rl) : Prop where
  h : hasMore y.h.tail y.ps = false
  q : hasMore y.qs.flatten y.ps = false
  d : hasMore (tails y.ds) y.ps = false
section
variable {P : Program} {w : World} {K : PySem.W.Frag} {mg : Str → Option Value} {base : Heap}
/-- _law_rule(purse, label, kinds, names, denied) -/
def spRule (CR : Addr) : Sp := fun vs H Q _ => ∃ (a b c : Addr) (z : Str) (d : Bool) (n : Nat) (ks : List V) (zs : List Str), vs = [.ref a, .str z, .ref b, .ref c, .bl d] ∧ Pu H a (n + 30) ∧ IsNm z ∧ (H b = some (.lst ks) ∧ b ≠ a ∧ 2 ≤ ks.length ∧ ks.length ≤ 100 ∧ ∀ v ∈ ks, Kd H v) ∧
  (H c = some (.lst (zs.map V.str)) ∧ c ≠ a ∧ 1 ≤ zs.length ∧ zs.length ≤ 100 ∧ ∀ y ∈ zs, IsNm y) ∧
  ∀ (r : Addr) (x : Rl) (H' : Hp), x.Ok → Clo x → (∀ p ∈ x.ps, Few p) → x.h ≠ (["never", "a"] : List Str) → x.l = z → RAn CR H H' r x → Pu H' a n → Sb a H H' → Q (.ref r) H'
theorem scRule : FnScope ["_law_purse_here", "_law_label", "_law_kinds_here", "_law_names_here", "_law_denied", "_law_told_here", "_law_some", "_law_none", "_law_head"] ["_law_purse_here", "_law_label", "_law_kinds_here", "_law_names_here", "_law_denied"] (defScope sRule) := ⟨rfl, rfl, rfl, by decide +kernel, rfl, by decide +kernel, by decide +kernel⟩
theorem if_den {a b p6 p7 c pt : Addr} {z : Str} {d : Bool} {n : Nat} {ks : List V} {so : List Str} {D : Ends} {G : Hp} (pu : Pu G a (n + 5)) (hb : SqL K G b ks ∧ b ≠ a ∧ 1 ≤ ks.length ∧ ks.length ≤ 1000 ∧ ∀ v ∈ ks, Kd G v) (hc : SqL K G p6 (so.map V.str) ∧ p6 ≠ a ∧ 1 ≤ so.length ∧ so.length ≤ 1000) (tm : ∀ y ∈ so, IsVr y ∨ IsNm y)
    (e7 : G p7 = some (.lst [])) (k : ∀ (pd : Addr) (us3 : List V) (ds : List (List Str)) (G' : Hp), Pu G' a n → Sb a G G' → G' pd = some (.lst us3) → PaL G' us3 ds → (∀ x ∈ ds, PatOk x) → ds.length ≤ 1 → (∀ y ∈ tails ds, y ∈ so) →
      D.nx [some (.ref a), some (.str z), some (.ref b), some (.ref c), some (.bl d), some (.ref pt), some (.ref p6), some (.ref pd), none] G') :
    tIfS (tAnd (tB (tVar 4)) (tTest (tOp rEq (tCall spDraw [] E0 (tCons (tVar 0) (tCons (tC (V.int 2)) tNil))) (tC (V.int 0))))) (tAsg (tLst (tCons (tCall (spPattern K) [] E0 (tCons (tVar 0) (tCons (tVar 2) (tCons (tVar 6) tNil)))) tNil)) (gName 7)) tNext D
      [some (.ref a), some (.str z), some (.ref b), some (.ref c), some (.bl d), some (.ref pt), some (.ref p6), some (.ref p7), none] G := by
  have nil : ∀ G', Pu G' a n → Sb a G G' → D.nx [some (.ref a), some (.str z), some (.ref b), some (.ref c), some (.bl d), some (.ref pt), some (.ref p6), some (.ref p7), none] G' := fun G' p' s' =>
    k p7 [] [] G' p' s' (s' _ _ (lst_ne pu (fun _ _ _ _ e => by cases e) e7) e7) .nil (fun x hx => nomatch hx) (Nat.zero_le _) (fun y hy => nomatch hy)
  refine ⟨_, rfl, d, rfl, ?_⟩
  cases d with
  | false => exact iteF (iteF (nil G (pu.le (by omega)) (Sb.refl a G)))
  | true =>
    refine iteT ⟨_, rfl, a, n + 4, 2, rfl, pu, ⟨by decide, by decide⟩, fun r H1 r0 r1 pu1 sb1 => ⟨rfl, _, rfl, ?_⟩⟩
    by_cases hr0 : r = 0
    · rw [decide_eq_true (by rw [hr0] : V.int r = V.int 0)]
      refine iteT ?_
      refine ⟨_, rfl, _, rfl, _, rfl, a, b, p6, n, ks, so, rfl, pu1, ⟨sb1.seq hb.2.1 hb.1, hb.2.1, hb.2.2.1, hb.2.2.2.1, fun v hv => (hb.2.2.2.2 v hv).sb pu sb1⟩, ⟨sb1.seq hc.2.1 hc.1, hc.2⟩, fun t wd ts H2 hw h3 hts nt pu2 sb2 et => ?_⟩
      refine ⟨(by show 1 ≤ sizeLine; decide), fun pd nd => ?_⟩
      have tne : t ≠ pd := fun z => by
        rw [z, nd] at et
        cases et
      refine k pd [.ref t] [wd :: ts] _ (pu2.put (pu2.ne nd)) ((sb1.trans sb2).put ((sb1.trans sb2).free pu2 nd)) upd_same (.cons (by rw [upd_ne tne]; exact et) .nil) (fun x hx => ?_) (by show 1 ≤ 1; decide) (fun y hy => ?_)
      · rw [List.mem_singleton.mp hx]
        exact ⟨wd, ts, rfl, hw.1, h3, fun y hy => tm y (hts y hy)⟩
      · have : y ∈ ts := by simpa [tails] using hy
        exact hts y this
    · rw [decide_eq_false (fun e => hr0 (by injection e) : ¬ V.int r = V.int 0)]
      exact iteF (nil H1 (pu1.le (by omega)) sb1)
theorem ok_rule {f fD fT fV fP fQ fI CR : Addr} {fd dD dT dV dP dQ dI : FuncData} (F : Fun K "_law_rule" "_law_rule" sRule f fd)
    (GD : FnOk P w K mg base CX0 2 fD dD ["_law_purse_here", "_law_many"] spDraw) (kD : PySem.W.keepIn K (.ref fD) = true) (gD : mg "_law_draw" = some (.ref fD)) (bD : Binds K dD ["_law_purse_here", "_law_many"] [])
    (GT : FnOk P w K mg base CX0 5 fT dT ["_law_purse_here", "_law_kinds_here", "_law_names_here", "_law_most", "_law_few"] (spTold K)) (kT : PySem.W.keepIn K (.ref fT) = true) (gT : mg "_law_told" = some (.ref fT)) (bT : Binds K dT ["_law_purse_here", "_law_kinds_here", "_law_names_here", "_law_most", "_law_few"] [])
    (GV : FnOk P w K mg base CX0 1 fV dV ["_law_told_here"] (spVariables K)) (kV : PySem.W.keepIn K (.ref fV) = true) (gV : mg "_law_variables" = some (.ref fV)) (bV : Binds K dV ["_law_told_here"] [])
    (GP : FnOk P w K mg base CX0 4 fP dP ["_law_purse_here", "_law_kinds_here", "_law_terms"] (spPattern K)) (kP : PySem.W.keepIn K (.ref fP) = true) (gP : mg "_law_pattern" = some (.ref fP)) (bP : Binds K dP ["_law_purse_here", "_law_kinds_here", "_law_terms"] [])
    (GQ : FnOk P w K mg base CX0 4 fQ dQ ["_law_purse_here", "_law_told_here", "_law_names_here"] (spPairs K)) (kQ : PySem.W.keepIn K (.ref fQ) = true) (gQ : mg "_law_pairs" = some (.ref fQ)) (bQ : Binds K dQ ["_law_purse_here", "_law_told_here", "_law_names_here"] [])
    (GI : FnOk P w K mg base CX0 5 fI dI ["self", "label", "head", "told", "pairs", "denied"] (spRuleInit CR)) (MI : Mk K CR fI) (gR : mg "Rule" = some (.ref CR)) (bI : Binds K dI ["self", "label", "head", "told", "pairs", "denied"] []) :
    FnOk P w K mg base CX0 7 f fd ["_law_purse_here", "_law_label", "_law_kinds_here", "_law_names_here", "_law_denied"] (spRule CR) := by
  refine F.ok scRule (fun vs H Q E h => ?_) (fun cdv A outer s H vs Q E hr h => ?_)
  · obtain ⟨a, b, c, z, d, n, ks, zs, rfl, _⟩ := h
    rfl
  · obtain ⟨a, b, c, z, d, n, ks, zs, rfl, pu, hz, ⟨eb, hba, k2, kl, kd⟩, ⟨ec, hca, z1, zl, zn⟩, q⟩ := h
    have hr1 : Room 1 _ := hr.mono (by decide)
    have hr2 : Room 2 _ := hr.mono (by decide)
    have hr4 : Room 4 _ := hr.mono (by decide)
    have hr5 : Room 5 _ := hr.mono (by decide)
    refine ⟨_, pss_cons (ps_set (i := 5) scRule.nd rfl (Or.inl rfl) (by exact (pe_call GT hr5 (by rfl) gT kT bT .nil pass0 (pa_cons (pv 0) (pa_cons (pe_op op_cat (pe_op op_rep (pe_slice sl_list (pv 2) po_none (po_some pe_int)) pe_int) (pv 2)) (pa_cons (pv 3) (pa_cons pe_int (pa_cons (pe_op op_add pe_int (by exact (pe_call GD hr2 (by rfl) gD kD bD .nil pass0 (pa_cons (pv 0) (pa_cons pe_int pa_nil))))) pa_nil))))))))
      (pss_cons (ps_par (i := 6) (j := 7) (by rfl) scRule.nd rfl rfl (by decide) rfl rfl (pa_cons (pe_op op_cat (by exact (pe_call GV hr1 (by rfl) gV kV bV .nil pass0 (pa_cons (pv 5) pa_nil))) (pe_slice sl_list (pv 3) po_none (po_some pe_int))) (pa_cons (pe_lst pa_nil) pa_nil)) (by rfl))
      (pss_cons (ps_if (PW.pt (pw_and (pt_val (pv 4)) (pw_and1 (pt_cmpR op_eq (by exact (pe_call GD hr2 (by rfl) gD kD bD .nil pass0 (pa_cons (pv 0) (pa_cons pe_int pa_nil)))) pe_int (nomark _)))))
        (pss_one (ps_set (i := 7) scRule.nd rfl (Or.inl rfl) (pe_lst (pa_cons (by exact (pe_call GP hr4 (by rfl) gP kP bP .nil pass0 (pa_cons (pv 0) (pa_cons (pv 2) (pa_cons (pv 6) pa_nil))))) pa_nil)))) pss_nil)
      (pss_cons (ps_set (i := 8) scRule.nd rfl (Or.inl rfl) (by exact (pe_call GP hr4 (by rfl) gP kP bP .nil pass0 (pa_cons (pv 0) (pa_cons (pe_op op_cat (pe_op op_rep (pe_slice sl_list (pv 2) (po_some pe_int) (po_some pe_int)) pe_int) (pv 2)) (pa_cons (pv 6) pa_nil))))))
      (pss_one (ps_ret (by exact (pe_make MI GI hr (by rfl) gR bI .nil pass0 (pa_cons (pv 1) (pa_cons (pv 8) (pa_cons (pv 5) (pa_cons (by exact (pe_call GQ hr4 (by rfl) gQ kQ bQ .nil pass0 (pa_cons (pv 0) (pa_cons (pv 5) (pa_cons (pv 3) pa_nil))))) (pa_cons (pv 7) pa_nil)))))))))))), ?_⟩
    -- told
    refine ⟨_, rfl, _, rfl, 1, rfl, b, ks, rfl, SqL.of eb, fun p1 n1 => ?_⟩
    rw [cutA ks (by omega)]
    have s1 : Same H (upd H p1 (.lst (ks.take 1))) := same_new n1
    have e1 : upd H p1 (.lst (ks.take 1)) p1 = some (.lst (ks.take 1)) := upd_same
    generalize upd H p1 (.lst (ks.take 1)) = G1 at s1 e1 ⊢
    refine ⟨p1, 4, _, rfl, rfl, e1, by decide, by decide, ?_, fun p2 n2 => ?_⟩
    · rw [List.length_take]
      exact Nat.le_trans (by show min 1 ks.length * 4 ≤ 1000; omega) (by decide)
    have s2 : Same H (upd G1 p2 (.lst (List.replicate (4 : Int).toNat (ks.take 1)).flatten)) := same_put s1 (s1.free n2)
    have e2 : upd G1 p2 (.lst (List.replicate (4 : Int).toNat (ks.take 1)).flatten) p2 = some (.lst (List.replicate (4 : Int).toNat (ks.take 1)).flatten) := upd_same
    have hm1 : ∀ v ∈ (List.replicate (4 : Int).toNat (ks.take 1)).flatten, v ∈ ks := fun v hv => List.mem_of_mem_take (rep_mem hv)
    have hl1 : (List.replicate (4 : Int).toNat (ks.take 1)).flatten.length ≤ 400 := by
      rw [rep_len, List.length_take]
      omega
    generalize (List.replicate (4 : Int).toNat (ks.take 1)).flatten = k4 at s2 e2 hm1 hl1 ⊢
    generalize upd G1 p2 (.lst k4) = G2 at s2 e2 ⊢
    refine ⟨_, rfl, _, _, _, _, rfl, rfl, e2, s2 _ _ eb, Nat.le_trans (by omega : _ ≤ 1000) (by decide), fun p3 n3 => ?_⟩
    have s3 : Same H (upd G2 p3 (.lst (k4 ++ ks))) := same_put s2 (s2.free n3)
    have e3 : upd G2 p3 (.lst (k4 ++ ks)) p3 = some (.lst (k4 ++ ks)) := upd_same
    have n3H := s2.free n3
    generalize upd G2 p3 (.lst (k4 ++ ks)) = G3 at s3 e3 ⊢
    have hk3 : ∀ v ∈ k4 ++ ks, v ∈ ks := fun v hv => (List.mem_append.mp hv).elim (hm1 v) id
    have hl3 : 1 ≤ (k4 ++ ks).length ∧ (k4 ++ ks).length ≤ 1000 := by
      rw [List.length_append]
      omega
    generalize k4 ++ ks = kk at e3 hk3 hl3
    have pu3 := pu.same s3
    have p3a : p3 ≠ a := pu.ne n3H
    refine ⟨_, rfl, _, rfl, a, n + 29, 2, rfl, pu3, ⟨by decide, by decide⟩, fun r H4 r0 r1 pu4 sb4 => ⟨_, _, rfl, rfl, ?_⟩⟩
    obtain ⟨j, rfl⟩ : ∃ j : Nat, r = (j : Int) := ⟨r.toNat, by omega⟩
    have sbA : Sb a H H4 := (Sb.of s3).trans sb4
    refine ⟨a, p3, c, n + 15, 3, 2 + j, kk, zs, by rw [show ((2 + j : Nat) : Int) = 2 + (j : Int) by omega]; rfl, pu4.le (by omega), ⟨by omega, by omega, by decide⟩, ⟨SqL.of (sb4 _ _ p3a e3), p3a, hl3.1, hl3.2, fun v hv => (kd v (hk3 v hv)).sb pu sbA⟩, ⟨SqL.of (sbA _ _ hca ec), hca, by omega, zn⟩, fun pt us ps H5 hps hok hfew hpl npt pu5 sb5 ept => ?_⟩
    have sbB := sbA.trans sb5
    have nptH : H pt = none := sbA.free pu4 npt
    have pta : pt ≠ a := pu4.ne npt
    clear sb5 pu4 sb4 pu3
    refine (show ∀ G : Hp, G = H5 → tSeq _ _ { nx := fun _ H' => Q .non H', rt := Q } [some (.ref a), some (.str z), some (.ref b), some (.ref c), some (.bl d), some (.ref pt), none, none, none] G from fun G hG => ?_) _ rfl
    subst hG
    have ec5 := sbB _ _ hca ec
    refine ⟨_, rfl, pt, us, ps, rfl, SqL.of ept, hps, hok, by omega, fun p6 H6 n6 s6 e6 => ?_⟩
    have sb6 := sbB.then s6
    have pu6 := pu5.same s6
    refine ⟨_, rfl, 1, rfl, c, _, rfl, SqL.of (s6 _ _ ec5), fun p7 n7 => ?_⟩
    rw [take_names]
    have s7 : Same G (upd H6 p7 (.lst ((zs.take 1).map V.str))) := same_put s6 (s6.free n7)
    have e7 : upd H6 p7 (.lst ((zs.take 1).map V.str)) p7 = some (.lst ((zs.take 1).map V.str)) := upd_same
    have e67 : upd H6 p7 (.lst ((zs.take 1).map V.str)) p6 = some (.lst ((varsIn (tails ps)).map V.str)) := same_new n7 _ _ e6
    generalize upd H6 p7 (.lst ((zs.take 1).map V.str)) = H7 at s7 e7 e67 ⊢
    have hvl : (varsIn (tails ps)).length ≤ 9 := by
      have h1 := varsIn_len (tails ps)
      have h2 := tails_len hok
      omega
    refine ⟨_, _, _, _, rfl, rfl, e67, e7, ?_, fun p8 n8 => ?_⟩
    · rw [List.length_map, List.length_map, List.length_take]
      exact Nat.le_trans (by omega : _ ≤ 1000) (by decide)
    rw [← List.map_append]
    have hso : ∀ y ∈ varsIn (tails ps) ++ zs.take 1, y ∈ varsIn (tails ps) ∨ IsNm y := fun y hy => (List.mem_append.mp hy).elim .inl fun h => .inr (zn y (List.mem_of_mem_take h))
    have hsl : 1 ≤ (varsIn (tails ps) ++ zs.take 1).length ∧ (varsIn (tails ps) ++ zs.take 1).length ≤ 1000 := by
      rw [List.length_append, List.length_take]
      omega
    generalize varsIn (tails ps) ++ zs.take 1 = so at hso hsl ⊢
    have s8 : Same G (upd H7 p8 (.lst (so.map V.str))) := same_put s7 (s7.free n8)
    have e8 : upd H7 p8 (.lst (so.map V.str)) p8 = some (.lst (so.map V.str)) := upd_same
    have n8G := s7.free n8
    generalize upd H7 p8 (.lst (so.map V.str)) = H8 at s8 e8 ⊢
    refine ⟨by decide, fun p9 n9 => ?_⟩
    have s9 : Same G (upd H8 p9 (.lst [])) := same_put s8 (s8.free n9)
    have e89 : upd H8 p9 (.lst []) p8 = some (.lst (so.map V.str)) := same_new n9 _ _ e8
    have e9 : upd H8 p9 (.lst []) p9 = some (.lst []) := upd_same
    generalize upd H8 p9 (.lst []) = H9 at s9 e89 e9 ⊢
    refine ⟨_, _, rfl, ?_⟩
    have pu9 := pu5.same s9
    have sb9 := sbB.then s9
    have p8a : p8 ≠ a := pu5.ne n8G
    have vt : ∀ y ∈ so, IsVr y ∨ IsNm y := fun y hy => (hso y hy).elim (fun h => .inl (varsIn_mem.mp h).2) .inr
    show tSeq _ _ _ _ _
    refine if_den (K := K) (n := n + 10) (ks := ks) (so := so) pu9 ⟨SqL.of (sb9 _ _ hba eb), hba, by omega, by omega, fun v hv => (kd v hv).sb pu sb9⟩ ⟨SqL.of e89, p8a, hsl.1, hsl.2⟩ vt e9 fun pd us3 ds H10 pu10 sb10 ed pds dok dl dso => ?_
    have sbC := sb9.trans sb10
    have ept10 : H10 pt = some (.lst us) := sb10 _ _ pta (s9 _ _ ept)
    have pps10 : PaL H10 us ps := (hps.same s9).sb pu9 sb10
    have e8x := sb10 _ _ p8a e89
    have eb10 := sbC _ _ hba eb
    refine (show ∀ G : Hp, G = H10 → tSeq _ _ { nx := fun _ H' => Q .non H', rt := Q } [some (.ref a), some (.str z), some (.ref b), some (.ref c), some (.bl d), some (.ref pt), some (.ref p8), some (.ref pd), none] G from fun G hG => ?_) _ rfl
    subst hG
    refine ⟨_, rfl, _, rfl, 1, rfl, 2, rfl, b, ks, rfl, SqL.of eb10, fun q1 m1 => ?_⟩
    rw [cutB ks k2]
    have t1 : Same G (upd G q1 (.lst ((ks.drop 1).take 1))) := same_new m1
    have g1 : upd G q1 (.lst ((ks.drop 1).take 1)) q1 = some (.lst ((ks.drop 1).take 1)) := upd_same
    generalize upd G q1 (.lst ((ks.drop 1).take 1)) = F1 at t1 g1 ⊢
    refine ⟨q1, 4, _, rfl, rfl, g1, by decide, by decide, ?_, fun q2 m2 => ?_⟩
    · rw [List.length_take]
      exact Nat.le_trans (by show min 1 (ks.drop 1).length * 4 ≤ 1000; omega) (by decide)
    have t2 : Same G (upd F1 q2 (.lst (List.replicate (4 : Int).toNat ((ks.drop 1).take 1)).flatten)) := same_put t1 (t1.free m2)
    have g2 : upd F1 q2 (.lst (List.replicate (4 : Int).toNat ((ks.drop 1).take 1)).flatten) q2 = some (.lst (List.replicate (4 : Int).toNat ((ks.drop 1).take 1)).flatten) := upd_same
    have hm2 : ∀ v ∈ (List.replicate (4 : Int).toNat ((ks.drop 1).take 1)).flatten, v ∈ ks := fun v hv => List.mem_of_mem_drop (List.mem_of_mem_take (rep_mem hv))
    have hl2 : (List.replicate (4 : Int).toNat ((ks.drop 1).take 1)).flatten.length ≤ 400 := by
      rw [rep_len, List.length_take]
      omega
    generalize (List.replicate (4 : Int).toNat ((ks.drop 1).take 1)).flatten = k5 at t2 g2 hm2 hl2 ⊢
    generalize upd F1 q2 (.lst k5) = F2 at t2 g2 ⊢
    refine ⟨_, rfl, _, _, _, _, rfl, rfl, g2, t2 _ _ eb10, Nat.le_trans (by omega : _ ≤ 1000) (by decide), fun q3 m3 => ?_⟩
    have t3 : Same G (upd F2 q3 (.lst (k5 ++ ks))) := same_put t2 (t2.free m3)
    have g3 : upd F2 q3 (.lst (k5 ++ ks)) q3 = some (.lst (k5 ++ ks)) := upd_same
    have q3a : q3 ≠ a := pu10.ne (t2.free m3)
    generalize upd F2 q3 (.lst (k5 ++ ks)) = F3 at t3 g3 ⊢
    have hk4 : ∀ v ∈ k5 ++ ks, v ∈ ks := fun v hv => (List.mem_append.mp hv).elim (hm2 v) id
    have hl4 : 1 ≤ (k5 ++ ks).length ∧ (k5 ++ ks).length ≤ 1000 := by
      rw [List.length_append]
      omega
    generalize k5 ++ ks = kk2 at g3 hk4 hl4
    have sbD := sbC.then t3
    refine ⟨_, rfl, a, q3, p8, n + 6, kk2, so, rfl, (pu10.same t3).le (by omega), ⟨SqL.of g3, q3a, hl4.1, hl4.2, fun v hv => (kd v (hk4 v hv)).sb pu sbD⟩, ⟨SqL.of (t3 _ _ e8x), p8a, hsl.1, hsl.2⟩, fun th wd tms J1 hw h3 hts nth puJ sbJ eth => ?_⟩
    have sbE := sbD.trans sbJ
    have sGJ : Sb a G J1 := (Sb.of t3).trans sbJ
    have puF3 := pu10.same t3
    have eptJ := sGJ _ _ pta ept10
    have ppsJ := pps10.sb pu10 sGJ
    have pda : pd ≠ a := lst_ne pu10 (fun s1 d1 t1 k1 e => by
      injection e with e
      cases pds with
      | nil => cases e
      | cons e1 h1 =>
        injection e with e _
        cases e) ed
    have edJ := sGJ _ _ pda ed
    have pdsJ := pds.sb pu10 sGJ
    clear sbJ t1 t2 t3 g1 g2 g3
    refine (show ∀ G : Hp, G = J1 → tSeq _ _ { nx := fun _ H' => Q .non H', rt := Q } [some (.ref a), some (.str z), some (.ref b), some (.ref c), some (.bl d), some (.ref pt), some (.ref p8), some (.ref pd), some (.ref th)] G from fun G hG => ?_) _ rfl
    subst hG
    have ecJ := sbE _ _ hca ec
    refine ⟨_, rfl, _, rfl, _, rfl, _, rfl, _, rfl, _, rfl, a, pt, c, n + 1, us, ps, zs, rfl, puJ, ⟨SqL.of eptJ, ppsJ, hok, by omega⟩, ⟨SqL.of ecJ, hca, zl, zn⟩, fun pq ws qs K1 hqs hql hqok npq puq sbq epq => ?_⟩
    refine ⟨_, rfl, fun x dx nx ndx ne => ?_⟩
    have sK : Same K1 (upd (upd K1 dx (.own x)) x (.ins CR dx [])) := fun b o e => by
      rw [upd_ne (ne_of_none e nx), upd_ne (ne_of_none e ndx)]
      exact e
    have ex : upd (upd K1 dx (.own x)) x (.ins CR dx []) x = some (.ins CR dx []) := upd_same
    have mk : ∀ {H2 : Hp}, Sb x (upd (upd K1 dx (.own x)) x (.ins CR dx [])) H2 → Same K1 H2 := fun sb => made_same (Same.refl K1) nx ndx sb
    generalize upd (upd K1 dx (.own x)) x (.ins CR dx []) = K2 at sK ex mk ⊢
    have tha : th ≠ a := tup_ne puJ eth
    have eth2 := sK _ _ (sbq _ _ tha eth)
    have ept2 := sK _ _ (sbq _ _ pta eptJ)
    have pps2 := (ppsJ.sb puJ sbq).same sK
    have ed2 := sK _ _ (sbq _ _ pda edJ)
    have pds2 := (pdsJ.sb puJ sbq).same sK
    have hvv : ∀ y ∈ varsIn (tails ps), IsVr y := fun y hy => (varsIn_mem.mp hy).2
    have hpat : PatOk (wd :: tms) := ⟨wd, tms, rfl, hw.1, h3, fun y hy => vt y (hts y hy)⟩
    have hpr : ∀ y ∈ qs, PairOk y := fun y hy => (hqok y hy).pair hvv
    have m1 : hasMore (wd :: tms).tail ps = false := hasMore_no fun y hy => hso y (hts y hy)
    have m2 : hasMore qs.flatten ps = false := by
      refine hasMore_no fun y hy => ?_
      obtain ⟨l, hl, hy⟩ := List.mem_flatten.mp hy
      obtain ⟨u, v, rfl, _, h1, h2, _⟩ := hqok l hl
      simp only [List.mem_cons, List.not_mem_nil, or_false] at hy
      rcases hy with rfl | rfl
      · exact h1
      · exact h2
    have m3 : hasMore (tails ds) ps = false := hasMore_no fun y hy => hso y (dso y hy)
    refine ⟨x, dx, z, th, pt, wd :: tms, us, ps, .ref pq, qs, .ref pd, ds, rfl, ex, hz, ⟨eth2, hpat⟩, ⟨ept2, pps2, hok, by omega⟩, ⟨.inr ⟨pq, ws, rfl, sK _ _ epq, hqs.same sK, by omega⟩, hpr⟩, ⟨.inr ⟨pd, us3, rfl, ed2, pds2, by omega⟩, dok⟩, ⟨m1, m2, m3⟩, ?_⟩
    intro l1 l2 l3 us2 us4 H' f1 f2 f3 sb er el1 el2 pl2 el3 pl3
    have sm := mk sb
    have thx : th ≠ x := fun y => by
      rw [y, ex] at eth2
      cases eth2
    refine ⟨rfl, q x ⟨z, wd :: tms, ps, qs, ds⟩ H' ⟨hz, hpat, hok, by show ps.length ≤ 300; omega, hpr, by show qs.length ≤ 300; omega, dok, by show ds.length ≤ 300; omega⟩ ⟨m1, m2, m3⟩ hfew (fun z => hw.2 (by injection z)) rfl ?_ ((puq.same sm).le (by omega)) ((sbE.trans sbq).then sm)⟩
    exact ⟨dx, th, l1, l2, l3, us, us2, us4, ⟨(sbE.trans sbq).free puq nx, (sbE.trans sbq).free puq (sK.free f1), (sbE.trans sbq).free puq (sK.free f2), (sbE.trans sbq).free puq (sK.free f3)⟩, er, sb _ _ thx eth2, ⟨el1, pps2.sbo ex sb⟩, ⟨el2, pl2⟩, el3, pl3⟩
end
end Nv
set_option maxHeartbeats 4000000
namespace Nv
open PySem PySem.Spec PyProof.Rows L2
/-- all that was tracked is as it was, but the objects at ls -/
def Sbs (ls : List Addr) (H H' : Hp) : Prop := ∀ b o, b ∉ ls → H b = some o → H' b = some o
theorem Sbs.seq {K : PySem.W.Frag} {ls : List Addr} {H H1 : Hp} {b : Addr} {xs : List V} (x : Sbs ls H H1) (n : b ∉ ls) (h : SqL K H b xs) : SqL K H1 b xs := by
  rcases h with (h | ⟨o, h⟩) | h
  · exact .inl (.inl (x _ _ n h))
  · exact .inl (.inr ⟨o, x _ _ n h⟩)
  · exact .inr h
end Nv
set_option maxHeartbeats 4000000
namespace Nv
open PySem PySem.Spec PyProof.Rows L2 PySem.SeqAt
open AutoSeq1 (wpAny_loadPart')
open MeetsSeq MeetsSeq2 MeetsSeq3 SeqRoads2
section
variable {prog : Program} {w : World} {A : Around} {R : Result → Shared → Prop}
theorem loopN (l b : Addr) (N : Nat) (ans : Nat → Bool) (J : Nat → Shared → Prop) (tn : Turns prog w A (fun e s' => R (.error e) s') l b N ans J) (yes : (∀ j, j < N → ans j = true) → ∀ s, J N s → R (.ok (.ret (.bool false))) s) (no : ∀ i s, i < N → ans i = false → J (i + 1) s → R (.ok (.ret (.bool true))) s) (k : Nat) :
    ∀ i : Nat, N - i = k → i ≤ N → (∀ j, j < i → ans j = true) → ∀ s, J i s → wpAny (model prog w) A.in1 (Builtin.«list.__eq__.loop» ⟨[.ref l, .ref b, rawInt i, rawInt 3], []⟩) (GQ.FinOf prog w A R) (fun e s' => R (.error e) s') s := by
  induction k with
  | zero =>
    intro i hk hi ht0 s h
    obtain ⟨xs, ys, n, m, g1, g2, z1, z2, _⟩ := tn _ _ h
    have e : i = N := by omega
    have done : R (.ok (.ret (.bool false))) s := yes (e ▸ ht0) s (e ▸ h)
    obtain ⟨hp, g, d, tk, os⟩ := s
    wp_walk using wpAny_loadPart' g1, wpAny_loadPart' g2
    have o1 : xs[((i : Nat) : Int).toNat]? = none := by simp; omega
    have o2 : ys[((i : Nat) : Int).toNat]? = none := by simp; omega
    rw [o1, o2]
    wp_walk using wpAny_loadPart' g1, wpAny_loadPart' g2
    show R (.ok (.ret (.bool (xs.size != ys.size)))) _
    rw [z1, z2]
    simpa using done
  | succ k ih =>
    intro i hk hi ht0 s h
    obtain ⟨xs, ys, n, m, g1, g2, z1, z2, turn⟩ := tn _ _ h
    have h1 : i < xs.size := by omega
    have h2 : i < ys.size := by omega
    have ht := turn h1 h2
    obtain ⟨hp, g, d, tk, os⟩ := s
    wp_walk using wpAny_loadPart' g1, wpAny_loadPart' g2
    have o1 : xs[((i : Nat) : Int).toNat]? = some xs[i] := by simp [h1]
    have o2 : ys[((i : Nat) : Int).toNat]? = some ys[i] := by simp [h2]
    have one : ((i : Int) + 1) = ((i + 1 : Nat) : Int) := by omega
    rw [o1, o2]
    refine wpAny_bind (wpAny_mono ht (fun r s2 q2 => ?_) fun _ _ x => x)
    obtain ⟨hr, q2⟩ := q2
    subst hr
    cases ha : ans i with
    | true =>
      have rec_ := ih (i + 1) (by omega) (by omega) (fun j hj => by
        rcases Nat.lt_or_ge j i with h | h
        · exact ht0 j h
        · have : j = i := by omega
          rw [this]
          exact ha) s2 q2
      obtain ⟨hp2, g', d2, tk2, os2⟩ := s2
      wp_walk
      rw [one]
      exact ⟨plainId_quiet plain_eq_loop _, codeAny_builtin entry_eq_loop (by
        rw [Around.under_plainId plain_eq_loop _]
        exact rec_)⟩
    | false =>
      have stop := no i s2 (by omega) ha q2
      obtain ⟨xs2, ys2, n2, m2, g3, g4, z3, z4, _⟩ := tn _ _ q2
      obtain ⟨hp2, g', d2, tk2, os2⟩ := s2
      have o3 : xs2[((i : Nat) : Int).toNat]? = some (xs2[i]'(by omega)) := by simp
      have o4 : ys2[((i : Nat) : Int).toNat]? = some (ys2[i]'(by omega)) := by simp
      wp_walk using wpAny_loadPart' g3, wpAny_loadPart' g4
      rw [o3, o4]
      wp_walk
      exact stop
theorem bodyN (l b : Addr) (N : Nat) (ans : Nat → Bool) (J : Nat → Shared → Prop) (tn : Turns prog w A (fun e s' => R (.error e) s') l b N ans J) (yes : (∀ j, j < N → ans j = true) → ∀ s, J N s → R (.ok (.ret (.bool false))) s) (no : ∀ i s, i < N → ans i = false → J (i + 1) s → R (.ok (.ret (.bool true))) s) {s : Shared} (h : J 0 s) :
    wpAny (model prog w) A.in1 (Builtin.«list.__ne__» ⟨[.ref l, .ref b], []⟩) (GQ.FinOf prog w A R) (fun e s' => R (.error e) s') s := by
  obtain ⟨xs, ys, n, m, g1, g2, z1, z2, _⟩ := tn _ _ h
  have rec_ := loopN (A := A) (R := R) l b N ans J tn yes no _ 0 rfl (Nat.zero_le _) (fun j hj => absurd hj (Nat.not_lt_zero _)) s h
  obtain ⟨hp, g, d, tk, os⟩ := s
  have sub := AutoSeq1.sub_list_list
  have same : ¬ (xs.size != ys.size) = true := by simp [z1, z2]
  wp_walk using wpAny_loadPart' g1, wpAny_loadPart' g2
  exact ⟨plainId_quiet plain_eq_loop _, codeAny_builtin entry_eq_loop (by
    rw [Around.under_plainId plain_eq_loop _]
    exact rec_)⟩
theorem bodyM (l b : Addr) {xs ys : Array Value} {n m : Nat} {s : Shared} (g1 : s.heap.get? l = some { cls := .type "list", data := .seq xs n }) (g2 : s.heap.get? b = some { cls := .type "list", data := .seq ys m }) (ne : xs.size ≠ ys.size) (q : R (.ok (.ret (.bool true))) s) :
    wpAny (model prog w) A.in1 (Builtin.«list.__ne__» ⟨[.ref l, .ref b], []⟩) (GQ.FinOf prog w A R) (fun e s' => R (.error e) s') s := by
  obtain ⟨hp, g, d, tk, os⟩ := s
  have sub := AutoSeq1.sub_list_list
  have unlike : (xs.size != ys.size) = true := by simp [ne]
  wp_walk using wpAny_loadPart' g1, wpAny_loadPart' g2
  exact q
end
section
variable {prog : Program} {w : World} {A : Around} {E : Value → Shared → Prop} {s : Shared}
theorem rcN {l b : Addr} {N : Nat} {ans : Nat → Bool} {Q : Value → Shared → Prop} (hu : A.units < cLine) (J : Nat → Shared → Prop) (tn : Turns prog w A E l b N ans J) (yes : (∀ j, j < N → ans j = true) → ∀ s, J N s → Q (.bool false) s) (no : ∀ i s, i < N → ans i = false → J (i + 1) s → Q (.bool true) s) (h : J 0 s) :
    wpAny (model prog w) A (richCompare .NotEq (.ref l) (.ref b)) Q E s := by
  obtain ⟨xs, ys, n, m, g1, g2, _⟩ := tn _ _ h
  refine wpAny_richCompare_same_room (op := .NotEq) ⟨_, g1, rfl⟩ ⟨_, g2, rfl⟩ F.slot_list_ne (GQ.call_here F.slot_list_ne ⟨_, g1, rfl⟩ F.entry_list_ne (F.args_list_ne_2 _ _) ?_) hu
  exact bodyN (R := wants (fun v s' => v ≠ .notImplemented ∧ Q v s') E) l b N ans J tn (fun ht s' q => ⟨(fun x => nomatch x), yes ht s' q⟩) (fun i s' hi ha q => ⟨(fun x => nomatch x), no i s' hi ha q⟩) h
theorem rcM {l b : Addr} {xs ys : Array Value} {n m : Nat} {Q : Value → Shared → Prop} (hu : A.units < cLine) (g1 : s.heap.get? l = some { cls := .type "list", data := .seq xs n }) (g2 : s.heap.get? b = some { cls := .type "list", data := .seq ys m }) (ne : xs.size ≠ ys.size) (q : Q (.bool true) s) :
    wpAny (model prog w) A (richCompare .NotEq (.ref l) (.ref b)) Q E s := by
  refine wpAny_richCompare_same_room (op := .NotEq) ⟨_, g1, rfl⟩ ⟨_, g2, rfl⟩ F.slot_list_ne (GQ.call_here F.slot_list_ne ⟨_, g1, rfl⟩ F.entry_list_ne (F.args_list_ne_2 _ _) ?_) hu
  exact bodyM (R := wants (fun v s' => v ≠ .notImplemented ∧ Q v s') E) l b g1 g2 ne ⟨(fun x => nomatch x), q⟩
end
def RcN (X : Cx) (n : Nat) (D : EqD) : Prop :=
  ∀ (A : Around) (pins : List (Addr × Obj)) (s : Shared) (σ : L2.St) (H : Hp) (x y : V) (u v : Value) (b : Bool), Sub X n A → Inv X pins σ H s → RelV x u → RelV y v → D x y H b →
    wpAny (model X.prog X.w) A (richCompare .NotEq u v) (fun r s' => r = .bool (!b) ∧ ∃ H', Inv X pins σ H' s' ∧ Same H H') X.xe s
section
variable {X : Cx} {n : Nat} {D : EqD}
theorem rcN_list (hD : MonD D) (h : EqB X n D) : RcN X (n + 1) (DLst D) := by
  intro A pins s σ H x y u v b sb I rx ry d
  obtain ⟨a, c, xs, ys, rfl, rfl, ha, hc, d⟩ := d
  cases rx
  cases ry
  rcases d with ⟨ne, rfl⟩ | ⟨bs, l1, l2, k, rfl⟩
  · obtain ⟨z, its, k1, r, e⟩ := I.hok a _ ha
    obtain ⟨z2, its2, k2, r2, e2⟩ := I.hok c _ hc
    refine rcM sb.room.units0 e e2 ?_ ⟨rfl, H, I, Same.refl H⟩
    rw [List.size_toArray, List.size_toArray, ← r.length, ← r2.length]
    exact ne
  · have at_ : ∀ i, i < xs.length → ∃ t, bs[i]? = some t ∧ bs.getD i true = t := fun i hi => by
      refine ⟨bs[i]'(by omega), List.getElem?_eq_getElem (by omega), ?_⟩
      rw [List.getD_eq_getElem?_getD, List.getElem?_eq_getElem (by omega)] <;> rfl
    refine rcN (N := xs.length) (ans := fun i => bs.getD i true) sb.room.units0 (fun i s' => ∃ H', Inv X pins σ H' s' ∧ Same H H') ?_ ?_ ?_ ⟨H, I, Same.refl H⟩
    · rintro i s' ⟨H1, I1, s1⟩
      obtain ⟨z, its, k1, r, e⟩ := I1.hok a _ (s1 _ _ ha)
      obtain ⟨z2, its2, k2, r2, e2⟩ := I1.hok c _ (s1 _ _ hc)
      refine ⟨its.toArray, its2.toArray, k1, k2, e, e2, by rw [List.size_toArray, ← r.length], by rw [List.size_toArray, ← r2.length, ← l1], fun h1 h2 => ?_⟩
      have m1 : i < xs.length := by rw [r.length]; simpa using h1
      have m2 : i < ys.length := by omega
      obtain ⟨u, hu, ru⟩ := r.get (List.getElem?_eq_getElem m1)
      obtain ⟨v, hv, rv⟩ := r2.get (List.getElem?_eq_getElem m2)
      have g1 : its[i]? = some its.toArray[i] := by
        rw [List.getElem?_eq_getElem (by simpa using h1)] <;> simp
      have g2 : its2[i]? = some its2.toArray[i] := by
        rw [List.getElem?_eq_getElem (by simpa using h2)] <;> simp
      rw [g1] at hu
      rw [g2] at hv
      rw [Option.some.inj hu, Option.some.inj hv]
      obtain ⟨t, ht, et⟩ := at_ i m1
      have dd := hD _ _ _ _ _ s1 (k i _ _ t (List.getElem?_eq_getElem m1) (List.getElem?_eq_getElem m2) ht)
      refine wpAny_mono (h A.in1 pins s' σ H1 _ _ u v t sb.in1 I1 ru rv dd) (fun q s2 w => ?_) fun _ _ w => w
      obtain ⟨e3, H2, I2, s2'⟩ := w
      exact ⟨e3.trans et.symm, H2, I2, s1.trans s2'⟩
    · rintro ht s' ⟨H1, I1, s1⟩
      refine ⟨?_, H1, I1, s1⟩
      refine (fun e : bs.all id = true => by rw [e] <;> rfl) ?_
      rw [List.all_eq_true]
      intro t htm
      obtain ⟨i, hi⟩ := List.mem_iff_getElem?.mp htm
      have hil : i < xs.length := by
        rw [← l2]
        exact (List.getElem?_eq_some_iff.mp hi).1
      obtain ⟨t', h1, h2⟩ := at_ i hil
      rw [hi] at h1
      have := ht i hil
      rw [h2] at this
      rw [Option.some.inj h1, this] <;> rfl
    · rintro i s' hi ha2 ⟨H1, I1, s1⟩
      refine ⟨?_, H1, I1, s1⟩
      refine (fun e : bs.all id = false => by rw [e] <;> rfl) ?_
      obtain ⟨t, h1, h2⟩ := at_ i hi
      have ha3 : bs.getD i true = false := ha2
      rw [h2] at ha3
      cases g : bs.all id with
      | false => rfl
      | true =>
        have := List.all_eq_true.mp g t (List.mem_of_getElem? h1)
        rw [ha3] at this
        cases this
/-- x != y of two such -/
def rNeB (D : EqD) : R2 := fun x y H Q => ∃ b, D x y H b ∧ ∀ H', Same H H' → Q (.bl (!b)) H'
theorem op_neB (h : RcN X n D) (hr : Room n X.A) : OpR X (compareOp .NotEq) (rNeB D) := by
  intro pins s σ H x y v u Q I rx ry hq
  obtain ⟨b, d, q⟩ := hq
  show wpAny (model X.prog X.w) X.A (richCompare .NotEq v u) (EP X pins σ Q) X.xe s
  refine wpAny_mono (h X.A pins s σ H x y v u b ⟨hr, rfl⟩ I rx ry d) (fun r s' z => ?_) fun _ _ x => x
  obtain ⟨e1, H', I', e⟩ := z
  subst e1
  exact ⟨.bl (!b), H', I', rfl, q H' e⟩
end
end Nv
set_option maxHeartbeats 4000000
namespace Nv
open PySem PySem.Spec PyProof.Rows L2
/-- flat values -/
def DFl : EqD := fun x y _ b => flatV x = true ∧ flatV y = true ∧ eqV x y = b
theorem mon_fl : MonD DFl := fun _ _ _ _ _ _ d => d
section
variable {X : Cx} {n m : Nat} {D D' : EqD}
theorem eqB_fl : EqB X 0 DFl := by
  intro A pins s σ H x y u v b sb I rx ry d
  obtain ⟨fx, fy, rfl⟩ := d
  exact eqAt_V (A := A) (s := s) rx ry fx fy X.prog X.w X.xe _ ⟨rfl, H, I, Same.refl H⟩
theorem EqB.mono (h : EqB X n D) (hn : n ≤ m) : EqB X m D := fun A pins s σ H x y u v b sb => h A pins s σ H x y u v b (sb.mono hn)
theorem EqB.or (h : EqB X n D) (h' : EqB X n D') : EqB X n (fun x y H b => D x y H b ∨ D' x y H b) := fun A pins s σ H x y u v b sb I rx ry d =>
  d.elim (fun d => h A pins s σ H x y u v b sb I rx ry d) fun d => h' A pins s σ H x y u v b sb I rx ry d
theorem MonD.or (h : MonD D) (h' : MonD D') : MonD (fun x y H b => D x y H b ∨ D' x y H b) := fun x y H H' b s d => d.elim (fun d => .inl (h x y H H' b s d)) fun d => .inr (h' x y H H' b s d)
/-- two lists that are not one -/
def DLs2 (D : EqD) : EqD := fun x y H b => DLst D x y H b ∧ x ≠ y
theorem mon_ls2 (hD : MonD D) : MonD (DLs2 D) := fun x y H H' b s d => ⟨mon_lst hD x y H H' b s d.1, d.2⟩
theorem eqB_ls2 (hD : MonD D) (h : EqB X n D) : EqB X (n + 1) (DLs2 D) := by
  have k : RcB X (n + 1) (DLs2 D) := fun A pins s σ H x y u v b sb I rx ry d => rcB_list hD h A pins s σ H x y u v b sb I rx ry d.1
  refine k.eqB fun x y H b d => ?_
  obtain ⟨⟨a, c, xs, ys, rfl, rfl, _⟩, ne⟩ := d
  exact ⟨a, c, rfl, rfl, fun e => absurd (by rw [e]) ne⟩
/-- two lists of texts -/
theorem dlst_strs {H : Hp} {a c : Addr} {xs ys : List Str} (ea : H a = some (.lst (xs.map V.str))) (ec : H c = some (.lst (ys.map V.str))) : DLst DFl (.ref a) (.ref c) H (decide (xs = ys)) := by
  refine ⟨a, c, _, _, rfl, rfl, ea, ec, ?_⟩
  by_cases hl : xs.length = ys.length
  · refine .inr ⟨(List.range xs.length).map fun i => decide (xs[i]? = ys[i]?), by rw [List.length_map, List.length_map]; omega, by rw [List.length_map, List.length_map, List.length_range], fun i u v t hu hv ht => ?_, ?_⟩
    · obtain ⟨x, hx, rfl⟩ := at_map hu
      obtain ⟨y, hy, rfl⟩ := at_map hv
      have hil : i < xs.length := (List.getElem?_eq_some_iff.mp hx).1
      rw [List.getElem?_map, List.getElem?_range hil] at ht
      have hd : decide (xs[i]? = ys[i]?) = t := Option.some.inj ht
      refine ⟨rfl, rfl, ?_⟩
      show (x == y) = t
      rw [← hd, hx, hy]
      by_cases e : x = y
      · subst e
        simp
      · have e2 : (x == y) = false := beq_eq_false_iff_ne.mpr e
        rw [e2, decide_eq_false fun z => e (Option.some.inj z)]
    · rw [List.all_map]
      by_cases e : xs = ys
      · subst e
        rw [decide_eq_true rfl]
        symm
        rw [List.all_eq_true]
        intro i _
        exact decide_eq_true rfl
      · rw [decide_eq_false e]
        cases g : (List.range xs.length).all (id ∘ fun i => decide (xs[i]? = ys[i]?)) with
        | false => rfl
        | true =>
          refine absurd (List.ext_getElem? fun i => ?_) e
          rcases Nat.lt_or_ge i xs.length with h | h
          · exact of_decide_eq_true (List.all_eq_true.mp g i (List.mem_range.mpr h))
          · rw [List.getElem?_eq_none h, List.getElem?_eq_none (by omega)]
  · exact .inl ⟨by rw [List.length_map, List.length_map]; exact hl, decide_eq_false fun e => hl (by rw [e])⟩
end
end Nv
set_option maxHeartbeats 4000000
namespace Nv
open PySem PySem.Spec PyProof.Rows L2
/-! ### defs that ask for repr: run where no repr is under way -/
abbrev RunG (P : Program) (w : World) (K : PySem.W.Frag) (mg : Str → Option Value) (base : Heap) (k : Nat) (f : Addr) (fd : FuncData) (ps : List Str) (sp : Sp) : Prop :=
  ∀ (A : Around) (outer : List Env) (s : Shared) (H : Hp) (args : Args) (us : List Value) (vs : List V) (Q : VK), A.guards = some [] → Room k A → Env0 P w K mg base A outer s H →
    BindsTo s fd args (ps.zip us) → Vals vs us → sp vs H Q E0 → codeAny (model P w) A (.call (.ref f) args) (CR CX0 outer P w H s Q E0) s
section
variable {P : Program} {w : World} {K : PySem.W.Frag} {mg : Str → Option Value} {base : Heap}
theorem run_ofG {k : Nat} {f : Addr} {qual : Str} {st : Stmt} {fd : FuncData} {N ps : List Str} {sp : Sp} (F : Fun K qual qual st f fd) (S : FnScope N ps (defScope st)) (len : ∀ vs H Q E, sp vs H Q E → vs.length = ps.length)
    (body : ∀ (cdv : Value) (A : Around) (outer : List Env) (s : Shared) (H : Hp) (vs : List V) (Q : VK), A.guards = some [] → Room k (A.deeper (envOfC qual (defScope st) s.heap.objs.size f cdv)) → sp vs H Q E0 →
      ∃ t, PSs (cxOf CX0 P w K mg base N qual (defScope st) f cdv A outer s H E0).nox (defBody st) t ∧ t { nx := fun _ H' => Q .non H', rt := Q } (start N vs) H) : RunG P w K mg base (k + 1) f fd ps sp := by
  obtain ⟨oc, od, kV, doc, pm, an, cdv, ct, osl, rfl, lk, hcd⟩ := F.ex
  intro A outer s H args us vs Q hg hr e0 hb r hsp
  have hl := len _ _ _ _ hsp
  have KX : K.In s.heap := e0.mod.kin.keeps fun b o e => (e0.bs b o e).1
  have lim : s.heap.NoLimit := e0.mod.nolimit.keeps fun b o e => (e0.bs b o e).1
  refine codeAny_call_function hr.depth (KX _ _ lk) rfl S.co S.gen rfl (PySem.W.codeRec_of KX hcd) (hb _ _ _ _ ?_)
  refine wpAny_newFunctionEnv_cells S.kind (fun ⟨n, v⟩ hy => ?_) fun env he s1 x => ?_
  · rcases S.par n (List.of_mem_zip hy).1 with z | z
    · exact .inl z
    · exact .inr ⟨z, PySem.W.cellsFrom_some _ _ _ (.inl z)⟩
  · subst he
    refine ⟨lim.keeps x.toInCall.keep, codeAny_func ?_⟩
    obtain ⟨t, ht, hq⟩ := body cdv A outer s H vs Q hg (hr.deeper _) hsp
    have I := inv_start (CX := CX0) (E := E0) S hr.hd e0 hl r x
    refine wpAny_mono (ht.nox.run [] s1 (start N vs) H _ I hq) (fun fl s' hs => ?_) fun e s' hs => hs
    cases fl with
    | ret u =>
      obtain ⟨v, σ', H', J, rv, q⟩ := hs
      exact ⟨v, H', J.os, J.bare, J.base, J.hok, rv, q⟩
    | next =>
      obtain ⟨σ', H', J, q⟩ := hs
      exact ⟨V.non, H', J.os, J.bare, J.base, J.hok, rfl, q⟩
    | brk =>
      obtain ⟨_, _, _, q⟩ := hs
      exact False.elim q
    | cont =>
      obtain ⟨_, _, _, q⟩ := hs
      exact False.elim q
end
section
variable {X : Cx} {k : Nat} {f : Addr} {fd : FuncData} {ps : List Str} {sp : Sp} {x : Str} {p pos : Pos} {e : Expr} {es : List Expr} {t : TA}
/-- f(e, ..) of such a def -/
theorem pe_callG (F : RunG X.prog X.w X.K X.mg X.base k f fd ps sp) (len : ∀ vs H Q E, sp vs H Q E → vs.length = ps.length) (hgd : X.A.guards = some []) (hr : Room k X.A) (hg : Gl X x) (hm : X.mg x = some (.ref f)) (hk : PySem.W.keepIn X.K (.ref f) = true) (hb : Binds X.K fd ps [])
    (ha : PA X (e :: es) t) (hdb : (x == ("__debug__" : Str)) = false := by decide) (he : starEach (e :: es) X.env = (false, eval e X.env) :: starEach es X.env := by rfl) (hpl : (backTo pos (starEach es X.env)).any (·.1) = false := by rfl) :
    PE X (.Call (.Name x p) (e :: es) [] pos) (tCall sp [] E0 t) := by
  refine ⟨fun pins s σ H Q I h => wpAny_Call_Name_kw (ld_glob I hg hm (PySem.W.callWith_K (h₀ := X.base) I.ok.mod.kin hk (thn (ha.run pos pins s σ H _ I h) fun us s1 ⟨vs, H1, I1, r, q⟩ => ⟨I1.kIn, ?_⟩) he hpl) hdb)⟩
  have q : sp vs H1 Q E0 := by simpa using q
  have hl : us.length = ps.length := by rw [← len _ _ _ _ q, r.length]
  refine wpAny_call (codeAny_mono (F X.A X.stack s1 H1 ⟨us, []⟩ us vs Q hgd hr I1.env0 (by simpa using hb s1 us I1.kIn (by simpa using hl)) r q) fun z s2 hq => ?_)
  rcases z with er | fl
  · exact hq.elim
  cases fl with
  | ret u => exact I1.after hq
  | _ => exact hq.elim
end
end Nv
set_option maxHeartbeats 4000000
namespace Nv
open PySem PySem.Spec PyProof.Rows L2
section
variable {P : Program} {w : World} {K : PySem.W.Frag} {H : Hp}
theorem rddAll_strs : ∀ xs : List Str, RddAll P w K H (xs.map V.str) (xs.map PyData.str)
  | [] => rddAll_nil
  | x :: xs => rddAll_cons (rdd_str x) (rddAll_strs xs)
theorem rdd_T {t : Addr} {p : List Str} (e : H t = some (.tup (p.map V.str))) : Rdd P w K H (.ref t) (dT p) := rdd_tup e (rddAll_strs p)
theorem rdd_S {t : Addr} {p : List Str} (e : H t = some (.lst (p.map V.str))) : Rdd P w K H (.ref t) (dS p) := rdd_lst e (rddAll_strs p)
theorem PaL.rdd {vs : List V} {ps : List (List Str)} (h : PaL H vs ps) : RddAll P w K H vs (ps.map dT) := by
  induction h with
  | nil => exact rddAll_nil
  | cons e _ ih => exact rddAll_cons (rdd_T e) ih
theorem rdd_L {t : Addr} {vs : List V} {ps : List (List Str)} (e : H t = some (.lst vs)) (h : PaL H vs ps) : Rdd P w K H (.ref t) (dL ps) := rdd_lst e h.rdd
end
end Nv
set_option maxHeartbeats 4000000
namespace Nv
open PySem PySem.Spec PyProof.Rows L2
/-! ### how long what repr shows may be -/
def Shw (k n : Nat) (d : PyData) : Prop := d.showable = true ∧ d.shown.length ≤ n ∧ d.depth ≤ k
theorem textFrom_le : ∀ (ts : List Str) (k : Nat) (acc : Str), (textFrom k acc ts).length ≤ acc.length + piled ts
  | [], _, acc => Nat.le_add_right _ _
  | t :: r, k, acc => by
    have ih := textFrom_le r (k + 1) (acc ++ (if k > 0 then ", " else "" : String) ++ t)
    have e : (acc ++ (if k > 0 then ", " else "" : String) ++ t).length = acc.length + (if k > 0 then 2 else 0) + t.length := by
      rw [strLen_append, strLen_append]
      split <;> rfl
    rw [e] at ih
    rw [piled_cons]
    show (textFrom (k + 1) _ r).length ≤ _
    have le2 : (if k > 0 then 2 else 0 : Nat) ≤ 2 := by split <;> omega
    omega
theorem listText_le (ts : List Str) : (listText ts).length ≤ 2 + piled ts := by
  have h := textFrom_le ts 0 "["
  have e1 : (("[" : String) : Str).length = 1 := rfl
  have e2 : (("]" : String) : Str).length = 1 := rfl
  unfold listText
  rw [strLen_append, e2]
  rw [e1] at h
  omega
theorem tupleText_le (ts : List Str) : (tupleText ts).length ≤ 3 + piled ts := by
  unfold tupleText
  rw [strLen_append, strLen_append]
  have e1 : ((("(" : String) : Str)).length = 1 := rfl
  have e3 : (((if ts.length == 1 then ",)" else ")" : String) : Str)).length ≤ 2 := by split <;> decide
  rw [e1]
  cases ts with
  | nil =>
    have e4 : (Str.join ", " []).length = 0 := by decide
    rw [e4]
    omega
  | cons t r =>
    have e4 := join_length_add (t :: r) (by simp)
    omega
theorem Shw.le {k n k' n' : Nat} {d : PyData} (h : Shw k n d) (hk : k ≤ k') (hn : n ≤ n') : Shw k' n' d := ⟨h.1, Nat.le_trans h.2.1 hn, Nat.le_trans h.2.2 hk⟩
theorem shw_all {k m : Nat} : ∀ {ds : List PyData}, (∀ d ∈ ds, Shw k m d) → PyData.showableAll ds = true ∧ piled (PyData.shownAll ds) ≤ ds.length * (m + 2) ∧ PyData.depthAll ds ≤ k
  | [], _ => ⟨by simp [PyData.showableAll], by simp [PyData.shownAll, piled_nil], by simp [PyData.depthAll]⟩
  | d :: ds, h => by
    obtain ⟨a, b, c⟩ := h d List.mem_cons_self
    obtain ⟨h1, h2, h3⟩ := shw_all (ds := ds) fun x hx => h x (List.mem_cons_of_mem _ hx)
    refine ⟨by simp [PyData.showableAll, a, h1], ?_, ?_⟩
    · simp only [PyData.shownAll, piled_cons, List.length_cons, Nat.add_mul, Nat.one_mul]
      omega
    · simp only [PyData.depthAll]
      omega
theorem shw_list {k m n : Nat} {ds : List PyData} (h : ∀ d ∈ ds, Shw k m d) (hn : 2 + ds.length * (m + 2) ≤ n) : Shw (k + 1) n (.list ds) := by
  obtain ⟨h1, h2, h3⟩ := shw_all h
  refine ⟨by simpa [PyData.showable] using h1, ?_, ?_⟩
  · simp only [PyData.shown]
    exact Nat.le_trans (listText_le _) (by omega)
  · simp only [PyData.depth]
    omega
theorem shw_tup {k m n : Nat} {ds : List PyData} (h : ∀ d ∈ ds, Shw k m d) (hn : 3 + ds.length * (m + 2) ≤ n) : Shw (k + 1) n (.tuple ds) := by
  obtain ⟨h1, h2, h3⟩ := shw_all h
  refine ⟨by simpa [PyData.showable] using h1, ?_, ?_⟩
  · simp only [PyData.shown]
    exact Nat.le_trans (tupleText_le _) (by omega)
  · simp only [PyData.depth]
    omega
theorem shw_str {z : Str} (h : Asc z) (l : z.length ≤ 10) : Shw 0 102 (.str z) := by
  refine ⟨by simp [PyData.showable], ?_, by simp [PyData.depth]⟩
  simp only [PyData.shown]
  have := StrLaws.reprText_len z fun c hc => Nat.lt_trans (h c hc) (by decide)
  omega
/-- a text of at most ten signs -/
def Sht (z : Str) : Prop := Asc z ∧ z.length ≤ 10
theorem IsNm.sht {z : Str} (h : IsNm z) : Sht z := ⟨h.asc, h.2.1⟩
theorem IsVr.sht {z : Str} (h : IsVr z) : Sht z := ⟨h.asc, Nat.le_trans h.2.1 (by decide)⟩
theorem PatOk.sht {p : List Str} (h : PatOk p) : p.length ≤ 4 ∧ ∀ x ∈ p, Sht x := by
  obtain ⟨w, ts, rfl, hw, h3, ht⟩ := h
  refine ⟨by rw [List.length_cons]; omega, fun x hx => ?_⟩
  rcases List.mem_cons.mp hx with rfl | hx
  · exact hw.sht
  · exact (ht x hx).elim IsVr.sht IsNm.sht
theorem PairOk.sht {p : List Str} (h : PairOk p) : p.length ≤ 4 ∧ ∀ x ∈ p, Sht x := by
  obtain ⟨x, y, rfl, _, h1, h2, _⟩ := h
  refine ⟨by show 2 ≤ 4; decide, fun z hz => ?_⟩
  simp only [List.mem_cons, List.not_mem_nil, or_false] at hz
  rcases hz with rfl | rfl
  · exact h1.elim IsNm.sht IsVr.sht
  · exact h2.elim IsNm.sht IsVr.sht
theorem shw_strs {p : List Str} (h : ∀ x ∈ p, Sht x) : ∀ d ∈ p.map PyData.str, Shw 0 102 d := fun d hd => by
  obtain ⟨x, hx, rfl⟩ := List.mem_map.mp hd
  exact shw_str (h x hx).1 (h x hx).2
theorem shw_T {p : List Str} (l : p.length ≤ 4) (h : ∀ x ∈ p, Sht x) : Shw 1 419 (dT p) := shw_tup (shw_strs h) (by rw [List.length_map]; omega)
theorem shw_S {p : List Str} (l : p.length ≤ 300) (h : ∀ x ∈ p, Sht x) : Shw 1 31202 (dS p) := shw_list (shw_strs h) (by rw [List.length_map]; omega)
theorem shw_L {ps : List (List Str)} (l : ps.length ≤ 300) (h : ∀ p ∈ ps, p.length ≤ 4 ∧ ∀ x ∈ p, Sht x) : Shw 2 126302 (dL ps) := by
  refine shw_list (k := 1) (m := 419) (fun d hd => ?_) (by rw [List.length_map]; omega)
  obtain ⟨p, hp, rfl⟩ := List.mem_map.mp hd
  exact shw_T (h p hp).1 (h p hp).2
/-- what a rule is made of, as data -/
def dR (x : Rl) : PyData := .list [.str x.l, dT x.h, dL x.ps, dL x.qs, dL x.ds]
theorem shw_R {x : Rl} (h : x.Ok) : Shw 3 700000 (dR x) := by
  refine shw_list (k := 2) (m := 126302) (fun d hd => ?_) (by show 2 + 5 * 126304 ≤ 700000; decide)
  simp only [List.mem_cons, List.not_mem_nil, or_false] at hd
  rcases hd with rfl | rfl | rfl | rfl | rfl
  · exact (shw_str h.l.asc h.l.2.1).le (by decide) (by decide)
  · exact (shw_T h.h.sht.1 h.h.sht.2).le (by decide) (by decide)
  · exact shw_L h.pl fun p hp => (h.ps p hp).sht
  · exact shw_L h.ql fun p hp => (h.qs p hp).sht
  · exact shw_L h.dl fun p hp => (h.ds p hp).sht
/-- what a question is made of, as data -/
def dQ (x : Ql) : PyData := .list [dS x.cs, dL x.ps, dL x.qs]
theorem Shw.fits {k n : Nat} {d : PyData} (h : Shw k n d) (hk : k ≤ 60) (hn : n ≤ 1000000) : d.showable = true ∧ d.shown.length ≤ sizeLine ∧ d.depth ≤ 60 :=
  ⟨h.1, Nat.le_trans h.2.1 (Nat.le_trans hn (by decide)), Nat.le_trans h.2.2 hk⟩
section
variable {X : Cx}
/-- repr(flag) -/
def rReprB : List V → Hp → VK → Prop := fun xs H Q => ∃ b : Bool, xs = [.bl b] ∧ Q (.str (if b = true then Str.ofString "True" else Str.ofString "False")) H
theorem call_reprB : CallR X (.builtin "repr") rReprB := by
  intro pins s σ H xs us Q I r h
  obtain ⟨b, rfl, q⟩ := h
  obtain ⟨u, rfl, ru⟩ := vals1 r
  obtain rfl : u = Value.bool b := ru
  exact P.repr_of_bool ⟨.str _, H, I.tok _, ⟨_, rfl⟩, q⟩
end
end Nv
set_option maxHeartbeats 4000000
namespace Nv
open PySem PySem.Spec PyProof.Rows L2
/-! # _law_keeps: a value is told alike to itself, a list also when it has grown -/
section
variable {P : Program} {w : World} {K : PySem.W.Frag} {mg : Str → Option Value} {base : Heap}
/-- what repr tells of a value -/
inductive ShV (P : Program) (w : World) (K : PySem.W.Frag) (H : Hp) : V → Str → Prop
  | non : ShV P w K H .non "None"
  | bl (b : Bool) : ShV P w K H (.bl b) (if b = true then Str.ofString "True" else Str.ofString "False")
  | int (i : Int) : i.natAbs.log2 < 1920 → ShV P w K H (.int i) (toString i)
  | str (z : Str) : (reprText z).length ≤ sizeLine → ShV P w K H (.str z) (reprText z)
  | ref {a : Addr} {d : PyData} : Rdd P w K H (.ref a) d → d.showable = true → d.shown.length ≤ sizeLine → d.depth ≤ 60 → ShV P w K H (.ref a) d.shown
def rReprV (P : Program) (w : World) (K : PySem.W.Frag) : List V → Hp → VK → Prop := fun xs H Q => ∃ (v : V) (t : Str), xs = [v] ∧ ShV P w K H v t ∧ Q (.str t) H
theorem call_reprV {X : Cx} (hg : X.A.guards = some []) (hs : ∃ o, X.base.get? sysModules = some o) (hu : X.A.units + 64 < cLine) : CallR X (.builtin "repr") (rReprV X.prog X.w X.K) := by
  intro pins s σ H xs us Q I r h
  obtain ⟨v, t, rfl, sh, q⟩ := h
  cases sh with
  | non =>
    obtain ⟨u, rfl, ru⟩ := vals1 r
    obtain rfl : u = Value.none := ru
    exact PySem.P.repr_of_none ⟨.str _, H, I.tok _, ⟨_, rfl⟩, q⟩
  | bl b =>
    obtain ⟨u, rfl, ru⟩ := vals1 r
    obtain rfl : u = Value.bool b := ru
    exact PySem.P.repr_of_bool ⟨.str _, H, I.tok _, ⟨_, rfl⟩, q⟩
  | int i hz =>
    obtain ⟨u, rfl, t, rfl⟩ := vals1 r
    exact PySem.P.repr_of_int hz ⟨.str _, H, I.tok _, ⟨_, rfl⟩, q⟩
  | str z hz =>
    obtain ⟨u, rfl, t, rfl⟩ := vals1 r
    exact PySem.P.repr_of_str ⟨.str _, H, I.tok _, ⟨_, rfl⟩, q⟩ hz
  | ref rd sh sz dp => exact call_repr hg hs hu pins s σ H _ us Q I r ⟨_, _, rfl, rd, sh, sz, dp, q⟩
def spKeeps (P : Program) (w : World) (K : PySem.W.Frag) : Sp := fun vs H Q _ => ∃ (v : V) (t : Str), vs = [v, v] ∧ ShV P w K H v t ∧
  (((∃ ty : Value, TyX K H v ty ∧ PySem.W.kitOne K ty (.type "list") = some false) ∧ Q (.bl true) H) ∨
  (∃ (a : Addr) (xs : List V) (t2 : Str), v = .ref a ∧ H a = some (.lst xs) ∧ xs.length ≤ 1000 ∧ ShV P w K (upd H a (.lst (xs ++ [.str "later"]))) v t2 ∧ ∀ G, Same H G → Q (.bl true) G))
theorem scKeeps : FnScope ["_law_found", "_law_value", "_law_right"] ["_law_found", "_law_value"] (defScope sKeeps) := ⟨rfl, rfl, rfl, by decide +kernel, rfl, by decide +kernel, by decide +kernel⟩
theorem ok_keeps {f : Addr} {fd : FuncData} (F : Fun K "_law_keeps" "_law_keeps" sKeeps f fd) (B : Bp mg) (rp : mg "repr" = none) (sy : ∃ o, base.get? sysModules = some o) :
    RunG P w K mg base 1 f fd ["_law_found", "_law_value"] (spKeeps P w K) := by
  refine run_ofG (k := 0) F scKeeps (fun vs H Q E h => ?_) (fun cdv A outer s H vs Q hg hr h => ?_)
  · obtain ⟨v, t, rfl, _⟩ := h
    rfl
  · obtain ⟨v, t, rfl, sh, h⟩ := h
    refine ⟨_, pss_cons (ps_if (pt_cmpR op_ne (by exact (pe_callB (call_reprV hg sy hr.units) (by rfl) rp (by decide +kernel) (pa_cons (pv 0) pa_nil))) (by exact (pe_callB (call_reprV hg sy hr.units) (by rfl) rp (by decide +kernel) (pa_cons (pv 1) pa_nil))) (nomark _)) (pss_one (ps_ret pe_bl)) pss_nil)
      (pss_cons (ps_if (pt_not (pt_val (pe_callB call_isi (by rfl) B.isi bootIsi (pa_cons (pv 1) (pa_cons (pe_bltn (v := V.ty "list") (by rfl) B.lst PyProof.Rows.boot_list rfl) pa_nil))))) (pss_one (ps_ret pe_bl)) pss_nil)
      (pss_cons (ps_expr (pe_bm PySem.F.plainAttrs_list PySem.F.slot_list_append PySem.F.type_list_append mt_append (pv 1) (pa_cons pe_str pa_nil)))
      (pss_cons (ps_set (i := 2) scKeeps.nd rfl (Or.inl rfl) (pe_cmpR op_eq (by exact (pe_callB (call_reprV hg sy hr.units) (by rfl) rp (by decide +kernel) (pa_cons (pv 0) pa_nil))) (by exact (pe_callB (call_reprV hg sy hr.units) (by rfl) rp (by decide +kernel) (pa_cons (pv 1) pa_nil))) (nomark _)))
      (pss_cons (ps_expr (pe_bm0 PySem.F.plainAttrs_list PySem.F.slot_list_pop PySem.F.type_list_pop mt_pop (pv 1)))
      (pss_one (ps_ret (pv 2))))))), ?_⟩
    refine ⟨_, rfl, _, _, rfl, sh, ⟨_, rfl, _, _, rfl, sh, rfl, _, rfl, ?_⟩⟩
    rw [decide_eq_true rfl]
    refine iteF ?_
    rcases h with ⟨⟨ty, ht, hk⟩, q⟩ | ⟨a, xs, t2, rfl, ea, hl, sh2, q⟩
    · exact ⟨_, rfl, _, _, _, _, false, rfl, .ty _, ht, hk, false, rfl, iteT q⟩
    refine ⟨_, rfl, _, _, _, _, true, rfl, .ty _, tyx_lst ea, kit_ty (by decide +kernel), true, rfl, iteF ?_⟩
    refine ⟨_, rfl, .inl ⟨rfl, _, SqL.of ea⟩, a, xs, _, rfl, rfl, ea, Nat.lt_of_le_of_lt hl (by decide), ?_⟩
    refine ⟨_, rfl, _, _, rfl, sh2, ⟨_, rfl, _, _, rfl, sh2, rfl, ?_⟩⟩
    rw [decide_eq_true rfl]
    refine ⟨_, rfl, .inl ⟨rfl, _, SqL.of upd_same⟩, a, xs ++ [.str "later"], .str "later", rfl, rfl, upd_same, ?_, ?_⟩
    · rw [List.length_append, List.length_singleton, Nat.add_sub_cancel, List.getElem?_append_right (Nat.le_refl _), Nat.sub_self] <;> rfl
    · refine ⟨_, rfl, q _ fun b o e => ?_⟩
      rw [List.dropLast_concat]
      by_cases hb : b = a
      · rw [hb, upd_same, ← ea, ← hb]
        exact e
      · rw [upd_ne hb, upd_ne hb]
        exact e
end
end Nv
set_option maxHeartbeats 4000000
namespace Nv
open PySem PySem.Spec PyProof.Rows L2
/-! # Data of any kind: how it lies in the heap, what the program's tests find of it -/
mutual
inductive Dz (H : Hp) : V → PyData → Prop
  | non : Dz H .non .none
  | bl (b : Bool) : Dz H (.bl b) (.bool b)
  | int (i : Int) : Dz H (.int i) (.int i)
  | str (x : Str) : Dz H (.str x) (.str x)
  | lst {a : Addr} {xs : List V} {ds : List PyData} : H a = some (.lst xs) → DzAll H xs ds → Dz H (.ref a) (.list ds)
  | tup {a : Addr} {xs : List V} {ds : List PyData} : H a = some (.tup xs) → DzAll H xs ds → Dz H (.ref a) (.tuple ds)
  | dct {a : Addr} : H a = some (.dK []) → Dz H (.ref a) (.dict [])
inductive DzAll (H : Hp) : List V → List PyData → Prop
  | nil : DzAll H [] []
  | cons {v : V} {vs : List V} {d : PyData} {ds : List PyData} : Dz H v d → DzAll H vs ds → DzAll H (v :: vs) (d :: ds)
end
mutual
theorem Dz.mono {H H' : Hp} (s : Same H H') : ∀ (d : PyData) (v : V), Dz H v d → Dz H' v d
  | .none, _, h => by
    cases h
    exact .non
  | .bool b, _, h => by
    cases h
    exact .bl b
  | .int i, _, h => by
    cases h
    exact .int i
  | .str x, _, h => by
    cases h
    exact .str x
  | .list ds, _, h => by
    cases h with
    | lst e r => exact .lst (s _ _ e) (DzAll.mono s ds _ r)
  | .tuple ds, _, h => by
    cases h with
    | tup e r => exact .tup (s _ _ e) (DzAll.mono s ds _ r)
  | .dict kvs, _, h => by
    cases h with
    | dct e => exact .dct (s _ _ e)
theorem DzAll.mono {H H' : Hp} (s : Same H H') : ∀ (ds : List PyData) (vs : List V), DzAll H vs ds → DzAll H' vs ds
  | [], _, h => by
    cases h
    exact .nil
  | d :: ds, _, h => by
    cases h with
    | cons h1 h2 => exact .cons (Dz.mono s d _ h1) (DzAll.mono s ds _ h2)
end
section
variable {P : Program} {w : World} {K : PySem.W.Frag} {H : Hp}
theorem rdd_dct {a : Addr} (e : H a = some (.dK [])) : Rdd P w K H (.ref a) (.dict []) := fun h u ok kin r => by
  obtain rfl : u = Value.ref a := r
  obtain ⟨_, _, vs, kv, o, es, ep, ho, hx, hd, hks, hps, _⟩ := (show ObjOk P w H h a (.dK []) from ok a _ e)
  cases kv
  cases hq : es.toList with
  | cons z zs =>
    rw [hq] at hps
    cases hps
  | nil =>
    refine ⟨a :: [] ++ [], .dict ho hx.1 hd (by rw [hq]; exact .nil) (by rw [hq]; exact .nil), fun b hb => ?_⟩
    rw [List.append_nil] at hb
    rw [List.mem_singleton.mp hb, e]
    exact fun q => nomatch q
mutual
theorem rdd_dz : ∀ (d : PyData) (v : V), Dz H v d → Rdd P w K H v d
  | .none, _, h => by
    cases h
    exact rdd_non
  | .bool b, _, h => by
    cases h
    exact rdd_bl b
  | .int i, _, h => by
    cases h
    exact rdd_int i
  | .str x, _, h => by
    cases h
    exact rdd_str x
  | .list ds, _, h => by
    cases h with
    | lst e r => exact rdd_lst e (rdd_dzs ds _ r)
  | .tuple ds, _, h => by
    cases h with
    | tup e r => exact rdd_tup e (rdd_dzs ds _ r)
  | .dict kvs, _, h => by
    cases h with
    | dct e => exact rdd_dct e
theorem rdd_dzs : ∀ (ds : List PyData) (vs : List V), DzAll H vs ds → RddAll P w K H vs ds
  | [], _, h => by
    cases h
    exact rddAll_nil
  | d :: ds, _, h => by
    cases h with
    | cons h1 h2 => exact rddAll_cons (rdd_dz d _ h1) (rdd_dzs ds _ h2)
end
/-- what repr tells of such data -/
theorem Dz.sh {v : V} {d : PyData} (h : Dz H v d) (sh : d.showable = true) (sz : d.shown.length ≤ sizeLine) (dp : d.depth ≤ 60) : ∃ t, ShV P w K H v t := by
  have r := rdd_dz (P := P) (w := w) (K := K) d v h
  cases h with
  | non => exact ⟨_, .non⟩
  | bl b => exact ⟨_, .bl b⟩
  | int i => exact ⟨_, .int i (by simpa [PyData.showable] using sh)⟩
  | str x => exact ⟨_, .str x (by simpa [PyData.shown] using sz)⟩
  | lst e a => exact ⟨_, .ref r sh sz dp⟩
  | tup e a => exact ⟨_, .ref r sh sz dp⟩
  | dct e => exact ⟨_, .ref r sh sz dp⟩
def tyOf : PyData → Value
  | .none => .type "NoneType"
  | .bool _ => .type "bool"
  | .int _ => .type "int"
  | .str _ => .type "str"
  | .list _ => .type "list"
  | .tuple _ => .type "tuple"
  | .dict _ => .type "dict"
theorem Dz.ty {v : V} {d : PyData} (h : Dz H v d) : TyX K H v (tyOf d) := by
  cases h with
  | non => exact .base .non
  | bl b => exact .base (.bl b)
  | int i => exact .base (.int i)
  | str x => exact .base (.str x)
  | lst e a => exact .base (.lst e)
  | tup e a => exact .base (.tup e)
  | dct e => exact .base (.dK e)
def toTv : PyData → Option Str
  | .str z => some z
  | _ => none
def toTp : PyData → Option (List (Option Str))
  | .tuple ds => some (ds.map toTv)
  | _ => none
def toTl : PyData → Option (List (Option Str))
  | .list ds => some (ds.map toTv)
  | _ => none
def toTps : PyData → Option (List (Option (List (Option Str))))
  | .list ds => some (ds.map toTp)
  | _ => none
mutual
def fitD : PyData → Bool
  | .str z => decide (z.length ≤ 1000)
  | .list ds => decide (ds.length ≤ 1000) && fitDs ds
  | .tuple ds => decide (ds.length ≤ 1000) && fitDs ds
  | _ => true
def fitDs : List PyData → Bool
  | [] => true
  | d :: ds => fitD d && fitDs ds
end
theorem Dz.tv {v : V} {d : PyData} (h : Dz H v d) (ft : fitD d = true) : Tv K H v (toTv d) := by
  have t := h.ty (K := K)
  cases h with
  | non => exact ⟨_, t, kit_ty (by decide +kernel)⟩
  | bl b => exact ⟨_, t, kit_ty (by decide +kernel)⟩
  | int i => exact ⟨_, t, kit_ty (by decide +kernel)⟩
  | str x => exact ⟨rfl, Nat.le_trans (by simpa [fitD] using ft) big1000⟩
  | lst e a => exact ⟨_, t, kit_ty (by decide +kernel)⟩
  | tup e a => exact ⟨_, t, kit_ty (by decide +kernel)⟩
  | dct e => exact ⟨_, t, kit_ty (by decide +kernel)⟩
theorem DzAll.tv {vs : List V} {ds : List PyData} : DzAll H vs ds → fitDs ds = true → All2 (Tv K H) vs (ds.map toTv) := by
  induction ds generalizing vs with
  | nil =>
    intro h _
    cases h
    exact .nil
  | cons d ds ih =>
    intro h ft
    cases h with
    | cons h1 h2 =>
      have z : fitD d = true ∧ fitDs ds = true := by simpa [fitDs] using ft
      exact .cons (h1.tv z.1) (ih h2 z.2)
theorem Dz.tp {v : V} {d : PyData} (h : Dz H v d) (ft : fitD d = true) : Tp K H v (toTp d) := by
  have t := h.ty (K := K)
  cases h with
  | non => exact ⟨_, t, kit_ty (by decide +kernel)⟩
  | bl b => exact ⟨_, t, kit_ty (by decide +kernel)⟩
  | int i => exact ⟨_, t, kit_ty (by decide +kernel)⟩
  | str x => exact ⟨_, t, kit_ty (by decide +kernel)⟩
  | lst e a => exact ⟨_, t, kit_ty (by decide +kernel)⟩
  | dct e => exact ⟨_, t, kit_ty (by decide +kernel)⟩
  | tup e a =>
    rename_i ad xs ds
    have z : ds.length ≤ 1000 ∧ fitDs ds = true := by simpa [fitD] using ft
    exact ⟨ad, xs, rfl, e, a.tv z.2, by rw [List.length_map]; exact z.1⟩
theorem Dz.tl {v : V} {d : PyData} (h : Dz H v d) (ft : fitD d = true) : Tl K H v (toTl d) := by
  have t := h.ty (K := K)
  cases h with
  | non => exact ⟨_, t, kit_ty (by decide +kernel)⟩
  | bl b => exact ⟨_, t, kit_ty (by decide +kernel)⟩
  | int i => exact ⟨_, t, kit_ty (by decide +kernel)⟩
  | str x => exact ⟨_, t, kit_ty (by decide +kernel)⟩
  | tup e a => exact ⟨_, t, kit_ty (by decide +kernel)⟩
  | dct e => exact ⟨_, t, kit_ty (by decide +kernel)⟩
  | lst e a =>
    rename_i ad xs ds
    have z : ds.length ≤ 1000 ∧ fitDs ds = true := by simpa [fitD] using ft
    exact ⟨ad, xs, rfl, e, a.tv z.2, by rw [List.length_map]; exact z.1⟩
theorem DzAll.tp {vs : List V} {ds : List PyData} : DzAll H vs ds → fitDs ds = true → All2 (Tp K H) vs (ds.map toTp) := by
  induction ds generalizing vs with
  | nil =>
    intro h _
    cases h
    exact .nil
  | cons d ds ih =>
    intro h ft
    cases h with
    | cons h1 h2 =>
      have z : fitD d = true ∧ fitDs ds = true := by simpa [fitDs] using ft
      exact .cons (h1.tp z.1) (ih h2 z.2)
theorem Dz.tps {v : V} {d : PyData} (h : Dz H v d) (ft : fitD d = true) : Tps K H v (toTps d) := by
  have t := h.ty (K := K)
  cases h with
  | non => exact ⟨_, t, kit_ty (by decide +kernel)⟩
  | bl b => exact ⟨_, t, kit_ty (by decide +kernel)⟩
  | int i => exact ⟨_, t, kit_ty (by decide +kernel)⟩
  | str x => exact ⟨_, t, kit_ty (by decide +kernel)⟩
  | tup e a => exact ⟨_, t, kit_ty (by decide +kernel)⟩
  | dct e => exact ⟨_, t, kit_ty (by decide +kernel)⟩
  | lst e a =>
    rename_i ad xs ds
    have z : ds.length ≤ 1000 ∧ fitDs ds = true := by simpa [fitD] using ft
    exact ⟨ad, xs, rfl, e, a.tp z.2, by rw [List.length_map]; exact z.1⟩
/-- an optional argument: None, or other data -/
theorem Dz.optx {v : V} {d : PyData} {p : Option (List (Option Str)) → Bool} (h : Dz H v d) (ft : fitD d = true) : ∃ b, OptX K H v p b ∧ b = (match d with | .none => true | _ => listB p (toTps d)) := by
  by_cases hv : v = .non
  · subst hv
    cases h
    exact ⟨_, .inl ⟨rfl, rfl⟩, rfl⟩
  · refine ⟨_, .inr ⟨_, hv, h.tps ft, rfl⟩, ?_⟩
    cases h <;> first | rfl | exact absurd rfl hv
end
end Nv
set_option maxHeartbeats 4000000
namespace Nv
open PySem PySem.Spec PyProof.Rows L2
/-! # What the three __init__ find of their arguments, apart from the wishes -/
section
variable {P : Program} {w : World} {K : PySem.W.Frag} {mg : Str → Option Value} {base : Heap} {H G : Hp}
abbrev GdR := Str → Addr → List V → List (List Str) → List (List Str) → Prop
def RuleCh (K : PySem.W.Frag) (H : Hp) (v0 v1 v2 v3 v4 : V) (Rz : V → Prop) (Gd : GdR) : Prop :=
  ∃ o0, Tv K H v0 o0 ∧ if nmO o0 = false then Rz v0 else
  ∃ o1, Tp K H v1 o1 ∧ if patB o1 = false then Rz v1 else
  ∃ o2, Tps K H v2 o2 ∧ if listB patB o2 = false then Rz v2 else
  ∃ b3, OptX K H v3 prB b3 ∧ if b3 = false then Rz v3 else
  ∃ b4, OptX K H v4 patB b4 ∧ if b4 = false then Rz v4 else
  ∃ (l : Str) (th tt : Addr) (h : List Str) (us : List V) (ps : List (List Str)) (qs : List (List Str)) (ds : List (List Str)), v0 = .str l ∧ v1 = .ref th ∧ v2 = .ref tt ∧
  (H th = some (.tup (h.map V.str)) ∧ PatOk h) ∧ (H tt = some (.lst us) ∧ PaL H us ps ∧ (∀ x ∈ ps, PatOk x) ∧ ps.length ≤ 300) ∧ (Opt H v3 qs ∧ ∀ x ∈ qs, PairOk x) ∧ (Opt H v4 ds ∧ ∀ x ∈ ds, PatOk x) ∧
  if hasMore h.tail ps = true then Rz v1 else
  if hasMore qs.flatten ps = true then Rz v3 else
  if hasMore (tails ds) ps = true then Rz v4 else Gd l th us qs ds
theorem ifI {c : Prop} [Decidable c] {A B A' B' : Prop} (h : if c then A else B) (a : A → A') (b : B → B') : if c then A' else B' := by
  by_cases hc : c
  · rw [if_pos hc] at h ⊢
    exact a h
  · rw [if_neg hc] at h ⊢
    exact b h
theorem RuleCh.to {v0 v1 v2 v3 v4 : V} {Rz Rz' : V → Prop} {Gd Gd' : GdR} (h : RuleCh K H v0 v1 v2 v3 v4 Rz Gd) (s : Same H G) (r : ∀ u, Rz u → Rz' u) (g : ∀ l th us qs ds, Gd l th us qs ds → Gd' l th us qs ds) :
    RuleCh K G v0 v1 v2 v3 v4 Rz' Gd' := by
  obtain ⟨o0, t0, h⟩ := h
  refine ⟨o0, t0.same s, ifI h (r _) fun h => ?_⟩
  obtain ⟨o1, t1, h⟩ := h
  refine ⟨o1, t1.same s, ifI h (r _) fun h => ?_⟩
  obtain ⟨o2, t2, h⟩ := h
  refine ⟨o2, t2.same s, ifI h (r _) fun h => ?_⟩
  obtain ⟨b3, t3, h⟩ := h
  refine ⟨b3, t3.same s, ifI h (r _) fun h => ?_⟩
  obtain ⟨b4, t4, h⟩ := h
  refine ⟨b4, t4.same s, ifI h (r _) fun h => ?_⟩
  obtain ⟨l, th, tt, h, us, ps, qs, ds, e0, e1, e2, ⟨eh, hh⟩, ⟨et, hp, hok, hpl⟩, ⟨oq, hq⟩, ⟨od, hd⟩, q⟩ := h
  exact ⟨l, th, tt, h, us, ps, qs, ds, e0, e1, e2, ⟨s _ _ eh, hh⟩, ⟨s _ _ et, hp.same s, hok, hpl⟩, ⟨oq.same s, hq⟩, ⟨od.same s, hd⟩, ifI q (r _) fun q => ifI q (r _) fun q => ifI q (r _) (g _ _ _ _ _)⟩
theorem RuleCh.sp {C CE r dx : Addr} {v0 v1 v2 v3 v4 : V} {Q : VK} {E : XK} (er : H r = some (.ins C dx []))
    (h : RuleCh K H v0 v1 v2 v3 v4 (fun u => ∀ G, Same H G → Wx CE "value" G u E) fun l th us qs ds => ∀ (l1 l2 l3 : Addr) (us2 us3 : List V) (H' : Hp), H l1 = none → H l2 = none → H l3 = none → Sb r H H' → H' r = some (.ins C dx (ruleF l th l1 l2 l3)) → H' l1 = some (.lst us) → H' l2 = some (.lst us2) → PaL H' us2 qs → H' l3 = some (.lst us3) → PaL H' us3 ds → Q .non H') :
    spRuleX (K := K) C CE [.ref r, v0, v1, v2, v3, v4] H Q E := ⟨r, dx, v0, v1, v2, v3, v4, rfl, er, h⟩
abbrev GdQ := List Str → List V → List (List Str) → List (List Str) → Prop
def QCh (K : PySem.W.Frag) (H : Hp) (v1 v2 v3 : V) (Rz : V → Prop) (Gd : GdQ) : Prop :=
  ∃ o1, Tl K H v1 o1 ∧ if colB o1 = false then Rz v1 else
  ∃ o2, Tps K H v2 o2 ∧ if listB patB o2 = false then Rz v2 else
  ∃ b3, OptX K H v3 prB b3 ∧ if b3 = false then Rz v3 else
  ∃ (tc tt : Addr) (cs : List Str) (us : List V) (ps : List (List Str)) (qs : List (List Str)), v1 = .ref tc ∧ v2 = .ref tt ∧
  (H tc = some (.lst (cs.map V.str)) ∧ (∀ x ∈ cs, IsVr x) ∧ cs.length ≤ 300) ∧ (H tt = some (.lst us) ∧ PaL H us ps ∧ (∀ x ∈ ps, PatOk x) ∧ ps.length ≤ 300) ∧ (Opt H v3 qs ∧ ∀ x ∈ qs, PairOk x) ∧
  if hasMore cs ps = true then Rz v1 else
  if hasMore qs.flatten ps = true then Rz v3 else Gd cs us ps qs
theorem QCh.to {v1 v2 v3 : V} {Rz Rz' : V → Prop} {Gd Gd' : GdQ} (h : QCh K H v1 v2 v3 Rz Gd) (s : Same H G) (r : ∀ u, Rz u → Rz' u) (g : ∀ cs us ps qs, Gd cs us ps qs → Gd' cs us ps qs) : QCh K G v1 v2 v3 Rz' Gd' := by
  obtain ⟨o1, t1, h⟩ := h
  refine ⟨o1, t1.same s, ifI h (r _) fun h => ?_⟩
  obtain ⟨o2, t2, h⟩ := h
  refine ⟨o2, t2.same s, ifI h (r _) fun h => ?_⟩
  obtain ⟨b3, t3, h⟩ := h
  refine ⟨b3, t3.same s, ifI h (r _) fun h => ?_⟩
  obtain ⟨tc, tt, cs, us, ps, qs, e1, e2, ⟨ec, hc, hcl⟩, ⟨et, hp, hok, hpl⟩, ⟨oq, hq⟩, q⟩ := h
  exact ⟨tc, tt, cs, us, ps, qs, e1, e2, ⟨s _ _ ec, hc, hcl⟩, ⟨s _ _ et, hp.same s, hok, hpl⟩, ⟨oq.same s, hq⟩, ifI q (r _) fun q => ifI q (r _) (g _ _ _ _)⟩
theorem QCh.sp {C CE r dx : Addr} {v1 v2 v3 : V} {Q : VK} {E : XK} (er : H r = some (.ins C dx []))
    (h : QCh K H v1 v2 v3 (fun u => ∀ G, Same H G → Wx CE "value" G u E) fun cs us ps qs => ∀ (l1 l2 l3 : Addr) (us2 : List V) (H' : Hp), H l1 = none → H l2 = none → H l3 = none → Sb r H H' → H' r = some (.ins C dx (qF l1 l2 l3)) → H' l1 = some (.lst (cs.map V.str)) → H' l2 = some (.lst us) → PaL H' us ps → H' l3 = some (.lst us2) → PaL H' us2 qs → Q .non H') :
    spQX K C CE [.ref r, v1, v2, v3] H Q E := ⟨r, dx, v1, v2, v3, rfl, er, h⟩
/-- what is raised for u, seen from the heap before the instance was made -/
theorem made_wx {CE : Addr} {y dy C : Addr} {u : V} {E : XK} (ny : H y = none) (nd : H dy = none) (ne : dy ≠ y) (h : ∀ (d : Addr) (G : Hp), Same H G → G d = some (.xd [("value", u)]) → E (.ref CE) (some d) G) :
    ∀ G, Same (upd (upd H dy (.own y)) y (.ins C dy [])) G → Wx CE "value" G u E := fun G s d G2 s2 _ e =>
  h d G2 (((same_put (same_new nd) ny).trans s).trans s2) e
/-- the first row of _law_refused: the argument u is refused -/
theorem RuleCh.makes {CN CR CEr : Addr} {v0 v1 v2 v3 v4 u0 : V} {Q : VK} (h : RuleCh K H v0 v1 v2 v3 v4 (fun u => u = u0) fun _ _ _ _ _ => False) (hm : PySem.W.exmOne K (.ref CEr) (.ref CN) = some true)
    (q : ∀ (a : Addr) (G : Hp), Same H G → CtX G a CEr "value" u0 → Q (.ref a) G) : Makes K CN CR (spRuleX (K := K) CR CEr) [v0, v1, v2, v3, v4] H Q := fun y dy ny nd ne => by
  refine RuleCh.sp upd_same (h.to (same_put (same_new nd) ny) (fun u e => ?_) fun _ _ _ _ _ z => z.elim)
  subst e
  refine made_wx ny nd ne fun d G s e => ⟨hm, fun a na => q a _ (same_put s (s.free na)) ⟨d, upd_same, ?_⟩⟩
  rw [upd_ne (fun z => by rw [z, na] at e; cases e)]
  exact e
theorem QCh.makes {CN CQ CEq : Addr} {v1 v2 v3 u0 : V} {Q : VK} (h : QCh K H v1 v2 v3 (fun u => u = u0) fun _ _ _ _ => False) (hm : PySem.W.exmOne K (.ref CEq) (.ref CN) = some true)
    (q : ∀ (a : Addr) (G : Hp), Same H G → CtX G a CEq "value" u0 → Q (.ref a) G) : Makes K CN CQ (spQX K CQ CEq) [v1, v2, v3] H Q := fun y dy ny nd ne => by
  refine QCh.sp upd_same (h.to (same_put (same_new nd) ny) (fun u e => ?_) fun _ _ _ _ z => z.elim)
  subst e
  refine made_wx ny nd ne fun d G s e => ⟨hm, fun a na => q a _ (same_put s (s.free na)) ⟨d, upd_same, ?_⟩⟩
  rw [upd_ne (fun z => by rw [z, na] at e; cases e)]
  exact e
end
end Nv
set_option maxHeartbeats 4000000
namespace Nv
open PySem PySem.Spec PyProof.Rows L2
/-! # _law_refused -/
section
variable {P : Program} {w : World} {K : PySem.W.Frag} {mg : Str → Option Value} {base : Heap} {H : Hp}
mutual
theorem Dz.det : ∀ (d d' : PyData) (v : V), Dz H v d → Dz H v d' → d = d'
  | .none, d', _, h, h' => by
    cases h
    cases h'
    rfl
  | .bool b, d', _, h, h' => by
    cases h
    cases h'
    rfl
  | .int i, d', _, h, h' => by
    cases h
    cases h'
    rfl
  | .str x, d', _, h, h' => by
    cases h
    cases h'
    rfl
  | .list ds, d', _, h, h' => by
    cases h with
    | lst e r =>
      cases h' with
      | lst e2 r2 =>
        rw [e] at e2
        cases e2
        rw [DzAll.det ds _ _ r r2]
      | tup e2 _ => rw [e] at e2; cases e2
      | dct e2 => rw [e] at e2; cases e2
  | .tuple ds, d', _, h, h' => by
    cases h with
    | tup e r =>
      cases h' with
      | tup e2 r2 =>
        rw [e] at e2
        cases e2
        rw [DzAll.det ds _ _ r r2]
      | lst e2 _ => rw [e] at e2; cases e2
      | dct e2 => rw [e] at e2; cases e2
  | .dict kvs, d', _, h, h' => by
    cases h with
    | dct e =>
      cases h' with
      | dct e2 => rfl
      | lst e2 _ => rw [e] at e2; cases e2
      | tup e2 _ => rw [e] at e2; cases e2
theorem DzAll.det : ∀ (ds ds' : List PyData) (vs : List V), DzAll H vs ds → DzAll H vs ds' → ds = ds'
  | [], ds', _, h, h' => by
    cases h
    cases h'
    rfl
  | d :: ds, ds', _, h, h' => by
    cases h with
    | cons h1 h2 =>
      cases h' with
      | cons g1 g2 => rw [Dz.det d _ _ h1 g1, DzAll.det ds _ _ h2 g2]
end
mutual
def cnt : PyData → Nat
  | .list ds => 1 + cntAll ds
  | .tuple ds => 1 + cntAll ds
  | _ => 1
def cntAll : List PyData → Nat
  | [] => 0
  | d :: ds => cnt d + cntAll ds
end
mutual
/-- smaller data does not stand on the place of greater data -/
theorem Dz.off {a : Addr} {D : PyData} {o : HO} (ha : Dz H (.ref a) D) : ∀ (d : PyData) (v : V), Dz H v d → cnt d < cnt D → Dz (upd H a o) v d
  | .none, _, h, _ => by
    cases h
    exact .non
  | .bool b, _, h, _ => by
    cases h
    exact .bl b
  | .int i, _, h, _ => by
    cases h
    exact .int i
  | .str x, _, h, _ => by
    cases h
    exact .str x
  | .list ds, _, h, z => by
    cases h with
    | @lst b xs _ e r =>
      have nb : b ≠ a := fun q => by
        subst q
        have := Dz.det _ _ _ ha (.lst e r)
        rw [this] at z
        exact Nat.lt_irrefl _ z
      refine .lst (by rw [upd_ne nb]; exact e) (DzAll.off ha ds _ r ?_)
      have : cnt (PyData.list ds) = 1 + cntAll ds := by simp [cnt]
      omega
  | .tuple ds, _, h, z => by
    cases h with
    | @tup b xs _ e r =>
      have nb : b ≠ a := fun q => by
        subst q
        have := Dz.det _ _ _ ha (.tup e r)
        rw [this] at z
        exact Nat.lt_irrefl _ z
      refine .tup (by rw [upd_ne nb]; exact e) (DzAll.off ha ds _ r ?_)
      have : cnt (PyData.tuple ds) = 1 + cntAll ds := by simp [cnt]
      omega
  | .dict kvs, _, h, z => by
    cases h with
    | @dct b e =>
      have nb : b ≠ a := fun q => by
        subst q
        have := Dz.det _ _ _ ha (.dct e)
        rw [this] at z
        exact Nat.lt_irrefl _ z
      exact .dct (by rw [upd_ne nb]; exact e)
theorem DzAll.off {a : Addr} {D : PyData} {o : HO} (ha : Dz H (.ref a) D) : ∀ (ds : List PyData) (vs : List V), DzAll H vs ds → cntAll ds < cnt D → DzAll (upd H a o) vs ds
  | [], _, h, _ => by
    cases h
    exact .nil
  | d :: ds, _, h, z => by
    cases h with
    | cons h1 h2 =>
      have : cntAll (d :: ds) = cnt d + cntAll ds := by simp [cntAll]
      exact .cons (Dz.off ha d _ h1 (by omega)) (DzAll.off ha ds _ h2 (by omega))
end
theorem DzAll.snoc {vs : List V} {ds : List PyData} {v : V} {d : PyData} (h : DzAll H vs ds) (h2 : Dz H v d) : DzAll H (vs ++ [v]) (ds ++ [d]) := by
  induction ds generalizing vs with
  | nil =>
    cases h
    exact .cons h2 .nil
  | cons e es ih =>
    cases h with
    | cons a b => exact .cons a (ih b)
theorem DzAll.len {vs : List V} {ds : List PyData} (h : DzAll H vs ds) : vs.length = ds.length := by
  induction ds generalizing vs with
  | nil =>
    cases h
    rfl
  | cons e es ih =>
    cases h with
    | cons a b => rw [List.length_cons, List.length_cons, ih b]
/-- repr has an answer -/
def Tells (d : PyData) : Prop := d.showable = true ∧ d.shown.length ≤ sizeLine ∧ d.depth ≤ 60
/-- .. also when it has grown, where it is a list -/
def TellsOn (d : PyData) : Prop := Tells d ∧ ∀ ds, d = .list ds → ds.length ≤ 1000 ∧ Tells (.list (ds ++ [.str "later"]))
theorem Dz.keeps {v : V} {d : PyData} {Q : VK} {E : XK} (h : Dz H v d) (k : TellsOn d) (q : ∀ G, Same H G → Q (.bl true) G) : spKeeps P w K [v, v] H Q E := by
  obtain ⟨⟨k1, k2, k3⟩, kl⟩ := k
  obtain ⟨t, sh⟩ := h.sh (P := P) (w := w) (K := K) k1 k2 k3
  refine ⟨v, t, rfl, sh, ?_⟩
  have ty := h.ty (K := K)
  have q0 := q H (Same.refl H)
  have hh := h
  cases h with
  | non => exact .inl ⟨⟨_, ty, kit_ty (by decide +kernel)⟩, q0⟩
  | bl b => exact .inl ⟨⟨_, ty, kit_ty (by decide +kernel)⟩, q0⟩
  | int i => exact .inl ⟨⟨_, ty, kit_ty (by decide +kernel)⟩, q0⟩
  | str x => exact .inl ⟨⟨_, ty, kit_ty (by decide +kernel)⟩, q0⟩
  | tup e r => exact .inl ⟨⟨_, ty, kit_ty (by decide +kernel)⟩, q0⟩
  | dct e => exact .inl ⟨⟨_, ty, kit_ty (by decide +kernel)⟩, q0⟩
  | @lst a xs ds e r =>
    obtain ⟨l, m1, m2, m3⟩ := kl ds rfl
    have r2 : DzAll (upd H a (.lst (xs ++ [.str "later"]))) (xs ++ [.str "later"]) (ds ++ [.str "later"]) := (DzAll.off hh ds _ r (by simp [cnt])).snoc (.str _)
    obtain ⟨t2, sh2⟩ := (Dz.lst upd_same r2).sh (P := P) (w := w) (K := K) m1 m2 m3
    exact .inr ⟨a, xs, t2, rfl, e, by rw [r.len]; exact l, sh2, q⟩
/-- an exception class of the law's -/
structure ExK (P : Program) (w : World) (K : PySem.W.Frag) (mg : Str → Option Value) (base : Heap) (CN CEr CEq CEb CU C : Addr) (x : Str) (b1 b2 b3 b4 : Bool) : Prop where
  xc : XC P w K mg base x "value" C
  kit : XKit K C
  exm : PySem.W.exmOne K (.ref C) (.ref CN) = some true
  k1 : PySem.W.kitOne K (.ref C) (.ref CEr) = some b1
  k2 : PySem.W.kitOne K (.ref C) (.ref CEq) = some b2
  k3 : PySem.W.kitOne K (.ref C) (.ref CEb) = some b3
  k4 : PySem.W.kitOne K (.ref C) (.ref CU) = some b4
def spRefused (K : PySem.W.Frag) : Sp := fun vs H Q _ => ∃ (b : Addr) (v : V) (d : PyData), Dz H v d ∧ TellsOn d ∧ (∀ G, Same H G → Q (.bl true) G) ∧
  ((∃ v0 v1 v2 v3 v4, vs = [.int 0, .ref b, v] ∧ H b = some (.lst [v0, v1, v2, v3, v4]) ∧ RuleCh K H v0 v1 v2 v3 v4 (fun u => u = v) fun _ _ _ _ _ => False) ∨
  (∃ v1 v2 v3, vs = [.int 1, .ref b, v] ∧ H b = some (.lst [v1, v2, v3]) ∧ QCh K H v1 v2 v3 (fun u => u = v) fun _ _ _ _ => False))
theorem scRefused : FnScope ["_law_way", "_law_row", "_law_value", "_law_caught"] ["_law_way", "_law_row", "_law_value"] (defScope sRefused) := ⟨rfl, rfl, rfl, by decide +kernel, rfl, by decide +kernel, by decide +kernel⟩
theorem len_keeps : ∀ vs H Q E, spKeeps P w K vs H Q E → vs.length = (["_law_found", "_law_value"] : List Str).length := fun vs H Q E h => by
  obtain ⟨v, t, rfl, _⟩ := h
  rfl
theorem ok_refused {f fM fN fK CN CR CQ CB CEr CEq CEb CU : Addr} {fd dM dN dK : FuncData} (F : Fun K "_law_refused" "_law_refused" sRefused f fd) 
    (GM : FnOk P w K mg base CX0 7 fM dM ["_law_way", "_law_row"] (spMade K CN CR CQ CB CEr CEq CEb)) (kM : PySem.W.keepIn K (.ref fM) = true) (gM : mg "_law_made" = some (.ref fM)) (bM : Binds K dM ["_law_way", "_law_row"] [])
    (GN : FnOk P w K mg base CX0 1 fN dN ["_law_caught"] (spNamed K CEr CEq CEb CU)) (kN : PySem.W.keepIn K (.ref fN) = true) (gN : mg "_law_named" = some (.ref fN)) (bN : Binds K dN ["_law_caught"] [])
    (GK : RunG P w K mg base 1 fK dK ["_law_found", "_law_value"] (spKeeps P w K)) (kK : PySem.W.keepIn K (.ref fK) = true) (gK : mg "_law_keeps" = some (.ref fK)) (bK : Binds K dK ["_law_found", "_law_value"] [])
    (X1 : ExK P w K mg base CN CEr CEq CEb CU CEr "InvalidRule" true false false false) (X2 : ExK P w K mg base CN CEr CEq CEb CU CEq "InvalidQuestion" false true false false) :
    RunG P w K mg base 8 f fd ["_law_way", "_law_row", "_law_value"] (spRefused K) := by
  refine run_ofG (k := 7) F scRefused (fun vs H Q E h => ?_) (fun cdv A outer s H vs Q hg hr h => ?_)
  · obtain ⟨b, v, d, _, _, _, ⟨_, _, _, _, _, rfl, _⟩ | ⟨_, _, _, rfl, _⟩⟩ := h <;> rfl
  · have hr1 : Room 1 _ := hr.mono (by decide)
    refine ⟨_, pss_cons (ps_set (i := 3) scRefused.nd rfl (Or.inl rfl) (by exact (pe_call GM hr (by rfl) gM kM bM .nil pass0 (pa_cons (pv 0) (pa_cons (pv 1) pa_nil)))))
      (pss_cons (ps_if (pt_cmpR op_ne (by exact (pe_call GN hr1 (by rfl) gN kN bN .nil pass0 (pa_cons (pv 3) pa_nil))) (pe_ix ix_list (pe_lst (pa_cons pe_str (pa_cons pe_str (pa_cons pe_str pa_nil)))) (pv 0) (fun _ _ => rfl)) (nomark _)) (pss_one (ps_ret pe_bl)) pss_nil)
      (pss_one (ps_ret (by exact (pe_callG GK len_keeps hg hr1 (by rfl) gK kK bK (pa_cons (pe_xc (f := "value") (pv 3)) (pa_cons (pv 2) pa_nil))))))), ?_⟩
    obtain ⟨b, v, d, hd, tl, q, ⟨v0, v1, v2, v3, v4, rfl, eb, ch⟩ | ⟨v1, v2, v3, rfl, eb, ch⟩⟩ := h
    · refine ⟨_, rfl, _, rfl, b, _, .inl ⟨rfl, ⟨_, _, _, _, _, rfl⟩, eb, ch.makes X1.exm fun a G s cx => ?_⟩⟩
      show tSeq _ _ _ _ _
      refine ⟨_, rfl, a, CEr, "value", v, _, _, _, _, rfl, cx, X1.kit, X1.k1, X1.k2, X1.k3, X1.k4, ?_⟩
      refine ⟨by decide, fun p np => ⟨_, rfl, p, _, _, _, rfl, rfl, SqL.of upd_same, rfl, rfl, _, rfl, ?_⟩⟩
      rw [decide_eq_true (show V.str (namedBy true false false false) = V.str "rule" from rfl)]
      refine iteF ?_
      refine ⟨_, rfl, a, CEr, _, v, rfl, X1.xc, cx.same (same_new np), _, rfl, ?_⟩
      have s2 : Same H (upd G p (.lst [.str "rule", .str "question", .str "book"])) := s.trans (same_new np)
      exact (Dz.mono s2 d v hd).keeps (E := E0) tl fun G2 s3 => q G2 (s2.trans s3)
    · refine ⟨_, rfl, _, rfl, b, _, .inr (.inl ⟨rfl, ⟨_, _, _, rfl⟩, eb, ch.makes X2.exm fun a G s cx => ?_⟩)⟩
      show tSeq _ _ _ _ _
      refine ⟨_, rfl, a, CEq, "value", v, _, _, _, _, rfl, cx, X2.kit, X2.k1, X2.k2, X2.k3, X2.k4, ?_⟩
      refine ⟨by decide, fun p np => ⟨_, rfl, p, _, _, _, rfl, rfl, SqL.of upd_same, rfl, rfl, _, rfl, ?_⟩⟩
      rw [decide_eq_true (show V.str (namedBy false true false false) = V.str "question" from rfl)]
      refine iteF ?_
      refine ⟨_, rfl, a, CEq, _, v, rfl, X2.xc, cx.same (same_new np), _, rfl, ?_⟩
      have s2 : Same H (upd G p (.lst [.str "rule", .str "question", .str "book"])) := s.trans (same_new np)
      exact (Dz.mono s2 d v hd).keeps (E := E0) tl fun G2 s3 => q G2 (s2.trans s3)
end
end Nv
set_option maxHeartbeats 4000000
namespace Nv
open PySem PySem.Spec PyProof.Rows L2
/-! # Written data: what a display makes -/
section
variable {X : Cx} {e : Expr} {es : List Expr} {pos : Pos} {d : PyData} {ds : List PyData}
def tDz (d : PyData) : TE := fun _ H Q => ∀ (v : V) (G : Hp), Same H G → Dz G v d → Q v G
def tDzs (ds : List PyData) : TA := fun _ H Q => ∀ (vs : List V) (G : Hp), Same H G → DzAll G vs ds → Q vs G
theorem pe_dStr {x j} : PE X (.Constant (.str x) j pos) (tDz (.str x)) := ⟨fun pins s σ H Q I h => pe_str.run pins s σ H Q I (h _ H (Same.refl H) (.str x))⟩
theorem pe_dInt {i j} : PE X (.Constant (.int i) j pos) (tDz (.int i)) := ⟨fun pins s σ H Q I h => pe_int.run pins s σ H Q I (h _ H (Same.refl H) (.int i))⟩
theorem pe_dBl {b j} : PE X (.Constant (.bool b) j pos) (tDz (.bool b)) := ⟨fun pins s σ H Q I h => pe_bl.run pins s σ H Q I (h _ H (Same.refl H) (.bl b))⟩
theorem pe_dNon {j} : PE X (.Constant .none j pos) (tDz .none) := ⟨fun pins s σ H Q I h => pe_non.run pins s σ H Q I (h _ H (Same.refl H) .non)⟩
theorem pe_dDct : PE X (.Dict [] [] pos) (tDz (.dict [])) := ⟨fun pins s σ H Q I h => pe_dnewK.run pins s σ H Q I fun p np => h _ _ (same_new np) (.dct upd_same)⟩
theorem pa_dnil : PA X [] (tDzs []) := ⟨fun ps pins s σ H Q I h => pa_nil.run ps pins s σ H Q I (h [] H (Same.refl H) .nil)⟩
theorem pa_dcons (ha : PE X e (tDz d)) (hr : PA X es (tDzs ds)) (hs : starEach (e :: es) X.env = (false, eval e X.env) :: starEach es X.env := by rfl) : PA X (e :: es) (tDzs (d :: ds)) :=
  ⟨fun ps pins s σ H Q I h => (pa_cons ha hr hs).run ps pins s σ H Q I fun v G s1 hv vs G2 s2 hvs => h _ G2 (s1.trans s2) (.cons (Dz.mono s2 d v hv) hvs)⟩
theorem pe_dLst (h : PA X es (tDzs ds)) (hl : ds.length ≤ sizeLine) : PE X (.List es pos) (tDz (.list ds)) :=
  ⟨fun pins s σ H Q I q => (pe_lst h).run pins s σ H Q I fun vs G s1 a => ⟨by rw [a.len]; exact hl, fun p np => q _ _ (s1.trans (same_new np)) (.lst upd_same (DzAll.mono (same_new np) ds vs a))⟩⟩
theorem pe_dTup {x1} (h : PA X es (tDzs ds)) (hl : ds.length ≤ sizeLine) : PE X (.Tuple es x1 pos) (tDz (.tuple ds)) :=
  ⟨fun pins s σ H Q I q => (pe_tup h).run pins s σ H Q I fun vs G s1 a => ⟨by rw [a.len]; exact hl, fun p np => q _ _ (s1.trans (same_new np)) (.tup upd_same (DzAll.mono (same_new np) ds vs a))⟩⟩
end
end Nv
set_option maxHeartbeats 4000000
namespace Nv
open PySem PySem.Spec PyProof.Rows L2
/-! # _law_odd_words -/
section
variable {P : Program} {w : World} {K : PySem.W.Frag} {mg : Str → Option Value} {base : Heap}
def oddWords : List PyData := [.str "", .str "A", .str "aB", .str "a1", .str "a b", .str "a\n", .str "abcdefghijk", .str "_", .none, .int 0, .bool true, .list [], .tuple [.str "a"], .dict [], .list [.str "a"], .str "XYZW", .str "A1", .str "X_", .str "1A", .str "A\n", .str "X Y", .str "X "]
/-- a def without arguments that makes a new list of data -/
def spData (ds : List PyData) : Sp := fun vs H Q _ => vs = [] ∧ ∀ (v : V) (G : Hp), Same H G → Dz G v (.list ds) → Q v G
theorem scOddWords : FnScope [] [] (defScope sOddWords) := ⟨rfl, rfl, rfl, by decide +kernel, rfl, by decide +kernel, by decide +kernel⟩
theorem ok_oddWords {f : Addr} {fd : FuncData} (F : Fun K "_law_odd_words" "_law_odd_words" sOddWords f fd) : FnOk P w K mg base CX0 1 f fd [] (spData oddWords) := by
  refine F.ok scOddWords (fun vs H Q E h => by rw [h.1] <;> rfl) (fun cdv A outer s H vs Q E hr h => ?_)
  obtain ⟨rfl, q⟩ := h
  refine ⟨_, pss_one (ps_ret (by exact (pe_dLst (pa_dcons pe_dStr (pa_dcons pe_dStr (pa_dcons pe_dStr (pa_dcons pe_dStr (pa_dcons pe_dStr (pa_dcons pe_dStr (pa_dcons pe_dStr (pa_dcons pe_dStr (pa_dcons pe_dNon (pa_dcons pe_dInt (pa_dcons pe_dBl (pa_dcons (pe_dLst pa_dnil (by decide)) (pa_dcons (pe_dTup (pa_dcons pe_dStr pa_dnil) (by decide)) (pa_dcons pe_dDct (pa_dcons (pe_dLst (pa_dcons pe_dStr pa_dnil) (by decide)) (pa_dcons pe_dStr (pa_dcons pe_dStr (pa_dcons pe_dStr (pa_dcons pe_dStr (pa_dcons pe_dStr (pa_dcons pe_dStr (pa_dcons pe_dStr pa_dnil)))))))))))))))))))))) (by decide)))), ?_⟩
  exact q
end
end Nv
set_option maxHeartbeats 4000000
namespace PySem.SeqAt
open AutoSeq1 (wpAny_loadPart')
open MeetsSeq MeetsSeq2 MeetsSeq3 PySem.Calls PyProof.Rows PySem.W PySem.Spec PyProof.V
theorem dict_ne_str (l : Addr) (b : Str) (u : Tok) :
    Meets (Builtin.«dict.__ne__» ⟨[.ref l, .str b u], []⟩) (fun _ R s => s.TypeIs (.ref l) "dict" ∧ R (.ok (.ret .notImplemented)) s) :=
  .of_wp fun prog w A R s h => by
    obtain ⟨hl, h⟩ := h
    show wpAny _ _ (Builtin.Dict.dictSlotArgs "__ne__" ⟨[.ref l, .str b u], []⟩ >>= _) _ _ s
    refine wpAny_bind ?_
    unfold Builtin.Dict.dictSlotArgs
    refine wpAny_bind (wpAny_notOrdered_dict hl ?_)
    show wpAny _ _ (pure (Value.ref l, Value.str b u)) _ _ s
    refine wpAny_pure ?_
    refine wpAny_bind (wpAny_isInstance (T := "str") (typeIs_str s b u) F.sub_str_dict ?_)
    simp only [Bool.not_false, if_true]
    wp_walk
    exact ⟨_, rfl, h⟩
theorem str_ne_dict (b : Str) (u : Tok) (l : Addr) :
    Meets (Builtin.«str.__ne__» ⟨[.str b u, .ref l], []⟩) (fun _ R s => (∃ (o : Obj) (es : Array DictEntry) (ep : Nat), s.heap.get? l = some o ∧ o.cls = .type "dict" ∧ o.data = .dict es ep) ∧ R (.ok (.ret .notImplemented)) s) :=
  .of_wp fun prog w A R s h => by
    obtain ⟨hp, g, d, tk, os⟩ := s
    obtain ⟨⟨⟨oc, od, oda, osl⟩, es, ep, ho, hc, hd⟩, h⟩ := h
    dsimp only at hc hd
    subst hc hd
    wp_walk using wpAny_loadPart' ho, wpAny_load ho
    exact ⟨_, rfl, h⟩
theorem ne_dict_str {prog : Program} {w : World} {A : Around} {E : Value → Shared → Prop} {s : Shared} {Q : Value → Shared → Prop} {l : Addr} {b : Str} {u : Tok} (hl : ∃ (o : Obj) (es : Array DictEntry) (ep : Nat), s.heap.get? l = some o ∧ o.cls = .type "dict" ∧ o.data = .dict es ep)
    (hu : A.units < cLine) (h : Q (.bool true) s) : wpAny (model prog w) A (compareOp .NotEq (.ref l) (.str b u)) Q E s := by
  have ty : s.TypeIs (.ref l) "dict" := by
    obtain ⟨o, _, _, ho, hc, _⟩ := hl
    exact ⟨o, ho, hc⟩
  exact rc_ne_decline_or (k := false) ty (typeIs_str s b u) (by decide) F.sub_str_dict F.slot_dict_ne F.slot_str_ne_refl
    (fun _ hq => call_meets F.slot_dict_ne ty F.entry_dict_ne (F.args_dict_ne_2 _ _) (dict_ne_str l b u) ⟨ty, hq⟩)
    (fun _ hq => call_meets F.slot_str_ne_refl (typeIs_str s b u) F.entry_str_ne (F.args_str_ne_2 _ _) (str_ne_dict b u l) ⟨hl, hq⟩)
    (fun _ hq => wpAny_of_eq (rfl : isSame (.ref l) (.str b u) = pure false) hq) (.inr hu) h
end PySem.SeqAt
set_option maxHeartbeats 4000000
namespace Nv
open PySem PySem.Spec PyProof.Rows L2
/-! # data != a text -/
section
variable {K : PySem.W.Frag} {H : Hp}
mutual
theorem Dz.dp : ∀ (d : PyData) (v : V), Dz H v d → d.canLay0 = true → Dp K H v d
  | .none, _, h, _ => by
    cases h
    exact .non
  | .bool b, _, h, _ => by
    cases h
    exact .bl b
  | .int i, _, h, _ => by
    cases h
    exact .int i
  | .str x, _, h, _ => by
    cases h
    exact .str x
  | .list ds, _, h, c => by
    cases h with
    | lst e r => exact .lst (SqL.of e) (DzAll.dp ds _ r (by simpa [PyData.canLay0] using c))
  | .tuple ds, _, h, c => by
    cases h with
    | tup e r => exact .tup (SqT.of e) (DzAll.dp ds _ r (by simpa [PyData.canLay0] using c))
  | .dict kvs, _, h, c => by simp [PyData.canLay0] at c
theorem DzAll.dp : ∀ (ds : List PyData) (vs : List V), DzAll H vs ds → PyData.canLayAll0 ds = true → DpAll K H vs ds
  | [], _, h, _ => by
    cases h
    exact .nil
  | d :: ds, _, h, c => by
    cases h with
    | cons h1 h2 =>
      have z : d.canLay0 = true ∧ PyData.canLayAll0 ds = true := by simpa [PyData.canLayAll0] using c
      exact .cons (Dz.dp d _ h1 z.1) (DzAll.dp ds _ h2 z.2)
end
def rNeZ : R2 := fun x y H Q => ∃ (d : PyData) (z : Str), y = .str z ∧ SeqAt.shaped (.str z) = true ∧ Dz H x d ∧ (SeqAt.shaped d = true ∨ d = .dict []) ∧ Q (.bl (!PyData.eqv d (.str z))) H
theorem op_neZ {X : Cx} (hu : X.A.units + 64 < cLine) : OpR X (compareOp .NotEq) rNeZ := by
  intro pins s σ H x y v u Q I rx ry h
  obtain ⟨d, z, rfl, hz, hd, hs | rfl, q⟩ := h
  · exact op_neD hu pins s σ H x _ v u Q I rx ry ⟨d, .str z, hd.dp d x (by have := hs; simp [SeqAt.shaped] at this; exact this.1), .str z, hs, hz, q⟩
  · cases hd with
    | dct e =>
      obtain rfl : v = Value.ref _ := rx
      obtain ⟨t, rfl⟩ := (show ∃ t, u = Value.str z t from ry)
      obtain ⟨_, _, vs, kv, o, es, ep, ho, hx, hdd, _⟩ := (show ObjOk _ _ H s.heap _ (.dK []) from I.hok _ _ e)
      refine SeqAt.ne_dict_str ⟨o, es, ep, ho, hx.1, hdd⟩ (by omega) ⟨.bl _, H, I, rfl, ?_⟩
      simpa [PyData.eqv] using q
end
end Nv
set_option maxHeartbeats 4000000
namespace Nv
open PySem PySem.Spec PyProof.Rows L2
/-! # displays with one variable; _law_odd_patterns -/
section
variable {X : Cx} {e : Expr} {es : List Expr} {pos : Pos} {d0 : PyData} {F : PyData → PyData} {L : PyData → List PyData} {i : Nat}
def tDzF (i : Nat) (F : PyData → PyData) : TE := fun σ H Q => ∃ (v : V) (d : PyData), σ[i]? = some (some v) ∧ Dz H v d ∧ ∀ (u : V) (G : Hp), Same H G → Dz G u (F d) → Q u G
def tDzsF (i : Nat) (L : PyData → List PyData) : TA := fun σ H Q => ∃ (v : V) (d : PyData), σ[i]? = some (some v) ∧ Dz H v d ∧ ∀ (us : List V) (G : Hp), Same H G → DzAll G us (L d) → Q us G
theorem pe_fVar (hv : PE X e (tVar i)) : PE X e (tDzF i fun d => d) := ⟨fun pins s σ H Q I ⟨v, d, hi, hd, q⟩ => hv.run pins s σ H Q I ⟨v, hi, q v H (Same.refl H) hd⟩⟩
theorem pe_fOf (he : PE X e (tDz d0)) : PE X e (tDzF i fun _ => d0) := ⟨fun pins s σ H Q I ⟨_, _, _, _, q⟩ => he.run pins s σ H Q I q⟩
theorem pa_fnil : PA X [] (tDzsF i fun _ => []) := ⟨fun ps pins s σ H Q I ⟨_, _, _, _, q⟩ => pa_nil.run ps pins s σ H Q I (q [] H (Same.refl H) .nil)⟩
theorem pa_fcons (ha : PE X e (tDzF i F)) (hr : PA X es (tDzsF i L)) (hs : starEach (e :: es) X.env = (false, eval e X.env) :: starEach es X.env := by rfl) : PA X (e :: es) (tDzsF i fun d => F d :: L d) :=
  ⟨fun ps pins s σ H Q I ⟨v, d, hi, hd, q⟩ => (pa_cons ha hr hs).run ps pins s σ H Q I ⟨v, d, hi, hd, fun u G s1 hu => ⟨v, d, hi, Dz.mono s1 d v hd, fun us G2 s2 hus => q _ G2 (s1.trans s2) (.cons (Dz.mono s2 _ u hu) hus)⟩⟩⟩
theorem pe_fLst (h : PA X es (tDzsF i L)) (hl : ∀ d, (L d).length ≤ sizeLine) : PE X (.List es pos) (tDzF i fun d => .list (L d)) :=
  ⟨fun pins s σ H Q I ⟨v, d, hi, hd, q⟩ => (pe_lst h).run pins s σ H Q I ⟨v, d, hi, hd, fun us G s1 a => ⟨by rw [a.len]; exact hl d, fun p np => q _ _ (s1.trans (same_new np)) (.lst upd_same (DzAll.mono (same_new np) _ us a))⟩⟩⟩
theorem pe_fTup {x1} (h : PA X es (tDzsF i L)) (hl : ∀ d, (L d).length ≤ sizeLine) : PE X (.Tuple es x1 pos) (tDzF i fun d => .tuple (L d)) :=
  ⟨fun pins s σ H Q I ⟨v, d, hi, hd, q⟩ => (pe_tup h).run pins s σ H Q I ⟨v, d, hi, hd, fun us G s1 a => ⟨by rw [a.len]; exact hl d, fun p np => q _ _ (s1.trans (same_new np)) (.tup upd_same (DzAll.mono (same_new np) _ us a))⟩⟩⟩
end
section
variable {P : Program} {w : World} {K : PySem.W.Frag} {mg : Str → Option Value} {base : Heap}
def patsA : List PyData := [.none, .str "p", .tuple [], .list [], .dict [], .int 7, .bool true, .list [.str "p"], .list [.str "p", .str "a"], .list [.tuple [.str "p"]], .tuple [.tuple [.str "p"]], .tuple [.str "p", .tuple [.str "a"]], .tuple [.str "p", .list [.str "a"]]]
def patsB : List PyData := [.tuple [.str "p", .str "a", .str "b", .str "a", .str "b"], .tuple [.str "p", .none], .tuple [.str "p", .int 1], .tuple [.str "p", .str "a", .bool true]]
def patsW (d : PyData) : List PyData := .tuple [d, .str "a"] :: if PyData.eqv d (.str "A") = true then [] else [.tuple [.str "p", d], .tuple [.str "p", .str "a", d], .tuple [.str "p", d, .str "X"]]
def patsZ : List PyData := [.tuple [.str "X", .str "a"], .tuple [.str "XYZ"]]
def oddPatterns : List PyData := (patsA ++ patsB ++ oddWords.flatMap patsW) ++ patsZ
theorem words_ok : ∀ d ∈ oddWords, SeqAt.shaped d = true ∨ d = .dict [] := by
  intro d hd
  simp only [oddWords, List.mem_cons, List.not_mem_nil, or_false] at hd
  rcases hd with rfl | rfl | rfl | rfl | rfl | rfl | rfl | rfl | rfl | rfl | rfl | rfl | rfl | rfl | rfl | rfl | rfl | rfl | rfl | rfl | rfl | rfl <;> first | exact .inr rfl | exact .inl (by decide +kernel)
def patsAt (i : Nat) : List PyData := patsA ++ patsB ++ (oddWords.take i).flatMap patsW
theorem patsAt0 : patsAt 0 = patsA ++ patsB := by simp [patsAt]
theorem patsAt_succ {i : Nat} {d : PyData} (h : oddWords[i]? = some d) : patsAt (i + 1) = patsAt i ++ patsW d := by
  unfold patsAt
  rw [take_one h, List.flatMap_append, ← List.append_assoc]
  simp
theorem cntAll_app (xs ys : List PyData) : cntAll (xs ++ ys) = cntAll xs + cntAll ys := by
  induction xs with
  | nil => simp [cntAll]
  | cons x xs ih => simp [cntAll, ih, Nat.add_assoc]
theorem patsAt_big (i : Nat) : 40 ≤ cntAll (patsAt i) := by
  unfold patsAt
  rw [cntAll_app]
  have : 40 ≤ cntAll (patsA ++ patsB) := by decide
  omega
theorem cnt_le {d : PyData} {ds : List PyData} (h : d ∈ ds) : cnt d ≤ cntAll ds := by
  induction ds with
  | nil => cases h
  | cons x xs ih =>
    simp only [cntAll]
    rcases List.mem_cons.mp h with rfl | h
    · omega
    · have := ih h
      omega
theorem DzAll.append {H : Hp} {vs us : List V} {ds es : List PyData} (h : DzAll H vs ds) (h2 : DzAll H us es) : DzAll H (vs ++ us) (ds ++ es) := by
  induction ds generalizing vs with
  | nil =>
    cases h
    exact h2
  | cons e es ih =>
    cases h with
    | cons a b => exact .cons a (ih b)
theorem DzAll.at_ {H : Hp} {vs : List V} {ds : List PyData} (h : DzAll H vs ds) {i : Nat} {v : V} (hi : vs[i]? = some v) : ∃ d, ds[i]? = some d ∧ Dz H v d := by
  induction ds generalizing vs i with
  | nil =>
    cases h
    cases hi
  | cons e es ih =>
    cases h with
    | cons a b =>
      cases i with
      | zero =>
        cases hi
        exact ⟨e, rfl, a⟩
      | succ i => exact ih b hi
theorem scOddPatterns : FnScope ["_law_found", "_law_word"] [] (defScope sOddPatterns) := ⟨rfl, rfl, rfl, by decide +kernel, rfl, by decide +kernel, by decide +kernel⟩
theorem ok_oddPatterns {f fW : Addr} {fd dW : FuncData} (F : Fun K "_law_odd_patterns" "_law_odd_patterns" sOddPatterns f fd)
    (GW : FnOk P w K mg base CX0 1 fW dW [] (spData oddWords)) (kW : PySem.W.keepIn K (.ref fW) = true) (gW : mg "_law_odd_words" = some (.ref fW)) (bW : Binds K dW [] []) :
    FnOk P w K mg base CX0 2 f fd [] (spData oddPatterns) := by
  refine F.ok scOddPatterns (fun vs H Q E h => by rw [h.1] <;> rfl) (fun cdv A outer s H vs Q E hr h => ?_)
  obtain ⟨rfl, q⟩ := h
  have hu := hr.units
  refine ⟨_, pss_cons (ps_set (i := 0) scOddPatterns.nd rfl (Or.inl rfl) (by exact (pe_dLst (pa_dcons pe_dNon (pa_dcons pe_dStr (pa_dcons (pe_dTup pa_dnil (by decide)) (pa_dcons (pe_dLst pa_dnil (by decide)) (pa_dcons pe_dDct (pa_dcons pe_dInt (pa_dcons pe_dBl (pa_dcons (pe_dLst (pa_dcons pe_dStr pa_dnil) (by decide)) (pa_dcons (pe_dLst (pa_dcons pe_dStr (pa_dcons pe_dStr pa_dnil)) (by decide)) (pa_dcons (pe_dLst (pa_dcons (pe_dTup (pa_dcons pe_dStr pa_dnil) (by decide)) pa_dnil) (by decide)) (pa_dcons (pe_dTup (pa_dcons (pe_dTup (pa_dcons pe_dStr pa_dnil) (by decide)) pa_dnil) (by decide)) (pa_dcons (pe_dTup (pa_dcons pe_dStr (pa_dcons (pe_dTup (pa_dcons pe_dStr pa_dnil) (by decide)) pa_dnil)) (by decide)) (pa_dcons (pe_dTup (pa_dcons pe_dStr (pa_dcons (pe_dLst (pa_dcons pe_dStr pa_dnil) (by decide)) pa_dnil)) (by decide)) pa_dnil))))))))))))) (by decide))))
    (pss_cons (ps_set (i := 0) scOddPatterns.nd rfl (Or.inl rfl) (pe_op op_cat (pv 0) (by exact (pe_dLst (pa_dcons (pe_dTup (pa_dcons pe_dStr (pa_dcons pe_dStr (pa_dcons pe_dStr (pa_dcons pe_dStr (pa_dcons pe_dStr pa_dnil))))) (by decide)) (pa_dcons (pe_dTup (pa_dcons pe_dStr (pa_dcons pe_dNon pa_dnil)) (by decide)) (pa_dcons (pe_dTup (pa_dcons pe_dStr (pa_dcons pe_dInt pa_dnil)) (by decide)) (pa_dcons (pe_dTup (pa_dcons pe_dStr (pa_dcons pe_dStr (pa_dcons pe_dBl pa_dnil))) (by decide)) pa_dnil)))) (by decide)))))
    (pss_cons (ps_for PassesOwn.never rfl (pi_list (by exact (pe_call0 GW hr (by rfl) gW kW bW .nil pass0))) (pg_name (i := 1) scOddPatterns.nd rfl (Or.inl rfl))
      (pss_cons (ps_expr (pe_bm PySem.F.plainAttrs_list PySem.F.slot_list_append PySem.F.type_list_append mt_append (pv 0) (pa_cons (by exact (pe_fTup (pa_fcons (pe_fVar (i := 1) (pv 1)) (pa_fcons (pe_fOf pe_dStr) pa_fnil)) (fun _ => by show 2 ≤ sizeLine; decide))) pa_nil)))
      (pss_one (ps_if (pt_cmpR (op_neZ hu) (pv 1) pe_str (nomark _)) (pss_one (ps_set (i := 0) scOddPatterns.nd rfl (Or.inl rfl) (pe_op op_cat (pv 0) (by exact (pe_fLst (pa_fcons (pe_fTup (pa_fcons (pe_fOf pe_dStr) (pa_fcons (pe_fVar (i := 1) (pv 1)) pa_fnil)) (fun _ => by show 2 ≤ sizeLine; decide)) (pa_fcons (pe_fTup (pa_fcons (pe_fOf pe_dStr) (pa_fcons (pe_fOf pe_dStr) (pa_fcons (pe_fVar (i := 1) (pv 1)) pa_fnil))) (fun _ => by show 3 ≤ sizeLine; decide)) (pa_fcons (pe_fTup (pa_fcons (pe_fOf pe_dStr) (pa_fcons (pe_fVar (i := 1) (pv 1)) (pa_fcons (pe_fOf pe_dStr) pa_fnil))) (fun _ => by show 3 ≤ sizeLine; decide)) pa_fnil))) (fun _ => by show 3 ≤ sizeLine; decide)))))) pss_nil))))
    (pss_one (ps_ret (pe_op op_cat (pv 0) (by exact (pe_dLst (pa_dcons (pe_dTup (pa_dcons pe_dStr (pa_dcons pe_dStr pa_dnil)) (by decide)) (pa_dcons (pe_dTup (pa_dcons pe_dStr pa_dnil) (by decide)) pa_dnil)) (by decide)))))))), ?_⟩
  refine fun v G1 s1 hv => ?_
  cases hv with
  | @lst p0 xs0 _ ep0 hx0 =>
  show tSeq _ _ _ _ _
  refine ⟨_, rfl, fun u G2 s2 hu => ?_⟩
  cases hu with
  | @lst b0 ys0 _ eb0 hy0 =>
  refine ⟨p0, b0, xs0, ys0, rfl, rfl, s2 _ _ ep0, eb0, by rw [hx0.len, hy0.len]; decide, fun r nr => ?_⟩
  have s12 := s1.trans s2
  have s3 : Same H (upd G2 r (.lst (xs0 ++ ys0))) := same_put s12 (s12.free nr)
  have nrH := s12.free nr
  have e3 : upd G2 r (.lst (xs0 ++ ys0)) r = some (.lst (xs0 ++ ys0)) := upd_same
  have h3 : DzAll (upd G2 r (.lst (xs0 ++ ys0))) (xs0 ++ ys0) (patsA ++ patsB) := (DzAll.mono (s2.trans (same_new nr)) patsA xs0 hx0).append (DzAll.mono (same_new nr) patsB ys0 hy0)
  have l3 : (xs0 ++ ys0).length ≤ 20 := by rw [h3.len]; decide
  generalize upd G2 r (.lst (xs0 ++ ys0)) = G3 at s3 e3 h3 ⊢
  generalize xs0 ++ ys0 = xs1 at e3 h3 l3
  clear hx0 hy0 eb0 ep0
  show tSeq _ _ _ _ _
  refine ⟨rfl, fun v G4 s4 hv => ?_⟩
  cases hv with
  | @lst a ws _ ea hw =>
  have rne : r ≠ a := fun z => by
    rw [← z, s4 _ _ e3] at ea
    cases ea
    have := h3.len.symm.trans (hw.len)
    exact absurd this (by decide)
  refine ⟨a, rfl, ⟨_, SqL.of ea⟩, for_list (K := K) (a := a) (xs := ws) (fun i σ H' => ∃ (o : Option V) (p : Addr) (xs : List V), σ = [some (.ref p), o] ∧ Same H H' ∧ H p = none ∧ p ≠ a ∧ H' a = some (.lst ws) ∧ DzAll H' ws oddWords ∧ H' p = some (.lst xs) ∧ DzAll H' xs (patsAt i) ∧ xs.length ≤ 20 + 4 * i)
    ⟨none, r, xs1, rfl, s3.trans s4, nrH, rne, ea, hw, s4 _ _ e3, by rw [patsAt0]; exact DzAll.mono s4 _ _ h3, l3⟩ (fun i σ H' _ ⟨_, _, _, _, _, _, _, e, _⟩ => SqL.of e) ?_ ?_⟩
  · rintro i x σ H1 hi ⟨o, p, xs, rfl, sH, np, pa, ea, hw, ep, hx, hl⟩
    obtain ⟨d, hd, hz⟩ := hw.at_ hi
    have dm : d ∈ oddWords := List.mem_of_getElem? hd
    have big := patsAt_big i
    refine ⟨_, rfl, .inl ⟨rfl, _, SqL.of ep⟩, x, d, rfl, hz, fun u G s hu => ⟨p, xs, u, rfl, rfl, s _ _ ep, ?_, ?_⟩⟩
    · have : i < 22 := by
        have := (List.getElem?_eq_some_iff.mp hd).1
        exact this
      exact Nat.lt_of_le_of_lt (by omega : _ ≤ 1000) (by decide)
    have i22 : i < 22 := (List.getElem?_eq_some_iff.mp hd).1
    have own : Dz G (.ref p) (.list (patsAt i)) := .lst (s _ _ ep) (DzAll.mono s _ _ hx)
    have cown : cnt (.list (patsAt i)) = 1 + cntAll (patsAt i) := by simp [cnt]
    have sH2 : Same H (upd G p (.lst (xs ++ [u]))) := same_put (sH.trans s) np
    have ea2 : upd G p (.lst (xs ++ [u])) a = some (.lst ws) := by rw [upd_ne (Ne.symm pa)]; exact s _ _ ea
    have hw2 : DzAll (upd G p (.lst (xs ++ [u]))) ws oddWords := DzAll.off own _ _ (DzAll.mono s _ _ hw) (by rw [cown]; have : cntAll oddWords = 24 := by decide
                                                                                                             omega)
    have dc := cnt_le dm
    have c24 : cntAll oddWords = 24 := by decide
    have hx2 : DzAll (upd G p (.lst (xs ++ [u]))) (xs ++ [u]) (patsAt i ++ [.tuple [d, .str "a"]]) := (DzAll.off own _ _ (DzAll.mono s _ _ hx) (by omega)).snoc (Dz.off own _ _ hu (by rw [cown]; simp only [cnt, cntAll]; omega))
    have ep2 : upd G p (.lst (xs ++ [u])) p = some (.lst (xs ++ [u])) := upd_same
    have hl2 : (xs ++ [u]).length ≤ 21 + 4 * i := by rw [List.length_append, List.length_singleton]; omega
    generalize upd G p (.lst (xs ++ [u])) = G2 at sH2 ea2 hw2 hx2 ep2 ⊢
    generalize xs ++ [u] = xs2 at hx2 ep2 hl2 ⊢
    obtain ⟨d', hd', hz2⟩ := hw2.at_ hi
    rw [hd] at hd'
    cases hd'
    refine ⟨_, rfl, d, "A", rfl, by decide +kernel, hz2, words_ok d dm, _, rfl, ?_⟩
    cases hb : PyData.eqv d (.str "A") with
    | true =>
      refine iteF ⟨_, p, xs2, rfl, sH2, np, pa, ea2, hw2, ep2, ?_, by omega⟩
      rw [patsAt_succ hd]
      show DzAll G2 xs2 (patsAt i ++ (_ :: if PyData.eqv d (.str "A") = true then [] else _))
      rw [if_pos hb]
      exact hx2
    | false =>
      refine iteT ⟨_, rfl, x, d, rfl, hz2, fun u2 G5 s5 hu2 => ?_⟩
      cases hu2 with
      | @lst b ys _ eb hy =>
      refine ⟨p, b, xs2, ys, rfl, rfl, s5 _ _ ep2, eb, Nat.le_trans (by rw [hy.len]; show _ + 3 ≤ 200; omega) (by decide), fun r2 nr2 => ?_⟩
      have sH5 := sH2.trans s5
      have r2a : r2 ≠ a := fun z => by rw [z, s5 _ _ ea2] at nr2; cases nr2
      refine ⟨_, r2, xs2 ++ ys, rfl, same_put sH5 (sH5.free nr2), sH5.free nr2, r2a, by rw [upd_ne (Ne.symm r2a)]; exact s5 _ _ ea2, DzAll.mono (s5.trans (same_new nr2)) _ _ hw2, upd_same, ?_, by rw [List.length_append, hy.len]; show _ + 3 ≤ _; omega⟩
      rw [patsAt_succ hd]
      show DzAll _ (xs2 ++ ys) (patsAt i ++ (_ :: if PyData.eqv d (.str "A") = true then [] else _))
      rw [if_neg (by rw [hb]; exact Bool.false_ne_true), List.append_cons]
      exact (DzAll.mono (s5.trans (same_new nr2)) _ _ hx2).append (DzAll.mono (same_new nr2) _ _ hy)
  · rintro σ H1 ⟨o, p, xs, rfl, sH, np, pa, ea, hw, ep, hx, hl⟩
    have wl : ws.length = 22 := hw.len
    rw [wl] at hx hl
    refine ⟨_, rfl, fun u G s hu => ?_⟩
    cases hu with
    | @lst b ys _ eb hy =>
    refine ⟨p, b, xs, ys, rfl, rfl, s _ _ ep, eb, Nat.le_trans (by rw [hy.len]; show _ + 2 ≤ 200; omega) (by decide), fun r2 nr2 => ?_⟩
    have sHG := sH.trans s
    refine q _ _ (same_put sHG (sHG.free nr2)) (.lst upd_same ?_)
    show DzAll _ (xs ++ ys) (patsAt 22 ++ patsZ)
    exact (DzAll.mono (s.trans (same_new nr2)) _ _ hx).append (DzAll.mono (same_new nr2) _ _ hy)
end
end Nv
set_option maxHeartbeats 4000000
namespace Nv
open PySem PySem.Spec PyProof.Rows L2
/-! # _law_odd_lists, _law_odd_pairs -/
section
variable {P : Program} {w : World} {K : PySem.W.Frag} {mg : Str → Option Value} {base : Heap}
def listsA : List PyData := [.int 0, .bool true, .str "", .str "p", .tuple [], .dict [], .tuple [.str "p", .str "a"], .tuple [.tuple [.str "p", .str "a"]]]
def listsW (d : PyData) : List PyData := [.list [d], .list [.tuple [.str "p", .str "a"], d]]
def listsAt (i : Nat) : List PyData := listsA ++ (oddPatterns.take i).flatMap listsW
def oddLists : List PyData := listsAt 104
theorem pats_len : oddPatterns.length = 104 := by decide +kernel
theorem listsAt_succ {i : Nat} {d : PyData} (h : oddPatterns[i]? = some d) : listsAt (i + 1) = listsAt i ++ listsW d := by
  unfold listsAt
  rw [take_one h, List.flatMap_append, ← List.append_assoc]
  simp
theorem scOddLists : FnScope ["_law_found", "_law_odd"] [] (defScope sOddLists) := ⟨rfl, rfl, rfl, by decide +kernel, rfl, by decide +kernel, by decide +kernel⟩
theorem ok_oddLists {f fW : Addr} {fd dW : FuncData} (F : Fun K "_law_odd_lists" "_law_odd_lists" sOddLists f fd)
    (GW : FnOk P w K mg base CX0 2 fW dW [] (spData oddPatterns)) (kW : PySem.W.keepIn K (.ref fW) = true) (gW : mg "_law_odd_patterns" = some (.ref fW)) (bW : Binds K dW [] []) :
    FnOk P w K mg base CX0 3 f fd [] (spData oddLists) := by
  refine F.ok scOddLists (fun vs H Q E h => by rw [h.1] <;> rfl) (fun cdv A outer s H vs Q E hr h => ?_)
  obtain ⟨rfl, q⟩ := h
  refine ⟨_, pss_cons (ps_set (i := 0) scOddLists.nd rfl (Or.inl rfl) (by exact (pe_dLst (pa_dcons pe_dInt (pa_dcons pe_dBl (pa_dcons pe_dStr (pa_dcons pe_dStr (pa_dcons (pe_dTup pa_dnil (by decide)) (pa_dcons pe_dDct (pa_dcons (pe_dTup (pa_dcons pe_dStr (pa_dcons pe_dStr pa_dnil)) (by decide)) (pa_dcons (pe_dTup (pa_dcons (pe_dTup (pa_dcons pe_dStr (pa_dcons pe_dStr pa_dnil)) (by decide)) pa_dnil) (by decide)) pa_dnil)))))))) (by decide))))
    (pss_cons (ps_for PassesOwn.never rfl (pi_list (by exact (pe_call0 GW hr (by rfl) gW kW bW .nil pass0))) (pg_name (i := 1) scOddLists.nd rfl (Or.inl rfl))
      (pss_one (ps_set (i := 0) scOddLists.nd rfl (Or.inl rfl) (pe_op op_cat (pv 0) (by exact (pe_fLst (pa_fcons (pe_fLst (pa_fcons (pe_fVar (i := 1) (pv 1)) pa_fnil) (fun _ => by show 1 ≤ sizeLine; decide)) (pa_fcons (pe_fLst (pa_fcons (pe_fTup (pa_fcons (pe_fOf pe_dStr) (pa_fcons (pe_fOf pe_dStr) pa_fnil)) (fun _ => by show 2 ≤ sizeLine; decide)) (pa_fcons (pe_fVar (i := 1) (pv 1)) pa_fnil)) (fun _ => by show 2 ≤ sizeLine; decide)) pa_fnil)) (fun _ => by show 2 ≤ sizeLine; decide)))))))
    (pss_one (ps_ret (pv 0)))), ?_⟩
  refine fun v G1 s1 hv => ?_
  cases hv with
  | @lst p0 xs0 _ ep0 hx0 =>
  show tSeq _ _ _ _ _
  refine ⟨rfl, fun v G4 s4 hv => ?_⟩
  cases hv with
  | @lst a ws _ ea hw =>
  have l0 : xs0.length ≤ 10 := by rw [hx0.len]; decide
  refine ⟨a, rfl, ⟨_, SqL.of ea⟩, for_list (K := K) (a := a) (xs := ws) (fun i σ H' => ∃ (o : Option V) (p : Addr) (xs : List V), σ = [some (.ref p), o] ∧ Same H H' ∧ H' a = some (.lst ws) ∧ DzAll H' ws oddPatterns ∧ H' p = some (.lst xs) ∧ DzAll H' xs (listsAt i) ∧ xs.length ≤ 10 + 2 * i)
    ⟨none, p0, xs0, rfl, s1.trans s4, ea, hw, s4 _ _ ep0, by rw [show listsAt 0 = listsA by simp [listsAt]]; exact DzAll.mono s4 _ _ hx0, l0⟩ (fun i σ H' _ ⟨_, _, _, _, _, e, _⟩ => SqL.of e) ?_ ?_⟩
  · rintro i x σ H1 hi ⟨o, p, xs, rfl, sH, ea, hw, ep, hx, hl⟩
    obtain ⟨d, hd, hz⟩ := hw.at_ hi
    have il : i < 104 := by
      have := (List.getElem?_eq_some_iff.mp hd).1
      rw [pats_len] at this
      exact this
    refine ⟨_, rfl, x, d, rfl, hz, fun u G s hu => ?_⟩
    cases hu with
    | @lst b ys _ eb hy =>
    refine ⟨p, b, xs, ys, rfl, rfl, s _ _ ep, eb, Nat.le_trans (by rw [hy.len]; show _ + 2 ≤ 300; omega) (by decide), fun r nr => ?_⟩
    have sn := s.trans (same_new (o := .lst (xs ++ ys)) nr)
    refine ⟨_, r, xs ++ ys, rfl, sH.trans sn, sn _ _ ea, DzAll.mono sn _ _ hw, upd_same, ?_, by rw [List.length_append, hy.len]; show _ + 2 ≤ _; omega⟩
    rw [listsAt_succ hd]
    exact (DzAll.mono sn _ _ hx).append (DzAll.mono (same_new nr) _ _ hy)
  · rintro σ H1 ⟨o, p, xs, rfl, sH, ea, hw, ep, hx, hl⟩
    have wl : ws.length = 104 := hw.len.trans pats_len
    rw [wl] at hx
    exact ⟨_, rfl, q _ _ sH (.lst ep hx)⟩
def pairsA : List PyData := [.int 0, .bool true, .str "", .tuple [], .dict [], .tuple [.str "X", .str "Y"], .tuple [.tuple [.str "X", .str "Y"]], .list [.str "X", .str "Y"], .list [.list [.str "X", .str "Y"]], .list [.tuple [.str "X"]], .list [.tuple [.str "X", .str "Y", .str "Z"]]]
def pairsB : List PyData := [.list [.tuple [.str "X", .str "X"]], .list [.tuple [.str "a", .str "b"]], .list [.tuple [.str "a", .str "a"]], .list [.tuple [.str "X", .str "a"], .tuple [.str "X", .str "X"]], .list [.tuple []], .list [.none], .list [.tuple [.str "X", .none]]]
def pairsC : List PyData := [.list [.tuple [.str "X", .str "X"], .tuple [.str "X", .str "a"]], .list [.tuple [.str "a", .str "b"], .tuple [.str "X", .str "a"]], .list [.none, .tuple [.str "X", .str "a"]]]
def pairsW (d : PyData) : List PyData := if PyData.eqv d (.str "A") = true then [] else [.list [.tuple [.str "X", d]], .list [.tuple [d, .str "X"]], .list [.tuple [.str "X", .str "a"], .tuple [.str "Y", d]]]
def pairsAt (i : Nat) : List PyData := pairsA ++ pairsB ++ pairsC ++ (oddWords.take i).flatMap pairsW
def oddPairs : List PyData := pairsAt 22
theorem pairsAt_succ {i : Nat} {d : PyData} (h : oddWords[i]? = some d) : pairsAt (i + 1) = pairsAt i ++ pairsW d := by
  unfold pairsAt
  rw [take_one h, List.flatMap_append, ← List.append_assoc]
  simp
theorem scOddPairs : FnScope ["_law_found", "_law_word"] [] (defScope sOddPairs) := ⟨rfl, rfl, rfl, by decide +kernel, rfl, by decide +kernel, by decide +kernel⟩
theorem ok_oddPairs {f fW : Addr} {fd dW : FuncData} (F : Fun K "_law_odd_pairs" "_law_odd_pairs" sOddPairs f fd)
    (GW : FnOk P w K mg base CX0 1 fW dW [] (spData oddWords)) (kW : PySem.W.keepIn K (.ref fW) = true) (gW : mg "_law_odd_words" = some (.ref fW)) (bW : Binds K dW [] []) :
    FnOk P w K mg base CX0 2 f fd [] (spData oddPairs) := by
  refine F.ok scOddPairs (fun vs H Q E h => by rw [h.1] <;> rfl) (fun cdv A outer s H vs Q E hr h => ?_)
  obtain ⟨rfl, q⟩ := h
  have hu := hr.units
  refine ⟨_, pss_cons (ps_set (i := 0) scOddPairs.nd rfl (Or.inl rfl) (by exact (pe_dLst (pa_dcons pe_dInt (pa_dcons pe_dBl (pa_dcons pe_dStr (pa_dcons (pe_dTup pa_dnil (by decide)) (pa_dcons pe_dDct (pa_dcons (pe_dTup (pa_dcons pe_dStr (pa_dcons pe_dStr pa_dnil)) (by decide)) (pa_dcons (pe_dTup (pa_dcons (pe_dTup (pa_dcons pe_dStr (pa_dcons pe_dStr pa_dnil)) (by decide)) pa_dnil) (by decide)) (pa_dcons (pe_dLst (pa_dcons pe_dStr (pa_dcons pe_dStr pa_dnil)) (by decide)) (pa_dcons (pe_dLst (pa_dcons (pe_dLst (pa_dcons pe_dStr (pa_dcons pe_dStr pa_dnil)) (by decide)) pa_dnil) (by decide)) (pa_dcons (pe_dLst (pa_dcons (pe_dTup (pa_dcons pe_dStr pa_dnil) (by decide)) pa_dnil) (by decide)) (pa_dcons (pe_dLst (pa_dcons (pe_dTup (pa_dcons pe_dStr (pa_dcons pe_dStr (pa_dcons pe_dStr pa_dnil))) (by decide)) pa_dnil) (by decide)) pa_dnil))))))))))) (by decide))))
    (pss_cons (ps_set (i := 0) scOddPairs.nd rfl (Or.inl rfl) (pe_op op_cat (pv 0) (by exact (pe_dLst (pa_dcons (pe_dLst (pa_dcons (pe_dTup (pa_dcons pe_dStr (pa_dcons pe_dStr pa_dnil)) (by decide)) pa_dnil) (by decide)) (pa_dcons (pe_dLst (pa_dcons (pe_dTup (pa_dcons pe_dStr (pa_dcons pe_dStr pa_dnil)) (by decide)) pa_dnil) (by decide)) (pa_dcons (pe_dLst (pa_dcons (pe_dTup (pa_dcons pe_dStr (pa_dcons pe_dStr pa_dnil)) (by decide)) pa_dnil) (by decide)) (pa_dcons (pe_dLst (pa_dcons (pe_dTup (pa_dcons pe_dStr (pa_dcons pe_dStr pa_dnil)) (by decide)) (pa_dcons (pe_dTup (pa_dcons pe_dStr (pa_dcons pe_dStr pa_dnil)) (by decide)) pa_dnil)) (by decide)) (pa_dcons (pe_dLst (pa_dcons (pe_dTup pa_dnil (by decide)) pa_dnil) (by decide)) (pa_dcons (pe_dLst (pa_dcons pe_dNon pa_dnil) (by decide)) (pa_dcons (pe_dLst (pa_dcons (pe_dTup (pa_dcons pe_dStr (pa_dcons pe_dNon pa_dnil)) (by decide)) pa_dnil) (by decide)) pa_dnil))))))) (by decide)))))
    (pss_cons (ps_set (i := 0) scOddPairs.nd rfl (Or.inl rfl) (pe_op op_cat (pv 0) (by exact (pe_dLst (pa_dcons (pe_dLst (pa_dcons (pe_dTup (pa_dcons pe_dStr (pa_dcons pe_dStr pa_dnil)) (by decide)) (pa_dcons (pe_dTup (pa_dcons pe_dStr (pa_dcons pe_dStr pa_dnil)) (by decide)) pa_dnil)) (by decide)) (pa_dcons (pe_dLst (pa_dcons (pe_dTup (pa_dcons pe_dStr (pa_dcons pe_dStr pa_dnil)) (by decide)) (pa_dcons (pe_dTup (pa_dcons pe_dStr (pa_dcons pe_dStr pa_dnil)) (by decide)) pa_dnil)) (by decide)) (pa_dcons (pe_dLst (pa_dcons pe_dNon (pa_dcons (pe_dTup (pa_dcons pe_dStr (pa_dcons pe_dStr pa_dnil)) (by decide)) pa_dnil)) (by decide)) pa_dnil))) (by decide)))))
    (pss_cons (ps_for PassesOwn.never rfl (pi_list (by exact (pe_call0 GW hr (by rfl) gW kW bW .nil pass0))) (pg_name (i := 1) scOddPairs.nd rfl (Or.inl rfl))
      (pss_one (ps_if (pt_cmpR (op_neZ hu) (pv 1) pe_str (nomark _)) (pss_one (ps_set (i := 0) scOddPairs.nd rfl (Or.inl rfl) (pe_op op_cat (pv 0) (by exact (pe_fLst (pa_fcons (pe_fLst (pa_fcons (pe_fTup (pa_fcons (pe_fOf pe_dStr) (pa_fcons (pe_fVar (i := 1) (pv 1)) pa_fnil)) (fun _ => by show 2 ≤ sizeLine; decide)) pa_fnil) (fun _ => by show 1 ≤ sizeLine; decide)) (pa_fcons (pe_fLst (pa_fcons (pe_fTup (pa_fcons (pe_fVar (i := 1) (pv 1)) (pa_fcons (pe_fOf pe_dStr) pa_fnil)) (fun _ => by show 2 ≤ sizeLine; decide)) pa_fnil) (fun _ => by show 1 ≤ sizeLine; decide)) (pa_fcons (pe_fLst (pa_fcons (pe_fTup (pa_fcons (pe_fOf pe_dStr) (pa_fcons (pe_fOf pe_dStr) pa_fnil)) (fun _ => by show 2 ≤ sizeLine; decide)) (pa_fcons (pe_fTup (pa_fcons (pe_fOf pe_dStr) (pa_fcons (pe_fVar (i := 1) (pv 1)) pa_fnil)) (fun _ => by show 2 ≤ sizeLine; decide)) pa_fnil)) (fun _ => by show 2 ≤ sizeLine; decide)) pa_fnil))) (fun _ => by show 3 ≤ sizeLine; decide)))))) pss_nil)))
    (pss_one (ps_ret (pv 0)))))), ?_⟩
  refine fun v G1 s1 hv => ?_
  cases hv with
  | @lst p0 xs0 _ ep0 hx0 =>
  show tSeq _ _ _ _ _
  refine ⟨_, rfl, fun u G2 s2 hu => ?_⟩
  cases hu with
  | @lst b0 ys0 _ eb0 hy0 =>
  refine ⟨p0, b0, xs0, ys0, rfl, rfl, s2 _ _ ep0, eb0, by rw [hx0.len, hy0.len]; decide, fun r nr => ?_⟩
  have s3 : Same H (upd G2 r (.lst (xs0 ++ ys0))) := (s1.trans s2).trans (same_new nr)
  have e3 : upd G2 r (.lst (xs0 ++ ys0)) r = some (.lst (xs0 ++ ys0)) := upd_same
  have h3 : DzAll (upd G2 r (.lst (xs0 ++ ys0))) (xs0 ++ ys0) (pairsA ++ pairsB) := (DzAll.mono (s2.trans (same_new nr)) pairsA xs0 hx0).append (DzAll.mono (same_new nr) pairsB ys0 hy0)
  generalize upd G2 r (.lst (xs0 ++ ys0)) = G3 at s3 e3 h3 ⊢
  generalize xs0 ++ ys0 = xs1 at e3 h3
  clear hx0 hy0 eb0 ep0
  show tSeq _ _ _ _ _
  refine ⟨_, rfl, fun u G4 s4 hu => ?_⟩
  cases hu with
  | @lst b1 ys1 _ eb1 hy1 =>
  refine ⟨r, b1, xs1, ys1, rfl, rfl, s4 _ _ e3, eb1, by rw [h3.len, hy1.len]; decide, fun r2 nr2 => ?_⟩
  have s5 : Same H (upd G4 r2 (.lst (xs1 ++ ys1))) := (s3.trans s4).trans (same_new nr2)
  have e5 : upd G4 r2 (.lst (xs1 ++ ys1)) r2 = some (.lst (xs1 ++ ys1)) := upd_same
  have h5 : DzAll (upd G4 r2 (.lst (xs1 ++ ys1))) (xs1 ++ ys1) (pairsA ++ pairsB ++ pairsC) := (DzAll.mono (s4.trans (same_new nr2)) _ xs1 h3).append (DzAll.mono (same_new nr2) pairsC ys1 hy1)
  have l5 : (xs1 ++ ys1).length ≤ 30 := by rw [h5.len]; decide
  generalize upd G4 r2 (.lst (xs1 ++ ys1)) = G5 at s5 e5 h5 ⊢
  generalize xs1 ++ ys1 = xs2 at e5 h5 l5
  clear h3 hy1 eb1 e3
  show tSeq _ _ _ _ _
  refine ⟨rfl, fun v G6 s6 hv => ?_⟩
  cases hv with
  | @lst a ws _ ea hw =>
  refine ⟨a, rfl, ⟨_, SqL.of ea⟩, for_list (K := K) (a := a) (xs := ws) (fun i σ H' => ∃ (o : Option V) (p : Addr) (xs : List V), σ = [some (.ref p), o] ∧ Same H H' ∧ H' a = some (.lst ws) ∧ DzAll H' ws oddWords ∧ H' p = some (.lst xs) ∧ DzAll H' xs (pairsAt i) ∧ xs.length ≤ 30 + 3 * i)
    ⟨none, r2, xs2, rfl, s5.trans s6, ea, hw, s6 _ _ e5, by rw [show pairsAt 0 = pairsA ++ pairsB ++ pairsC by simp [pairsAt]]; exact DzAll.mono s6 _ _ h5, l5⟩ (fun i σ H' _ ⟨_, _, _, _, _, e, _⟩ => SqL.of e) ?_ ?_⟩
  · rintro i x σ H1 hi ⟨o, p, xs, rfl, sH, ea, hw, ep, hx, hl⟩
    obtain ⟨d, hd, hz⟩ := hw.at_ hi
    have dm : d ∈ oddWords := List.mem_of_getElem? hd
    have i22 : i < 22 := (List.getElem?_eq_some_iff.mp hd).1
    refine ⟨_, rfl, d, "A", rfl, by decide +kernel, hz, words_ok d dm, _, rfl, ?_⟩
    cases hb : PyData.eqv d (.str "A") with
    | true =>
      refine iteF ⟨_, p, xs, rfl, sH, ea, hw, ep, ?_, by omega⟩
      rw [pairsAt_succ hd, show pairsW d = [] from if_pos hb, List.append_nil]
      exact hx
    | false =>
      refine iteT ⟨_, rfl, x, d, rfl, hz, fun u G s hu => ?_⟩
      cases hu with
      | @lst b ys _ eb hy =>
      refine ⟨p, b, xs, ys, rfl, rfl, s _ _ ep, eb, Nat.le_trans (by rw [hy.len]; show _ + 3 ≤ 300; omega) (by decide), fun r nr => ?_⟩
      have sn := s.trans (same_new (o := .lst (xs ++ ys)) nr)
      refine ⟨_, r, xs ++ ys, rfl, sH.trans sn, sn _ _ ea, DzAll.mono sn _ _ hw, upd_same, ?_, by rw [List.length_append, hy.len]; show _ + 3 ≤ _; omega⟩
      rw [pairsAt_succ hd, show pairsW d = _ from if_neg (by rw [hb]; exact Bool.false_ne_true)]
      exact (DzAll.mono sn _ _ hx).append (DzAll.mono (same_new nr) _ _ hy)
  · rintro σ H1 ⟨o, p, xs, rfl, sH, ea, hw, ep, hx, hl⟩
    have wl : ws.length = 22 := hw.len
    rw [wl] at hx
    exact ⟨_, rfl, q _ _ sH (.lst ep hx)⟩
end
end Nv
set_option maxHeartbeats 4000000
namespace Nv
open PySem PySem.Spec PyProof.Rows L2
/-! # What the odd values are: none fits its place, all are told by repr -/
theorem bad_words : oddWords.all (fun d => !nmO (toTv d)) = true := by decide +kernel
theorem bad_pats : oddPatterns.all (fun d => !patB (toTp d)) = true := by decide +kernel
theorem bad_lists : oddLists.all (fun d => !listB patB (toTps d)) = true := by decide +kernel
theorem bad_pairs : oddPairs.all (fun d => !listB prB (toTps d)) = true := by decide +kernel
theorem fit_words : oddWords.all fitD = true := by decide +kernel
theorem fit_pats : oddPatterns.all fitD = true := by decide +kernel
theorem fit_lists : oddLists.all fitD = true := by decide +kernel
theorem fit_pairs : oddPairs.all fitD = true := by decide +kernel
def tellsB (d : PyData) : Bool := d.showable && (decide (d.shown.length ≤ sizeLine) && decide (d.depth ≤ 60))
def tellsOnB (d : PyData) : Bool := tellsB d && match d with
  | .list ds => decide (ds.length ≤ 1000) && tellsB (.list (ds ++ [.str "later"]))
  | _ => true
theorem tells_of {d : PyData} (h : tellsB d = true) : Tells d := by
  simp only [tellsB, Bool.and_eq_true, decide_eq_true_eq] at h
  exact ⟨h.1, h.2.1, h.2.2⟩
theorem tellsOn_of {d : PyData} (h : tellsOnB d = true) : TellsOn d := by
  unfold tellsOnB at h
  simp only [Bool.and_eq_true] at h
  refine ⟨tells_of h.1, fun ds e => ?_⟩
  subst e
  simp only [Bool.and_eq_true, decide_eq_true_eq] at h
  exact ⟨h.2.1, tells_of h.2.2⟩
theorem tell_words : oddWords.all tellsOnB = true := by decide +kernel
theorem tell_pats : oddPatterns.all tellsOnB = true := by decide +kernel
theorem tell_lists : oddLists.all tellsOnB = true := by decide +kernel
theorem tell_pairs : oddPairs.all tellsOnB = true := by decide +kernel
end Nv
set_option maxHeartbeats 4000000
namespace Nv
open PySem PySem.Spec PyProof.Rows L2
/-! # _law_places_right -/
section
variable {P : Program} {w : World} {K : PySem.W.Frag} {mg : Str → Option Value} {base : Heap}
/-- the row us (for Rule: 0, for Question: 1) is refused for v -/
def Chk (K : PySem.W.Frag) (way : Int) (G : Hp) (us : List V) (v : V) : Prop :=
  (way = 0 ∧ ∃ v0 v1 v2 v3 v4, us = [v0, v1, v2, v3, v4] ∧ RuleCh K G v0 v1 v2 v3 v4 (fun u => u = v) fun _ _ _ _ _ => False) ∨
  (way = 1 ∧ ∃ v1 v2 v3, us = [v1, v2, v3] ∧ QCh K G v1 v2 v3 (fun u => u = v) fun _ _ _ _ => False)
theorem Chk.sp {way : Int} {b : Addr} {us : List V} {v : V} {d : PyData} {G : Hp} {Q : VK} {E : XK} (h : Chk K way G us v) (eb : G b = some (.lst us)) (hd : Dz G v d) (tl : TellsOn d) (q : ∀ G2, Same G G2 → Q (.bl true) G2) : spRefused K [.int way, .ref b, v] G Q E := by
  refine ⟨b, v, d, hd, tl, q, ?_⟩
  rcases h with ⟨rfl, v0, v1, v2, v3, v4, rfl, c⟩ | ⟨rfl, v1, v2, v3, rfl, c⟩
  · exact .inl ⟨v0, v1, v2, v3, v4, rfl, eb, c⟩
  · exact .inr ⟨v1, v2, v3, rfl, eb, c⟩
def spPlaces (K : PySem.W.Frag) : Sp := fun vs H Q _ => ∃ (way : Int) (ar ao : Addr) (us : List V) (os : List Addr) (Ds : List (List PyData)), vs = [.int way, .ref ar, .ref ao] ∧ H ar = some (.lst us) ∧ H ao = some (.lst (os.map V.ref)) ∧
  os.length = us.length ∧ us.length ≤ 5 ∧ All2 (fun o D => Dz H (.ref o) (.list D) ∧ D ≠ [] ∧ D.length ≤ 1000 ∧ ∀ d ∈ D, TellsOn d) os Ds ∧
  (∀ (G : Hp) (k : Nat) (D : List PyData) (d : PyData) (v : V) (rest : List V), Same H G → Ds[k]? = some D → d ∈ D → Dz G v d → rest.length = us.length - (k + 1) → Chk K way G (us.take k ++ [v] ++ rest) v) ∧
  ∀ G, Same H G → Q (.bl true) G
theorem scPlaces : FnScope ["_law_way", "_law_row", "_law_odds", "_law_at", "_law_odd", "_law_worse", "_law_spot", "_law_others"] ["_law_way", "_law_row", "_law_odds"] (defScope sPlaces) := ⟨rfl, rfl, rfl, by decide +kernel, rfl, by decide +kernel, by decide +kernel⟩
theorem len_refused : ∀ vs H Q E, spRefused K vs H Q E → vs.length = (["_law_way", "_law_row", "_law_value"] : List Str).length := fun vs H Q E h => by
  obtain ⟨b, v, d, _, _, _, ⟨_, _, _, _, _, rfl, _⟩ | ⟨_, _, _, rfl, _⟩⟩ := h <;> rfl
theorem cut_take {us : List V} {k : Nat} (h : k ≤ us.length) : cutV us none (some (k : Int)) = us.take k := by
  unfold cutV
  rw [HT.sIx_none, HT.sIx_nat, List.drop_zero, Nat.sub_zero, Nat.min_eq_left h]
theorem cut_drop {us : List V} {k : Nat} (h : k ≤ us.length) : cutV us (some (k : Int)) none = us.drop k := by
  unfold cutV
  rw [HT.sIx_none, HT.sIx_nat, Nat.min_eq_left h, List.take_of_length_le (by rw [List.length_drop]; exact Nat.le_refl _)]
theorem ok_places {f fR : Addr} {fd dR : FuncData} (F : Fun K "_law_places_right" "_law_places_right" sPlaces f fd) (B : Bp mg) (rg : mg "range" = none) (en : mg "enumerate" = none)
    (GR : RunG P w K mg base 8 fR dR ["_law_way", "_law_row", "_law_value"] (spRefused K)) (kR : PySem.W.keepIn K (.ref fR) = true) (gR : mg "_law_refused" = some (.ref fR)) (bR : Binds K dR ["_law_way", "_law_row", "_law_value"] []) :
    RunG P w K mg base 9 f fd ["_law_way", "_law_row", "_law_odds"] (spPlaces K) := by
  refine run_ofG (k := 8) F scPlaces (fun vs H Q E h => ?_) (fun cdv A outer s H vs Q hg hr h => ?_)
  · obtain ⟨_, _, _, _, _, _, rfl, _⟩ := h
    rfl
  · obtain ⟨way, ar, ao, us, os, Ds, rfl, er, eo, hlen, hl5, hall, hc, q⟩ := h
    refine ⟨_, pss_cons (ps_for PassesOwn.never rfl (pi_range1 (by rfl) rg (pa_cons (pe_callB call_len_seq (by rfl) B.len PySem.boot_len (pa_cons (pv 1) pa_nil)) pa_nil)) (pg_name (i := 3) scPlaces.nd rfl (Or.inr rfl))
      (pss_one (ps_for PassesOwn.never rfl (pi_list (pe_ix ix_list (pv 2) (pv 3) (fun _ _ => rfl))) (pg_name (i := 4) scPlaces.nd rfl (Or.inl rfl))
        (pss_cons (ps_if (pt_not (pt_val (by exact (pe_callG GR len_refused hg hr (by rfl) gR kR bR (pa_cons (pv 0) (pa_cons (pe_op op_cat (pe_op op_cat (pe_slice sl_list (pv 1) po_none (po_some (pv 3))) (pe_lst (pa_cons (pv 4) pa_nil))) (pe_slice sl_list (pv 1) (po_some (pe_op op_add (pv 3) pe_int)) po_none)) (pa_cons (pv 4) pa_nil))))))) (pss_one (ps_ret pe_bl)) pss_nil)
        (pss_cons (by exact (ps_setLc (i := 5) (own := [("_law_spot", 6), ("_law_others", 7)]) (g := gTup K 2 (gCons (gName 6) (gCons (gName 7) gNil))) (tt := tYes)
            (te := tOp (rIxL K) (tVar 7) (tOp (rI (fun _ j => 0 < j) fun i j => .int (i % j)) (tOp (rI0 fun i j => .int (i + j)) (tVar 3) (tVar 6)) (tCB (fun xs H Q => ∃ p ys, xs = [.ref p] ∧ (SqL K H p ys ∨ SqT K H p ys) ∧ Q (.int ys.length) H) (tCons (tVar 7) tNil)))) rfl scPlaces.nd rfl rfl (sw_true rfl rfl (by rfl) (by decide +kernel))
            (pi_enum (by rfl) en (pa_cons (pe_slice sl_list (pv 2) (po_some (pe_op op_add (pv 3) pe_int)) po_none) pa_nil))
            (blkOk_by (own := [("_law_spot", 6), ("_law_others", 7)]) (N := ["_law_way", "_law_row", "_law_odds", "_law_at", "_law_odd", "_law_worse", "_law_spot", "_law_others"]) (sc := defScope sPlaces) (by decide +kernel))
            (fun _ _ _ _ _ => pg_tup rfl (pgs_cons (pg_name (i := 6) scPlaces.nd rfl (Or.inl rfl)) (pgs_cons (pg_name (i := 7) scPlaces.nd rfl (Or.inl rfl)) pgs_nil))) (fun _ _ _ _ _ => pts_nil)
            (fun _ _ _ _ _ => by exact (pe_ix ix_list (pv 7) (pe_op op_mod (pe_op op_add (pv 3) (pv 6)) (pe_callB call_len_seq (by rfl) B.len PySem.boot_len (pa_cons (pv 7) pa_nil))) (fun _ _ => rfl)))))
        (pss_one (ps_if (pt_not (pt_val (by exact (pe_callG GR len_refused hg hr (by rfl) gR kR bR (pa_cons (pv 0) (pa_cons (pe_op op_cat (pe_op op_cat (pe_slice sl_list (pv 1) po_none (po_some (pv 3))) (pe_lst (pa_cons (pv 4) pa_nil))) (pv 5)) (pa_cons (pv 4) pa_nil))))))) (pss_one (ps_ret pe_bl)) pss_nil)))))))
      (pss_one (ps_ret pe_bl)), ?_⟩
    refine ⟨_, rfl, ar, us, rfl, .inl (SqL.of er), us.length, rfl, by omega, by omega, ?_⟩
    refine for_range (lo := 0) (n := us.length) (fun i σ H' => ∃ o3 o4 o5 : Option V, σ = [some (.int way), some (.ref ar), some (.ref ao), o3, o4, o5, none, none] ∧ Same H H') ⟨none, none, none, rfl, Same.refl H⟩ ?_ ?_
    · rintro k σ H1 hk ⟨o3, o4, o5, rfl, s1⟩
      rw [Int.zero_add]
      obtain ⟨o, ho⟩ : ∃ o, os[k]? = some o := ⟨_, List.getElem?_eq_getElem (by omega)⟩
      obtain ⟨D, hD, hz, hne, hDl, htl⟩ := hall.at_ ho
      cases hz with
      | @lst _ xs _ eo1 hx =>
      refine ⟨_, rfl, _, rfl, ao, os.map V.ref, _, _, rfl, rfl, SqL.of (s1 _ _ eo), atI_nat (by rw [List.getElem?_map, ho] <;> rfl), ?_⟩
      refine ⟨o, rfl, ⟨_, SqL.of (s1 _ _ eo1)⟩, for_list (K := K) (a := o) (xs := xs) (fun j σ H' => ∃ o4 o5 : Option V, σ = [some (.int way), some (.ref ar), some (.ref ao), some (.int (k : Nat)), o4, o5, none, none] ∧ Same H H') ⟨o4, o5, rfl, s1⟩ (fun j σ H' _ ⟨_, _, _, s⟩ => SqL.of (s _ _ eo1)) ?_ ?_⟩
      · rintro j x σ H2 hj ⟨p4, p5, rfl, s2⟩
        obtain ⟨d, hd, hxz⟩ := hx.at_ hj
        have hdm := List.mem_of_getElem? hd
        have ct := cut_take (us := us) (k := k) (by omega)
        have cd : cutV us (some ((k : Int) + 1)) none = us.drop (k + 1) := cut_drop (k := k + 1) (by omega)
        refine ⟨_, rfl, _, rfl, _, rfl, _, rfl, ar, us, rfl, SqL.of (s2 _ _ er), fun p1 n1 => ?_⟩
        rw [ct]
        have u1 : Same H2 (upd H2 p1 (.lst (us.take k))) := same_new n1
        have e1 : upd H2 p1 (.lst (us.take k)) p1 = some (.lst (us.take k)) := upd_same
        generalize upd H2 p1 (.lst (us.take k)) = F1 at u1 e1 ⊢
        refine ⟨_, rfl, by show 1 ≤ sizeLine; decide, fun p2 n2 => ?_⟩
        have u2 : Same F1 (upd F1 p2 (.lst [x])) := same_new n2
        have e2 : upd F1 p2 (.lst [x]) p2 = some (.lst [x]) := upd_same
        generalize upd F1 p2 (.lst [x]) = F2 at u2 e2 ⊢
        have lt : (us.take k).length ≤ 5 := by rw [List.length_take]; omega
        have ld : (us.drop (k + 1)).length ≤ 5 := by rw [List.length_drop]; omega
        refine ⟨p1, p2, us.take k, [x], rfl, rfl, u2 _ _ e1, e2, Nat.le_trans (by show _ + 1 ≤ 20; omega) (by decide), fun p3 n3 => ?_⟩
        have u3 : Same F2 (upd F2 p3 (.lst (us.take k ++ [x]))) := same_new n3
        have e3 : upd F2 p3 (.lst (us.take k ++ [x])) p3 = some (.lst (us.take k ++ [x])) := upd_same
        generalize upd F2 p3 (.lst (us.take k ++ [x])) = F3 at u3 e3 ⊢
        have u13 : Same H F3 := s2.trans (u1.trans (u2.trans u3))
        have lx : (us.take k ++ [x]).length ≤ 6 := by rw [List.length_append, List.length_singleton]; omega
        refine ⟨_, rfl, _, rfl, _, _, rfl, rfl, _, rfl, ar, us, rfl, SqL.of (u13 _ _ er), fun p4 n4 => ?_⟩
        rw [cd]
        have u4 : Same F3 (upd F3 p4 (.lst (us.drop (k + 1)))) := same_new n4
        have e4 : upd F3 p4 (.lst (us.drop (k + 1))) p4 = some (.lst (us.drop (k + 1))) := upd_same
        generalize upd F3 p4 (.lst (us.drop (k + 1))) = F4 at u4 e4 ⊢
        refine ⟨p3, p4, us.take k ++ [x], us.drop (k + 1), rfl, rfl, u4 _ _ e3, e4, Nat.le_trans (by omega : _ ≤ 20) (by decide), fun p5 n5 => ?_⟩
        have u5 : Same H (upd F4 p5 (.lst (us.take k ++ [x] ++ us.drop (k + 1)))) := (u13.trans u4).trans (same_new n5)
        have e5 : upd F4 p5 (.lst (us.take k ++ [x] ++ us.drop (k + 1))) p5 = some (.lst (us.take k ++ [x] ++ us.drop (k + 1))) := upd_same
        generalize upd F4 p5 (.lst (us.take k ++ [x] ++ us.drop (k + 1))) = F5 at u5 e5 ⊢
        refine ⟨_, rfl, ?_⟩
        dsimp only [tNil, tCons]
        refine Chk.sp (E := E0) (hc F5 k D d x (us.drop (k + 1)) u5 hD hdm (Dz.mono u5 d x hxz) (by rw [List.length_drop])) e5 (Dz.mono u5 d x hxz) (htl d hdm) fun G sG => ⟨_, rfl, iteF ?_⟩
        have s3 : Same H G := u5.trans sG
        clear u1 u2 u3 u4 u5 u13 e1 e2 e3 e4 e5 sG n1 n2 n3 n4 n5 s2
        show tSeq _ _ _ _ _
        refine ⟨_, rfl, _, rfl, _, _, rfl, rfl, _, rfl, ao, os.map V.ref, rfl, SqL.of (s3 _ _ eo), fun p6 n6 => ?_⟩
        have co : cutV (os.map V.ref) (some ((k : Int) + 1)) none = (os.map V.ref).drop (k + 1) := cut_drop (k := k + 1) (by rw [List.length_map]; omega)
        rw [co]
        have u6 : Same H (upd G p6 (.lst ((os.map V.ref).drop (k + 1)))) := s3.trans (same_new n6)
        have e6 : upd G p6 (.lst ((os.map V.ref).drop (k + 1))) p6 = some (.lst ((os.map V.ref).drop (k + 1))) := upd_same
        generalize upd G p6 (.lst ((os.map V.ref).drop (k + 1))) = F6 at u6 e6 ⊢
        refine ⟨p6, _, rfl, SqL.of e6, fun DD nD => ?_⟩
        refine lc_it (walk_enum (K := K) (a := p6) (xs := (os.map V.ref).drop (k + 1))) (fun i H' => Same F6 H' ∧ ∃ acc : List V, H' DD = some (.lst acc) ∧ acc.length = i) ⟨same_new nD, [], upd_same, rfl⟩ (fun i H' _ z => SqL.of (z.1 _ _ e6)) ?_ ?_
        · rintro i y G1 G2 hi ⟨t1, acc, ea, hal⟩ ⟨T, y1, y2, rfl, nT, rfl, q1, q2⟩
          obtain rfl : V.int (i : Nat) = y1 := Option.some.inj q1
          have t2 : Same F6 (upd G1 T (.tup [.int (i : Nat), y2])) := t1.trans (same_new nT)
          have eD : upd G1 T (.tup [.int (i : Nat), y2]) DD = some (.lst acc) := same_new nT _ _ ea
          have eT : upd G1 T (.tup [.int (i : Nat), y2]) T = some (.tup [.int (i : Nat), y2]) := upd_same
          generalize upd G1 T (.tup [.int (i : Nat), y2]) = G3 at t2 eD eT ⊢
          obtain ⟨oo, hoo, rfl⟩ : ∃ oo, os[k + 1 + i]? = some oo ∧ y2 = V.ref oo := by
            replace q2 : ((os.map V.ref).drop (k + 1))[i]? = some y2 := q2
            rw [List.getElem?_drop, List.getElem?_map] at q2
            cases g : os[k + 1 + i]? with
            | none => rw [g] at q2; cases q2
            | some oo => rw [g] at q2; exact ⟨oo, rfl, (Option.some.inj q2).symm⟩
          obtain ⟨E2, hE2, hz2, hne2, hl2, _⟩ := hall.at_ hoo
          cases hz2 with
          | @lst _ ys _ eoo hy =>
          have e8 := t2 _ _ (u6 _ _ eoo)
          have yl : 0 < ys.length := by
            rw [hy.len]
            exact List.length_pos_iff.mpr hne2
          have il : i < 5 := by
            rw [List.length_drop, List.length_map] at hi
            omega
          have hm : ((k : Int) + (i : Int)) % (ys.length : Int) = (((k + i) % ys.length : Nat) : Int) := by simp
          obtain ⟨yv, hyv⟩ : ∃ yv, ys[(k + i) % ys.length]? = some yv := ⟨_, List.getElem?_eq_getElem (Nat.mod_lt _ yl)⟩
          refine ⟨T, _, rfl, SqT.of eT, rfl, _, _, rfl, _, _, rfl, rfl, rfl, ?_⟩
          dsimp only [tYes]
          rw [if_pos rfl]
          refine ⟨_, rfl, _, rfl, _, rfl, _, _, rfl, rfl, _, rfl, oo, ys, rfl, .inl (SqL.of e8), _, _, rfl, rfl, by omega, oo, ys, _, yv, rfl, rfl, SqL.of e8, by rw [hm]; exact atI_nat hyv, acc, eD, Nat.lt_of_le_of_lt (by omega : _ ≤ 5) (by decide), same_put t2 nD, acc ++ [yv], upd_same, by rw [List.length_append, List.length_singleton, hal]⟩
        · rintro G1 ⟨t1, acc, ea, hal⟩
          have s4 : Same H G1 := u6.trans t1
          refine ⟨_, rfl, _, rfl, _, rfl, _, rfl, ar, us, rfl, SqL.of (s4 _ _ er), fun p1 n1 => ?_⟩
          rw [ct]
          have u1 : Same G1 (upd G1 p1 (.lst (us.take k))) := same_new n1
          have e1 : upd G1 p1 (.lst (us.take k)) p1 = some (.lst (us.take k)) := upd_same
          generalize upd G1 p1 (.lst (us.take k)) = F1 at u1 e1 ⊢
          refine ⟨_, rfl, by show 1 ≤ sizeLine; decide, fun p2 n2 => ?_⟩
          have u2 : Same F1 (upd F1 p2 (.lst [x])) := same_new n2
          have e2 : upd F1 p2 (.lst [x]) p2 = some (.lst [x]) := upd_same
          generalize upd F1 p2 (.lst [x]) = F2 at u2 e2 ⊢
          have lt : (us.take k).length ≤ 5 := by rw [List.length_take]; omega
          have ld : (us.drop (k + 1)).length ≤ 5 := by rw [List.length_drop]; omega
          refine ⟨p1, p2, us.take k, [x], rfl, rfl, u2 _ _ e1, e2, Nat.le_trans (by show _ + 1 ≤ 20; omega) (by decide), fun p3 n3 => ?_⟩
          have u3 : Same F2 (upd F2 p3 (.lst (us.take k ++ [x]))) := same_new n3
          have e3 : upd F2 p3 (.lst (us.take k ++ [x])) p3 = some (.lst (us.take k ++ [x])) := upd_same
          generalize upd F2 p3 (.lst (us.take k ++ [x])) = F3 at u3 e3 ⊢
          have u13 : Same H F3 := s4.trans (u1.trans (u2.trans u3))
          have lx : (us.take k ++ [x]).length ≤ 6 := by rw [List.length_append, List.length_singleton]; omega
          have ea3 := u3 _ _ (u2 _ _ (u1 _ _ ea))
          have al : acc.length = us.length - (k + 1) := by rw [hal, List.length_drop, List.length_map, hlen]
          refine ⟨_, rfl, p3, DD, us.take k ++ [x], acc, rfl, rfl, e3, ea3, Nat.le_trans (by omega : _ ≤ 20) (by decide), fun p5 n5 => ?_⟩
          have u5 : Same H (upd F3 p5 (.lst (us.take k ++ [x] ++ acc))) := u13.trans (same_new n5)
          have e5 : upd F3 p5 (.lst (us.take k ++ [x] ++ acc)) p5 = some (.lst (us.take k ++ [x] ++ acc)) := upd_same
          generalize upd F3 p5 (.lst (us.take k ++ [x] ++ acc)) = F5 at u5 e5 ⊢
          refine ⟨_, rfl, ?_⟩
          dsimp only [tNil, tCons]
          refine Chk.sp (E := E0) (hc F5 k D d x acc u5 hD hdm (Dz.mono u5 d x hxz) al) e5 (Dz.mono u5 d x hxz) (htl d hdm) fun G sG => ⟨_, rfl, iteF ?_⟩
          exact ⟨_, _, rfl, u5.trans sG⟩
      · rintro σ H2 ⟨p4, p5, rfl, s2⟩
        exact ⟨_, _, _, rfl, s2⟩
    · rintro σ H1 ⟨o3, o4, o5, rfl, s1⟩
      exact q H1 s1
end
end Nv
set_option maxHeartbeats 4000000
namespace Nv
open PySem PySem.Spec PyProof.Rows L2
/-! # A good row with one odd value is refused for it, whatever stands behind -/
section
variable {K : PySem.W.Frag} {H : Hp}
theorem all_not {p : PyData → Bool} {ds : List PyData} (h : ds.all (fun d => !p d) = true) {d : PyData} (hd : d ∈ ds) : p d = false := by
  have := List.all_eq_true.mp h d hd
  simpa using this
theorem all_yes2 {p : PyData → Bool} {ds : List PyData} (h : ds.all p = true) {d : PyData} (hd : d ∈ ds) : p d = true := List.all_eq_true.mp h d hd
theorem ifP {c : Prop} [Decidable c] {A B : Prop} (hc : c) (a : A) : if c then A else B := by rw [if_pos hc]; exact a
theorem ifN {c : Prop} [Decidable c] {A B : Prop} (hc : ¬ c) (b : B) : if c then A else B := by rw [if_neg hc]; exact b
theorem tt_ne {b : Bool} (h : b = true) : ¬ b = false := by rw [h]; exact fun z => nomatch z
/-- the row of a good rule -/
structure Good (H : Hp) (v0 v1 v2 v3 v4 : V) (l : Str) (th tt : Addr) (h : List Str) (us : List V) (ps qs ds : List (List Str)) : Prop where
  e0 : v0 = .str l
  e1 : v1 = .ref th
  e2 : v2 = .ref tt
  hl : IsNm l
  eh : H th = some (.tup (h.map V.str))
  hh : PatOk h
  et : H tt = some (.lst us)
  hp : PaL H us ps
  hok : ∀ x ∈ ps, PatOk x
  hpl : ps.length ≤ 300
  oq : Opt H v3 qs
  hq : ∀ x ∈ qs, PairOk x
  od : Opt H v4 ds
  hd : ∀ x ∈ ds, PatOk x
theorem Good.same {G : Hp} {v0 v1 v2 v3 v4 : V} {l : Str} {th tt : Addr} {h : List Str} {us : List V} {ps qs ds : List (List Str)} (g : Good H v0 v1 v2 v3 v4 l th tt h us ps qs ds) (s : Same H G) : Good G v0 v1 v2 v3 v4 l th tt h us ps qs ds :=
  ⟨g.e0, g.e1, g.e2, g.hl, s _ _ g.eh, g.hh, s _ _ g.et, g.hp.same s, g.hok, g.hpl, g.oq.same s, g.hq, g.od.same s, g.hd⟩
section
variable {v0 v1 v2 v3 v4 : V} {l : Str} {th tt : Addr} {h : List Str} {us : List V} {ps qs ds : List (List Str)} {Rz : V → Prop} {Gd : GdR} {w1 w2 w3 w4 : V} {d : PyData} {v : V}
theorem Good.t0 (g : Good H v0 v1 v2 v3 v4 l th tt h us ps qs ds) : ∃ o, Tv K H v0 o ∧ ¬ nmO o = false := ⟨some l, ⟨g.e0, Nat.le_trans (by have := g.hl.2.1; omega) big1000⟩, tt_ne (by simp [nmO, g.hl])⟩
theorem Good.t1 (g : Good H v0 v1 v2 v3 v4 l th tt h us ps qs ds) : ∃ o, Tp K H v1 o ∧ ¬ patB o = false := ⟨_, by rw [g.e1]; exact tp_strs g.eh g.hh.small.2 g.hh.small.1, tt_ne g.hh.yes⟩
theorem Good.t2 (g : Good H v0 v1 v2 v3 v4 l th tt h us ps qs ds) : ∃ o, Tps K H v2 o ∧ ¬ listB patB o = false :=
  ⟨some (ps.map fun q => some (q.map some)), ⟨tt, us, g.e2, g.et, g.hp.tps fun p hpp => (g.hok p hpp).small, by rw [List.length_map]; have := g.hpl; omega⟩, tt_ne (all_yes fun x hx => (g.hok x hx).yes)⟩
theorem Good.t3 (g : Good H v0 v1 v2 v3 v4 l th tt h us ps qs ds) : ∃ b, OptX K H v3 prB b ∧ ¬ b = false := ⟨true, g.oq.x (fun x hx => (g.hq x hx).small) (fun x hx => (g.hq x hx).yes), fun z => nomatch z⟩
theorem Good.t4 (g : Good H v0 v1 v2 v3 v4 l th tt h us ps qs ds) : ∃ b, OptX K H v4 patB b ∧ ¬ b = false := ⟨true, g.od.x (fun x hx => (g.hd x hx).small) (fun x hx => (g.hd x hx).yes), fun z => nomatch z⟩
theorem bad0 (hz : Dz H v d) (hd : d ∈ oddWords) (r : Rz v) : RuleCh K H v w1 w2 w3 w4 Rz Gd := ⟨_, hz.tv (all_yes2 fit_words hd), ifP (all_not bad_words hd) r⟩
theorem bad1 (g : Good H v0 v1 v2 v3 v4 l th tt h us ps qs ds) (hz : Dz H v d) (hd : d ∈ oddPatterns) (r : Rz v) : RuleCh K H v0 v w2 w3 w4 Rz Gd := by
  obtain ⟨o0, t0, n0⟩ := g.t0 (K := K)
  exact ⟨o0, t0, ifN n0 ⟨_, hz.tp (all_yes2 fit_pats hd), ifP (all_not bad_pats hd) r⟩⟩
theorem bad2 (g : Good H v0 v1 v2 v3 v4 l th tt h us ps qs ds) (hz : Dz H v d) (hd : d ∈ oddLists ++ [.none]) (r : Rz v) : RuleCh K H v0 v1 v w3 w4 Rz Gd := by
  obtain ⟨o0, t0, n0⟩ := g.t0 (K := K)
  obtain ⟨o1, t1, n1⟩ := g.t1 (K := K)
  have hb : fitD d = true ∧ listB patB (toTps d) = false := by
    rcases List.mem_append.mp hd with hd | hd
    · exact ⟨all_yes2 fit_lists hd, all_not bad_lists hd⟩
    · rw [List.mem_singleton.mp hd]
      exact ⟨by decide +kernel, by decide +kernel⟩
  exact ⟨o0, t0, ifN n0 ⟨o1, t1, ifN n1 ⟨_, hz.tps hb.1, ifP hb.2 r⟩⟩⟩
theorem no_none {ds : List PyData} (h : ds.all (fun d => !(match d with | .none => true | _ => false)) = true) {d : PyData} (hd : d ∈ ds) : d ≠ .none := fun z => by
  have := List.all_eq_true.mp h d hd
  rw [z] at this
  cases this
theorem none_lists : oddLists.all (fun d => !(match d with | .none => true | _ => false)) = true := by decide +kernel
theorem none_pairs : oddPairs.all (fun d => !(match d with | .none => true | _ => false)) = true := by decide +kernel
theorem Dz.notNon (hz : Dz H v d) (h : d ≠ .none) : v ≠ .non := fun z => by
  subst z
  cases hz
  exact h rfl
theorem bad3 (g : Good H v0 v1 v2 v3 v4 l th tt h us ps qs ds) (hz : Dz H v d) (hd : d ∈ oddPairs) (r : Rz v) : RuleCh K H v0 v1 v2 v w4 Rz Gd := by
  obtain ⟨o0, t0, n0⟩ := g.t0 (K := K)
  obtain ⟨o1, t1, n1⟩ := g.t1 (K := K)
  obtain ⟨o2, t2, n2⟩ := g.t2 (K := K)
  exact ⟨o0, t0, ifN n0 ⟨o1, t1, ifN n1 ⟨o2, t2, ifN n2 ⟨_, .inr ⟨_, hz.notNon (no_none none_pairs hd), hz.tps (all_yes2 fit_pairs hd), rfl⟩, ifP (all_not bad_pairs hd) r⟩⟩⟩⟩
theorem bad4 (g : Good H v0 v1 v2 v3 v4 l th tt h us ps qs ds) (hz : Dz H v d) (hd : d ∈ oddLists) (r : Rz v) : RuleCh K H v0 v1 v2 v3 v Rz Gd := by
  obtain ⟨o0, t0, n0⟩ := g.t0 (K := K)
  obtain ⟨o1, t1, n1⟩ := g.t1 (K := K)
  obtain ⟨o2, t2, n2⟩ := g.t2 (K := K)
  obtain ⟨b3, t3, n3⟩ := g.t3 (K := K)
  exact ⟨o0, t0, ifN n0 ⟨o1, t1, ifN n1 ⟨o2, t2, ifN n2 ⟨b3, t3, ifN n3 ⟨_, .inr ⟨_, hz.notNon (no_none none_lists hd), hz.tps (all_yes2 fit_lists hd), rfl⟩, ifP (all_not bad_lists hd) r⟩⟩⟩⟩⟩
def oddRule : List (List PyData) := [oddWords, oddPatterns, oddLists ++ [.none], oddPairs, oddLists]
/-- the condition of _law_places_right for the row of a good rule -/
theorem Good.places (g : Good H v0 v1 v2 v3 v4 l th tt h us ps qs ds) : ∀ (G : Hp) (k : Nat) (D : List PyData) (d : PyData) (v : V) (rest : List V), Same H G → oddRule[k]? = some D → d ∈ D → Dz G v d → rest.length = [v0, v1, v2, v3, v4].length - (k + 1) →
    Chk K 0 G ([v0, v1, v2, v3, v4].take k ++ [v] ++ rest) v := by
  intro G k D d v rest s hk hd hz hr
  have g2 := g.same s
  refine .inl ⟨rfl, ?_⟩
  match k, hk, hr with
  | 0, hk, hr =>
    cases hk
    match rest, hr with
    | [a, b, c, e], _ => exact ⟨v, a, b, c, e, rfl, bad0 hz hd rfl⟩
  | 1, hk, hr =>
    cases hk
    match rest, hr with
    | [b, c, e], _ => exact ⟨v0, v, b, c, e, rfl, bad1 g2 hz hd rfl⟩
  | 2, hk, hr =>
    cases hk
    match rest, hr with
    | [c, e], _ => exact ⟨v0, v1, v, c, e, rfl, bad2 g2 hz hd rfl⟩
  | 3, hk, hr =>
    cases hk
    match rest, hr with
    | [e], _ => exact ⟨v0, v1, v2, v, e, rfl, bad3 g2 hz hd rfl⟩
  | 4, hk, hr =>
    cases hk
    match rest, hr with
    | [], _ => exact ⟨v0, v1, v2, v3, v, rfl, bad4 g2 hz hd rfl⟩
  | k + 5, hk, hr => cases hk
end
end
end Nv
set_option maxHeartbeats 4000000
namespace Nv
open PySem PySem.Spec PyProof.Rows L2
/-! # the same for a question's row; what lists the two calls of _law_places_right are given -/
def oddColumns : List PyData := [.int 0, .none, .bool true, .str "X", .tuple [], .dict [], .tuple [.str "X"], .list [.str "a"], .list [.str ""], .list [.str "X", .none], .list [.list [.str "X"]], .list [.str "XYZW"], .list [.int 1]]
theorem bad_columns : oddColumns.all (fun d => !colB (toTl d)) = true := by decide +kernel
theorem fit_columns : oddColumns.all fitD = true := by decide +kernel
theorem tell_columns : oddColumns.all tellsOnB = true := by decide +kernel
def oddQuestion : List (List PyData) := [oddColumns, oddLists ++ [.none], oddPairs]
section
variable {K : PySem.W.Frag} {H : Hp} {v1 v2 v3 v : V} {tc tt : Addr} {cs : List Str} {us : List V} {ps qs : List (List Str)} {Rz : V → Prop} {Gd : GdQ} {w2 w3 : V} {d : PyData}
structure GoodQ (H : Hp) (v1 v2 v3 : V) (tc tt : Addr) (cs : List Str) (us : List V) (ps qs : List (List Str)) : Prop where
  e1 : v1 = .ref tc
  e2 : v2 = .ref tt
  ec : H tc = some (.lst (cs.map V.str))
  hc : ∀ x ∈ cs, IsVr x
  hcl : cs.length ≤ 300
  et : H tt = some (.lst us)
  hp : PaL H us ps
  hok : ∀ x ∈ ps, PatOk x
  hpl : ps.length ≤ 300
  oq : Opt H v3 qs
  hq : ∀ x ∈ qs, PairOk x
theorem GoodQ.same {G : Hp} (g : GoodQ H v1 v2 v3 tc tt cs us ps qs) (s : Same H G) : GoodQ G v1 v2 v3 tc tt cs us ps qs :=
  ⟨g.e1, g.e2, s _ _ g.ec, g.hc, g.hcl, s _ _ g.et, g.hp.same s, g.hok, g.hpl, g.oq.same s, g.hq⟩
theorem GoodQ.t1 (g : GoodQ H v1 v2 v3 tc tt cs us ps qs) : ∃ o, Tl K H v1 o ∧ ¬ colB o = false := by
  refine ⟨some (cs.map some), by rw [g.e1]; exact tl_strs g.ec (fun x hx => by have := (g.hc x hx).2.1; omega) (by have := g.hcl; omega), tt_ne ?_⟩
  show (cs.map some).all vrO = true
  rw [List.all_eq_true]
  intro o ho
  obtain ⟨z, hz, rfl⟩ := List.mem_map.mp ho
  simp [vrO, g.hc z hz]
theorem GoodQ.t2 (g : GoodQ H v1 v2 v3 tc tt cs us ps qs) : ∃ o, Tps K H v2 o ∧ ¬ listB patB o = false :=
  ⟨some (ps.map fun q => some (q.map some)), ⟨tt, us, g.e2, g.et, g.hp.tps fun p hpp => (g.hok p hpp).small, by rw [List.length_map]; have := g.hpl; omega⟩, tt_ne (all_yes fun x hx => (g.hok x hx).yes)⟩
theorem badQ1 (hz : Dz H v d) (hd : d ∈ oddColumns) (r : Rz v) : QCh K H v w2 w3 Rz Gd := ⟨_, hz.tl (all_yes2 fit_columns hd), ifP (all_not bad_columns hd) r⟩
theorem badQ2 (g : GoodQ H v1 v2 v3 tc tt cs us ps qs) (hz : Dz H v d) (hd : d ∈ oddLists ++ [.none]) (r : Rz v) : QCh K H v1 v w3 Rz Gd := by
  obtain ⟨o1, t1, n1⟩ := g.t1 (K := K)
  have hb : fitD d = true ∧ listB patB (toTps d) = false := by
    rcases List.mem_append.mp hd with hd | hd
    · exact ⟨all_yes2 fit_lists hd, all_not bad_lists hd⟩
    · rw [List.mem_singleton.mp hd]
      exact ⟨by decide +kernel, by decide +kernel⟩
  exact ⟨o1, t1, ifN n1 ⟨_, hz.tps hb.1, ifP hb.2 r⟩⟩
theorem badQ3 (g : GoodQ H v1 v2 v3 tc tt cs us ps qs) (hz : Dz H v d) (hd : d ∈ oddPairs) (r : Rz v) : QCh K H v1 v2 v Rz Gd := by
  obtain ⟨o1, t1, n1⟩ := g.t1 (K := K)
  obtain ⟨o2, t2, n2⟩ := g.t2 (K := K)
  exact ⟨o1, t1, ifN n1 ⟨o2, t2, ifN n2 ⟨_, .inr ⟨_, hz.notNon (no_none none_pairs hd), hz.tps (all_yes2 fit_pairs hd), rfl⟩, ifP (all_not bad_pairs hd) r⟩⟩⟩
theorem GoodQ.places (g : GoodQ H v1 v2 v3 tc tt cs us ps qs) : ∀ (G : Hp) (k : Nat) (D : List PyData) (d : PyData) (v : V) (rest : List V), Same H G → oddQuestion[k]? = some D → d ∈ D → Dz G v d → rest.length = [v1, v2, v3].length - (k + 1) →
    Chk K 1 G ([v1, v2, v3].take k ++ [v] ++ rest) v := by
  intro G k D d v rest s hk hd hz hr
  have g2 := g.same s
  refine .inr ⟨rfl, ?_⟩
  match k, hk, hr with
  | 0, hk, hr =>
    cases hk
    match rest, hr with
    | [a, b], _ => exact ⟨v, a, b, rfl, badQ1 hz hd rfl⟩
  | 1, hk, hr =>
    cases hk
    match rest, hr with
    | [b], _ => exact ⟨v1, v, b, rfl, badQ2 g2 hz hd rfl⟩
  | 2, hk, hr =>
    cases hk
    match rest, hr with
    | [], _ => exact ⟨v1, v2, v, rfl, badQ3 g2 hz hd rfl⟩
  | k + 3, hk, hr => cases hk
end
/-- no list is empty or long, each value is told by repr -/
theorem rule_lists : ∀ D ∈ oddRule, D ≠ [] ∧ D.length ≤ 1000 ∧ ∀ d ∈ D, TellsOn d := by
  have all : ∀ {D : List PyData}, D.all tellsOnB = true → ∀ d ∈ D, TellsOn d := fun h d hd => tellsOn_of (all_yes2 h hd)
  have tn : (oddLists ++ [PyData.none]).all tellsOnB = true := by rw [List.all_append, tell_lists]; decide +kernel
  intro D hD
  simp only [oddRule, List.mem_cons, List.not_mem_nil, or_false] at hD
  rcases hD with rfl | rfl | rfl | rfl | rfl
  · exact ⟨fun z => (by cases z), by decide +kernel, all tell_words⟩
  · exact ⟨fun z => (by have := congrArg List.length z; revert this; decide +kernel), by decide +kernel, all tell_pats⟩
  · exact ⟨fun z => (by have := congrArg List.length z; revert this; decide +kernel), by decide +kernel, all tn⟩
  · exact ⟨fun z => (by have := congrArg List.length z; revert this; decide +kernel), by decide +kernel, all tell_pairs⟩
  · exact ⟨fun z => (by have := congrArg List.length z; revert this; decide +kernel), by decide +kernel, all tell_lists⟩
theorem question_lists : ∀ D ∈ oddQuestion, D ≠ [] ∧ D.length ≤ 1000 ∧ ∀ d ∈ D, TellsOn d := by
  have all : ∀ {D : List PyData}, D.all tellsOnB = true → ∀ d ∈ D, TellsOn d := fun h d hd => tellsOn_of (all_yes2 h hd)
  have tn : (oddLists ++ [PyData.none]).all tellsOnB = true := by rw [List.all_append, tell_lists]; decide +kernel
  intro D hD
  simp only [oddQuestion, List.mem_cons, List.not_mem_nil, or_false] at hD
  rcases hD with rfl | rfl | rfl
  · exact ⟨fun z => (by cases z), by decide +kernel, all tell_columns⟩
  · exact ⟨fun z => (by have := congrArg List.length z; revert this; decide +kernel), by decide +kernel, all tn⟩
  · exact ⟨fun z => (by have := congrArg List.length z; revert this; decide +kernel), by decide +kernel, all tell_pairs⟩
end Nv
set_option maxHeartbeats 4000000
namespace Nv
open PySem PySem.Spec PyProof.Rows L2
/-! # rows with variables that stand in no told pattern -/
section
variable {K : PySem.W.Frag} {H G : Hp}
theorem dz_strs : ∀ xs : List Str, DzAll H (xs.map V.str) (xs.map PyData.str)
  | [] => .nil
  | x :: xs => .cons (.str x) (dz_strs xs)
theorem dz_T {t : Addr} {p : List Str} (e : H t = some (.tup (p.map V.str))) : Dz H (.ref t) (dT p) := .tup e (dz_strs p)
theorem dz_S {t : Addr} {p : List Str} (e : H t = some (.lst (p.map V.str))) : Dz H (.ref t) (dS p) := .lst e (dz_strs p)
theorem PaL.dz {vs : List V} {ps : List (List Str)} (h : PaL H vs ps) : DzAll H vs (ps.map dT) := by
  induction h with
  | nil => exact .nil
  | cons e _ ih => exact .cons (dz_T e) ih
theorem dz_L {t : Addr} {vs : List V} {ps : List (List Str)} (e : H t = some (.lst vs)) (h : PaL H vs ps) : Dz H (.ref t) (dL ps) := .lst e h.dz
theorem PaL.rev {vs : List V} {ps : List (List Str)} (h : PaL H vs ps) : PaL H vs.reverse ps.reverse := by
  induction h with
  | nil => exact .nil
  | cons e _ ih =>
    rw [List.reverse_cons, List.reverse_cons]
    exact ih.app (.cons e .nil)
theorem PaL.putl2 {o : Addr} {vs os os' : List V} {ps : List (List Str)} (h : PaL H vs ps) (e : H o = some (.lst os)) : PaL (upd H o (.lst os')) vs ps := by
  induction h with
  | nil => exact .nil
  | cons e1 _ ih =>
    refine .cons ?_ ih
    rw [upd_ne (fun z => by rw [z, e] at e1; cases e1)]
    exact e1
theorem hm_false {ts : List Str} {ps : List (List Str)} (h : ∀ y ∈ ts, IsVr y → y ∈ tails ps) : hasMore ts ps = false := by
  unfold hasMore
  rw [List.any_eq_false]
  intro y hy
  obtain ⟨h1, h2⟩ := varsIn_mem.mp hy
  rw [decide_eq_true (varsIn_mem.mpr ⟨h y h1 h2, h2⟩)]
  exact fun z => nomatch z
theorem hm_true {ts : List Str} {ps : List (List Str)} {y : Str} (hy : y ∈ ts) (hv : IsVr y) (hn : y ∉ tails ps) : hasMore ts ps = true := by
  unfold hasMore
  rw [List.any_eq_true]
  exact ⟨y, varsIn_mem.mpr ⟨hy, hv⟩, by rw [decide_eq_false fun z => hn (varsIn_mem.mp z).1] <;> rfl⟩
theorem qqq_vr : IsVr "QQQ" := by decide +kernel
theorem qqq_no {ps : List (List Str)} (h : ∀ p ∈ ps, Few p) : ("QQQ" : Str) ∉ tails ps := fun z => by
  obtain ⟨l, hl, hz⟩ := List.mem_flatten.mp z
  obtain ⟨p, hp, rfl⟩ := List.mem_map.mp hl
  exact absurd (h p hp _ hz qqq_vr) (by decide +kernel)
theorem RuleCh.mono {v0 v1 v2 v3 v4 : V} {Rz : V → Prop} {Gd : GdR} (h : RuleCh K H v0 v1 v2 v3 v4 Rz Gd) (s : Same H G) : RuleCh K G v0 v1 v2 v3 v4 Rz Gd := h.to s (fun _ z => z) fun _ _ _ _ _ z => z
theorem QCh.mono {v1 v2 v3 : V} {Rz : V → Prop} {Gd : GdQ} (h : QCh K H v1 v2 v3 Rz Gd) (s : Same H G) : QCh K G v1 v2 v3 Rz Gd := h.to s (fun _ z => z) fun _ _ _ _ z => z
theorem Chk.mono {way : Int} {us : List V} {v : V} (h : Chk K way H us v) (s : Same H G) : Chk K way G us v := by
  rcases h with ⟨e, v0, v1, v2, v3, v4, e2, c⟩ | ⟨e, v1, v2, v3, e2, c⟩
  · exact .inl ⟨e, v0, v1, v2, v3, v4, e2, c.mono s⟩
  · exact .inr ⟨e, v1, v2, v3, e2, c.mono s⟩
section
variable {v0 v1 v2 v3 v4 : V} {l : Str} {th tt : Addr} {h : List Str} {us : List V} {ps qs ds : List (List Str)} {Rz : V → Prop} {Gd : GdR} {w3 w4 : V} {d : PyData}
theorem Good.ch (g : Good H v0 v1 v2 v3 v4 l th tt h us ps qs ds) (q : if hasMore h.tail ps = true then Rz v1 else if hasMore qs.flatten ps = true then Rz v3 else if hasMore (tails ds) ps = true then Rz v4 else Gd l th us qs ds) : RuleCh K H v0 v1 v2 v3 v4 Rz Gd := by
  obtain ⟨o0, t0, n0⟩ := g.t0 (K := K)
  obtain ⟨o1, t1, n1⟩ := g.t1 (K := K)
  obtain ⟨o2, t2, n2⟩ := g.t2 (K := K)
  obtain ⟨b3, t3, n3⟩ := g.t3 (K := K)
  obtain ⟨b4, t4, n4⟩ := g.t4 (K := K)
  exact ⟨o0, t0, ifN n0 ⟨o1, t1, ifN n1 ⟨o2, t2, ifN n2 ⟨b3, t3, ifN n3 ⟨b4, t4, ifN n4 ⟨l, th, tt, h, us, ps, qs, ds, g.e0, g.e1, g.e2, ⟨g.eh, g.hh⟩, ⟨g.et, g.hp, g.hok, g.hpl⟩, ⟨g.oq, g.hq⟩, ⟨g.od, g.hd⟩, q⟩⟩⟩⟩⟩⟩
theorem Good.no3 (g : Good H v0 v1 v2 v3 v4 l th tt h us ps qs ds) (hz : Dz H w3 d) (hn : d ≠ .none) (hf : fitD d = true) (hb : listB prB (toTps d) = false) (r : Rz w3) : RuleCh K H v0 v1 v2 w3 w4 Rz Gd := by
  obtain ⟨o0, t0, n0⟩ := g.t0 (K := K)
  obtain ⟨o1, t1, n1⟩ := g.t1 (K := K)
  obtain ⟨o2, t2, n2⟩ := g.t2 (K := K)
  exact ⟨o0, t0, ifN n0 ⟨o1, t1, ifN n1 ⟨o2, t2, ifN n2 ⟨_, .inr ⟨_, hz.notNon hn, hz.tps hf, rfl⟩, ifP hb r⟩⟩⟩⟩
theorem Good.no4 (g : Good H v0 v1 v2 v3 v4 l th tt h us ps qs ds) (hz : Dz H w4 d) (hn : d ≠ .none) (hf : fitD d = true) (hb : listB patB (toTps d) = false) (r : Rz w4) : RuleCh K H v0 v1 v2 v3 w4 Rz Gd := by
  obtain ⟨o0, t0, n0⟩ := g.t0 (K := K)
  obtain ⟨o1, t1, n1⟩ := g.t1 (K := K)
  obtain ⟨o2, t2, n2⟩ := g.t2 (K := K)
  obtain ⟨b3, t3, n3⟩ := g.t3 (K := K)
  exact ⟨o0, t0, ifN n0 ⟨o1, t1, ifN n1 ⟨o2, t2, ifN n2 ⟨b3, t3, ifN n3 ⟨_, .inr ⟨_, hz.notNon hn, hz.tps hf, rfl⟩, ifP hb r⟩⟩⟩⟩⟩
end
section
variable {v1 v2 v3 : V} {tc tt : Addr} {cs : List Str} {us : List V} {ps qs : List (List Str)} {Rz : V → Prop} {Gd : GdQ} {w3 : V} {d : PyData}
theorem GoodQ.ch (g : GoodQ H v1 v2 v3 tc tt cs us ps qs) (q : if hasMore cs ps = true then Rz v1 else if hasMore qs.flatten ps = true then Rz v3 else Gd cs us ps qs) : QCh K H v1 v2 v3 Rz Gd := by
  obtain ⟨o1, t1, n1⟩ := g.t1 (K := K)
  obtain ⟨o2, t2, n2⟩ := g.t2 (K := K)
  exact ⟨o1, t1, ifN n1 ⟨o2, t2, ifN n2 ⟨true, g.oq.x (fun x hx => (g.hq x hx).small) (fun x hx => (g.hq x hx).yes), ifN (fun z => nomatch z) ⟨tc, tt, cs, us, ps, qs, g.e1, g.e2, ⟨g.ec, g.hc, g.hcl⟩, ⟨g.et, g.hp, g.hok, g.hpl⟩, ⟨g.oq, g.hq⟩, q⟩⟩⟩⟩
theorem GoodQ.no3 (g : GoodQ H v1 v2 v3 tc tt cs us ps qs) (hz : Dz H w3 d) (hn : d ≠ .none) (hf : fitD d = true) (hb : listB prB (toTps d) = false) (r : Rz w3) : QCh K H v1 v2 w3 Rz Gd := by
  obtain ⟨o1, t1, n1⟩ := g.t1 (K := K)
  obtain ⟨o2, t2, n2⟩ := g.t2 (K := K)
  exact ⟨o1, t1, ifN n1 ⟨o2, t2, ifN n2 ⟨_, .inr ⟨_, hz.notNon hn, hz.tps hf, rfl⟩, ifP hb r⟩⟩⟩
end
/-! ### the stray values -/
def sHead : List Str := ["p", "a", "QQQ"]
def sDen : List (List Str) := [["p", "a"], ["p", "a", "QQQ"]]
def sPrs (vs : List Str) : List (List Str) := vs.map (fun x : Str => ([x, ("zz" : Str)] : List Str)) ++ [([("zz" : Str), ("QQQ" : Str)] : List Str)]
def sCols (vs : List Str) : List Str := vs ++ [("QQQ" : Str)]
theorem sHead_ok : PatOk sHead := ⟨"p", ["a", "QQQ"], rfl, by decide +kernel, by decide, by decide +kernel⟩
theorem sDen_ok : ∀ x ∈ sDen, PatOk x := by
  intro x hx
  simp only [sDen, List.mem_cons, List.not_mem_nil, or_false] at hx
  rcases hx with rfl | rfl
  · exact ⟨"p", ["a"], rfl, by decide +kernel, by decide, by decide +kernel⟩
  · exact sHead_ok
theorem sPrs_ok {vs : List Str} (hv : ∀ x ∈ vs, IsVr x) : ∀ x ∈ sPrs vs, PairOk x := by
  intro x hx
  rcases List.mem_append.mp hx with hx | hx
  · obtain ⟨y, hy, rfl⟩ := List.mem_map.mp hx
    exact ⟨y, "zz", rfl, fun e => vr_nm (hv y hy) (by rw [e]; decide +kernel), .inr (hv y hy), .inl (by decide +kernel), .inl (hv y hy)⟩
  · rw [List.mem_singleton.mp hx]
    exact ⟨"zz", "QQQ", rfl, by decide +kernel, .inl (by decide +kernel), .inr qqq_vr, .inr qqq_vr⟩
theorem sCols_ok {vs : List Str} (hv : ∀ x ∈ vs, IsVr x) : ∀ x ∈ sCols vs, IsVr x := by
  intro x hx
  rcases List.mem_append.mp hx with hx | hx
  · exact hv x hx
  · rw [List.mem_singleton.mp hx]
    exact qqq_vr
/-- none or one of the four -/
def One4 (vs : List Str) : Prop := vs = [] ∨ ∃ x ∈ four, vs = [x]
theorem One4.vr {vs : List Str} (h : One4 vs) : ∀ x ∈ vs, IsVr x := by
  rcases h with rfl | ⟨x, hx, rfl⟩
  · exact fun x hx => nomatch hx
  · intro y hy
    rw [List.mem_singleton.mp hy]
    exact four_vr x hx
theorem One4.of {ps : List (List Str)} (h : ∀ p ∈ ps, Few p) : One4 ((varsIn (tails ps)).take 1) := by
  match e : (varsIn (tails ps)).take 1 with
  | [] => exact .inl rfl
  | x :: r =>
    have hl : (x :: r).length ≤ 1 := by rw [← e, List.length_take]; omega
    have hr : r = [] := by
      cases r with
      | nil => rfl
      | cons y r =>
        simp at hl
    subst hr
    have hm : x ∈ varsIn (tails ps) := List.mem_of_mem_take (by rw [e]; exact List.mem_cons_self)
    obtain ⟨h1, h2⟩ := varsIn_mem.mp hm
    obtain ⟨l, hl, hz⟩ := List.mem_flatten.mp h1
    obtain ⟨p, hp, rfl⟩ := List.mem_map.mp hl
    exact .inr ⟨x, h p hp _ hz h2, rfl⟩
theorem One4.tells {f : List Str → PyData} {vs : List Str} (h : One4 vs) (k : tellsOnB (f []) = true ∧ four.all (fun x => tellsOnB (f [x])) = true) : TellsOn (f vs) := by
  rcases h with rfl | ⟨x, hx, rfl⟩
  · exact tellsOn_of k.1
  · exact tellsOn_of (List.all_eq_true.mp k.2 x hx)
theorem tell_head : TellsOn (dT sHead) := tellsOn_of (by decide +kernel)
theorem tell_den : TellsOn (dL sDen) := tellsOn_of (by decide +kernel)
theorem tell_denr : TellsOn (dL sDen.reverse) := tellsOn_of (by decide +kernel)
theorem tell_prs {vs : List Str} (h : One4 vs) : TellsOn (dL (sPrs vs)) := h.tells (f := fun vs => dL (sPrs vs)) ⟨by decide +kernel, by decide +kernel⟩
theorem tell_prsr {vs : List Str} (h : One4 vs) : TellsOn (dL (sPrs vs).reverse) := h.tells (f := fun vs => dL (sPrs vs).reverse) ⟨by decide +kernel, by decide +kernel⟩
theorem tell_cols {vs : List Str} (h : One4 vs) : TellsOn (dS (sCols vs)) := h.tells (f := fun vs => dS (sCols vs)) ⟨by decide +kernel, by decide +kernel⟩
theorem tell_colsr {vs : List Str} (h : One4 vs) : TellsOn (dS (sCols vs).reverse) := h.tells (f := fun vs => dS (sCols vs).reverse) ⟨by decide +kernel, by decide +kernel⟩
theorem tell_0 : TellsOn (.int 0) := tellsOn_of (by decide +kernel)
theorem tell_none : TellsOn (.list [.none]) := tellsOn_of (by decide +kernel)
theorem tell_lone : TellsOn (dS ["QQQ"]) := tellsOn_of (by decide +kernel)
/-! ### which of them is refused -/
section
variable {v0 v1 v2 v3 v4 : V} {l : Str} {th tt : Addr} {h : List Str} {us : List V} {ps qs ds : List (List Str)} {Gd : GdR}
theorem Good.stray1 (g : Good H v0 v1 v2 v3 v4 l th tt h us ps qs ds) (hf : ∀ p ∈ ps, Few p) (hq : ("QQQ" : Str) ∈ h.tail) : RuleCh K H v0 v1 v2 v3 v4 (fun u => u = v1) Gd := g.ch (ifP (hm_true hq qqq_vr (qqq_no hf)) rfl)
theorem Good.stray3 (g : Good H v0 v1 v2 v3 v4 l th tt h us ps qs ds) (hf : ∀ p ∈ ps, Few p) (c1 : hasMore h.tail ps = false) (hq : ("QQQ" : Str) ∈ qs.flatten) : RuleCh K H v0 v1 v2 v3 v4 (fun u => u = v3) Gd :=
  g.ch (ifN (by rw [c1]; exact fun z => nomatch z) (ifP (hm_true hq qqq_vr (qqq_no hf)) rfl))
theorem Good.stray4 (g : Good H v0 v1 v2 v3 v4 l th tt h us ps qs ds) (hf : ∀ p ∈ ps, Few p) (c1 : hasMore h.tail ps = false) (c2 : hasMore qs.flatten ps = false) (hq : ("QQQ" : Str) ∈ tails ds) : RuleCh K H v0 v1 v2 v3 v4 (fun u => u = v4) Gd :=
  g.ch (ifN (by rw [c1]; exact fun z => nomatch z) (ifN (by rw [c2]; exact fun z => nomatch z) (ifP (hm_true hq qqq_vr (qqq_no hf)) rfl)))
end
section
variable {v1 v2 v3 : V} {tc tt : Addr} {cs : List Str} {us : List V} {ps qs : List (List Str)} {Gd : GdQ}
theorem GoodQ.stray1 (g : GoodQ H v1 v2 v3 tc tt cs us ps qs) (hf : ∀ p ∈ ps, Few p) (hq : ("QQQ" : Str) ∈ cs) : QCh K H v1 v2 v3 (fun u => u = v1) Gd := g.ch (ifP (hm_true hq qqq_vr (qqq_no hf)) rfl)
theorem GoodQ.stray3 (g : GoodQ H v1 v2 v3 tc tt cs us ps qs) (hf : ∀ p ∈ ps, Few p) (c1 : hasMore cs ps = false) (hq : ("QQQ" : Str) ∈ qs.flatten) : QCh K H v1 v2 v3 (fun u => u = v3) Gd :=
  g.ch (ifN (by rw [c1]; exact fun z => nomatch z) (ifP (hm_true hq qqq_vr (qqq_no hf)) rfl))
end
theorem qqq_prs {vs : List Str} : ("QQQ" : Str) ∈ (sPrs vs).flatten := List.mem_flatten.mpr ⟨["zz", "QQQ"], List.mem_append_right _ List.mem_cons_self, List.mem_cons_of_mem _ List.mem_cons_self⟩
theorem qqq_prsr {vs : List Str} : ("QQQ" : Str) ∈ (sPrs vs).reverse.flatten := List.mem_flatten.mpr ⟨["zz", "QQQ"], List.mem_reverse.mpr (List.mem_append_right _ List.mem_cons_self), List.mem_cons_of_mem _ List.mem_cons_self⟩
theorem qqq_den : ("QQQ" : Str) ∈ tails sDen := by decide +kernel
theorem qqq_denr : ("QQQ" : Str) ∈ tails sDen.reverse := by decide +kernel
/-! ### readings that end with what is known, the heap only grown -/
def Mon (φ : V → Hp → Prop) : Prop := ∀ v G G', Same G G' → φ v G → φ v G'
def Ev (te : TE) (σ : L2.St) (H : Hp) (φ : V → Hp → Prop) : Prop := ∀ (G : Hp) (Q : VK), Same H G → (∀ v G', Same G G' → φ v G' → Q v G') → te σ G Q
def EvA (ta : TA) (σ : L2.St) (H : Hp) (φ : List V → Hp → Prop) : Prop := ∀ (G : Hp) (Q : List V → Hp → Prop), Same H G → (∀ vs G', Same G G' → φ vs G' → Q vs G') → ta σ G Q
variable {σ : L2.St} {φ φ0 φ2 : V → Hp → Prop} {te t0 t1 t2 t3 t4 : TE} {ta tr : TA}
abbrev Is (c : V) : V → Hp → Prop := fun v _ => v = c
theorem mon_is {c : V} : Mon (Is c) := fun _ _ _ _ e => e
theorem ev_var {i : Nat} {c : V} (h : σ[i]? = some (some c)) : Ev (tVar i) σ H (Is c) := fun G Q s q => ⟨c, h, q c G (Same.refl G) rfl⟩
theorem ev_c {c : V} : Ev (tC c) σ H (Is c) := fun G Q s q => q c G (Same.refl G) rfl
theorem ev_ix {i : Nat} {a : Addr} {us : List V} {j : Int} {c : V} (h : σ[i]? = some (some (.ref a))) (e : H a = some (.lst us)) (hj : atI us j = some c) : Ev (tOp (rIxL K) (tVar i) (tC (.int j))) σ H (Is c) :=
  fun G Q s q => ⟨_, h, a, us, j, c, rfl, rfl, SqL.of (s _ _ e), hj, q c G (Same.refl G) rfl⟩
def EmptyL : V → Hp → Prop := fun v G => ∃ a, v = .ref a ∧ G a = some (.lst [])
theorem mon_empty : Mon EmptyL := fun v G G' s ⟨a, e, h⟩ => ⟨a, e, s _ _ h⟩
theorem ev_nil : Ev (tLst tNil) σ H EmptyL := fun G Q s q => ⟨Nat.zero_le _, fun p np => q _ _ (same_new np) ⟨p, rfl, upd_same⟩⟩
theorem ev5 {c0 c1 c2 c3 c4 : V} (h0 : Ev t0 σ H (Is c0)) (h1 : Ev t1 σ H (Is c1)) (h2 : Ev t2 σ H (Is c2)) (h3 : Ev t3 σ H (Is c3)) (h4 : Ev t4 σ H (Is c4)) :
    EvA (tCons t0 (tCons t1 (tCons t2 (tCons t3 (tCons t4 tNil))))) σ H (fun vs _ => vs = [c0, c1, c2, c3, c4]) := fun G Q s q => by
  refine h0 G _ s fun v G0 s0 e => ?_
  subst e
  refine h1 G0 _ (s.trans s0) fun v G1 s1 e => ?_
  subst e
  refine h2 G1 _ (s.trans (s0.trans s1)) fun v G2 s2 e => ?_
  subst e
  refine h3 G2 _ (s.trans (s0.trans (s1.trans s2))) fun v G3 s3 e => ?_
  subst e
  refine h4 G3 _ (s.trans (s0.trans (s1.trans (s2.trans s3)))) fun v G4 s4 e => ?_
  subst e
  exact q _ _ (s0.trans (s1.trans (s2.trans (s3.trans s4)))) rfl
theorem ev3 {c1 : V} (m0 : Mon φ0) (h0 : Ev t0 σ H φ0) (h1 : Ev t1 σ H (Is c1)) (h2 : Ev t2 σ H φ2) : EvA (tCons t0 (tCons t1 (tCons t2 tNil))) σ H (fun vs G => ∃ a b, vs = [a, c1, b] ∧ φ0 a G ∧ φ2 b G) := fun G Q s q => by
  refine h0 G _ s fun v G0 s0 e0 => ?_
  refine h1 G0 _ (s.trans s0) fun v1 G1 s1 e => ?_
  subst e
  refine h2 G1 _ (s.trans (s0.trans s1)) fun v2 G2 s2 e2 => ?_
  exact q _ _ (s0.trans (s1.trans s2)) ⟨_, _, rfl, m0 _ _ _ (s1.trans s2) e0, e2⟩
theorem EvA.imp {φ ψ : List V → Hp → Prop} (h : EvA ta σ H φ) (k : ∀ vs G, Same H G → φ vs G → ψ vs G) : EvA ta σ H ψ := fun G Q s q => h G Q s fun vs G' s' p => q vs G' s' (k vs G' (s.trans s') p)
/-- a row: way, what is given, what is refused -/
def RowO (K : PySem.W.Frag) (v : V) (H : Hp) : Prop := ∃ (t g : Addr) (way : Int) (us : List V) (u : V) (d : PyData), v = .ref t ∧ H t = some (.tup [.int way, .ref g, u]) ∧ H g = some (.lst us) ∧ Dz H u d ∧ TellsOn d ∧ Chk K way H us u
theorem mon_row : Mon (RowO K) := fun v G G' s ⟨t, g, way, us, u, d, e, e1, e2, hz, tl, c⟩ => ⟨t, g, way, us, u, d, e, s _ _ e1, s _ _ e2, Dz.mono s d u hz, tl, c.mono s⟩
theorem ev_row {way : Int} {u : V} {d : PyData} {tu : TE} (hz : Dz H u d) (tl : TellsOn d) (ev : EvA ta σ H fun us G => us.length ≤ 5 ∧ Chk K way G us u) (eu : Ev tu σ H (Is u)) : Ev (tTup (tCons (tC (.int way)) (tCons (tLst ta) (tCons tu tNil)))) σ H (RowO K) := fun G Q s q => by
  show ta σ G _
  refine ev G _ s fun us G1 s1 ⟨hl, c⟩ => ⟨Nat.le_trans hl (by decide), fun p np => ?_⟩
  have u1 : Same G1 (upd G1 p (.lst us)) := same_new np
  have e1 : upd G1 p (.lst us) p = some (.lst us) := upd_same
  have s2 := s1.trans u1
  generalize upd G1 p (.lst us) = G2 at u1 e1 s2 ⊢
  refine eu G2 _ (s.trans s2) fun v G3 s3 e => ?_
  subst e
  refine ⟨by show 3 ≤ sizeLine; decide, fun t nt => ?_⟩
  have u4 : Same G3 (upd G3 t (.tup [.int way, .ref p, v])) := same_new nt
  have s5 := s.trans (s2.trans (s3.trans u4))
  exact q _ _ (s2.trans (s3.trans u4)) ⟨t, p, way, us, v, d, rfl, upd_same, u4 _ _ (s3 _ _ e1), Dz.mono s5 d v hz, tl, c.mono (u1.trans (s3.trans u4))⟩
/-- a list of rows at a -/
def RowsAt (K : PySem.W.Frag) (n : Nat) (v : V) (G : Hp) : Prop := ∃ a vs, v = .ref a ∧ G a = some (.lst vs) ∧ vs.length = n ∧ ∀ x ∈ vs, RowO K x G
theorem mon_rows {n : Nat} : Mon (RowsAt K n) := fun v G G' s ⟨a, vs, e, h, l, k⟩ => ⟨a, vs, e, s _ _ h, l, fun x hx => mon_row _ _ _ s (k x hx)⟩
theorem ev_rows0 : EvA tNil σ H (fun vs G => vs.length = 0 ∧ ∀ x ∈ vs, RowO K x G) := fun G Q s q => q [] G (Same.refl G) ⟨rfl, fun x hx => nomatch hx⟩
theorem ev_rows1 {n : Nat} (h : Ev te σ H (RowO K)) (hr : EvA tr σ H (fun vs G => vs.length = n ∧ ∀ x ∈ vs, RowO K x G)) : EvA (tCons te tr) σ H (fun vs G => vs.length = n + 1 ∧ ∀ x ∈ vs, RowO K x G) := fun G Q s q => by
  refine h G _ s fun v G0 s0 e0 => ?_
  refine hr G0 _ (s.trans s0) fun vs G1 s1 ⟨hl, k⟩ => ?_
  refine q _ _ (s0.trans s1) ⟨by rw [List.length_cons, hl], fun x hx => ?_⟩
  rcases List.mem_cons.mp hx with rfl | hx
  · exact mon_row _ _ _ s1 e0
  · exact k x hx
theorem ev_rows {n : Nat} (hn : n ≤ 100) (h : EvA ta σ H (fun vs G => vs.length = n ∧ ∀ x ∈ vs, RowO K x G)) : Ev (tLst ta) σ H (RowsAt K n) := fun G Q s q =>
  h G _ s fun vs G1 s1 ⟨hl, k⟩ => ⟨by rw [hl]; exact Nat.le_trans hn (by decide), fun p np => q _ _ (s1.trans (same_new np)) ⟨p, vs, rfl, upd_same, hl, fun x hx => mon_row _ _ _ (same_new np) (k x hx)⟩⟩
/-- more rows behind -/
theorem ev_more {i n m : Nat} {v : V} (hi : σ[i]? = some (some v)) (hv : RowsAt K n v H) (hn : n + m ≤ 100) (h : Ev te σ H (RowsAt K m)) : Ev (tOp rCat (tVar i) te) σ H (RowsAt K (n + m)) := fun G Q s q => by
  obtain ⟨a, vs, rfl, ea, la, ka⟩ := hv
  refine ⟨_, hi, h G _ s fun w G1 s1 ⟨b, ws, e, eb, lb, kb⟩ => ?_⟩
  subst e
  have s2 := s.trans s1
  refine ⟨a, b, vs, ws, rfl, rfl, s2 _ _ ea, eb, by rw [la, lb]; exact Nat.le_trans hn (by decide), fun p np => q _ _ (s1.trans (same_new np)) ⟨p, vs ++ ws, rfl, upd_same, by rw [List.length_append, la, lb], fun x hx => ?_⟩⟩
  rcases List.mem_append.mp hx with hx | hx
  · exact mon_row _ _ _ (s2.trans (same_new np)) (ka x hx)
  · exact mon_row _ _ _ (same_new np) (kb x hx)
end
end Nv
set_option maxHeartbeats 4000000
namespace Nv
open PySem PySem.Spec PyProof.Rows L2
/-! # a value != itself; two rules for one operator -/
section
variable {X : Cx}
theorem OpR.orR {f : Value → Value → Sem Value} {r1 r2 : R2} (h1 : OpR X f r1) (h2 : OpR X f r2) : OpR X f (fun x y H Q => r1 x y H Q ∨ r2 x y H Q) := by
  intro pins s σ H x y v u Q I rx ry h
  rcases h with h | h
  · exact h1 pins s σ H x y v u Q I rx ry h
  · exact h2 pins s σ H x y v u Q I rx ry h
/-- a list, a tuple, a dict of at most one key -/
def Selfy (H : Hp) (x : V) : Prop := ∃ a, x = .ref a ∧ ((∃ xs, H a = some (.lst xs) ∨ H a = some (.tup xs)) ∨ H a = some (.dK []) ∨ ∃ k v, H a = some (.dK [(k, v)]))
theorem Selfy.same {H G : Hp} {x : V} (h : Selfy H x) (s : Same H G) : Selfy G x := by
  obtain ⟨a, e, h⟩ := h
  refine ⟨a, e, ?_⟩
  rcases h with ⟨xs, h | h⟩ | h | ⟨k, v, h⟩
  · exact .inl ⟨xs, .inl (s _ _ h)⟩
  · exact .inl ⟨xs, .inr (s _ _ h)⟩
  · exact .inr (.inl (s _ _ h))
  · exact .inr (.inr ⟨k, v, s _ _ h⟩)
def rNeS : R2 := fun x y H Q => y = x ∧ Selfy H x ∧ Q (.bl false) H
theorem all_true (n : Nat) : (List.range n).all (fun _ => true) = true := by
  rw [List.all_eq_true]
  intro _ _
  rfl
theorem valueAt_one {κ : Type} [DecidableEq κ] (k : κ) (u : Value) : PySem.valueAt [(k, u)] k = some u := by simp [PySem.valueAt]
theorem op_neSelf (hu : X.A.units < cLine) : OpR X (compareOp .NotEq) rNeS := by
  intro pins s σ H x y v u Q I rx ry h
  obtain ⟨rfl, ⟨a, rfl, h⟩, q0⟩ := h
  obtain rfl : v = Value.ref a := rx
  obtain rfl : u = Value.ref a := ry
  rcases h with ⟨xs, h | h⟩ | h | ⟨k, w, h⟩
  · obtain ⟨z, its, n, rv, e⟩ := I.hok a _ h
    have il : s.heap.IsList a its.toArray := ⟨_, e, rfl, _, rfl⟩
    refine (SeqAt.RcNeAt.lists (e := fun _ => true) il il rfl hu fun j h1 h2 => SeqAt.EqAt.same _) _ _ _ _ ?_
    rw [all_true]
    exact ⟨.bl false, H, I, rfl, q0⟩
  · obtain ⟨z, its, rv, o, ho, hc, n, hd⟩ := (show ObjOk _ _ H s.heap a (.tup xs) from I.hok a _ h)
    have il : s.heap.IsTuple a its.toArray := ⟨o, ho, hc, n, hd⟩
    refine (SeqAt.RcNeAt.tuples (e := fun _ => true) il il hu fun j h1 h2 => SeqAt.EqAt.same _) _ _ _ _ ?_
    rw [all_true, beq_self_eq_true]
    exact ⟨.bl false, H, I, rfl, q0⟩
  · obtain ⟨_, ya, va, ra, da⟩ := (show ObjOk X.prog X.w H s.heap a (.dK []) from I.hok a _ h)
    cases ra
    exact PySem.W.keq_ne (knd := mixKind X.prog X.w) (r := true) ya ya da da hu (fun _ => .nil) ⟨.bl false, H, I, rfl, q0⟩
  · obtain ⟨_, ya, va, ra, da⟩ := (show ObjOk X.prog X.w H s.heap a (.dK [(k, w)]) from I.hok a _ h)
    unfold KV at ra
    cases ra with
    | @cons p q ps qs hh t =>
      cases t
      obtain ⟨k', u⟩ := q
      refine PySem.W.keq_ne (knd := mixKind X.prog X.w) (r := true && true) ya ya da da hu (fun _ => .hit (y := u) (valueAt_one k' u) (SeqAt.EqAt.same u) .nil) ⟨.bl false, H, I, rfl, q0⟩
end
end Nv
set_option maxHeartbeats 4000000
namespace PySem.SeqAt
open AutoSeq1 (wpAny_loadPart')
open MeetsSeq MeetsSeq2 MeetsSeq3 PySem.Calls PyProof.Rows PySem.W PySem.Spec PyProof.V
/-! # what is no text among texts -/
theorem dict_eq_str (l : Addr) (b : Str) (u : Tok) :
    Meets (Builtin.«dict.__eq__» ⟨[.ref l, .str b u], []⟩) (fun _ R s => s.TypeIs (.ref l) "dict" ∧ R (.ok (.ret .notImplemented)) s) :=
  .of_wp fun prog w A R s h => by
    obtain ⟨hl, h⟩ := h
    show wpAny _ _ (Builtin.Dict.dictSlotArgs "__eq__" ⟨[.ref l, .str b u], []⟩ >>= _) _ _ s
    refine wpAny_bind ?_
    unfold Builtin.Dict.dictSlotArgs
    refine wpAny_bind (wpAny_notOrdered_dict hl ?_)
    show wpAny _ _ (pure (Value.ref l, Value.str b u)) _ _ s
    refine wpAny_pure ?_
    refine wpAny_bind (wpAny_isInstance (T := "str") (typeIs_str s b u) F.sub_str_dict ?_)
    simp only [Bool.not_false, if_true]
    wp_walk
    exact ⟨_, rfl, h⟩
theorem str_eq_dict (b : Str) (u : Tok) (l : Addr) :
    Meets (Builtin.«str.__eq__» ⟨[.str b u, .ref l], []⟩) (fun _ R s => (∃ (o : Obj) (es : Array DictEntry) (ep : Nat), s.heap.get? l = some o ∧ o.cls = .type "dict" ∧ o.data = .dict es ep) ∧ R (.ok (.ret .notImplemented)) s) :=
  .of_wp fun prog w A R s h => by
    obtain ⟨hp, g, d, tk, os⟩ := s
    obtain ⟨⟨⟨oc, od, oda, osl⟩, es, ep, ho, hc, hd⟩, h⟩ := h
    dsimp only at hc hd
    subst hc hd
    wp_walk using wpAny_loadPart' ho, wpAny_load ho
    exact ⟨_, rfl, h⟩
theorem str_eq_inst (b : Str) (u : Tok) (l : Addr) :
    Meets (Builtin.«str.__eq__» ⟨[.str b u, .ref l], []⟩) (fun _ R s => (∃ (o : Obj), s.heap.get? l = some o ∧ o.data = .plain) ∧ R (.ok (.ret .notImplemented)) s) :=
  .of_wp fun prog w A R s h => by
    obtain ⟨hp, g, d, tk, os⟩ := s
    obtain ⟨⟨⟨oc, od, oda, osl⟩, ho, hd⟩, h⟩ := h
    dsimp only at hd
    subst hd
    wp_walk using wpAny_loadPart' ho, wpAny_load ho
    exact ⟨_, rfl, h⟩

section
variable {prog : Program} {w : World} {A : Around} {E : Value → Shared → Prop} {s : Shared}
theorem eqBool_via {b : Str} {u : Tok} {l : Addr} {Q : Bool → Shared → Prop} (h : wpAny (model prog w) A (richCompare .Eq (.str b u) (.ref l)) (fun r s' => ∃ c, r = .bool c ∧ Q c s') E s) : wpAny (model prog w) A (eqBool (.str b u) (.ref l)) Q E s := by
  unfold eqBool
  refine wpAny_holding ?_
  refine wpAny_ite_split (fun hab => absurd (eq_of_beq hab) (fun z => nomatch z)) (fun _ => ?_)
  refine wpAny_bind (wpAny_mono h (fun v s' hv => ?_) fun _ _ e => e)
  obtain ⟨r, rfl, q⟩ := hv
  exact wpAny_truthy_bool q
theorem eqAt_str_dict {l : Addr} {b : Str} {u : Tok} (hl : ∃ (o : Obj) (es : Array DictEntry) (ep : Nat), s.heap.get? l = some o ∧ o.cls = .type "dict" ∧ o.data = .dict es ep) (hu : A.units < cLine) : EqAt A s (.str b u) (.ref l) false := fun prog w E Q h => by
  have ty : s.TypeIs (.ref l) "dict" := by
    obtain ⟨o, _, _, ho, hc, _⟩ := hl
    exact ⟨o, ho, hc⟩
  refine eqBool_via (rc_eq_decline_or (k := false) (typeIs_str s b u) ty (by decide) F.sub_dict_str F.slot_str_eq F.slot_dict_eq_refl
    (fun _ hq => call_meets F.slot_str_eq (typeIs_str s b u) F.entry_str_eq (F.args_str_eq_2 _ _) (str_eq_dict b u l) ⟨hl, hq⟩)
    (fun _ hq => call_meets F.slot_dict_eq_refl ty F.entry_dict_eq (F.args_dict_eq_2 _ _) (dict_eq_str l b u) ⟨ty, hq⟩)
    (fun _ hq => wpAny_of_eq (rfl : isSame (.str b u) (.ref l) = pure false) hq) (.inr hu) ⟨_, rfl, h⟩)
/-- a text == an instance of an own class: its own == is asked -/
theorem rich_str_inst {K : PySem.W.Frag} {x C f : Addr} {ox : Obj} {od : Option Obj} {b : Str} {u : Tok} {Q : Value → Shared → Prop} (X : K.In s.heap) (I : PySem.W.InstAt s.heap x ox C od) (hd : ox.data = .plain) (hsub : PySem.W.subIn K (.ref C) (.type "str") = some false)
    (hs : PySem.W.findIn K (.ref C) "__eq__" = some (some (.ref f))) (hf : PySem.W.isFn K (.ref f) = true) (hu : A.units < cLine) (h : wpAny (model prog w) A (call (.ref f) [.ref x, .str b u]) (PySem.W.CmpBack Q) E s) :
    wpAny (model prog w) A (richCompare .Eq (.str b u) (.ref x)) Q E s := by
  have one : wpAny (model prog w) A (tryCompare (.ref x) "__eq__" (.str b u)) (fun r s' => ∃ v, r = some v ∧ Q v s') E s := by
    unfold tryCompare
    refine wpAny_bind (PySem.W.ifBound_K X I hs hf (wpAny_mono h (fun v s' hv => ?_) fun _ _ e => e))
    cases v <;> first | exact hv.elim | exact wpAny_pure ⟨_, rfl, hv⟩
  have two : ∀ Q' : Option Value → Shared → Prop, Q' none s → wpAny (model prog w) A (tryCompare (.str b u) "__eq__" (.ref x)) Q' E s := fun Q' q =>
    wpAny_tryCompare_declines (typeIs_str s b u) F.slot_str_eq (call_meets F.slot_str_eq (typeIs_str s b u) F.entry_str_eq (F.args_str_eq_2 _ _) (str_eq_inst b u x) ⟨⟨ox, I.at_, hd⟩, rfl, q⟩)
  simp only [richCompare, (typeIs_str s b u).oneThing_none]
  refine wpAny_holding (wpAny_bind (wpAny_cRoomFor_or (.inr hu) ?_))
  refine wpAny_bind (wpAny_typeOf (typeIs_str s b u) (wpAny_bind (I.type.here ?_)))
  have ne : (Value.type "str" != Value.ref C) = true := by simp
  simp only [ne, if_true]
  refine wpAny_bind ((PySem.W.looks_subIn X hsub).here ?_)
  simp only [Bool.false_eq_true, if_false, Bool.not_false, if_true]
  refine wpAny_bind (m := tryCompare (.str b u) _ (.ref x)) (two _ ?_)
  refine wpAny_bind (m := tryCompare (.ref x) _ (.str b u)) (wpAny_mono one (fun r s' z => ?_) fun _ _ e => e)
  obtain ⟨v, rfl, hq⟩ := z
  exact wpAny_pure hq
/-- x is none of the N items of the list at l, whatever the comparing changes -/
def Unlike (prog : Program) (w : World) (A : Around) (E : Value → Shared → Prop) (l : Addr) (x : Value) (N : Nat) (J : Shared → Prop) : Prop :=
  ∀ s, J s → ∃ (xs : Array Value) (n : Nat), s.heap.get? l = some { cls := .type "list", data := .seq xs n } ∧ xs.size = N ∧ ∀ (i : Nat) (h1 : i < xs.size), wpAny (model prog w) A.in1 (eqBool xs[i] x) (fun r s' => r = false ∧ J s') E s
variable {R : Result → Shared → Prop}
theorem loopU (l : Addr) (x : Value) (N : Nat) (J : Shared → Prop) (tn : Unlike prog w A (fun e s' => R (.error e) s') l x N J) (no : ∀ s, J s → R (.ok (.ret (.bool false))) s) (k : Nat) :
    ∀ i : Nat, N - i = k → i ≤ N → ∀ s, J s → wpAny (model prog w) A.in1 (Builtin.«list.__contains__.loop» ⟨[.ref l, x, rawInt i], []⟩) (GQ.FinOf prog w A R) (fun e s' => R (.error e) s') s := by
  induction k with
  | zero =>
    intro i hk hi s h
    obtain ⟨xs, n, g1, z1, _⟩ := tn _ h
    have e : i = N := by omega
    have done := no s h
    obtain ⟨hp, g, d, tk, os⟩ := s
    wp_walk using wpAny_loadPart' g1
    have o1 : xs[((i : Nat) : Int).toNat]? = none := by simp; omega
    rw [o1]
    wp_walk
    exact done
  | succ k ih =>
    intro i hk hi s h
    obtain ⟨xs, n, g1, z1, turn⟩ := tn _ h
    have h1 : i < xs.size := by omega
    have ht := turn i h1
    obtain ⟨hp, g, d, tk, os⟩ := s
    wp_walk using wpAny_loadPart' g1
    have o1 : xs[((i : Nat) : Int).toNat]? = some xs[i] := by simp [h1]
    have one : ((i : Int) + 1) = ((i + 1 : Nat) : Int) := by omega
    rw [o1]
    refine wpAny_bind (wpAny_mono ht (fun r s2 q2 => ?_) fun _ _ z => z)
    obtain ⟨hr, q2⟩ := q2
    subst hr
    have rec_ := ih (i + 1) (by omega) (by omega) s2 q2
    obtain ⟨hp2, g', d2, tk2, os2⟩ := s2
    wp_walk
    rw [one]
    exact ⟨plainId_quiet plain_contains_loop _, codeAny_builtin entry_contains_loop (by
      rw [Around.under_plainId plain_contains_loop _]
      exact rec_)⟩
theorem bodyU (l : Addr) (x : Value) (N : Nat) (J : Shared → Prop) (tn : Unlike prog w A (fun e s' => R (.error e) s') l x N J) (no : ∀ s, J s → R (.ok (.ret (.bool false))) s) {s : Shared} (h : J s) :
    wpAny (model prog w) A.in1 (Builtin.«list.__contains__» ⟨[.ref l, x], []⟩) (GQ.FinOf prog w A R) (fun e s' => R (.error e) s') s := by
  obtain ⟨xs, n, g1, z1, _⟩ := tn _ h
  have rec_ := loopU (A := A) (R := R) l x N J tn no _ 0 rfl (Nat.zero_le _) s h
  obtain ⟨hp, g, d, tk, os⟩ := s
  wp_walk using wpAny_loadPart' g1
  exact ⟨plainId_quiet plain_contains_loop _, codeAny_builtin entry_contains_loop (by
    rw [Around.under_plainId plain_contains_loop _]
    exact rec_)⟩
theorem notIn_unlike {l : Addr} {x : Value} {N : Nat} {J : Shared → Prop} {Q : Value → Shared → Prop} (tn : Unlike prog w A E l x N J) (no : ∀ s, J s → Q (.bool true) s) (h : J s) : wpAny (model prog w) A (compareOp .NotIn x (.ref l)) Q E s := by
  obtain ⟨xs, n, g1, z1, _⟩ := tn _ h
  show wpAny _ A (do return Value.bool (!(← contains (.ref l) x))) Q E s
  refine wpAny_bind (wpAny_contains_slot ⟨_, g1, rfl⟩ F.slot_list_contains (wpAny_mono (GQ.call_here (Q := fun v s' => ∃ b, v = .bool b ∧ Q (.bool (!b)) s') F.slot_list_contains ⟨_, g1, rfl⟩ F.entry_list_contains (F.args_list_contains_2 _ _)
    (bodyU (R := wants (fun v s' => ∃ b, v = .bool b ∧ Q (.bool (!b)) s') E) l x N J tn (fun s' q => ⟨false, rfl, no s' q⟩) h)) (fun v s' hv => ?_) fun _ _ e => e))
  obtain ⟨b, rfl, hq⟩ := hv
  exact wpAny_truthy_bool (wpAny_pure hq)
end
end PySem.SeqAt
set_option maxHeartbeats 4000000
namespace Nv
open PySem PySem.Spec PyProof.Rows L2
/-! # a label that stands in no book: _place, Book.rule, Book.without, Book.__add__ where they raise -/
section
variable {K : PySem.W.Frag} {H G : Hp}
/-- no label among these -/
def NoLab (C : Addr) (H : Hp) (v : V) (zs : List Str) : Prop := (∃ d, Dz H v d ∧ SeqAt.shaped d = true ∧ (zs.any fun z => PyData.eqv (.str z) d) = false) ∨ (∃ a, v = .ref a ∧ H a = some (.dK [])) ∨ ∃ a x, v = .ref a ∧ RA C H a x ∧ x.Ok
theorem NoLab.same {C : Addr} {v : V} {zs : List Str} (h : NoLab C H v zs) (s : Same H G) : NoLab C G v zs := by
  rcases h with ⟨d, hz, r⟩ | ⟨a, e, h⟩ | ⟨a, x, e, h, o⟩
  · exact .inl ⟨d, Dz.mono s d v hz, r⟩
  · exact .inr (.inl ⟨a, e, s _ _ h⟩)
  · exact .inr (.inr ⟨a, x, e, h.same s, o⟩)
def rNoLab (C : Addr) : R2 := fun x y H Q => ∃ p zs, y = .ref p ∧ H p = some (.lst (zs.map V.str)) ∧ (∀ z ∈ zs, Asc z) ∧ NoLab C H x zs ∧ ∀ G, Same H G → Q (.bl true) G
end
section
variable {X : Cx} {C f : Addr} {fd : FuncData}
theorem op_noLab (F : FnOk X.prog X.w X.K X.mg X.base CX0 1 f fd ["self", "other"] (spRuleEq X.K C)) (R : RC X.K C) (hs : PySem.W.findIn X.K (.ref C) "__eq__" = some (some (.ref f))) (hf : PySem.W.isFn X.K (.ref f) = true) (hb : Binds X.K fd ["self", "other"] [])
    (hsub : PySem.W.subIn X.K (.ref C) (.type "str") = some false) (hk : PySem.W.kitOne X.K (.type "str") (.ref C) = some false) (hr : Room 2 X.A) : OpR X (compareOp .NotIn) (rNoLab C) := by
  intro pins s σ H x y v u Q I rx ry h
  obtain ⟨p, zs, rfl, ep, asc, h, q⟩ := h
  have hu := hr.un
  rcases h with ⟨d, hz, sd, ne⟩ | ⟨a, rfl, ea⟩ | ⟨a, r, rfl, ra, ok⟩
  · refine op_notInD (by omega) pins s σ H x (.ref p) v u Q I rx ry ⟨d, zs.map PyData.str, hz.dp d x (by have := sd; simp [SeqAt.shaped] at this; exact this.1), dp_S (SqL.of ep), sd, (lay_dS asc).shaped (by decide), ?_⟩
    rw [List.any_map]
    rw [show (zs.any ((fun z => z.eqv d) ∘ PyData.str)) = false from ne]
    exact q H (Same.refl H)
  · obtain rfl : v = Value.ref a := rx
    obtain rfl : u = Value.ref p := ry
    obtain ⟨z, its, n, rv, e⟩ := I.hok p _ ep
    obtain ⟨_, _, vs, kv, o, es, ep2, ho, hx, hdd, _⟩ := (show ObjOk _ _ H s.heap _ (.dK []) from I.hok _ _ ea)
    have il : s.heap.IsList p its.toArray := ⟨_, e, rfl, _, rfl⟩
    refine SeqAt.notIn_listAt (fun _ => false) il (fun y hy => ?_) ?_
    · obtain ⟨i, hi, rfl⟩ := List.mem_iff_getElem.mp (by simpa using hy : y ∈ its)
      have hl := rv.length
      rw [List.length_map] at hl
      have hzi : (zs.map V.str)[i]? = some (V.str (zs[i]'(by omega))) := by rw [List.getElem?_map, List.getElem?_eq_getElem (by omega)] <;> rfl
      obtain ⟨w, hw, rw_⟩ := rv.get hzi
      rw [List.getElem?_eq_getElem hi] at hw
      obtain ⟨t, et⟩ := (show ∃ t, w = Value.str _ t from rw_)
      rw [Option.some.inj hw, et]
      exact SeqAt.eqAt_str_dict ⟨o, es, ep2, ho, hx.1, hdd⟩ (by show X.A.units + _ < _; omega)
    · have : its.toArray.any (fun _ => false) = false := by simp
      rw [this]
      exact ⟨.bl true, H, I, rfl, q H (Same.refl H)⟩
  · obtain rfl : v = Value.ref a := rx
    obtain rfl : u = Value.ref p := ry
    have J0 : ∃ H', Inv X pins σ H' s ∧ Same H H' := ⟨H, I, Same.refl H⟩
    refine SeqAt.notIn_unlike (N := zs.length) (J := fun s' => ∃ H', Inv X pins σ H' s' ∧ Same H H') ?_ (fun s' ⟨H1, I1, s1⟩ => ⟨.bl true, H1, I1, rfl, q H1 s1⟩) J0
    rintro s' ⟨H1, I1, s1⟩
    obtain ⟨z, its, n, rv, e⟩ := I1.hok p _ (s1 _ _ ep)
    have hl := rv.length
    rw [List.length_map] at hl
    refine ⟨its.toArray, n, e, by rw [List.size_toArray, hl], fun i h1 => ?_⟩
    have h2 : i < its.length := by simpa using h1
    have hzi : (zs.map V.str)[i]? = some (V.str (zs[i]'(by omega))) := by rw [List.getElem?_map, List.getElem?_eq_getElem (by omega)] <;> rfl
    obtain ⟨w, hw, rw_⟩ := rv.get hzi
    rw [List.getElem?_eq_getElem h2] at hw
    obtain ⟨t, et⟩ := (show ∃ t, w = Value.str _ t from rw_)
    have e2 : its.toArray[i] = Value.str (zs[i]'(by omega)) t := by
      rw [← et, ← Option.some.inj hw] <;> simp
    rw [e2]
    have ra1 := ra.same s1
    obtain ⟨dx, th, l1, l2, l3, us, us2, us3, er, _⟩ := id ra1
    obtain ⟨mA, J, _⟩ := ins_get I1.hok er
    obtain ⟨od, J, _⟩ := J.look
    have hsp : spRuleEq X.K C [.ref a, .str (zs[i]'(by omega))] H1 (fun v H' => v = .bl false ∧ H' = H1) E0 := ⟨a, r, _, rfl, ra1, ok, .inr ⟨_, .base (.str _), hk, rfl, rfl⟩⟩
    refine SeqAt.eqBool_via (SeqAt.rich_str_inst I1.kIn J rfl hsub hs hf hr.in1.units0 (wpAny_mono (call_own (X := X) F (hr.in1.mono (by decide)) rfl hb I1 (vs := [.ref a, .str _]) (.cons rfl (.cons ⟨t, rfl⟩ .nil)) hsp) (fun w s2 h => ?_) fun _ _ e => e))
    obtain ⟨z2, H2, I2, rz, rfl, rfl⟩ := h
    cases rz
    exact ⟨false, rfl, rfl, H2, I2, s1⟩
end
section
variable {P : Program} {w : World} {K : PySem.W.Frag} {mg : Str → Option Value} {base : Heap}
/-- what comparing with a rule asks -/
structure REq (P : Program) (w : World) (K : PySem.W.Frag) (mg : Str → Option Value) (base : Heap) (C : Addr) : Prop where
  R : RC K C
  ex : ∃ f fd, FnOk P w K mg base CX0 1 f fd ["self", "other"] (spRuleEq K C) ∧ PySem.W.findIn K (.ref C) "__eq__" = some (some (.ref f)) ∧ PySem.W.isFn K (.ref f) = true ∧ Binds K fd ["self", "other"] []
  sub : PySem.W.subIn K (.ref C) (.type "str") = some false
  kit : PySem.W.kitOne K (.type "str") (.ref C) = some false
def spPlaceX (C CU : Addr) : Sp := fun vs H Q E => ∃ (v : V) (p : Addr) (zs : List Str), vs = [v, .ref p] ∧ H p = some (.lst (zs.map V.str)) ∧ (∀ z ∈ zs, Asc z) ∧ NoLab C H v zs ∧ ∀ G, Same H G → Wx CU "value" G v E
theorem ok_placeX {f C CU : Addr} {fd : FuncData} (F : Fun K "_place" "_place" sPlace f fd) (T : REq P w K mg base C) (c : XC P w K mg base "UnknownName" "value" CU) : FnOk P w K mg base (CX P w) 3 f fd ["label", "labels"] (spPlaceX C CU) := by
  obtain ⟨fE, dE, GE, hsE, hfE, bE⟩ := T.ex
  refine F.okX scPlace (fun vs H Q E h => ?_) (fun cdv A outer s H vs Q E hr h => ?_)
  · obtain ⟨v, p, zs, rfl, _⟩ := h
    rfl
  · obtain ⟨v, p, zs, rfl, ep, asc, nl, q⟩ := h
    refine ⟨_, pss_cons (ps_if (pt_cmpR (op_noLab GE T.R hsE hfE bE T.sub T.kit hr) (pv 0) (pv 1) (by rfl)) (pss_one (ps_rz c hr (by rfl) (takes_of rfl rfl rfl rfl) (by rfl) (pv 0))) pss_nil) (pss_one ps_never), ?_⟩
    refine ⟨_, rfl, _, rfl, p, zs, rfl, ep, asc, nl, fun G s => ⟨_, rfl, iteT ?_⟩⟩
    exact ⟨_, rfl, q G s⟩
/-- what Book.rule and Book.without have in common -/
def spLabX (CR C CU : Addr) : Sp := fun vs H Q E => ∃ (b : Addr) (v : V) (rs : List Addr) (xs : List Rl), vs = [.ref b, v] ∧ BA C H b rs ∧ RAs CR H rs xs ∧ xs.length ≤ 1000 ∧ (∀ x ∈ xs, x.Ok) ∧ NoLab CR H v (xs.map Rl.l) ∧ ∀ G, Same H G → Wx CU "value" G v E
theorem labs_asc {xs : List Rl} (h : ∀ x ∈ xs, x.Ok) : ∀ z ∈ xs.map Rl.l, Asc z := fun z hz => by
  obtain ⟨x, hx, rfl⟩ := List.mem_map.mp hz
  exact (h x hx).l.asc
theorem ok_bookRuleX {f C CR CU fL fP : Addr} {fd dL dP : FuncData} (F : Fun K "rule" "Book.rule" sBookRule f fd) (cl : Cls K C) (na : NoAttr K C "_rules")
    (GL : FnOk P w K mg base CX0 3 fL dL ["self"] (spBookLabels CR C)) (mL : Meth K C "labels" fL) (bL : Binds K dL ["self"] [])
    (GP : FnOk P w K mg base (CX P w) 3 fP dP ["label", "labels"] (spPlaceX CR CU)) (kP : PySem.W.keepIn K (.ref fP) = true) (gP : mg "_place" = some (.ref fP)) (bP : Binds K dP ["label", "labels"] []) : FnOk P w K mg base (CX P w) 4 f fd ["self", "label"] (spLabX CR C CU) := by
  refine F.okX scBookRule (fun vs H Q E h => ?_) (fun cdv A outer s H vs Q E hr h => ?_)
  · obtain ⟨b, v, rs, xs, rfl, _⟩ := h
    rfl
  · obtain ⟨b, v, rs, xs, rfl, ba, hx, hl, ok, nl, q⟩ := h
    obtain ⟨dx, l, eb, el⟩ := id ba
    refine ⟨_, pss_one (ps_ret (pe_ix ix_list (pe_fld (pv 0) rfl) (by exact (pe_callS GP hr (by rfl) gP kP bP (fun σ => passAt (takes_of rfl rfl rfl rfl) σ) (pa_cons (pv 1) (pa_cons (by exact (pe_meth0 (pv 0) cl mL GL hr bL .nil pass0)) pa_nil)))) (fun _ _ => rfl))), ?_⟩
    refine ⟨_, rfl, b, C, dx, _, _, rfl, eb, cl, na, lkR, _, rfl, _, rfl, b, dx, _, rfl, eb, (lk_no (by decide +kernel)), b, rs, xs, rfl, ba, hx, hl, fun p H1 np s1 e1 => ?_⟩
    exact ⟨v, p, xs.map Rl.l, rfl, e1, labs_asc ok, nl.same s1, fun G s => q G (s1.trans s)⟩
theorem ok_bookWithoutX {f C CR CU fL fP : Addr} {fd dL dP : FuncData} (F : Fun K "without" "Book.without" sBookWithout f fd) (cl : Cls K C) (na : NoAttr K C "_rules")
    (GL : FnOk P w K mg base CX0 3 fL dL ["self"] (spBookLabels CR C)) (mL : Meth K C "labels" fL) (bL : Binds K dL ["self"] [])
    (GP : FnOk P w K mg base (CX P w) 3 fP dP ["label", "labels"] (spPlaceX CR CU)) (kP : PySem.W.keepIn K (.ref fP) = true) (gP : mg "_place" = some (.ref fP)) (bP : Binds K dP ["label", "labels"] []) : FnOk P w K mg base (CX P w) 4 f fd ["self", "label"] (spLabX CR C CU) := by
  refine F.okX scBookWithout (fun vs H Q E h => ?_) (fun cdv A outer s H vs Q E hr h => ?_)
  · obtain ⟨b, v, rs, xs, rfl, _⟩ := h
    rfl
  · obtain ⟨b, v, rs, xs, rfl, ba, hx, hl, ok, nl, q⟩ := h
    obtain ⟨dx, l, eb, el⟩ := id ba
    refine ⟨_, pss_cons (ps_set (i := 2) scBookWithout.nd rfl (Or.inl rfl) (by exact (pe_callS GP hr (by rfl) gP kP bP (fun σ => passAt (takes_of rfl rfl rfl rfl) σ) (pa_cons (pv 1) (pa_cons (by exact (pe_meth0 (pv 0) cl mL GL hr bL .nil pass0)) pa_nil)))))
      (pss_one ps_never), ?_⟩
    refine ⟨_, rfl, _, rfl, b, dx, _, rfl, eb, (lk_no (by decide +kernel)), b, rs, xs, rfl, ba, hx, hl, fun p H1 np s1 e1 => ?_⟩
    exact ⟨v, p, xs.map Rl.l, rfl, e1, labs_asc ok, nl.same s1, fun G s => q G (s1.trans s)⟩
/-- Book.__add__ of what cannot be added -/
def spBookAddX (K : PySem.W.Frag) (CR C CE : Addr) : Sp := fun vs H Q E => ∃ (a : Addr) (v : V) (rs : List Addr) (xs : List Rl), vs = [.ref a, v] ∧ BA C H a rs ∧ RAs CR H rs xs ∧ xs.length ≤ 100 ∧
  ((∃ t : Value, TyX K H v t ∧ PySem.W.kitOne K t (.ref C) = some false) ∨ ∃ (b : Addr) (ss : List Addr) (ys : List Rl), v = .ref b ∧ BA C H b ss ∧ RAs CR H ss ys ∧ ys.length ≤ 100 ∧ ¬ ((xs ++ ys).map Rl.l).Nodup) ∧ ∀ G, Same H G → Wx CE "value" G v E
theorem ok_bookAddX {f C CR CE fL fH : Addr} {fd dL dH : FuncData} (F : Fun K "__add__" "Book.__add__" sBookAdd f fd) (B : Bp mg) (cl : Cls K C) (I : IC K C) (gB : mg "Book" = some (.ref C)) (c : XC P w K mg base "InvalidBook" "value" CE)
    (GL : FnOk P w K mg base CX0 3 fL dL ["self"] (spBookLabels CR C)) (mL : Meth K C "labels" fL) (bL : Binds K dL ["self"] [])
    (GH : FnOk P w K mg base CX0 1 fH dH ["labels"] (spHasDouble K)) (kH : PySem.W.keepIn K (.ref fH) = true) (gH : mg "_has_double" = some (.ref fH)) (bH : Binds K dH ["labels"] []) : FnOk P w K mg base (CX P w) 4 f fd ["self", "other"] (spBookAddX K CR C CE) := by
  refine F.okX scBookAdd (fun vs H Q E h => ?_) (fun cdv A outer s H vs Q E hr h => ?_)
  · obtain ⟨a, v, rs, xs, rfl, _⟩ := h
    rfl
  · obtain ⟨a, v, rs, xs, rfl, ba, hx, hl, h, q⟩ := h
    obtain ⟨dx, l, eb, el⟩ := id ba
    have hr1 : Room 1 _ := hr.mono (by decide)
    have hr2 : Room 2 _ := hr.mono (by decide)
    refine ⟨_, pss_cons (ps_if (PW.pt (pw_or (pt_not (pt_val (pe_callB call_isi (by rfl) B.isi bootIsi (pa_cons (pv 1) (pa_cons (pe_glob (v := V.ref C) (by rfl) gB rfl) pa_nil)))))
        (pw_or1 (pt_val (by exact (pe_call GH hr1 (by rfl) gH kH bH .nil pass0 (pa_cons (pe_op op_cat (by exact (pe_meth0 (pv 0) cl mL GL hr bL .nil pass0)) (by exact (pe_meth0 (pv 1) cl mL GL hr bL .nil pass0))) pa_nil))))))) (pss_one (ps_rz c hr2 (by rfl) (takes_of rfl rfl rfl rfl) (by rfl) (pv 1))) pss_nil)
      (pss_one ps_never), ?_⟩
    rcases h with ⟨t, ht, hk⟩ | ⟨b, ss, ys, rfl, bb, hy, hl2, nd⟩
    · exact ⟨_, rfl, _, _, _, _, false, rfl, .own _, ht, hk, false, rfl, iteT (iteT ⟨_, rfl, q H (Same.refl H)⟩)⟩
    · obtain ⟨dy, m, eb2, el2⟩ := id bb
      refine ⟨_, rfl, _, _, _, _, true, rfl, .own _, .base (.ins eb2 cl I.ha I.hn I.ht I.hm), I.me, true, rfl, iteF ?_⟩
      refine ⟨_, rfl, a, dx, _, rfl, eb, (lk_no (by decide +kernel)), a, rs, xs, rfl, ba, hx, by omega, fun p1 H1 n1 s1 e1 => ?_⟩
      refine ⟨_, rfl, b, dy, _, rfl, s1 _ _ eb2, (lk_no (by decide +kernel)), b, ss, ys, rfl, bb.same s1, hy.same s1, by omega, fun p2 H2 n2 s2 e2 => ?_⟩
      refine ⟨_, _, _, _, rfl, rfl, s2 _ _ e1, e2, ?_, fun p3 n3 => ?_⟩
      · rw [List.length_map, List.length_map, List.length_map, List.length_map]
        exact Nat.le_trans (by omega : _ ≤ 1000) (by decide)
      · have s12 := s1.trans s2
        have s3 : Same H (upd H2 p3 (.lst ((xs.map Rl.l).map V.str ++ (ys.map Rl.l).map V.str))) := same_put s12 (s12.free n3)
        have e3 : upd H2 p3 (.lst ((xs.map Rl.l).map V.str ++ (ys.map Rl.l).map V.str)) p3 = some (.lst (((xs ++ ys).map Rl.l).map V.str)) := by rw [upd_same, List.map_append, List.map_append]
        generalize upd H2 p3 (.lst ((xs.map Rl.l).map V.str ++ (ys.map Rl.l).map V.str)) = G at s3 e3 ⊢
        refine ⟨p3, (xs ++ ys).map Rl.l, rfl, SqL.of e3, by rw [List.length_map, List.length_append]; omega, _, rfl, ?_⟩
        rw [decide_eq_false nd]
        exact iteT ⟨_, rfl, q G s3⟩
end
end Nv
set_option maxHeartbeats 4000000
namespace PySem.W
open PySem PySem.Calls PyProof.Rows
section
variable {prog : Program} {w : World} {A : Around} {E : Value → Shared → Prop} {s : Shared} {K : Frag} {x C f : Addr} {ox : Obj} {od : Option Obj}
/-- an own + asked first, of the left value, whatever stands right -/
theorem add_first {b tb : Value} {right : Bool} {ro : Option Value} {Q : Value → Shared → Prop} (X : K.In s.heap) (I : InstAt s.heap x ox C od) (hb : Looks (model prog w) s.heap (typeOf b) tb) (hne : (Value.ref C == tb) = false) (hc : selfFirst K C = true)
    (hs : findIn K (.ref C) "__add__" = some (some (.ref f))) (hf : isFn K (.ref f) = true) (hr : findIn K (.ref C) "__radd__" = some none)
    (L4 : Looks (model prog w) s.heap (fillsNumberSlot tb "add") right) (more : right = true → Looks (model prog w) s.heap (isSubtype tb (.ref C)) false ∧ Looks (model prog w) s.heap (numberSlotInPython tb "add") false ∧ Looks (model prog w) s.heap (typeLookup tb "__radd__") ro)
    (h : wpAny (model prog w) A (call (.ref f) [.ref x, b]) (CmpBack Q) E s) : wpAny (model prog w) A (binaryOp .Add (.ref x) b) Q E s := by
  obtain ⟨cd, rest, hcd, hm⟩ := ksp_first hc
  have one := ksp_try (name := "__add__") X I hs hf h
  have i1 : Looks (model prog w) s.heap (typeOf (.ref x)) (.ref C) := I.type
  have i2 : Looks (model prog w) s.heap (fillsNumberSlot (.ref C) "add") true := fills_K X hcd hm hs
  have i3 : Looks (model prog w) s.heap (numberSlotInPython (.ref C) "add") true := ksp_inPy X hs hr (.inl rfl)
  simp only [binaryOp, show Operator.info .Add = ("+", "add") from rfl]
  refine wpAny_holding (wpAny_bind ?_)
  unfold binaryOp1
  refine wpAny_bind (i1.here (wpAny_bind (hb.here (wpAny_bind (i2.here ?_)))))
  simp only [hne, Bool.false_eq_true, if_false]
  refine wpAny_bind (L4.here ?_)
  have fin : ∀ {R : Option Value → Shared → Prop}, (∀ v s', Q v s' → R (some v) s') → wpAny (model prog w) A (tryMethod (.ref x) "__add__" b) R E s := fun k => wpAny_mono one (fun r s' hr' => by obtain ⟨v, rfl, hq⟩ := hr'; exact k v s' hq) fun _ _ e => e
  cases right with
  | false =>
    simp only [Bool.and_false, Bool.false_eq_true, if_false, Bool.false_and]
    refine wpAny_bind (wpAny_pure ?_)
    simp only [Bool.false_eq_true, if_false, if_true]
    refine wpAny_bind (m := tryMethod (.ref x) _ b) (fin fun v s' q => ?_)
    exact wpAny_pure (wpAny_pure q)
  | true =>
    obtain ⟨m1, m2, m3⟩ := more rfl
    simp only [Bool.and_self, if_true]
    refine wpAny_bind (m1.here ?_)
    simp only [Bool.false_eq_true, if_false, Bool.not_false, if_true, Bool.and_true]
    refine wpAny_bind (i3.here ?_)
    simp only [if_true]
    refine wpAny_bind (m2.here ?_)
    simp only [Bool.not_false, if_true]
    refine wpAny_bind (m3.here ?_)
    refine wpAny_bind (m := tryMethod (.ref x) _ b) (fin fun v s' q => ?_)
    exact wpAny_pure (wpAny_pure q)
end
end PySem.W
namespace Nv
open PySem PySem.Spec PyProof.Rows L2
/-- a type whose values stand right of an own +, without being asked first -/
def AddT (T : String) : Prop := ∃ fo ro : Option Value, (∀ K, PySem.W.findIn K (.type T) (PySem.dunder "add") = some fo) ∧ (∀ K, PySem.W.findIn K (.type T) (dunderR "add") = some ro) ∧ ∀ K C, PySem.W.subIn K (.type T) (.ref C) = some false
theorem addT_NoneType : AddT "NoneType" := ⟨_, _, fun _ => rfl, fun _ => rfl, fun _ _ => rfl⟩
theorem addT_bool : AddT "bool" := ⟨_, _, fun _ => rfl, fun _ => rfl, fun _ _ => rfl⟩
theorem addT_int : AddT "int" := ⟨_, _, fun _ => rfl, fun _ => rfl, fun _ _ => rfl⟩
theorem addT_str : AddT "str" := ⟨_, _, fun _ => rfl, fun _ => rfl, fun _ _ => rfl⟩
theorem addT_tuple : AddT "tuple" := ⟨_, _, fun _ => rfl, fun _ => rfl, fun _ _ => rfl⟩
theorem addT_list : AddT "list" := ⟨_, _, fun _ => rfl, fun _ => rfl, fun _ _ => rfl⟩
theorem addT_dict : AddT "dict" := ⟨_, _, fun _ => rfl, fun _ => rfl, fun _ _ => rfl⟩
/-- a class that stands on object alone, without + -/
structure NoAdd (K : PySem.W.Frag) (C : Addr) : Prop where
  mro : ∃ cd, PySem.W.clsIn K C = some cd ∧ cd.mro = [.ref C, .type "object"]
  add : PySem.W.findIn K (.ref C) "__add__" = some none
  radd : PySem.W.findIn K (.ref C) "__radd__" = some none
theorem fills_own {K : PySem.W.Frag} {C : Addr} {h : Heap} {M : Model} (X : K.In h) (N : NoAdd K C) : PySem.W.Looks M h (fillsNumberSlot (.ref C) "add") false := by
  obtain ⟨⟨cd, hcd, hm⟩, h1, h2⟩ := N
  intro A Q E s k q
  have X' : K.In s.heap := X.keeps k
  have a1 : PySem.W.Looks M s.heap (typeLookup (.ref C) (PySem.dunder "add")) none := PySem.W.looks_findIn X' h1
  have a2 : PySem.W.Looks M s.heap (typeLookup (.ref C) (dunderR "add")) none := PySem.W.looks_findIn X' h2
  have a3 : PySem.W.Looks M s.heap (typeLookup (.type "object") (PySem.dunder "add")) none := PySem.W.looks_findIn X' rfl
  have a4 : PySem.W.Looks M s.heap (typeLookup (.type "object") (dunderR "add")) none := PySem.W.looks_findIn X' rfl
  unfold fillsNumberSlot
  refine wpAny_bind (((PySem.W.looks_clsIn X' hcd).andThen (f := fun cd => pure cd.mro) .now).here ?_)
  rw [hm, List.anyM_cons]
  refine wpAny_bind ?_
  show wpAny M A (List.anyM _ [PySem.dunder "add", dunderR "add"]) _ _ _
  rw [List.anyM_cons]
  refine wpAny_bind (wpAny_bind (a1.here ?_))
  refine wpAny_pure ?_
  simp only [Bool.false_eq_true, if_false]
  rw [List.anyM_cons]
  refine wpAny_bind (wpAny_bind (a2.here ?_))
  refine wpAny_pure ?_
  simp only [Bool.false_eq_true, if_false]
  refine wpAny_pure ?_
  simp only [Bool.false_eq_true, if_false]
  rw [List.anyM_cons]
  refine wpAny_bind ?_
  refine wpAny_bind (a3.here (wpAny_bind (a4.here ?_)))
  refine wpAny_pure ?_
  exact wpAny_pure q
/-- what may stand right of a book's + -/
def AddR (K : PySem.W.Frag) (C : Addr) (t : Value) : Prop := t = .ref C ∨ (∃ T, t = .type T ∧ AddT T) ∨ ∃ D, t = .ref D ∧ D ≠ C ∧ NoAdd K D
section
variable {X : Cx} {CX : CXT} {k : Nat} {C f : Addr} {fd : FuncData} {ps : List Str} {sp : Sp} {E : L2.St → XK} {m : Str} {apos pos : Pos} {a b e o : Expr} {es : List Expr} {ta tb : TE} {t : TA}
/-- an own + that lets an error out, in a try -/
def tAddS (K : PySem.W.Frag) (C : Addr) (sp : Sp) (E : L2.St → XK) (ta tb : TE) : TE := fun σ H Q => ta σ H fun x H1 => tb σ H1 fun y H2 => ∃ (r dx : Addr) (fs : List (Str × V)) (t : Value), x = .ref r ∧ H2 r = some (.ins C dx fs) ∧ TyX K H2 y t ∧ AddR K C t ∧ sp [x, y] H2 (fun _ _ => False) (E σ)
theorem pe_addS (F : FnOk X.prog X.w X.K X.mg X.base CX k f fd ps sp) (hr : Room k X.A) (hc : PySem.W.selfFirst X.K C = true) (hs : PySem.W.findIn X.K (.ref C) "__add__" = some (some (.ref f))) (hradd : PySem.W.findIn X.K (.ref C) "__radd__" = some none) (hf : PySem.W.isFn X.K (.ref f) = true)
    (hb : Binds X.K fd ps []) (hx : ∀ σ, PassesAt CX X σ (E σ)) (ha : PE X a ta) (hbb : PE X b tb) : PE X (.BinOp a .Add b pos) (tAddS X.K C sp E ta tb) := by
  refine ⟨fun pins s σ H Q I h => ?_⟩
  refine wpAny_BinOp (binT ha hbb I h fun v u s2 x y H2 I2 rx ry q => ?_)
  obtain ⟨r, dx, fs, t, rfl, hr2, ht, hat, hsp⟩ := q
  obtain ⟨P, Z, p, _⟩ := kit_of I2 ry ht
  have ty := Z.ty (model X.prog X.w) s2.heap I2.kIn p
  cases rx
  obtain ⟨mA, J, _⟩ := ins_get I2.hok hr2
  obtain ⟨od, J, _⟩ := J.look
  obtain ⟨mm, hF⟩ := I2.fr
  have run : wpAny (model X.prog X.w) X.A (call (.ref f) [.ref r, u]) (PySem.W.CmpBack (EP X pins σ Q)) X.xe s2 := by
    refine wpAny_mono (run_fnS (vs := [.ref r, y]) F hr hb (hx σ) I2 (.cons rfl (.cons ry .nil)) hsp) (fun w s3 z => ?_) fun _ _ e => e
    obtain ⟨_, _, _, _, q⟩ := z
    exact q.elim
  have X2 := I2.kIn
  rcases hat with rfl | ⟨T, rfl, fo, ro, h1, h2, h3⟩ | ⟨D, rfl, hD, N⟩
  · exact PySem.W.binop_K (op := .Add) hF I2.ok.mod.kin J ty hc hs hf run
  · refine PySem.W.add_first (ro := ro) X2 J ty (by simp) hc hs hf hradd (PySem.W.ksp_fillsT X2 (h1 _) (h2 _)) (fun _ => ⟨PySem.W.looks_subIn X2 (h3 _ _), .of_pure rfl, PySem.W.looks_findIn X2 (h2 _)⟩) run
  · refine PySem.W.add_first (ro := none) X2 J ty ?_ hc hs hf hradd (fills_own X2 N) (fun z => by cases z) run
    exact Bool.eq_false_iff.mpr fun z => hD (by have := eq_of_beq z; injection this with this; exact this.symm)
/-- o.m(e, ..), which may let an error out, in a try -/
def tMethS2 (C : Addr) (m : Str) (sp : Sp) (E : L2.St → XK) (ta : TE) (t : TA) : TE := fun σ H Q => ta σ H fun x H1 => ∃ a dx fs, x = .ref a ∧ H1 a = some (.ins C dx fs) ∧ fs.lookup m = none ∧ t σ H1 fun vs H2 => sp (.ref a :: vs) H2 Q (E σ)
theorem pe_methS2 {pl : Sem Bool} (he : PE X o ta) (c : Cls X.K C) (hm : Meth X.K C m f) (F : FnOk X.prog X.w X.K X.mg X.base CX k f fd ps sp) (hr : Room k X.A) (hb : Binds X.K fd ps []) (hx : ∀ σ, PassesAt CX X σ (E σ)) (ha : PA X (e :: es) t)
    (hst : starEach (e :: es) X.env = (false, eval e X.env) :: starEach es X.env := by rfl) (hpl : (backTo pos (starEach es X.env)).any (·.1) = false := by rfl)
    (ht : eval (.Call (.Attribute o m apos) (e :: es) [] pos) X.env = (do
      let recv ← eval o X.env
      standAt apos.atName
      let (g, one) ← holding [recv] (getMethod recv m pl)
      callWith pos g one (backTo pos (starEach (e :: es) X.env)) (backToKw pos (keywordEach [] X.env))) := by rfl) :
    PE X (.Call (.Attribute o m apos) (e :: es) [] pos) (tMethS2 C m sp E ta t) := by
  refine ⟨fun pins s σ H Q I h => PySem.W.methodCall_KW (pl := pl) (thn (he.run pins s σ H _ I h) fun u s1 z => ?_) ht⟩
  obtain ⟨x, H1, I1, rx, a, dx, fs, ex, ea, l, q⟩ := z
  subst ex
  obtain rfl : u = Value.ref a := rx
  refine getmeth_ok I1 ea c hm l (PySem.W.callWith_K (first := [.ref a]) (h₀ := X.base) I.ok.mod.kin hm.kp (thn (ha.run pos pins s1 σ H1 _ I1 q) fun us s2 z2 => ?_) hst hpl)
  obtain ⟨vs, H2, I2, r, q2⟩ := z2
  exact ⟨I2.kIn, run_fnS (us := .ref a :: us) (vs := .ref a :: vs) F hr hb (hx σ) I2 (.cons rfl r) q2⟩
end
end Nv
set_option maxHeartbeats 4000000
namespace Nv
open PySem PySem.Spec PyProof.Rows L2
theorem RAn.ra {C : Addr} {H H' : Hp} {r : Addr} {x : Rl} (h : RAn C H H' r x) : RA C H' r x := by
  obtain ⟨dx, th, l1, l2, l3, us, us2, us3, _, h⟩ := h
  exact ⟨dx, th, l1, l2, l3, us, us2, us3, h⟩
theorem Same.back {H H' : Hp} {a : Addr} (s : Same H H') (n : H' a = none) : H a = none := s.free n
theorem mk_rule {H : Hp} {C x dx th tt : Addr} {y : Rl} {us : List V} {vp vd : V} {Q : VK} (ok : y.Ok) (cl : Clo y) (nx : H x = none) (ndx : H dx = none) (eth : H th = some (.tup (y.h.map V.str))) (ett : H tt = some (.lst us)) (pp : PaL H us y.ps) (op : Opt H vp y.qs) (od : Opt H vd y.ds)
    (q : ∀ H', Same H H' → RAn C H H' x y → Q .non H') : spRuleInit C [.ref x, .str y.l, .ref th, .ref tt, vp, vd] (upd (upd H dx (.own x)) x (.ins C dx [])) Q E0 := by
  have sK : Same H (upd (upd H dx (.own x)) x (.ins C dx [])) := fun b o e => by
    rw [upd_ne (ne_of_none e nx), upd_ne (ne_of_none e ndx)]
    exact e
  have ex : upd (upd H dx (.own x)) x (.ins C dx []) x = some (.ins C dx []) := upd_same
  have mk : ∀ {H2 : Hp}, Sb x (upd (upd H dx (.own x)) x (.ins C dx [])) H2 → Same H H2 := fun sb => made_same (Same.refl H) nx ndx sb
  generalize upd (upd H dx (.own x)) x (.ins C dx []) = K2 at sK ex mk ⊢
  refine ⟨x, dx, y.l, th, tt, y.h, us, y.ps, vp, y.qs, vd, y.ds, rfl, ex, ok.l, ⟨sK _ _ eth, ok.h⟩, ⟨sK _ _ ett, pp.same sK, ok.ps, ok.pl⟩, ⟨op.same sK, ok.qs⟩, ⟨od.same sK, ok.ds⟩, ⟨cl.h, cl.q, cl.d⟩, ?_⟩
  intro l1 l2 l3 us2 us4 H' f1 f2 f3 sb er el1 el2 pl2 el3 pl3
  have thx : th ≠ x := fun z => by
    rw [z, nx] at eth
    cases eth
  refine q H' (mk sb) ⟨dx, th, l1, l2, l3, us, us2, us4, ⟨nx, sK.free f1, sK.free f2, sK.free f3⟩, er, sb _ _ thx (sK _ _ eth), ⟨el1, (pp.same sK).sbo ex sb⟩, ⟨el2, pl2⟩, el3, pl3⟩
theorem PaL.sbs {ls : List Addr} {H H' : Hp} {vs : List V} {ps : List (List Str)} (h : PaL H vs ps) (hl : ∀ l ∈ ls, ∃ xs, H l = some (.lst xs)) (s : Sbs ls H H') : PaL H' vs ps := by
  induction h with
  | nil => exact .nil
  | cons e1 _ ih =>
    refine .cons (s _ _ (fun z => ?_) e1) ih
    obtain ⟨xs, e⟩ := hl _ z
    rw [e1] at e
    cases e
/-- what was made since stays as it is, whatever becomes of lists that stood before -/
theorem RAn.sbs {C : Addr} {ls : List Addr} {H H1 H2 : Hp} {r : Addr} {x : Rl} (h : RAn C H H1 r x) (s1 : Same H H1) (hl : ∀ l ∈ ls, ∃ xs, H l = some (.lst xs)) (s : Sbs ls H1 H2) : RA C H2 r x := by
  obtain ⟨dx, th, l1, l2, l3, us, us2, us3, ⟨n1, n2, n3, n4⟩, e, et, ⟨e1, p1⟩, ⟨e2, p2⟩, e3, p3⟩ := h
  have no : ∀ {a : Addr}, H a = none → a ∉ ls := fun n z => by
    obtain ⟨xs, e⟩ := hl _ z
    rw [n] at e
    cases e
  have hl1 : ∀ l ∈ ls, ∃ xs, H1 l = some (.lst xs) := fun l hm => by
    obtain ⟨xs, e⟩ := hl l hm
    exact ⟨xs, s1 _ _ e⟩
  refine ⟨dx, th, l1, l2, l3, us, us2, us3, s _ _ (no n1) e, s _ _ (fun z => ?_) et, ⟨s _ _ (no n2) e1, p1.sbs hl1 s⟩, ⟨s _ _ (no n3) e2, p2.sbs hl1 s⟩, s _ _ (no n4) e3, p3.sbs hl1 s⟩
  obtain ⟨xs, e⟩ := hl1 _ z
  rw [et] at e
  cases e
/-- lists that were made since are changed: what stood before stays -/
theorem Sbs.same {ls : List Addr} {H H1 H2 : Hp} (s1 : Same H H1) (n : ∀ l ∈ ls, H l = none) (s : Sbs ls H1 H2) : Same H H2 := fun b o e => s b o (fun z => by
  rw [n b z] at e
  cases e) (s1 b o e)
/-- the row that a rule is made of: a list of its label, its head's tuple, and three lists -/
structure Row (H : Hp) (ar th tt tq td : Addr) (us uq ud : List V) (x : Rl) : Prop where
  ar : H ar = some (.lst [.str x.l, .ref th, .ref tt, .ref tq, .ref td])
  th : H th = some (.tup (x.h.map V.str))
  tt : H tt = some (.lst us)
  ps : PaL H us x.ps
  tq : H tq = some (.lst uq)
  qs : PaL H uq x.qs
  td : H td = some (.lst ud)
  ds : PaL H ud x.ds
theorem Row.same {H H1 : Hp} {ar th tt tq td : Addr} {us uq ud : List V} {x : Rl} (h : Row H ar th tt tq td us uq ud x) (s : Same H H1) : Row H1 ar th tt tq td us uq ud x :=
  ⟨s _ _ h.ar, s _ _ h.th, s _ _ h.tt, h.ps.same s, s _ _ h.tq, h.qs.same s, s _ _ h.td, h.ds.same s⟩
theorem Row.rdd {P : Program} {w : World} {K : PySem.W.Frag} {H : Hp} {ar th tt tq td : Addr} {us uq ud : List V} {x : Rl} (h : Row H ar th tt tq td us uq ud x) : Rdd P w K H (.ref ar) (dR x) :=
  rdd_lst h.ar (rddAll_cons (rdd_str _) (rddAll_cons (rdd_T h.th) (rddAll_cons (rdd_L h.tt h.ps) (rddAll_cons (rdd_L h.tq h.qs) (rddAll_cons (rdd_L h.td h.ds) rddAll_nil)))))
theorem opt_of {H : Hp} {a : Addr} {us : List V} {ps : List (List Str)} (e : H a = some (.lst us)) (h : PaL H us ps) (l : ps.length ≤ 300) : Opt H (.ref a) ps := .inr ⟨a, us, rfl, e, h, l⟩
/-- no rule: what == of a rule finds unlike at once -/
def NoR (K : PySem.W.Frag) (C : Addr) (t : Value) : Prop := PySem.W.kitOne K t (.ref C) = some false ∧ PySem.W.notFirst K C t = true
/-- another value than the rule x -/
def Oth (K : PySem.W.Frag) (C : Addr) (x : Rl) (H : Hp) (v : V) : Prop := (∃ (r : Addr) (y : Rl), v = .ref r ∧ RA C H r y ∧ y.Ok ∧ x ≠ y) ∨ ∃ t : Value, TyX K H v t ∧ NoR K C t
end Nv
set_option maxHeartbeats 4000000
namespace Nv
open PySem PySem.Spec PyProof.Rows L2
/-! ### what the top gives, by name -/
section
variable (P : Program) (w : World) (K : PySem.W.Frag) (mg : Str → Option Value) (base : Heap)
structure CallOk (x : Str) (k : Nat) (ps : List Str) (sp : Sp) : Prop where
  ex : ∃ f fd, FnOk P w K mg base CX0 k f fd ps sp ∧ PySem.W.keepIn K (.ref f) = true ∧ mg x = some (.ref f) ∧ Binds K fd ps []
structure PropOk (C : Addr) (x : Str) (sp : Sp) : Prop where
  ex : ∃ p g fd, PropOf K C x p g ∧ FnOk P w K mg base CX0 1 g fd ["self"] sp ∧ Binds K fd ["self"] []
structure OwnOk (C : Addr) (x : Str) (k : Nat) (ps : List Str) (sp : Sp) : Prop where
  ex : ∃ f fd, FnOk P w K mg base CX0 k f fd ps sp ∧ PySem.W.findIn K (.ref C) x = some (some (.ref f)) ∧ PySem.W.isFn K (.ref f) = true ∧ Binds K fd ps []
structure MakeOk (C : Addr) (x : Str) (k : Nat) (ps : List Str) (sp : Sp) (ds : List Value) : Prop where
  ex : ∃ f fd, FnOk P w K mg base CX0 k f fd ps sp ∧ Mk K C f ∧ mg x = some (.ref C) ∧ ∀ n, n ≤ ds.length → Binds K fd ps (ds.drop n)
end
/-- the class Rule, whole -/
structure RuleOk (P : Program) (w : World) (K : PySem.W.Frag) (mg : Str → Option Value) (base : Heap) (CR : Addr) : Prop where
  R : RC K CR
  I : IC K CR
  mkr : MakeOk P w K mg base CR "Rule" 5 ["self", "label", "head", "told", "pairs", "denied"] (spRuleInit CR) [.none, .none]
  eq : OwnOk P w K mg base CR "__eq__" 1 ["self", "other"] (spRuleEq K CR)
  ne : PySem.W.findIn K (.ref CR) "__ne__" = some (some (.builtin "object.__ne__"))
  label : PropOk P w K mg base CR "label" (getSp CR "_label")
  head : PropOk P w K mg base CR "head" (getSp CR "_head")
  told : PropOk P w K mg base CR "told" (spGetL CR "_told")
  pairs : PropOk P w K mg base CR "pairs" (spGetL CR "_pairs")
  denied : PropOk P w K mg base CR "denied" (spGetL CR "_denied")
  nNon : NoR K CR (.type "NoneType")
  nStr : NoR K CR (.type "str")
  nLst : NoR K CR (.type "list")
  nTup : NoR K CR (.type "tuple")
section
variable {K : PySem.W.Frag} {C : Addr} {H : Hp} {a c : Addr} {x y : Rl} {v : V} {Q : VK}
theorem eq_rules (R : RC K C) (I : IC K C) (ra : RA C H a x) (xo : x.Ok) (rc : RA C H c y) (yo : y.Ok) (q : Q (.bl (decide (x = y))) H) : rOwnEq K C (spRuleEq K C) (.ref a) (.ref c) H Q := by
  obtain ⟨dx, th, l1, l2, l3, us, us2, us3, e, _⟩ := id ra
  obtain ⟨dx', th', m1, m2, m3, ws, ws2, ws3, e', _⟩ := id rc
  exact ⟨a, dx, _, _, rfl, e, .base (.ins e' R.cl I.ha I.hn I.ht I.hm), by simp [PySem.W.notFirst], a, x, _, rfl, ra, xo, .inl ⟨c, y, rfl, rc, yo, _, rfl, q⟩⟩
theorem ne_rules (R : RC K C) (I : IC K C) (ra : RA C H a x) (xo : x.Ok) (rc : RA C H c y) (yo : y.Ok) (q : Q (.bl (!decide (x = y))) H) : rOwnNe K C (spRuleEq K C) (.ref a) (.ref c) H Q := by
  obtain ⟨dx, th, l1, l2, l3, us, us2, us3, e, _⟩ := id ra
  obtain ⟨dx', th', m1, m2, m3, ws, ws2, ws3, e', _⟩ := id rc
  exact ⟨a, dx, _, _, rfl, e, .base (.ins e' R.cl I.ha I.hn I.ht I.hm), by simp [PySem.W.notFirst], a, x, _, rfl, ra, xo, .inl ⟨c, y, rfl, rc, yo, _, rfl, q⟩⟩
theorem eq_oth (R : RC K C) (I : IC K C) (ra : RA C H a x) (xo : x.Ok) (o : Oth K C x H v) (q : Q (.bl false) H) : rOwnEq K C (spRuleEq K C) (.ref a) v H Q := by
  rcases o with ⟨r, y, rfl, ry, yo, ne⟩ | ⟨t, ht, hk, hn⟩
  · refine eq_rules R I ra xo ry yo ?_
    rw [decide_eq_false ne]
    exact q
  · obtain ⟨dx, th, l1, l2, l3, us, us2, us3, e, _⟩ := id ra
    exact ⟨a, dx, _, t, rfl, e, ht, hn, a, x, _, rfl, ra, xo, .inr ⟨t, ht, hk, _, rfl, q⟩⟩
theorem ne_oth (R : RC K C) (I : IC K C) (ra : RA C H a x) (xo : x.Ok) (o : Oth K C x H v) (q : Q (.bl true) H) : rOwnNe K C (spRuleEq K C) (.ref a) v H Q := by
  rcases o with ⟨r, y, rfl, ry, yo, ne⟩ | ⟨t, ht, hk, hn⟩
  · refine ne_rules R I ra xo ry yo ?_
    rw [decide_eq_false ne]
    exact q
  · obtain ⟨dx, th, l1, l2, l3, us, us2, us3, e, _⟩ := id ra
    exact ⟨a, dx, _, t, rfl, e, ht, hn, a, x, _, rfl, ra, xo, .inr ⟨t, ht, hk, _, rfl, q⟩⟩
theorem Oth.same {H' : Hp} (o : Oth K C x H v) (s : Same H H') : Oth K C x H' v := by
  rcases o with ⟨r, y, rfl, ry, yo, ne⟩ | ⟨t, ht, hn⟩
  · exact .inl ⟨r, y, rfl, ry.same s, yo, ne⟩
  · exact .inr ⟨t, tyx_same s ht, hn⟩
theorem RAn.oth {H0 : Hp} (h : RAn C H0 H c y) (yo : y.Ok) (ne : x ≠ y) : Oth K C x H (.ref c) := .inl ⟨c, y, rfl, h.ra, yo, ne⟩
end
end Nv
set_option maxHeartbeats 4000000
namespace Nv
open PySem PySem.Spec PyProof.Rows L2
section
variable (P : Program) (w : World) (K : PySem.W.Frag) (mg : Str → Option Value) (base : Heap)
structure MethOk (C : Addr) (x : Str) (k : Nat) (ps : List Str) (sp : Sp) : Prop where
  ex : ∃ f fd, FnOk P w K mg base CX0 k f fd ps sp ∧ Meth K C x f ∧ Binds K fd ps []
structure PropOkN (C : Addr) (x : Str) (k : Nat) (sp : Sp) : Prop where
  ex : ∃ p g fd, PropOf K C x p g ∧ FnOk P w K mg base CX0 k g fd ["self"] sp ∧ Binds K fd ["self"] []
end
theorem map_str_inj : ∀ {xs ys : List Str}, xs.map V.str = ys.map V.str → xs = ys
  | [], [], _ => rfl
  | [], _ :: _, h => nomatch h
  | _ :: _, [], h => nomatch h
  | x :: xs, y :: ys, h => by
    injection h with h1 h2
    injection h1 with h1
    rw [h1, map_str_inj h2]
theorem PaL.fn {H : Hp} {vs : List V} {ps qs : List (List Str)} (h : PaL H vs ps) (k : PaL H vs qs) : ps = qs := by
  induction h generalizing qs with
  | nil =>
    cases k
    rfl
  | cons e _ ih =>
    cases k with
    | cons e2 k2 =>
      rw [e] at e2
      injection e2 with e2
      injection e2 with e2
      rw [map_str_inj e2, ih k2]
theorem RA.fn {C : Addr} {H : Hp} {r : Addr} {x y : Rl} (h : RA C H r x) (k : RA C H r y) : x = y := by
  obtain ⟨dx, th, l1, l2, l3, us, us2, us3, e, et, ⟨e1, p1⟩, ⟨e2, p2⟩, e3, p3⟩ := h
  obtain ⟨dx', th', m1, m2, m3, ws, ws2, ws3, g, gt, ⟨g1, r1⟩, ⟨g2, r2⟩, g3, r3⟩ := k
  rw [e] at g
  injection g with g
  injection g with _ _ g
  injection g with ga g
  injection g with gb g
  injection g with gc g
  injection g with gd g
  injection g with ge g
  injection ga with _ ga
  injection ga with ga
  injection gb with _ gb
  injection gb with gb
  injection gc with _ gc
  injection gc with gc
  injection gd with _ gd
  injection gd with gd
  injection ge with _ ge
  injection ge with ge
  subst gb gc gd ge
  rw [et] at gt
  injection gt with gt
  injection gt with gt
  rw [e1] at g1
  injection g1 with g1
  injection g1 with g1
  subst g1
  rw [e2] at g2
  injection g2 with g2
  injection g2 with g2
  subst g2
  rw [e3] at g3
  injection g3 with g3
  injection g3 with g3
  subst g3
  obtain ⟨a, b, c, d, f⟩ := x
  obtain ⟨a', b', c', d', f'⟩ := y
  dsimp only at *
  rw [ga, map_str_inj gt, p1.fn r1, p2.fn r2, p3.fn r3]
theorem one_of {C : Addr} {H : Hp} {rs ss : List Addr} {xs ys : List Rl} (hx : RAs C H rs xs) (hy : RAs C H ss ys) : One rs ss xs ys := fun i r x y h1 h2 h3 h4 => by
  obtain ⟨x', e1, r1⟩ := hx.at_ h1
  obtain ⟨y', e2, r2⟩ := hy.at_ h2
  rw [h3] at e1
  rw [h4] at e2
  injection e1 with e1
  injection e2 with e2
  subst e1 e2
  exact r1.fn r2
/-- the book of rs, made since H -/
def BAn (C : Addr) (H H' : Hp) (b : Addr) (rs : List Addr) : Prop := ∃ dx l : Addr, (H b = none ∧ H l = none) ∧ H' b = some (.ins C dx [("_rules", .ref l)]) ∧ H' l = some (.lst (rs.map V.ref))
section
variable {C CR : Addr} {H H1 : Hp} {b c x dx a : Addr} {rs ss : List Addr} {xs ys : List Rl} {Q : VK} {K : PySem.W.Frag}
theorem BAn.ba (h : BAn C H H1 b rs) : BA C H1 b rs := by
  obtain ⟨dx, l, _, h⟩ := h
  exact ⟨dx, l, h⟩
theorem mk_book (nx : H x = none) (ndx : H dx = none) (ea : H a = some (.lst (rs.map V.ref))) (hx : RAs CR H rs xs) (nd : (xs.map Rl.l).Nodup) (le : xs.length ≤ 100)
    (q : ∀ H', Same H H' → BAn C H H' x rs → Q .non H') : spBookInit CR C [.ref x, .ref a] (upd (upd H dx (.own x)) x (.ins C dx [])) Q E0 := by
  have sK : Same H (upd (upd H dx (.own x)) x (.ins C dx [])) := fun b o e => by
    rw [upd_ne (ne_of_none e nx), upd_ne (ne_of_none e ndx)]
    exact e
  have ex : upd (upd H dx (.own x)) x (.ins C dx []) x = some (.ins C dx []) := upd_same
  have mk : ∀ {H2 : Hp}, Sb x (upd (upd H dx (.own x)) x (.ins C dx [])) H2 → Same H H2 := fun sb => made_same (Same.refl H) nx ndx sb
  generalize upd (upd H dx (.own x)) x (.ins C dx []) = K2 at sK ex mk ⊢
  exact ⟨x, dx, a, rs, xs, rfl, ex, sK _ _ ea, hx.same sK, nd, le, fun l1 H' n1 sb e1 e2 => q H' (mk sb) ⟨dx, l1, ⟨nx, sK.free n1⟩, e1, e2⟩⟩
theorem eq_books (cl : Cls K C) (I : IC K C) (ba : BA C H b rs) (hx : RAs CR H rs xs) (ox : ∀ x ∈ xs, x.Ok) (bc : BA C H c ss) (hy : RAs CR H ss ys) (oy : ∀ y ∈ ys, y.Ok) (q : ∀ H', Same H H' → Q (.bl (decide (xs = ys))) H') : rOwnEq K C (spBookEq K CR C) (.ref b) (.ref c) H Q := by
  obtain ⟨dx, l, e, _⟩ := id ba
  obtain ⟨dy, m, e', _⟩ := id bc
  exact ⟨b, dx, _, _, rfl, e, .base (.ins e' cl I.ha I.hn I.ht I.hm), by simp [PySem.W.notFirst], b, rs, xs, _, rfl, ba, hx, ox, .inl ⟨c, ss, ys, rfl, bc, hy, oy, one_of hx hy, fun H' s => ⟨_, rfl, q H' s⟩⟩⟩
theorem ne_books (cl : Cls K C) (I : IC K C) (ba : BA C H b rs) (hx : RAs CR H rs xs) (ox : ∀ x ∈ xs, x.Ok) (bc : BA C H c ss) (hy : RAs CR H ss ys) (oy : ∀ y ∈ ys, y.Ok) (q : ∀ H', Same H H' → Q (.bl (!decide (xs = ys))) H') : rOwnNe K C (spBookEq K CR C) (.ref b) (.ref c) H Q := by
  obtain ⟨dx, l, e, _⟩ := id ba
  obtain ⟨dy, m, e', _⟩ := id bc
  exact ⟨b, dx, _, _, rfl, e, .base (.ins e' cl I.ha I.hn I.ht I.hm), by simp [PySem.W.notFirst], b, rs, xs, _, rfl, ba, hx, ox, .inl ⟨c, ss, ys, rfl, bc, hy, oy, one_of hx hy, fun H' s => ⟨_, rfl, q H' s⟩⟩⟩
/-- book == list -/
theorem eq_no (cl : Cls K C) (ba : BA C H b rs) (hx : RAs CR H rs xs) (ox : ∀ x ∈ xs, x.Ok) {v : V} {t : Value} (ht : TyX K H v t) (n : NoR K C t) (q : Q (.bl false) H) : rOwnEq K C (spBookEq K CR C) (.ref b) v H Q := by
  obtain ⟨dx, l, e, _⟩ := id ba
  exact ⟨b, dx, _, t, rfl, e, ht, n.2, b, rs, xs, _, rfl, ba, hx, ox, .inr ⟨t, ht, n.1, _, rfl, q⟩⟩
end
theorem cut_to {rs : List Addr} {j : Nat} (h : j ≤ rs.length) : cutV (rs.map V.ref) none (some (j : Int)) = (rs.take j).map V.ref := by
  unfold cutV
  rw [HT.sIx_none, HT.sIx_nat, List.drop_zero, Nat.sub_zero, List.length_map, Nat.min_eq_left h, List.map_take]
theorem cut_from {rs : List Addr} {j : Nat} (h : j ≤ rs.length) : cutV (rs.map V.ref) (some (j : Int)) none = (rs.drop j).map V.ref := by
  unfold cutV
  rw [HT.sIx_none, HT.sIx_nat, List.length_map, Nat.min_eq_left h, List.map_drop, List.take_of_length_le (by rw [List.length_drop, List.length_map]; exact Nat.le_refl _)]
end Nv
set_option maxHeartbeats 4000000
namespace Nv
open PySem PySem.Spec PyProof.Rows L2
/-! # _law_books_right: what the odd values are -/
/-- what isinstance finds of the classes Rule and Book and of the other types -/
structure KitB (K : PySem.W.Frag) (CR CB : Addr) : Prop where
  rl : PySem.W.kitOne K (.ref CR) (.type "list") = some false
  bl : PySem.W.kitOne K (.ref CB) (.type "list") = some false
  rb : PySem.W.kitOne K (.ref CR) (.ref CB) = some false
  br : PySem.W.kitOne K (.ref CB) (.ref CR) = some false
  tr : ∀ T ∈ ["NoneType", "str", "list"], PySem.W.kitOne K (.type T) (.ref CR) = some false
  tb : ∀ T ∈ ["NoneType", "bool", "int", "str", "tuple", "list", "dict"], PySem.W.kitOne K (.type T) (.ref CB) = some false
section
variable {K : PySem.W.Frag} {H G : Hp} {CR CB : Addr} {v : V}
/-- what Book refuses -/
def BookBad (K : PySem.W.Frag) (CR : Addr) (v : V) (H : Hp) : Prop := (∃ t : Value, TyX K H v t ∧ PySem.W.kitOne K t (.type "list") = some false) ∨
  ∃ (a : Addr) (xs : List V) (bs : List Bool), v = .ref a ∧ H a = some (.lst xs) ∧ All2 (Tr K CR H) xs bs ∧ bs.length ≤ 1000 ∧
    (bs.all id = false ∨ (bs.all id = true ∧ ∃ (rs : List Addr) (ys : List Rl), xs = rs.map V.ref ∧ RAs CR H rs ys ∧ ys.length ≤ 100 ∧ ¬ (ys.map Rl.l).Nodup))
theorem mon_bookBad : Mon (BookBad K CR) := fun v G G' s h => by
  rcases h with ⟨t, ht, hk⟩ | ⟨a, xs, bs, e, ea, hx, hl, h⟩
  · exact .inl ⟨t, tyx_same s ht, hk⟩
  · refine .inr ⟨a, xs, bs, e, s _ _ ea, hx.imp fun _ _ z => z.same s, hl, ?_⟩
    rcases h with h | ⟨h, rs, ys, e2, hr, hy, nd⟩
    · exact .inl h
    · exact .inr ⟨h, rs, ys, e2, hr.same s, hy, nd⟩
theorem BookBad.sp {CE r dx : Addr} {Q : VK} {E : XK} (er : H r = some (.ins CB dx [])) (h : BookBad K CR v H) (w : ∀ G, Same H G → Wx CE "value" G v E) : spBookX K CR CB CE [.ref r, v] H Q E := by
  refine ⟨r, dx, v, rfl, er, ?_⟩
  rcases h with h | ⟨a, xs, bs, e, ea, hx, hl, h⟩
  · exact .inl ⟨h, w⟩
  · refine .inr ⟨a, xs, bs, e, ea, hx, hl, ?_⟩
    rcases h with h | ⟨h, rs, ys, e2, hr, hy, nd⟩
    · exact ifP h w
    · refine ifN (by rw [h]; exact fun z => nomatch z) ⟨rs, ys, e2, hr, hy, ifP (by rw [decide_eq_false nd] <;> rfl) w⟩
theorem BookBad.makes {CN CE : Addr} {Q : VK} (h : BookBad K CR v H) (hm : PySem.W.exmOne K (.ref CE) (.ref CN) = some true)
    (q : ∀ (a : Addr) (G : Hp), Same H G → CtX G a CE "value" v → Q (.ref a) G) : Makes K CN CB (spBookX K CR CB CE) [v] H Q := fun y dy ny nd ne => by
  refine BookBad.sp upd_same (mon_bookBad _ _ _ (same_put (same_new nd) ny) h) ?_
  refine made_wx ny nd ne fun d G s e => ⟨hm, fun a na => q a _ (same_put s (s.free na)) ⟨d, upd_same, ?_⟩⟩
  rw [upd_ne (fun z => by rw [z, na] at e; cases e)]
  exact e
/-- what is compared with itself -/
def SelfNe (CR CB : Addr) (v : V) (H : Hp) : Prop := scal v v = true ∨ Selfy H v ∨ (∃ a x, v = .ref a ∧ RA CR H a x ∧ x.Ok) ∨ ∃ a rs xs, v = .ref a ∧ BA CB H a rs ∧ RAs CR H rs xs ∧ ∀ x ∈ xs, x.Ok
theorem mon_selfNe : Mon (SelfNe CR CB) := fun v G G' s h => by
  rcases h with h | h | ⟨a, x, e, h, o⟩ | ⟨a, rs, xs, e, b, r, o⟩
  · exact .inl h
  · exact .inr (.inl (h.same s))
  · exact .inr (.inr (.inl ⟨a, x, e, h.same s, o⟩))
  · exact .inr (.inr (.inr ⟨a, rs, xs, e, b.same s, r.same s, o⟩))
/-- what stands in no book of labels zs, and is no book -/
def LabBad (K : PySem.W.Frag) (CR CB : Addr) (zs : List Str) (v : V) (H : Hp) : Prop := NoLab CR H v zs ∧ ∃ t : Value, TyX K H v t ∧ PySem.W.kitOne K t (.ref CB) = some false ∧ AddR K CB t
theorem mon_labBad {zs : List Str} : Mon (LabBad K CR CB zs) := fun v G G' s h => by
  obtain ⟨n, t, ht, h⟩ := h
  exact ⟨n.same s, t, tyx_same s ht, h⟩
theorem mon_and {φ ψ : V → Hp → Prop} (h1 : Mon φ) (h2 : Mon ψ) : Mon (fun v G => φ v G ∧ ψ v G) := fun v G G' s h => ⟨h1 _ _ _ s h.1, h2 _ _ _ s h.2⟩
end
section
variable {X : Cx} {CR CB fR fB : Addr} {dR dB : FuncData}
def rNeAny (CR CB : Addr) : R2 := fun x y H Q => y = x ∧ SelfNe CR CB x H ∧ ∀ G, Same H G → Q (.bl false) G
theorem op_neAny (R : RC X.K CR) (I : IC X.K CR) (cl : Cls X.K CB) (IB : IC X.K CB) (GR : FnOk X.prog X.w X.K X.mg X.base CX0 1 fR dR ["self", "other"] (spRuleEq X.K CR)) (sR : PySem.W.findIn X.K (.ref CR) "__eq__" = some (some (.ref fR))) (nR : PySem.W.findIn X.K (.ref CR) "__ne__" = some (some (.builtin "object.__ne__"))) (iR : PySem.W.isFn X.K (.ref fR) = true) (bR : Binds X.K dR ["self", "other"] [])
    (GB : FnOk X.prog X.w X.K X.mg X.base CX0 3 fB dB ["self", "other"] (spBookEq X.K CR CB)) (sB : PySem.W.findIn X.K (.ref CB) "__eq__" = some (some (.ref fB))) (nB : PySem.W.findIn X.K (.ref CB) "__ne__" = some (some (.builtin "object.__ne__"))) (iB : PySem.W.isFn X.K (.ref fB) = true) (bB : Binds X.K dB ["self", "other"] []) (hr : Room 4 X.A) :
    OpR X (compareOp .NotEq) (rNeAny CR CB) := by
  intro pins s σ H x y v u Q I0 rx ry h
  obtain ⟨rfl, h, q⟩ := h
  have hr2 : Room 2 X.A := hr.mono (by decide)
  rcases h with h | h | ⟨a, z, rfl, ra, ok⟩ | ⟨a, rs, xs, rfl, ba, hx, ox⟩
  · refine op_ne pins s σ H _ _ v u Q I0 rx ry ⟨h, ?_⟩
    rw [decide_eq_true rfl]
    exact q H (Same.refl H)
  · exact op_neSelf hr.units0 pins s σ H _ _ v u Q I0 rx ry ⟨rfl, h, q H (Same.refl H)⟩
  · refine op_ownNe GR hr2 sR nR I.hm iR bR pins s σ H _ _ v u Q I0 rx ry (ne_rules R I ra ok ra ok ?_)
    rw [decide_eq_true rfl]
    exact q H (Same.refl H)
  · refine op_ownNe GB hr sB nB IB.hm iB bB pins s σ H _ _ v u Q I0 rx ry (ne_books cl IB ba hx ox ba hx ox fun H' s' => ?_)
    rw [decide_eq_true rfl]
    exact q H' s'
end
/-! ### readings of displays -/
section
variable {K : PySem.W.Frag} {H : Hp} {σ : L2.St} {φ ψ : V → Hp → Prop} {te tv : TE} {ta tr : TA} {CR CB : Addr}
theorem Ev.imp (h : Ev te σ H φ) (k : ∀ v G, Same H G → φ v G → ψ v G) : Ev te σ H ψ := fun G Q s q => h G Q s fun v G' s' p => q v G' s' (k v G' (s.trans s') p)
/-- all of n values are so -/
def AllN (n : Nat) (φ : V → Hp → Prop) (vs : List V) (G : Hp) : Prop := vs.length = n ∧ ∀ x ∈ vs, φ x G
theorem ev_a0 : EvA tNil σ H (AllN 0 φ) := fun G Q s q => q [] G (Same.refl G) ⟨rfl, fun x hx => nomatch hx⟩
theorem ev_a1 {n : Nat} (m : Mon φ) (h : Ev te σ H φ) (hr : EvA tr σ H (AllN n φ)) : EvA (tCons te tr) σ H (AllN (n + 1) φ) := fun G Q s q => by
  refine h G _ s fun v G0 s0 e0 => ?_
  refine hr G0 _ (s.trans s0) fun vs G1 s1 ⟨hl, k⟩ => ?_
  refine q _ _ (s0.trans s1) ⟨by rw [List.length_cons, hl], fun x hx => ?_⟩
  rcases List.mem_cons.mp hx with rfl | hx
  · exact m _ _ _ s1 e0
  · exact k x hx
/-- a list whose values are so -/
def ListN (n : Nat) (φ : V → Hp → Prop) (v : V) (G : Hp) : Prop := ∃ a vs, v = .ref a ∧ G a = some (.lst vs) ∧ AllN n φ vs G
theorem ev_lN {n : Nat} (m : Mon φ) (hn : n ≤ 100) (h : EvA ta σ H (AllN n φ)) : Ev (tLst ta) σ H (ListN n φ) := fun G Q s q =>
  h G _ s fun vs G1 s1 ⟨hl, k⟩ => ⟨by rw [hl]; exact Nat.le_trans hn (by decide), fun p np => q _ _ (s1.trans (same_new np)) ⟨p, vs, rfl, upd_same, hl, fun x hx => m _ _ _ (same_new np) (k x hx)⟩⟩
/-- the values are these -/
theorem ev_v0 : EvA tNil σ H (fun vs _ => vs = []) := fun G Q s q => q [] G (Same.refl G) rfl
theorem ev_v1 {c : V} {cs : List V} (h : Ev te σ H (Is c)) (hr : EvA tr σ H (fun vs _ => vs = cs)) : EvA (tCons te tr) σ H (fun vs _ => vs = c :: cs) := fun G Q s q => by
  refine h G _ s fun v G0 s0 e0 => ?_
  refine hr G0 _ (s.trans s0) fun vs G1 s1 e1 => ?_
  exact q _ _ (s0.trans s1) (by rw [e0, e1])
def IsLst (vs : List V) (v : V) (G : Hp) : Prop := ∃ a, v = .ref a ∧ G a = some (.lst vs)
def IsTup (vs : List V) (v : V) (G : Hp) : Prop := ∃ a, v = .ref a ∧ G a = some (.tup vs)
theorem ev_lv {vs : List V} (hl : vs.length ≤ 100) (h : EvA ta σ H (fun us _ => us = vs)) : Ev (tLst ta) σ H (IsLst vs) := fun G Q s q =>
  h G _ s fun us G1 s1 e => by
    subst e
    exact ⟨Nat.le_trans hl (by decide), fun p np => q _ _ (s1.trans (same_new np)) ⟨p, rfl, upd_same⟩⟩
theorem ev_tv {vs : List V} (hl : vs.length ≤ 100) (h : EvA ta σ H (fun us _ => us = vs)) : Ev (tTup ta) σ H (IsTup vs) := fun G Q s q =>
  h G _ s fun us G1 s1 e => by
    subst e
    exact ⟨Nat.le_trans hl (by decide), fun p np => q _ _ (s1.trans (same_new np)) ⟨p, rfl, upd_same⟩⟩
/-- [[..]] -/
theorem ev_lF (m : Mon φ) (h : Ev te σ H φ) : Ev (tLst (tCons te tNil)) σ H (fun v G => ∃ a w, v = .ref a ∧ G a = some (.lst [w]) ∧ φ w G) := fun G Q s q =>
  h G _ s fun w G1 s1 e => ⟨(by show 1 ≤ sizeLine; decide), fun p np => q _ _ (s1.trans (same_new np)) ⟨p, w, rfl, upd_same, m _ _ _ (same_new np) e⟩⟩
theorem ev_dK0 : Ev tDNewK σ H (fun v G => ∃ a, v = .ref a ∧ G a = some (.dK [])) := fun G Q s q => fun p np => q _ _ (same_new np) ⟨p, rfl, upd_same⟩
theorem ev_dK1 {z : Str} {c : V} (h : Ev tv σ H (Is c)) : Ev (tDisp [(tC (.str z), tv)]) σ H (fun v G => ∃ a, v = .ref a ∧ G a = some (.dK [(.inr z, c)])) := fun G Q s q => fun p np => by
  have s1 : Same G (upd G p (.dK [])) := same_new np
  have e1 : upd G p (.dK []) p = some (.dK []) := upd_same
  generalize upd G p (.dK []) = G1 at s1 e1 ⊢
  refine h G1 _ (s.trans s1) fun w G2 s2 e => ?_
  subst e
  refine ⟨s2 _ _ e1, [(.inr z, w)], rfl, by show 1 ≤ 15; decide, q _ _ ?_ ⟨p, rfl, upd_same⟩⟩
  intro b o eb
  have hb : b ≠ p := fun y => by
    rw [y, np] at eb
    cases eb
  rw [upd_ne hb]
  exact s2 _ _ (s1 _ _ eb)
/-- a rule, a book of rules -/
def IsR (CR : Addr) (y : Rl) (v : V) (G : Hp) : Prop := ∃ a, v = .ref a ∧ RA CR G a y
def IsB (CR CB : Addr) (ys : List Rl) (v : V) (G : Hp) : Prop := ∃ a rs, v = .ref a ∧ BA CB G a rs ∧ RAs CR G rs ys
theorem mon_isR {y : Rl} : Mon (IsR CR y) := fun v G G' s ⟨a, e, h⟩ => ⟨a, e, h.same s⟩
theorem mon_isB {ys : List Rl} : Mon (IsB CR CB ys) := fun v G G' s ⟨a, rs, e, b, h⟩ => ⟨a, rs, e, b.same s, h.same s⟩
theorem ev_rule {l : Str} {h : List Str} (ok : Rl.Ok ⟨l, h, [], [], []⟩) (cl : Clo ⟨l, h, [], [], []⟩) (eh : EvA ta σ H (fun vs _ => vs = h.map V.str)) :
    Ev (tMake CR (spRuleInit CR) [.non, .non] E0 (tCons (tC (.str l)) (tCons (tTup ta) (tCons (tLst tNil) tNil)))) σ H (IsR CR ⟨l, h, [], [], []⟩) := fun G Q s q => by
  show ta σ G _
  refine eh G _ s fun vs G1 s1 e => ?_
  subst e
  refine ⟨by rw [List.length_map]; have := ok.h.sht.1; exact Nat.le_trans this (by decide), fun p np => ?_⟩
  have u1 : Same G1 (upd G1 p (.tup (h.map V.str))) := same_new np
  have e1 : upd G1 p (.tup (h.map V.str)) p = some (.tup (h.map V.str)) := upd_same
  generalize upd G1 p (.tup (h.map V.str)) = G2 at u1 e1 ⊢
  refine ⟨Nat.zero_le _, fun p2 n2 => ?_⟩
  have u2 : Same G2 (upd G2 p2 (.lst [])) := same_new n2
  have e2 : upd G2 p2 (.lst []) p2 = some (.lst []) := upd_same
  generalize upd G2 p2 (.lst []) = G3 at u2 e2 ⊢
  intro x dx nx ndx ne
  exact mk_rule (y := ⟨l, h, [], [], []⟩) ok cl nx ndx (u2 _ _ e1) e2 .nil (.inl ⟨rfl, rfl⟩) (.inl ⟨rfl, rfl⟩) fun H' s' rn => ⟨rfl, q _ _ (s1.trans (u1.trans (u2.trans s'))) ⟨x, rfl, rn.ra⟩⟩
/-- a list of rules -/
def RulesN (CR : Addr) (ys : List Rl) (vs : List V) (G : Hp) : Prop := ∃ rs : List Addr, vs = rs.map V.ref ∧ RAs CR G rs ys
theorem ev_r0 : EvA tNil σ H (RulesN CR []) := fun G Q s q => q [] G (Same.refl G) ⟨[], rfl, .nil⟩
theorem ev_r1 {y : Rl} {ys : List Rl} (h : Ev te σ H (IsR CR y)) (hr : EvA tr σ H (RulesN CR ys)) : EvA (tCons te tr) σ H (RulesN CR (y :: ys)) := fun G Q s q => by
  refine h G _ s fun v G0 s0 e0 => ?_
  refine hr G0 _ (s.trans s0) fun vs G1 s1 e1 => ?_
  obtain ⟨a, rfl, ra⟩ := e0
  obtain ⟨rs, rfl, ras⟩ := e1
  exact q _ _ (s0.trans s1) ⟨a :: rs, rfl, .cons (ra.same s1) ras⟩
theorem ev_lR {ys : List Rl} (hl : ys.length ≤ 100) (h : EvA ta σ H (RulesN CR ys)) : Ev (tLst ta) σ H (fun v G => ∃ a rs, v = .ref a ∧ G a = some (.lst (rs.map V.ref)) ∧ RAs CR G rs ys) := fun G Q s q =>
  h G _ s fun vs G1 s1 ⟨rs, e, ras⟩ => by
    subst e
    exact ⟨by rw [List.length_map, ras.len]; exact Nat.le_trans hl (by decide), fun p np => q _ _ (s1.trans (same_new np)) ⟨p, rs, rfl, upd_same, ras.same (same_new np)⟩⟩
theorem ev_book {ys : List Rl} (nd : (ys.map Rl.l).Nodup) (hl : ys.length ≤ 100) (h : EvA ta σ H (RulesN CR ys)) : Ev (tMake CB (spBookInit CR CB) [] E0 (tCons (tLst ta) tNil)) σ H (IsB CR CB ys) := fun G Q s q => by
  dsimp only [tMake, tCons, tNil]
  refine ev_lR hl h G _ s fun v G1 s1 e => ?_
  obtain ⟨a, rs, rfl, ea, ras⟩ := e
  intro x dx nx ndx ne
  exact mk_book nx ndx ea ras nd hl fun H' s' bn => ⟨rfl, q _ _ (s1.trans s') ⟨x, rs, rfl, bn.ba, ras.same s'⟩⟩
end
end Nv
set_option maxHeartbeats 4000000
namespace Nv
open PySem PySem.Spec PyProof.Rows L2
/-! # loops over values that are so; the three lists of odd values -/
section
variable {K : PySem.W.Frag} {H : Hp} {σ : L2.St} {φ φ1 φ2 : V → Hp → Prop} {te t1 t2 : TE} {ta : TA} {tb u : TS} {D : Ends} {i j n m : Nat}
theorem seq_par2 (m1 : Mon φ1) (h1 : Ev t1 σ H φ1) (h2 : Ev t2 σ H φ2) (q : ∀ v w G, Same H G → φ1 v G → φ2 w G → u D ((σ.set i (some v)).set j (some w)) G) : tSeq (tPar i j (tCons t1 (tCons t2 tNil))) u D σ H := by
  refine h1 H _ (Same.refl H) fun v G s1 e1 => ?_
  refine h2 G _ s1 fun w G2 s2 e2 => ?_
  exact ⟨v, w, rfl, q v w G2 (s1.trans s2) (m1 _ _ _ s2 e1) e2⟩
/-- a body that goes on wherever the slots are so and the heap has only grown -/
def Goes (φ : V → Hp → Prop) (Pv : L2.St → Prop) (i : Nat) (tb : TS) (H : Hp) : Prop := ∀ G0, Same H G0 → ∀ x τ G (D' : Ends), Pv τ → Same G0 G → φ x G → (∀ τ' G', Pv τ' → Same G0 G' → D'.nx τ' G') → tb D' (τ.set i (some x)) G
theorem seq_forL (mo : Mon φ) (h : Ev te σ H (ListN n φ)) (Pv : L2.St → Prop) (h0 : Pv σ) (body : Goes φ Pv i tb H) (done : ∀ τ G, Pv τ → Same H G → u D τ G) : tSeq (tFor (iList K te) (gName i) tb) u D σ H := by
  refine h H _ (Same.refl H) fun v G s e => ?_
  obtain ⟨a, vs, rfl, ea, _, k⟩ := e
  refine ⟨a, rfl, ⟨vs, SqL.of ea⟩, for_list (K := K) (a := a) (xs := vs) (fun i τ H' => Pv τ ∧ Same G H') ⟨h0, Same.refl G⟩ (fun i τ H' _ z => SqL.of (z.2 _ _ ea)) ?_ ?_⟩
  · rintro i x τ H2 hi ⟨p, s2⟩
    exact body G s x τ H2 _ p s2 (mo _ _ _ s2 (k x (List.mem_of_getElem? hi))) fun τ' G' p' s' => ⟨p', s'⟩
  · rintro τ H2 ⟨p, s2⟩
    exact done τ H2 p (s.trans s2)
def TupN (n : Nat) (φ : V → Hp → Prop) (v : V) (G : Hp) : Prop := ∃ a vs, v = .ref a ∧ G a = some (.tup vs) ∧ AllN n φ vs G
theorem ev_tN (mo : Mon φ) (hn : n ≤ 100) (h : EvA ta σ H (AllN n φ)) : Ev (tTup ta) σ H (TupN n φ) := fun G Q s q =>
  h G _ s fun vs G1 s1 ⟨hl, k⟩ => ⟨by rw [hl]; exact Nat.le_trans hn (by decide), fun p np => q _ _ (s1.trans (same_new np)) ⟨p, vs, rfl, upd_same, hl, fun x hx => mo _ _ _ (same_new np) (k x hx)⟩⟩
theorem seq_forT (mo : Mon φ) (h : Ev te σ H (TupN n φ)) (Pv : L2.St → Prop) (h0 : Pv σ) (body : Goes φ Pv i tb H) (done : ∀ τ G, Pv τ → Same H G → u D τ G) : tSeq (tFor (iTup K te) (gName i) tb) u D σ H := by
  refine h H _ (Same.refl H) fun v G s e => ?_
  obtain ⟨a, vs, rfl, ea, _, k⟩ := e
  refine ⟨a, rfl, ⟨vs, SqT.of ea⟩, for_tup (K := K) (a := a) (xs := vs) (fun i τ H' => Pv τ ∧ Same G H') ⟨h0, Same.refl G⟩ (fun i τ H' _ z => SqT.of (z.2 _ _ ea)) ?_ ?_⟩
  · rintro i x τ H2 hi ⟨p, s2⟩
    exact body G s x τ H2 _ p s2 (mo _ _ _ s2 (k x (List.mem_of_getElem? hi))) fun τ' G' p' s' => ⟨p', s'⟩
  · rintro τ H2 ⟨p, s2⟩
    exact done τ H2 p (s.trans s2)
/-- for w in range(n), n written -/
theorem for_rangeW (hn : n ≤ 1000) (Pv : L2.St → Prop) (h0 : Pv σ) (body : ∀ (w : Nat) τ G (D' : Ends), w < n → Pv τ → Same H G → (∀ τ' G', Pv τ' → Same H G' → D'.nx τ' G') → tb D' (τ.set i (some (.int (w : Int)))) G)
    (done : ∀ τ G, Pv τ → Same H G → D.nx τ G) : tFor (iRng1 (tCons (tC (.int (n : Int))) tNil)) (gName i) tb D σ H := by
  refine ⟨(n : Int), rfl, by omega, by omega, ?_⟩
  refine for_range (lo := 0) (n := ((n : Int)).toNat) (fun i τ H' => Pv τ ∧ Same H H') ⟨h0, Same.refl H⟩ ?_ ?_
  · rintro w τ H2 hw ⟨p, s2⟩
    rw [Int.zero_add]
    exact body w τ H2 _ (by simpa using hw) p s2 fun τ' G' p' s' => ⟨p', s'⟩
  · rintro τ H2 ⟨p, s2⟩
    exact done τ H2 p s2
theorem ev_moreN {k : Nat} {v : V} (mo : Mon φ) (hi : σ[k]? = some (some v)) (hv : ListN n φ v H) (hn : n + m ≤ 100) (h : Ev te σ H (ListN m φ)) : Ev (tOp rCat (tVar k) te) σ H (ListN (n + m) φ) := fun G Q s q => by
  obtain ⟨a, vs, rfl, ea, la, ka⟩ := hv
  refine ⟨_, hi, h G _ s fun w G1 s1 ⟨b, ws, e, eb, lb, kb⟩ => ?_⟩
  subst e
  have s2 := s.trans s1
  refine ⟨a, b, vs, ws, rfl, rfl, s2 _ _ ea, eb, by rw [la, lb]; exact Nat.le_trans hn (by decide), fun p np => q _ _ (s1.trans (same_new np)) ⟨p, vs ++ ws, rfl, upd_same, by rw [List.length_append, la, lb], fun x hx => ?_⟩⟩
  rcases List.mem_append.mp hx with hx | hx
  · exact mo _ _ _ (s2.trans (same_new np)) (ka x hx)
  · exact mo _ _ _ (same_new np) (kb x hx)
theorem mon_listN (mo : Mon φ) : Mon (ListN n φ) := fun v G G' s ⟨a, vs, e, h, l, k⟩ => ⟨a, vs, e, s _ _ h, l, fun x hx => mo _ _ _ s (k x hx)⟩
end
/-- the two classes -/
structure BCx (K : PySem.W.Frag) (CR CB : Addr) : Prop where
  kb : KitB K CR CB
  R : RC K CR
  I : IC K CR
  clB : Cls K CB
  IB : IC K CB
  ne : CR ≠ CB
  na : NoAdd K CR
section
variable {K : PySem.W.Frag} {H G : Hp} {CR CB : Addr} {v : V} {x : Rl}
theorem BCx.tyR (B : BCx K CR CB) {a : Addr} (h : RA CR G a x) : TyX K G (.ref a) (.ref CR) := by
  obtain ⟨dx, th, l1, l2, l3, us, us2, us3, e, _⟩ := h
  exact .base (.ins e B.R.cl B.I.ha B.I.hn B.I.ht B.I.hm)
theorem BCx.tyB (B : BCx K CR CB) {a : Addr} {rs : List Addr} (h : BA CB G a rs) : TyX K G (.ref a) (.ref CB) := by
  obtain ⟨dx, l, e, _⟩ := h
  exact .base (.ins e B.clB B.IB.ha B.IB.hn B.IB.ht B.IB.hm)
/-- what Book refuses, and what is itself -/
def OddB (K : PySem.W.Frag) (CR CB : Addr) (v : V) (G : Hp) : Prop := BookBad K CR v G ∧ SelfNe CR CB v G
theorem mon_oddB : Mon (OddB K CR CB) := mon_and mon_bookBad mon_selfNe
theorem ob_non : OddB K CR CB .non G := ⟨.inl ⟨_, .base .non, kit_ty (by decide +kernel)⟩, .inl rfl⟩
theorem ob_bl (b : Bool) : OddB K CR CB (.bl b) G := ⟨.inl ⟨_, .base (.bl b), kit_ty (by decide +kernel)⟩, .inl rfl⟩
theorem ob_int (i : Int) : OddB K CR CB (.int i) G := ⟨.inl ⟨_, .base (.int i), kit_ty (by decide +kernel)⟩, .inl rfl⟩
theorem ob_str (z : Str) : OddB K CR CB (.str z) G := ⟨.inl ⟨_, .base (.str z), kit_ty (by decide +kernel)⟩, .inl rfl⟩
theorem ob_tup {vs : List V} (h : IsTup vs v G) : OddB K CR CB v G := by
  obtain ⟨a, rfl, e⟩ := h
  exact ⟨.inl ⟨_, .base (.tup e), kit_ty (by decide +kernel)⟩, .inr (.inl ⟨a, rfl, .inl ⟨vs, .inr e⟩⟩)⟩
theorem ob_d0 (h : ∃ a, v = .ref a ∧ G a = some (.dK [])) : OddB K CR CB v G := by
  obtain ⟨a, rfl, e⟩ := h
  exact ⟨.inl ⟨_, .base (.dK e), kit_ty (by decide +kernel)⟩, .inr (.inl ⟨a, rfl, .inr (.inl e)⟩)⟩
theorem ob_d1 {z : Str} {c : V} (h : ∃ a, v = .ref a ∧ G a = some (.dK [(.inr z, c)])) : OddB K CR CB v G := by
  obtain ⟨a, rfl, e⟩ := h
  exact ⟨.inl ⟨_, .base (.dK e), kit_ty (by decide +kernel)⟩, .inr (.inl ⟨a, rfl, .inr (.inr ⟨_, _, e⟩)⟩)⟩
theorem ob_rule (B : BCx K CR CB) {a : Addr} (h : RA CR G a x) (ok : x.Ok) : OddB K CR CB (.ref a) G := ⟨.inl ⟨_, B.tyR h, B.kb.rl⟩, .inr (.inr (.inl ⟨a, x, rfl, h, ok⟩))⟩
theorem ob_book (B : BCx K CR CB) {ys : List Rl} (h : IsB CR CB ys v G) (ok : ∀ y ∈ ys, y.Ok) : OddB K CR CB v G := by
  obtain ⟨a, rs, rfl, b, r⟩ := h
  exact ⟨.inl ⟨_, B.tyB b, B.kb.bl⟩, .inr (.inr (.inr ⟨a, rs, ys, rfl, b, r, ok⟩))⟩
theorem ob_lst {vs : List V} {bs : List Bool} (h : IsLst vs v G) (t : All2 (Tr K CR G) vs bs) (hl : bs.length ≤ 1000) (hb : bs.all id = false) : OddB K CR CB v G := by
  obtain ⟨a, rfl, e⟩ := h
  exact ⟨.inr ⟨a, vs, bs, rfl, e, t, hl, .inl hb⟩, .inr (.inl ⟨a, rfl, .inl ⟨vs, .inl e⟩⟩)⟩
theorem ob_rules (B : BCx K CR CB) {rs : List Addr} {ys : List Rl} (h : IsLst (rs.map V.ref) v G) (r : RAs CR G rs ys) (hl : ys.length ≤ 100) (nd : ¬ (ys.map Rl.l).Nodup) : OddB K CR CB v G := by
  obtain ⟨a, rfl, e⟩ := h
  refine ⟨.inr ⟨a, rs.map V.ref, rs.map fun _ => true, rfl, e, ?_, by rw [List.length_map, r.len]; omega, .inr ⟨by simp, rs, ys, rfl, r, hl, nd⟩⟩, .inr (.inl ⟨a, rfl, .inl ⟨_, .inl e⟩⟩)⟩
  clear e hl nd
  induction r with
  | nil => exact .nil
  | cons e1 _ ih => exact .cons ⟨_, B.tyR e1, B.I.me⟩ ih
theorem tr_rule (B : BCx K CR CB) {a : Addr} (h : RA CR G a x) : Tr K CR G (.ref a) true := ⟨_, B.tyR h, B.I.me⟩
theorem tr_non (B : BCx K CR CB) : Tr K CR G .non false := ⟨_, .base .non, B.kb.tr _ (by decide)⟩
theorem tr_str (B : BCx K CR CB) (z : Str) : Tr K CR G (.str z) false := ⟨_, .base (.str z), B.kb.tr _ (by decide)⟩
theorem tr_lst (B : BCx K CR CB) {a : Addr} {vs : List V} (e : G a = some (.lst vs)) : Tr K CR G (.ref a) false := ⟨_, .base (.lst e), B.kb.tr _ (by decide)⟩
theorem tr_book (B : BCx K CR CB) {a : Addr} {rs : List Addr} (h : BA CB G a rs) : Tr K CR G (.ref a) false := ⟨_, B.tyB h, B.kb.br⟩
/-- what stands in no book of these labels and is none, and is itself -/
def OddL (K : PySem.W.Frag) (CR CB : Addr) (zs : List Str) (v : V) (G : Hp) : Prop := LabBad K CR CB zs v G ∧ SelfNe CR CB v G
theorem mon_oddL {zs : List Str} : Mon (OddL K CR CB zs) := mon_and mon_labBad mon_selfNe
def twoL : List Str := ["r", "zzz"]
theorem ol_of (B : BCx K CR CB) {d : PyData} {T : String} (hz : Dz G v d) (sd : SeqAt.shaped d = true) (ne : (twoL.any fun z => PyData.eqv (.str z) d) = false) (ty : tyOf d = .type T) (hT : T ∈ ["NoneType", "bool", "int", "str", "tuple", "list", "dict"]) (aT : AddT T) (sn : SelfNe CR CB v G) : OddL K CR CB twoL v G :=
  ⟨⟨.inl ⟨d, hz, sd, ne⟩, .type T, by rw [← ty]; exact hz.ty, B.kb.tb T hT, .inr (.inl ⟨T, rfl, aT⟩)⟩, sn⟩
theorem ol_d0 (B : BCx K CR CB) (h : ∃ a, v = .ref a ∧ G a = some (.dK [])) : OddL K CR CB twoL v G := by
  obtain ⟨a, rfl, e⟩ := h
  exact ⟨⟨.inr (.inl ⟨a, rfl, e⟩), .type "dict", .base (.dK e), B.kb.tb _ (by decide), .inr (.inl ⟨_, rfl, addT_dict⟩)⟩, .inr (.inl ⟨a, rfl, .inr (.inl e)⟩)⟩
theorem ol_rule (B : BCx K CR CB) {a : Addr} (h : RA CR G a x) (ok : x.Ok) : OddL K CR CB twoL (.ref a) G :=
  ⟨⟨.inr (.inr ⟨a, x, rfl, h, ok⟩), .ref CR, B.tyR h, B.kb.rb, .inr (.inr ⟨CR, rfl, B.ne, B.na⟩)⟩, .inr (.inr (.inl ⟨a, x, rfl, h, ok⟩))⟩
/-- a book that cannot be added to one of these rules -/
def OddA (CR CB : Addr) (xs : List Rl) (v : V) (G : Hp) : Prop := ∃ (a : Addr) (rs : List Addr) (ys : List Rl), v = .ref a ∧ BA CB G a rs ∧ RAs CR G rs ys ∧ ys.length ≤ 100 ∧ (∀ y ∈ ys, y.Ok) ∧ ¬ ((xs ++ ys).map Rl.l).Nodup
theorem mon_oddA {xs : List Rl} : Mon (OddA CR CB xs) := fun v G G' s ⟨a, rs, ys, e, b, r, h⟩ => ⟨a, rs, ys, e, b.same s, r.same s, h⟩
theorem oa_of {xs ys : List Rl} (h : IsB CR CB ys v G) (hl : ys.length ≤ 100) (ok : ∀ y ∈ ys, y.Ok) (nd : ¬ ((xs ++ ys).map Rl.l).Nodup) : OddA CR CB xs v G := by
  obtain ⟨a, rs, e, b, r⟩ := h
  exact ⟨a, rs, ys, e, b, r, hl, ok, nd⟩
end
end Nv
set_option maxHeartbeats 8000000
namespace Nv
open PySem PySem.Spec PyProof.Rows L2
/-! # _law_strays_right -/
abbrev nStrays : List Str := ["_law_row", "_law_some", "_law_none", "_law_lone", "_law_pairs_here", "_law_head", "_law_denied", "_law_columns", "_law_rows", "_law_way", "_law_given", "_law_odd", "_law_term"]
theorem scStrays : FnScope nStrays ["_law_row"] (defScope sStrays) := ⟨rfl, rfl, rfl, by decide +kernel, rfl, by decide +kernel, by decide +kernel⟩
section
variable {P : Program} {w : World} {K : PySem.W.Frag} {mg : Str → Option Value} {base : Heap}
theorem qqq_head : ("QQQ" : Str) ∈ sHead.tail := by decide +kernel
theorem qqq_cols {vs : List Str} (h : One4 vs) : ("QQQ" : Str) ∈ sCols vs := List.mem_append_right _ List.mem_cons_self
theorem qqq_colsr {vs : List Str} (h : One4 vs) : ("QQQ" : Str) ∈ (sCols vs).reverse := List.mem_reverse.mpr (qqq_cols h)
theorem hm_nil {ps : List (List Str)} : hasMore [] ps = false := hm_false fun y hy => nomatch hy
theorem dz_none {H : Hp} {a : Addr} (e : H a = some (.lst [.non])) : Dz H (.ref a) (.list [.none]) := .lst e (.cons .non .nil)
/-- what stands in the heap while the rows are put together -/
structure StF (H : Hp) (ar pn pl pp ph pd pc : Addr) (v0 v1 v2 v3 v4 : V) (up ud : List V) (prs den : List (List Str)) (cols : List Str) : Prop where
  er : H ar = some (.lst [v0, v1, v2, v3, v4])
  en : H pn = some (.lst [.non])
  el : H pl = some (.lst (([("QQQ" : Str)] : List Str).map V.str))
  ep : H pp = some (.lst up)
  hp : PaL H up prs
  eh : H ph = some (.tup (sHead.map V.str))
  ed : H pd = some (.lst ud)
  hd : PaL H ud den
  ec : H pc = some (.lst (cols.map V.str))
  kp : ∀ x ∈ prs, PairOk x
  lp : prs.length ≤ 300
  kd : ∀ x ∈ den, PatOk x
  ld : den.length ≤ 300
  kc : ∀ x ∈ cols, IsVr x
  lc : cols.length ≤ 300
section
variable {H G : Hp} {ar pn pl pp ph pd pc : Addr} {v0 v1 v2 v3 v4 : V} {up ud : List V} {prs den : List (List Str)} {cols : List Str} {l : Str} {th tt : Addr} {h : List Str} {us : List V} {ps qs ds : List (List Str)}
theorem StF.same (F : StF H ar pn pl pp ph pd pc v0 v1 v2 v3 v4 up ud prs den cols) (s : Same H G) : StF G ar pn pl pp ph pd pc v0 v1 v2 v3 v4 up ud prs den cols :=
  ⟨s _ _ F.er, s _ _ F.en, s _ _ F.el, s _ _ F.ep, F.hp.same s, s _ _ F.eh, s _ _ F.ed, F.hd.same s, s _ _ F.ec, F.kp, F.lp, F.kd, F.ld, F.kc, F.lc⟩
theorem StF.oq (F : StF H ar pn pl pp ph pd pc v0 v1 v2 v3 v4 up ud prs den cols) : Opt H (.ref pp) prs := .inr ⟨pp, up, rfl, F.ep, F.hp, F.lp⟩
theorem StF.od (F : StF H ar pn pl pp ph pd pc v0 v1 v2 v3 v4 up ud prs den cols) : Opt H (.ref pd) den := .inr ⟨pd, ud, rfl, F.ed, F.hd, F.ld⟩
theorem StF.good1 (F : StF H ar pn pl pp ph pd pc v0 v1 v2 v3 v4 up ud prs den cols) (g : Good H v0 v1 v2 v3 v4 l th tt h us ps qs ds) : Good H v0 (.ref ph) v2 (.ref pp) (.ref pd) l ph tt sHead us ps prs den :=
  ⟨g.e0, rfl, g.e2, g.hl, F.eh, sHead_ok, g.et, g.hp, g.hok, g.hpl, F.oq, F.kp, F.od, F.kd⟩
theorem StF.good2 (F : StF H ar pn pl pp ph pd pc v0 v1 v2 v3 v4 up ud prs den cols) (g : Good H v0 v1 v2 v3 v4 l th tt h us ps qs ds) : Good H v0 v1 v2 (.ref pp) (.ref pd) l th tt h us ps prs den :=
  ⟨g.e0, g.e1, g.e2, g.hl, g.eh, g.hh, g.et, g.hp, g.hok, g.hpl, F.oq, F.kp, F.od, F.kd⟩
theorem StF.good3 (F : StF H ar pn pl pp ph pd pc v0 v1 v2 v3 v4 up ud prs den cols) (g : Good H v0 v1 v2 v3 v4 l th tt h us ps qs ds) : Good H v0 v1 v2 v3 (.ref pd) l th tt h us ps qs den :=
  ⟨g.e0, g.e1, g.e2, g.hl, g.eh, g.hh, g.et, g.hp, g.hok, g.hpl, g.oq, g.hq, F.od, F.kd⟩
theorem StF.goodQ (F : StF H ar pn pl pp ph pd pc v0 v1 v2 v3 v4 up ud prs den cols) (g : Good H v0 v1 v2 v3 v4 l th tt h us ps qs ds) : GoodQ H (.ref pc) v2 (.ref pp) pc tt cols us ps prs :=
  ⟨rfl, g.e2, F.ec, F.kc, F.lc, g.et, g.hp, g.hok, g.hpl, F.oq, F.kp⟩
theorem StF.goodE (F : StF H ar pn pl pp ph pd pc v0 v1 v2 v3 v4 up ud prs den cols) (g : Good H v0 v1 v2 v3 v4 l th tt h us ps qs ds) {c : Addr} (hc : H c = some (.lst [])) : GoodQ H (.ref c) v2 (.ref pp) c tt [] us ps prs :=
  ⟨rfl, g.e2, hc, (fun x hx => nomatch hx), Nat.zero_le _, g.et, g.hp, g.hok, g.hpl, F.oq, F.kp⟩
theorem StF.goodL (F : StF H ar pn pl pp ph pd pc v0 v1 v2 v3 v4 up ud prs den cols) (g : Good H v0 v1 v2 v3 v4 l th tt h us ps qs ds) {c : Addr} (hc : H c = some (.lst [])) : GoodQ H (.ref pl) v2 (.ref c) pl tt ["QQQ"] us ps [] :=
  ⟨rfl, g.e2, F.el, (fun x hx => by rw [List.mem_singleton.mp hx]; exact qqq_vr), (by show 1 ≤ 300; decide), g.et, g.hp, g.hok, g.hpl, .inr ⟨c, [], rfl, hc, .nil, Nat.zero_le _⟩, (fun x hx => nomatch hx)⟩
end
theorem seq_asg {te : TE} {i : Nat} {t2 : TS} {D : Ends} {σ : L2.St} {H : Hp} {φ : V → Hp → Prop} (h : Ev te σ H φ) (q : ∀ v G, Same H G → φ v G → t2 D (σ.set i (some v)) G) : tSeq (tAsg te (gName i)) t2 D σ H := h H _ (Same.refl H) q
theorem Ev.go {te : TE} {σ : L2.St} {H : Hp} {φ : V → Hp → Prop} {Q : VK} (h : Ev te σ H φ) (q : ∀ v G, Same H G → φ v G → Q v G) : te σ H Q := h H Q (Same.refl H) q
def spStrays (K : PySem.W.Frag) : Sp := fun vs H Q _ => ∃ (ar : Addr) (v0 v1 v2 v3 v4 : V) (l : Str) (th tt : Addr) (h : List Str) (us : List V) (ps qs ds : List (List Str)), vs = [.ref ar] ∧ H ar = some (.lst [v0, v1, v2, v3, v4]) ∧ Good H v0 v1 v2 v3 v4 l th tt h us ps qs ds ∧
  (∀ p ∈ ps, Few p) ∧ hasMore h.tail ps = false ∧ hasMore qs.flatten ps = false ∧ ∀ G, Same H G → Q (.bl true) G
theorem ok_strays {f fR fV : Addr} {fd dR dV : FuncData} (F : Fun K "_law_strays_right" "_law_strays_right" sStrays f fd)
    (GR : RunG P w K mg base 8 fR dR ["_law_way", "_law_row", "_law_value"] (spRefused K)) (kR : PySem.W.keepIn K (.ref fR) = true) (gR : mg "_law_refused" = some (.ref fR)) (bR : Binds K dR ["_law_way", "_law_row", "_law_value"] [])
    (GV : FnOk P w K mg base CX0 1 fV dV ["_law_told_here"] (spVariables K)) (kV : PySem.W.keepIn K (.ref fV) = true) (gV : mg "_law_variables" = some (.ref fV)) (bV : Binds K dV ["_law_told_here"] []) :
    RunG P w K mg base 9 f fd ["_law_row"] (spStrays K) := by
  refine run_ofG (k := 8) F scStrays (fun vs H Q E h => ?_) (fun cdv A outer s H vs Q hg hr h => ?_)
  · obtain ⟨_, _, _, _, _, _, _, _, _, _, _, _, _, _, rfl, _⟩ := h
    rfl
  · obtain ⟨ar, v0, v1, v2, v3, v4, l, th, tt, hh, us, ps, qs, ds, rfl, er, g, hf, c1, c2, q⟩ := h
    have hr1 : Room 1 _ := hr.mono (by decide)
    refine ⟨_, pss_cons (ps_par3 (i := 1) (j := 2) (l := 3) (by rfl) scStrays.nd rfl rfl rfl (by decide) (by decide) (by decide) rfl rfl rfl (pa_cons (by exact (pe_call GV hr1 (by rfl) gV kV bV .nil pass0 (pa_cons (pe_ix ix_list (pv 0) pe_int (fun _ _ => rfl)) pa_nil))) (pa_cons (pe_lst (pa_cons pe_non pa_nil)) (pa_cons (pe_lst (pa_cons pe_str pa_nil)) pa_nil))) (by rfl))
      (pss_cons (ps_par (i := 4) (j := 5) (by rfl) scStrays.nd rfl rfl (by decide) rfl rfl (pa_cons (pe_op op_cat (by exact (pe_lc (own := [("_law_term", 12)]) (g := gName 12) (tt := tYes) (te := tTup (tCons (tVar 12) (tCons (tC (.str "zz")) tNil))) rfl scStrays.nd (pi_list (pe_slice sl_list (pv 1) po_none (po_some pe_int))) (blkOk_by (own := [("_law_term", 12)]) (N := nStrays) (sc := defScope sStrays) (by decide +kernel)) (fun _ _ _ _ _ => pg_name (i := 12) scStrays.nd rfl (Or.inl rfl)) (fun _ _ _ _ _ => pts_nil) (fun _ _ _ _ _ => by exact (pe_tup (pa_cons (pv 12) (pa_cons pe_str pa_nil)))))) (pe_lst (pa_cons (pe_tup (pa_cons pe_str (pa_cons pe_str pa_nil))) pa_nil))) (pa_cons (pe_tup (pa_cons pe_str (pa_cons pe_str (pa_cons pe_str pa_nil)))) pa_nil)) (by rfl))
      (pss_cons (ps_par (i := 6) (j := 7) (by rfl) scStrays.nd rfl rfl (by decide) rfl rfl (pa_cons (pe_lst (pa_cons (pe_tup (pa_cons pe_str (pa_cons pe_str pa_nil))) (pa_cons (pe_tup (pa_cons pe_str (pa_cons pe_str (pa_cons pe_str pa_nil)))) pa_nil))) (pa_cons (pe_op op_cat (pe_slice sl_list (pv 1) po_none (po_some pe_int)) (pe_lst (pa_cons pe_str pa_nil))) pa_nil)) (by rfl))
      (pss_cons (ps_set (i := 8) scStrays.nd rfl (Or.inl rfl) (pe_lst (pa_cons (pe_tup (pa_cons pe_int (pa_cons (pe_lst (pa_cons (pe_ix ix_list (pv 0) pe_int (fun _ _ => rfl)) (pa_cons (pv 5) (pa_cons (pe_ix ix_list (pv 0) pe_int (fun _ _ => rfl)) (pa_cons (pv 4) (pa_cons (pv 6) pa_nil)))))) (pa_cons (pv 5) pa_nil)))) (pa_cons (pe_tup (pa_cons pe_int (pa_cons (pe_lst (pa_cons (pe_ix ix_list (pv 0) pe_int (fun _ _ => rfl)) (pa_cons (pe_ix ix_list (pv 0) pe_int (fun _ _ => rfl)) (pa_cons (pe_ix ix_list (pv 0) pe_int (fun _ _ => rfl)) (pa_cons (pv 4) (pa_cons (pv 6) pa_nil)))))) (pa_cons (pv 4) pa_nil)))) pa_nil))))
      (pss_cons (ps_set (i := 8) scStrays.nd rfl (Or.inl rfl) (pe_op op_cat (pv 8) (pe_lst (pa_cons (pe_tup (pa_cons pe_int (pa_cons (pe_lst (pa_cons (pe_ix ix_list (pv 0) pe_int (fun _ _ => rfl)) (pa_cons (pe_ix ix_list (pv 0) pe_int (fun _ _ => rfl)) (pa_cons (pe_ix ix_list (pv 0) pe_int (fun _ _ => rfl)) (pa_cons (pe_ix ix_list (pv 0) pe_int (fun _ _ => rfl)) (pa_cons (pv 6) pa_nil)))))) (pa_cons (pv 6) pa_nil)))) (pa_cons (pe_tup (pa_cons pe_int (pa_cons (pe_lst (pa_cons (pe_ix ix_list (pv 0) pe_int (fun _ _ => rfl)) (pa_cons (pv 5) (pa_cons (pe_ix ix_list (pv 0) pe_int (fun _ _ => rfl)) (pa_cons pe_int (pa_cons (pv 6) pa_nil)))))) (pa_cons pe_int pa_nil)))) pa_nil)))))
      (pss_cons (ps_set (i := 8) scStrays.nd rfl (Or.inl rfl) (pe_op op_cat (pv 8) (pe_lst (pa_cons (pe_tup (pa_cons pe_int (pa_cons (pe_lst (pa_cons (pe_ix ix_list (pv 0) pe_int (fun _ _ => rfl)) (pa_cons (pv 5) (pa_cons (pe_ix ix_list (pv 0) pe_int (fun _ _ => rfl)) (pa_cons (pv 4) (pa_cons (pv 2) pa_nil)))))) (pa_cons (pv 2) pa_nil)))) (pa_cons (pe_tup (pa_cons pe_int (pa_cons (pe_lst (pa_cons (pv 7) (pa_cons (pe_ix ix_list (pv 0) pe_int (fun _ _ => rfl)) (pa_cons (pv 4) pa_nil)))) (pa_cons (pv 7) pa_nil)))) pa_nil)))))
      (pss_cons (ps_set (i := 8) scStrays.nd rfl (Or.inl rfl) (pe_op op_cat (pv 8) (pe_lst (pa_cons (pe_tup (pa_cons pe_int (pa_cons (pe_lst (pa_cons (pv 7) (pa_cons (pe_ix ix_list (pv 0) pe_int (fun _ _ => rfl)) (pa_cons pe_int pa_nil)))) (pa_cons pe_int pa_nil)))) (pa_cons (pe_tup (pa_cons pe_int (pa_cons (pe_lst (pa_cons (pe_lst pa_nil) (pa_cons (pe_ix ix_list (pv 0) pe_int (fun _ _ => rfl)) (pa_cons (pv 4) pa_nil)))) (pa_cons (pv 4) pa_nil)))) (pa_cons (pe_tup (pa_cons pe_int (pa_cons (pe_lst (pa_cons (pv 3) (pa_cons (pe_ix ix_list (pv 0) pe_int (fun _ _ => rfl)) (pa_cons (pe_lst pa_nil) pa_nil)))) (pa_cons (pv 3) pa_nil)))) pa_nil))))))
      (pss_cons (ps_par3 (i := 4) (j := 6) (l := 7) (by rfl) scStrays.nd rfl rfl rfl (by decide) (by decide) (by decide) rfl rfl rfl (pa_cons (pe_revL (pv 4)) (pa_cons (pe_revL (pv 6)) (pa_cons (pe_revL (pv 7)) pa_nil))) (by rfl))
      (pss_cons (ps_set (i := 8) scStrays.nd rfl (Or.inl rfl) (pe_op op_cat (pv 8) (pe_lst (pa_cons (pe_tup (pa_cons pe_int (pa_cons (pe_lst (pa_cons (pe_ix ix_list (pv 0) pe_int (fun _ _ => rfl)) (pa_cons (pe_ix ix_list (pv 0) pe_int (fun _ _ => rfl)) (pa_cons (pe_ix ix_list (pv 0) pe_int (fun _ _ => rfl)) (pa_cons (pv 4) (pa_cons (pv 6) pa_nil)))))) (pa_cons (pv 4) pa_nil)))) (pa_cons (pe_tup (pa_cons pe_int (pa_cons (pe_lst (pa_cons (pv 7) (pa_cons (pe_ix ix_list (pv 0) pe_int (fun _ _ => rfl)) (pa_cons (pv 4) pa_nil)))) (pa_cons (pv 7) pa_nil)))) pa_nil)))))
      (pss_cons (ps_set (i := 8) scStrays.nd rfl (Or.inl rfl) (pe_op op_cat (pv 8) (pe_lst (pa_cons (pe_tup (pa_cons pe_int (pa_cons (pe_lst (pa_cons (pe_ix ix_list (pv 0) pe_int (fun _ _ => rfl)) (pa_cons (pe_ix ix_list (pv 0) pe_int (fun _ _ => rfl)) (pa_cons (pe_ix ix_list (pv 0) pe_int (fun _ _ => rfl)) (pa_cons (pe_ix ix_list (pv 0) pe_int (fun _ _ => rfl)) (pa_cons (pv 6) pa_nil)))))) (pa_cons (pv 6) pa_nil)))) (pa_cons (pe_tup (pa_cons pe_int (pa_cons (pe_lst (pa_cons (pe_lst pa_nil) (pa_cons (pe_ix ix_list (pv 0) pe_int (fun _ _ => rfl)) (pa_cons (pv 4) pa_nil)))) (pa_cons (pv 4) pa_nil)))) pa_nil)))))
      (pss_cons (ps_for PassesOwn.never rfl (pi_list (pv 8)) (pg_tup (by rfl) (pgs_cons (pg_name (i := 9) scStrays.nd rfl (Or.inl rfl)) (pgs_cons (pg_name (i := 10) scStrays.nd rfl (Or.inl rfl)) (pgs_cons (pg_name (i := 11) scStrays.nd rfl (Or.inl rfl)) pgs_nil)))) (pss_one (ps_if (pt_not (pt_val (by exact (pe_callG GR len_refused hg hr (by rfl) gR kR bR (pa_cons (pv 9) (pa_cons (pv 10) (pa_cons (pv 11) pa_nil))))))) (pss_one (ps_ret pe_bl)) pss_nil)))
      (pss_one (ps_ret pe_bl)))))))))))), ?_⟩
    -- the variables, [None], ["QQQ"]
    have h2 : v2 = V.ref tt := g.e2
    refine ⟨_, rfl, ar, _, _, _, rfl, rfl, SqL.of er, (by rfl : atI [v0, v1, v2, v3, v4] 2 = some v2), ?_⟩
    dsimp only [tNil]
    refine ⟨tt, us, ps, by rw [h2] <;> rfl, SqL.of g.et, g.hp, g.hok, by have := g.hpl; omega, fun p1 G1 n1 s1 e1 => ?_⟩
    refine ⟨(by show 1 ≤ sizeLine; decide), fun p2 n2 => ?_⟩
    have u2 : Same G1 (upd G1 p2 (.lst [.non])) := same_new n2
    have e2 : upd G1 p2 (.lst [.non]) p2 = some (.lst [.non]) := upd_same
    generalize upd G1 p2 (.lst [.non]) = G2 at u2 e2 ⊢
    refine ⟨(by show 1 ≤ sizeLine; decide), fun p3 n3 => ?_⟩
    have u3 : Same G2 (upd G2 p3 (.lst [.str "QQQ"])) := same_new n3
    have e3 : upd G2 p3 (.lst [.str "QQQ"]) p3 = some (.lst (([("QQQ" : Str)] : List Str).map V.str)) := upd_same
    generalize upd G2 p3 (.lst [.str "QQQ"]) = G3 at u3 e3 ⊢
    have s3 : Same H G3 := s1.trans (u2.trans u3)
    have e1' := u3 _ _ (u2 _ _ e1)
    have e2' := u3 _ _ e2
    refine ⟨_, _, _, rfl, ?_⟩
    clear u2 u3 e2 n1 n2 n3 s1
    have h4 : One4 ((varsIn (tails ps)).take 1) := One4.of hf
    have hcut : cutV ((varsIn (tails ps)).map V.str) none (some 1) = ((varsIn (tails ps)).take 1).map V.str := by
      unfold cutV
      have := HT.sIx_nat ((varsIn (tails ps)).map V.str).length ((varsIn (tails ps)).map V.str).length 1
      rw [show ((1 : Nat) : Int) = 1 by rfl] at this
      rw [HT.sIx_none, this, List.drop_zero, Nat.sub_zero, List.length_map, List.map_take]
      rcases Nat.le_total 1 (varsIn (tails ps)).length with h | h
      · rw [Nat.min_eq_left h]
      · rw [Nat.min_eq_right h, ← List.map_take, ← List.map_take, List.take_of_length_le (Nat.le_refl _), List.take_of_length_le h]
    generalize varsIn (tails ps) = vv at e1' h4 hcut
    have hv1 : vv.take 1 = vv.take 1 := rfl
    generalize vv.take 1 = vs1 at h4 hcut
    clear hv1
    have l1 : vs1.length ≤ 1 := by
      rcases h4 with rfl | ⟨x, _, rfl⟩
      · exact Nat.zero_le _
      · exact Nat.le_refl _
    -- pairs and head
    try dsimp only [List.set]
    refine (show ∀ G : Hp, G = G3 → tSeq _ _ { nx := fun _ H' => Q .non H', rt := Q } [some (.ref ar), some (.ref p1), some (.ref p2), some (.ref p3), none, none, none, none, none, none, none, none, none] G from fun G hG => ?_) _ rfl
    subst hG
    refine ⟨_, rfl, 1, rfl, p1, _, rfl, SqL.of e1', fun p4 n4 => ?_⟩
    rw [hcut]
    have u4 : Same G (upd G p4 (.lst (vs1.map V.str))) := same_new n4
    have e4 : upd G p4 (.lst (vs1.map V.str)) p4 = some (.lst (vs1.map V.str)) := upd_same
    generalize upd G p4 (.lst (vs1.map V.str)) = G4 at u4 e4 ⊢
    refine ⟨p4, rfl, ⟨_, SqL.of e4⟩, fun D nD => ?_⟩
    refine lc_list (K := K) (a := p4) (xs := vs1.map V.str) (fun i H' => ∃ us2 : List V, Same G4 H' ∧ H' D = some (.lst us2) ∧ PaL H' us2 ((vs1.take i).map fun x : Str => ([x, ("zz" : Str)] : List Str))) ⟨[], same_new nD, upd_same, .nil⟩ (fun i H' _ y => by obtain ⟨us2, s, _⟩ := y; exact SqL.of (s _ _ e4)) ?_ ?_
    · rintro i v H2 hi ⟨us2, t2, f2, f3⟩
      obtain ⟨x, hx, rfl⟩ := at_map hi
      have ul : us2.length ≤ 1 := by
        rw [f3.len, List.length_map, List.length_take]
        omega
      refine ⟨rfl, ?_⟩
      refine ⟨_, rfl, (by show 2 ≤ sizeLine; decide), fun t nt => ?_⟩
      have w1 : Same H2 (upd H2 t (.tup [.str x, .str "zz"])) := same_new nt
      have w2 : upd H2 t (.tup [.str x, .str "zz"]) t = some (.tup (([x, "zz"] : List Str).map V.str)) := upd_same
      generalize upd H2 t (.tup [.str x, .str "zz"]) = F at w1 w2 ⊢
      have tD : t ≠ D := fun z => by
        rw [z, w1 _ _ f2] at w2
        cases w2
      refine ⟨us2, w1 _ _ f2, Nat.lt_of_le_of_lt (by omega : _ ≤ 1) (by decide), us2 ++ [.ref t], same_put (t2.trans w1) nD, upd_same, ?_⟩
      rw [take_one hx, List.map_append]
      have off : ∀ {vs : List V} {qs : List (List Str)}, PaL F vs qs → PaL (upd F D (.lst (us2 ++ [.ref t]))) vs qs := fun {vs qs} h => h.putl2 (w1 _ _ f2)
      exact (off (f3.same w1)).app (off (.cons w2 .nil))
    · rintro H2 ⟨us2, t2, f2, f3⟩
      have hfull : vs1.take (vs1.map V.str).length = vs1 := List.take_of_length_le (by rw [List.length_map]; exact Nat.le_refl _)
      rw [hfull] at f3
      have ul : us2.length ≤ 1 := by
        rw [f3.len, List.length_map]
        omega
      refine ⟨(by show 2 ≤ sizeLine; decide), fun t nt => ?_⟩
      have w1 : Same H2 (upd H2 t (.tup [.str "zz", .str "QQQ"])) := same_new nt
      have w2 : upd H2 t (.tup [.str "zz", .str "QQQ"]) t = some (.tup (([("zz" : Str), ("QQQ" : Str)] : List Str).map V.str)) := upd_same
      generalize upd H2 t (.tup [.str "zz", .str "QQQ"]) = F at w1 w2 ⊢
      refine ⟨(by show 1 ≤ sizeLine; decide), fun p5 n5 => ?_⟩
      have w3 : Same F (upd F p5 (.lst [.ref t])) := same_new n5
      have w4 : upd F p5 (.lst [.ref t]) p5 = some (.lst [.ref t]) := upd_same
      generalize upd F p5 (.lst [.ref t]) = F2 at w3 w4 ⊢
      have pp : PaL F2 (us2 ++ [.ref t]) (sPrs vs1) := ((f3.same w1).same w3).app (.cons (w3 _ _ w2) .nil)
      refine ⟨D, p5, us2, [.ref t], rfl, rfl, w3 _ _ (w1 _ _ f2), w4, Nat.le_trans (by show us2.length + 1 ≤ 2; omega) (by decide), fun p6 n6 => ?_⟩
      have w5 : Same F2 (upd F2 p6 (.lst (us2 ++ [.ref t]))) := same_new n6
      have ep : upd F2 p6 (.lst (us2 ++ [.ref t])) p6 = some (.lst (us2 ++ [.ref t])) := upd_same
      have hp := pp.same w5
      have s6 : Same G (upd F2 p6 (.lst (us2 ++ [.ref t]))) := u4.trans (t2.trans (w1.trans (w3.trans w5)))
      generalize us2 ++ [V.ref t] = up at ep hp s6 ⊢
      generalize upd F2 p6 (.lst up) = F3 at ep hp s6 ⊢
      clear w5 w4 w3 w2 w1 f2 f3 t2 pp n5 n6 nt ul hfull
      refine ⟨(by show 3 ≤ sizeLine; decide), fun p7 n7 => ?_⟩
      have w1 : Same F3 (upd F3 p7 (.tup [.str "p", .str "a", .str "QQQ"])) := same_new n7
      have eh : upd F3 p7 (.tup [.str "p", .str "a", .str "QQQ"]) p7 = some (.tup (sHead.map V.str)) := upd_same
      generalize upd F3 p7 (.tup [.str "p", .str "a", .str "QQQ"]) = F4 at w1 eh ⊢
      have s7 := s6.trans w1
      replace ep := w1 _ _ ep
      replace hp := hp.same w1
      refine ⟨_, _, rfl, ?_⟩
      clear w1 s6 n7
      -- denied and columns
      dsimp only [List.set]
      refine (show ∀ J : Hp, J = F4 → tSeq _ _ { nx := fun _ H' => Q .non H', rt := Q } [some (.ref ar), some (.ref p1), some (.ref p2), some (.ref p3), some (.ref p6), some (.ref p7), none, none, none, none, none, none, none] J from fun J hJ => ?_) _ rfl
      subst hJ
      refine ⟨(by show 2 ≤ sizeLine; decide), fun d1 m1 => ?_⟩
      have w1 : Same J (upd J d1 (.tup [.str "p", .str "a"])) := same_new m1
      have g1 : upd J d1 (.tup [.str "p", .str "a"]) d1 = some (.tup (([("p" : Str), ("a" : Str)] : List Str).map V.str)) := upd_same
      generalize upd J d1 (.tup [.str "p", .str "a"]) = J1 at w1 g1 ⊢
      refine ⟨(by show 3 ≤ sizeLine; decide), fun d2 m2 => ?_⟩
      have w2 : Same J1 (upd J1 d2 (.tup [.str "p", .str "a", .str "QQQ"])) := same_new m2
      have g2 : upd J1 d2 (.tup [.str "p", .str "a", .str "QQQ"]) d2 = some (.tup (sHead.map V.str)) := upd_same
      generalize upd J1 d2 (.tup [.str "p", .str "a", .str "QQQ"]) = J2 at w2 g2 ⊢
      refine ⟨(by show 2 ≤ sizeLine; decide), fun d3 m3 => ?_⟩
      have w3 : Same J2 (upd J2 d3 (.lst [.ref d1, .ref d2])) := same_new m3
      have ed : upd J2 d3 (.lst [.ref d1, .ref d2]) d3 = some (.lst [.ref d1, .ref d2]) := upd_same
      generalize upd J2 d3 (.lst [.ref d1, .ref d2]) = J3 at w3 ed ⊢
      have hd : PaL J3 [.ref d1, .ref d2] sDen := .cons (w3 _ _ (w2 _ _ g1)) (.cons (w3 _ _ g2) .nil)
      have w123 := w1.trans (w2.trans w3)
      have s8 := s7.trans w123
      refine ⟨_, rfl, 1, rfl, p1, _, rfl, SqL.of (s8 _ _ e1'), fun d4 m4 => ?_⟩
      rw [hcut]
      have w4 : Same J3 (upd J3 d4 (.lst (vs1.map V.str))) := same_new m4
      have g4 : upd J3 d4 (.lst (vs1.map V.str)) d4 = some (.lst (vs1.map V.str)) := upd_same
      generalize upd J3 d4 (.lst (vs1.map V.str)) = J4 at w4 g4 ⊢
      refine ⟨(by show 1 ≤ sizeLine; decide), fun d5 m5 => ?_⟩
      have w5 : Same J4 (upd J4 d5 (.lst [.str "QQQ"])) := same_new m5
      have g5 : upd J4 d5 (.lst [.str "QQQ"]) d5 = some (.lst [.str "QQQ"]) := upd_same
      generalize upd J4 d5 (.lst [.str "QQQ"]) = J5 at w5 g5 ⊢
      refine ⟨d4, d5, vs1.map V.str, [.str "QQQ"], rfl, rfl, w5 _ _ g4, g5, Nat.le_trans (by rw [List.length_map]; show vs1.length + 1 ≤ 2; omega) (by decide), fun d6 m6 => ?_⟩
      have w6 : Same J5 (upd J5 d6 (.lst (vs1.map V.str ++ [.str "QQQ"]))) := same_new m6
      have ec : upd J5 d6 (.lst (vs1.map V.str ++ [.str "QQQ"])) d6 = some (.lst ((sCols vs1).map V.str)) := by rw [upd_same, sCols, List.map_append] <;> rfl
      generalize upd J5 d6 (.lst (vs1.map V.str ++ [.str "QQQ"])) = J6 at w6 ec ⊢
      have w46 := w4.trans (w5.trans w6)
      have w16 := w123.trans w46
      have s9 : Same H J6 := s3.trans (s7.trans w16)
      have s9' := s7.trans w16
      have F : StF J6 ar p2 p3 p6 p7 d3 d6 v0 v1 v2 v3 v4 up [.ref d1, .ref d2] (sPrs vs1) sDen (sCols vs1) := ⟨s9 _ _ er, s9' _ _ e2', s9' _ _ e3, w16 _ _ ep, hp.same w16, w16 _ _ eh, w46 _ _ ed, hd.same w46, ec, sPrs_ok h4.vr, by unfold sPrs; rw [List.length_append, List.length_map]; show vs1.length + 1 ≤ 300; omega, sDen_ok, by decide, sCols_ok h4.vr, by unfold sCols; rw [List.length_append]; show vs1.length + 1 ≤ 300; omega⟩
      replace g := g.same s9
      have sq : ∀ G, Same J6 G → Q (.bl true) G := fun G s => q G (s9.trans s)
      refine ⟨_, _, rfl, ?_⟩
      clear w1 w2 w3 w4 w5 w6 w46 w16 w123 s9 s9' s8 s7 g1 g2 g4 g5 m1 m2 m3 m4 m5 m6 ed hd ec ep hp eh e1' e2' e3 u4 e4 s3 n4 nD q er e1
      clear hcut l1
      have fin : ∀ (J : Hp) (a : Addr) (p4 d3 d6 : Addr), RowsAt K 13 (.ref a) J → (∀ G, Same J G → Q (.bl true) G) → ∀ D : Ends, D.nx = (fun _ H' => Q .non H') → D.rt = Q →
          True := fun _ _ _ _ _ _ _ _ _ _ => trivial
      clear fin
      try dsimp only [gName, List.set]
      refine (show ∀ J : Hp, J = J6 → tSeq _ _ { nx := fun _ H' => Q .non H', rt := Q } [some (.ref ar), some (.ref p1), some (.ref p2), some (.ref p3), some (.ref p6), some (.ref p7), some (.ref d3), some (.ref d6), none, none, none, none, none] J from fun J hJ => ?_) _ rfl
      subst hJ
      have R1 : Ev (tLst (tCons (tTup (tCons (tC (.int 0)) (tCons (tLst (tCons (tOp (rIxL K) (tVar 0) (tC (.int 0))) (tCons (tVar 5) (tCons (tOp (rIxL K) (tVar 0) (tC (.int 2))) (tCons (tVar 4) (tCons (tVar 6) tNil)))))) (tCons (tVar 5) tNil)))) (tCons (tTup (tCons (tC (.int 0)) (tCons (tLst (tCons (tOp (rIxL K) (tVar 0) (tC (.int 0))) (tCons (tOp (rIxL K) (tVar 0) (tC (.int 1))) (tCons (tOp (rIxL K) (tVar 0) (tC (.int 2))) (tCons (tVar 4) (tCons (tVar 6) tNil)))))) (tCons (tVar 4) tNil)))) tNil))) [some (.ref ar), some (.ref p1), some (.ref p2), some (.ref p3), some (.ref p6), some (.ref p7), some (.ref d3), some (.ref d6), none, none, none, none, none] J (RowsAt K 2) := ev_rows (by decide) (ev_rows1 (ev_row (K := K) (way := 0) (dz_T F.eh) tell_head ((ev5 (ev_ix rfl F.er rfl) (ev_var rfl) (ev_ix rfl F.er rfl) (ev_var rfl) (ev_var rfl)).imp (fun vs G s e => by subst e; exact ⟨(by show 5 ≤ 5; decide), .inl ⟨rfl, _, _, _, _, _, rfl, RuleCh.mono ((F.good1 g).stray1 hf qqq_head) s⟩⟩)) (ev_var rfl))
            (ev_rows1 (ev_row (K := K) (way := 0) (dz_L F.ep F.hp) (tell_prs h4) ((ev5 (ev_ix rfl F.er rfl) (ev_ix rfl F.er rfl) (ev_ix rfl F.er rfl) (ev_var rfl) (ev_var rfl)).imp (fun vs G s e => by subst e; exact ⟨(by show 5 ≤ 5; decide), .inl ⟨rfl, _, _, _, _, _, rfl, RuleCh.mono ((F.good2 g).stray3 hf c1 qqq_prs) s⟩⟩)) (ev_var rfl))
            ev_rows0))
      refine seq_asg R1 fun x1 J1x s1x r1w => ?_
      clear R1
      replace F := F.same s1x
      replace g := g.same s1x
      replace sq := fun (G : Hp) (s : Same J1x G) => sq G (s1x.trans s)
      clear s1x
      have rw := r1w
      clear r1w
      try dsimp only [gName, List.set]
      refine (show ∀ J : Hp, J = J1x → tSeq _ _ { nx := fun _ H' => Q .non H', rt := Q } [some (.ref ar), some (.ref p1), some (.ref p2), some (.ref p3), some (.ref p6), some (.ref p7), some (.ref d3), some (.ref d6), some x1, none, none, none, none] J from fun J hJ => ?_) _ rfl
      subst hJ
      have R2 : Ev (tOp rCat (tVar 8) (tLst (tCons (tTup (tCons (tC (.int 0)) (tCons (tLst (tCons (tOp (rIxL K) (tVar 0) (tC (.int 0))) (tCons (tOp (rIxL K) (tVar 0) (tC (.int 1))) (tCons (tOp (rIxL K) (tVar 0) (tC (.int 2))) (tCons (tOp (rIxL K) (tVar 0) (tC (.int 3))) (tCons (tVar 6) tNil)))))) (tCons (tVar 6) tNil)))) (tCons (tTup (tCons (tC (.int 0)) (tCons (tLst (tCons (tOp (rIxL K) (tVar 0) (tC (.int 0))) (tCons (tVar 5) (tCons (tOp (rIxL K) (tVar 0) (tC (.int 2))) (tCons (tC (.int 0)) (tCons (tVar 6) tNil)))))) (tCons (tC (.int 0)) tNil)))) tNil)))) [some (.ref ar), some (.ref p1), some (.ref p2), some (.ref p3), some (.ref p6), some (.ref p7), some (.ref d3), some (.ref d6), some x1, none, none, none, none] J (RowsAt K (2 + 2)) := ev_more rfl rw (by decide) (ev_rows (by decide) (ev_rows1 (ev_row (K := K) (way := 0) (dz_L F.ed F.hd) tell_den ((ev5 (ev_ix rfl F.er rfl) (ev_ix rfl F.er rfl) (ev_ix rfl F.er rfl) (ev_ix rfl F.er rfl) (ev_var rfl)).imp (fun vs G s e => by subst e; exact ⟨(by show 5 ≤ 5; decide), .inl ⟨rfl, _, _, _, _, _, rfl, RuleCh.mono ((F.good3 g).stray4 hf c1 c2 qqq_den) s⟩⟩)) (ev_var rfl))
            (ev_rows1 (ev_row (K := K) (way := 0) (.int 0) tell_0 ((ev5 (ev_ix rfl F.er rfl) (ev_var rfl) (ev_ix rfl F.er rfl) ev_c (ev_var rfl)).imp (fun vs G s e => by subst e; exact ⟨(by show 5 ≤ 5; decide), .inl ⟨rfl, _, _, _, _, _, rfl, RuleCh.mono ((F.good1 g).no3 (d := .int 0) (.int 0) (fun z => nomatch z) (by decide +kernel) (by decide +kernel) rfl) s⟩⟩)) ev_c)
            ev_rows0)))
      refine seq_asg R2 fun x2 J2x s2x r2w => ?_
      clear R2 rw
      replace F := F.same s2x
      replace g := g.same s2x
      replace sq := fun (G : Hp) (s : Same J2x G) => sq G (s2x.trans s)
      clear s2x
      have rw := r2w
      clear r2w
      try dsimp only [gName, List.set]
      refine (show ∀ J : Hp, J = J2x → tSeq _ _ { nx := fun _ H' => Q .non H', rt := Q } [some (.ref ar), some (.ref p1), some (.ref p2), some (.ref p3), some (.ref p6), some (.ref p7), some (.ref d3), some (.ref d6), some x2, none, none, none, none] J from fun J hJ => ?_) _ rfl
      subst hJ
      have R3 : Ev (tOp rCat (tVar 8) (tLst (tCons (tTup (tCons (tC (.int 0)) (tCons (tLst (tCons (tOp (rIxL K) (tVar 0) (tC (.int 0))) (tCons (tVar 5) (tCons (tOp (rIxL K) (tVar 0) (tC (.int 2))) (tCons (tVar 4) (tCons (tVar 2) tNil)))))) (tCons (tVar 2) tNil)))) (tCons (tTup (tCons (tC (.int 1)) (tCons (tLst (tCons (tVar 7) (tCons (tOp (rIxL K) (tVar 0) (tC (.int 2))) (tCons (tVar 4) tNil)))) (tCons (tVar 7) tNil)))) tNil)))) [some (.ref ar), some (.ref p1), some (.ref p2), some (.ref p3), some (.ref p6), some (.ref p7), some (.ref d3), some (.ref d6), some x2, none, none, none, none] J (RowsAt K (4 + 2)) := ev_more rfl rw (by decide) (ev_rows (by decide) (ev_rows1 (ev_row (K := K) (way := 0) (dz_none F.en) tell_none ((ev5 (ev_ix rfl F.er rfl) (ev_var rfl) (ev_ix rfl F.er rfl) (ev_var rfl) (ev_var rfl)).imp (fun vs G s e => by subst e; exact ⟨(by show 5 ≤ 5; decide), .inl ⟨rfl, _, _, _, _, _, rfl, RuleCh.mono ((F.good1 g).no4 (d := .list [.none]) (dz_none F.en) (fun z => nomatch z) (by decide +kernel) (by decide +kernel) rfl) s⟩⟩)) (ev_var rfl))
            (ev_rows1 (ev_row (K := K) (way := 1) (dz_S F.ec) (tell_cols h4) ((ev3 mon_is (ev_var rfl) (ev_ix rfl F.er rfl) (ev_var rfl)).imp (fun vs G s e => by obtain ⟨a, b, e, e1, e2⟩ := e; subst e1 e2 e; exact ⟨(by show 3 ≤ 5; decide), .inr ⟨rfl, _, _, _, rfl, QCh.mono ((F.goodQ g).stray1 hf (qqq_cols h4)) s⟩⟩)) (ev_var rfl))
            ev_rows0)))
      refine seq_asg R3 fun x3 J3x s3x r3w => ?_
      clear R3 rw
      replace F := F.same s3x
      replace g := g.same s3x
      replace sq := fun (G : Hp) (s : Same J3x G) => sq G (s3x.trans s)
      clear s3x
      have rw := r3w
      clear r3w
      try dsimp only [gName, List.set]
      refine (show ∀ J : Hp, J = J3x → tSeq _ _ { nx := fun _ H' => Q .non H', rt := Q } [some (.ref ar), some (.ref p1), some (.ref p2), some (.ref p3), some (.ref p6), some (.ref p7), some (.ref d3), some (.ref d6), some x3, none, none, none, none] J from fun J hJ => ?_) _ rfl
      subst hJ
      have R4 : Ev (tOp rCat (tVar 8) (tLst (tCons (tTup (tCons (tC (.int 1)) (tCons (tLst (tCons (tVar 7) (tCons (tOp (rIxL K) (tVar 0) (tC (.int 2))) (tCons (tC (.int 0)) tNil)))) (tCons (tC (.int 0)) tNil)))) (tCons (tTup (tCons (tC (.int 1)) (tCons (tLst (tCons (tLst tNil) (tCons (tOp (rIxL K) (tVar 0) (tC (.int 2))) (tCons (tVar 4) tNil)))) (tCons (tVar 4) tNil)))) (tCons (tTup (tCons (tC (.int 1)) (tCons (tLst (tCons (tVar 3) (tCons (tOp (rIxL K) (tVar 0) (tC (.int 2))) (tCons (tLst tNil) tNil)))) (tCons (tVar 3) tNil)))) tNil))))) [some (.ref ar), some (.ref p1), some (.ref p2), some (.ref p3), some (.ref p6), some (.ref p7), some (.ref d3), some (.ref d6), some x3, none, none, none, none] J (RowsAt K (6 + 3)) := ev_more rfl rw (by decide) (ev_rows (by decide) (ev_rows1 (ev_row (K := K) (way := 1) (.int 0) tell_0 ((ev3 mon_is (ev_var rfl) (ev_ix rfl F.er rfl) ev_c).imp (fun vs G s e => by obtain ⟨a, b, e, e1, e2⟩ := e; subst e1 e2 e; exact ⟨(by show 3 ≤ 5; decide), .inr ⟨rfl, _, _, _, rfl, QCh.mono ((F.goodQ g).no3 (d := .int 0) (.int 0) (fun z => nomatch z) (by decide +kernel) (by decide +kernel) rfl) s⟩⟩)) ev_c)
            (ev_rows1 (ev_row (K := K) (way := 1) (dz_L F.ep F.hp) (tell_prs h4) ((ev3 mon_empty ev_nil (ev_ix rfl F.er rfl) (ev_var rfl)).imp (fun vs G s e => by obtain ⟨a, b, e, ⟨c, e1, hc⟩, e2⟩ := e; subst e1 e2 e; exact ⟨(by show 3 ≤ 5; decide), .inr ⟨rfl, _, _, _, rfl, ((F.same s).goodE (g.same s) hc).stray3 hf hm_nil qqq_prs⟩⟩)) (ev_var rfl))
            (ev_rows1 (ev_row (K := K) (way := 1) (dz_S F.el) tell_lone ((ev3 mon_is (ev_var rfl) (ev_ix rfl F.er rfl) ev_nil).imp (fun vs G s e => by obtain ⟨a, b, e, e1, ⟨c, e2, hc⟩⟩ := e; subst e1 e2 e; exact ⟨(by show 3 ≤ 5; decide), .inr ⟨rfl, _, _, _, rfl, ((F.same s).goodL (g.same s) hc).stray1 hf List.mem_cons_self⟩⟩)) (ev_var rfl))
            ev_rows0))))
      refine seq_asg R4 fun x4 J4x s4x r4w => ?_
      clear R4 rw
      replace F := F.same s4x
      replace g := g.same s4x
      replace sq := fun (G : Hp) (s : Same J4x G) => sq G (s4x.trans s)
      clear s4x
      have rw := r4w
      clear r4w
      try dsimp only [gName, List.set]
      refine (show ∀ J : Hp, J = J4x → tSeq _ _ { nx := fun _ H' => Q .non H', rt := Q } [some (.ref ar), some (.ref p1), some (.ref p2), some (.ref p3), some (.ref p6), some (.ref p7), some (.ref d3), some (.ref d6), some x4, none, none, none, none] J from fun J hJ => ?_) _ rfl
      subst hJ
      refine ⟨_, rfl, p6, _, rfl, SqL.of F.ep, fun e1 m1 => ?_⟩
      have w1 : Same J (upd J e1 (.lst up.reverse)) := same_new m1
      have g1 : upd J e1 (.lst up.reverse) e1 = some (.lst up.reverse) := upd_same
      generalize upd J e1 (.lst up.reverse) = K1 at w1 g1 ⊢
      refine ⟨_, rfl, d3, _, rfl, SqL.of (w1 _ _ F.ed), fun e2 m2 => ?_⟩
      have w2 : Same K1 (upd K1 e2 (.lst ([V.ref d1, V.ref d2].reverse))) := same_new m2
      have g2 : upd K1 e2 (.lst ([V.ref d1, V.ref d2].reverse)) e2 = some (.lst ([V.ref d1, V.ref d2].reverse)) := upd_same
      generalize upd K1 e2 (.lst ([V.ref d1, V.ref d2].reverse)) = K2 at w2 g2 ⊢
      refine ⟨_, rfl, d6, _, rfl, SqL.of (w2 _ _ (w1 _ _ F.ec)), fun e3 m3 => ?_⟩
      rw [← List.map_reverse]
      have w3 : Same K2 (upd K2 e3 (.lst ((sCols vs1).reverse.map V.str))) := same_new m3
      have g3 : upd K2 e3 (.lst ((sCols vs1).reverse.map V.str)) e3 = some (.lst ((sCols vs1).reverse.map V.str)) := upd_same
      generalize upd K2 e3 (.lst ((sCols vs1).reverse.map V.str)) = K3 at w3 g3 ⊢
      have w := w1.trans (w2.trans w3)
      have F0 := F.same w
      replace F : StF K3 ar p2 p3 e1 p7 e2 e3 v0 v1 v2 v3 v4 up.reverse ([V.ref d1, V.ref d2].reverse) (sPrs vs1).reverse sDen.reverse (sCols vs1).reverse := ⟨F0.er, F0.en, F0.el, w3 _ _ (w2 _ _ g1), F0.hp.rev, F0.eh, w3 _ _ g2, F0.hd.rev, g3, fun x hx => F.kp x (List.mem_reverse.mp hx), by rw [List.length_reverse]; exact F.lp, fun x hx => F.kd x (List.mem_reverse.mp hx), by decide, fun x hx => F.kc x (List.mem_reverse.mp hx), by rw [List.length_reverse]; exact F.lc⟩
      replace g := g.same w
      replace rw := mon_rows _ _ _ w rw
      replace sq := fun (G : Hp) (s : Same K3 G) => sq G (w.trans s)
      clear F0 w w1 w2 w3 g1 g2 g3 m1 m2 m3
      refine ⟨_, _, _, rfl, ?_⟩
      try dsimp only [gName, List.set]
      refine (show ∀ J : Hp, J = K3 → tSeq _ _ { nx := fun _ H' => Q .non H', rt := Q } [some (.ref ar), some (.ref p1), some (.ref p2), some (.ref p3), some (.ref e1), some (.ref p7), some (.ref e2), some (.ref e3), some x4, none, none, none, none] J from fun J hJ => ?_) _ rfl
      subst hJ
      have R5 : Ev (tOp rCat (tVar 8) (tLst (tCons (tTup (tCons (tC (.int 0)) (tCons (tLst (tCons (tOp (rIxL K) (tVar 0) (tC (.int 0))) (tCons (tOp (rIxL K) (tVar 0) (tC (.int 1))) (tCons (tOp (rIxL K) (tVar 0) (tC (.int 2))) (tCons (tVar 4) (tCons (tVar 6) tNil)))))) (tCons (tVar 4) tNil)))) (tCons (tTup (tCons (tC (.int 1)) (tCons (tLst (tCons (tVar 7) (tCons (tOp (rIxL K) (tVar 0) (tC (.int 2))) (tCons (tVar 4) tNil)))) (tCons (tVar 7) tNil)))) tNil)))) [some (.ref ar), some (.ref p1), some (.ref p2), some (.ref p3), some (.ref e1), some (.ref p7), some (.ref e2), some (.ref e3), some x4, none, none, none, none] J (RowsAt K (9 + 2)) := ev_more rfl rw (by decide) (ev_rows (by decide) (ev_rows1 (ev_row (K := K) (way := 0) (dz_L F.ep F.hp) (tell_prsr h4) ((ev5 (ev_ix rfl F.er rfl) (ev_ix rfl F.er rfl) (ev_ix rfl F.er rfl) (ev_var rfl) (ev_var rfl)).imp (fun vs G s e => by subst e; exact ⟨(by show 5 ≤ 5; decide), .inl ⟨rfl, _, _, _, _, _, rfl, RuleCh.mono ((F.good2 g).stray3 hf c1 qqq_prsr) s⟩⟩)) (ev_var rfl))
            (ev_rows1 (ev_row (K := K) (way := 1) (dz_S F.ec) (tell_colsr h4) ((ev3 mon_is (ev_var rfl) (ev_ix rfl F.er rfl) (ev_var rfl)).imp (fun vs G s e => by obtain ⟨a, b, e, e1, e2⟩ := e; subst e1 e2 e; exact ⟨(by show 3 ≤ 5; decide), .inr ⟨rfl, _, _, _, rfl, QCh.mono ((F.goodQ g).stray1 hf (qqq_colsr h4)) s⟩⟩)) (ev_var rfl))
            ev_rows0)))
      refine seq_asg R5 fun x5 J5x s5x r5w => ?_
      clear R5 rw
      replace F := F.same s5x
      replace g := g.same s5x
      replace sq := fun (G : Hp) (s : Same J5x G) => sq G (s5x.trans s)
      clear s5x
      have rw := r5w
      clear r5w
      try dsimp only [gName, List.set]
      refine (show ∀ J : Hp, J = J5x → tSeq _ _ { nx := fun _ H' => Q .non H', rt := Q } [some (.ref ar), some (.ref p1), some (.ref p2), some (.ref p3), some (.ref e1), some (.ref p7), some (.ref e2), some (.ref e3), some x5, none, none, none, none] J from fun J hJ => ?_) _ rfl
      subst hJ
      have R6 : Ev (tOp rCat (tVar 8) (tLst (tCons (tTup (tCons (tC (.int 0)) (tCons (tLst (tCons (tOp (rIxL K) (tVar 0) (tC (.int 0))) (tCons (tOp (rIxL K) (tVar 0) (tC (.int 1))) (tCons (tOp (rIxL K) (tVar 0) (tC (.int 2))) (tCons (tOp (rIxL K) (tVar 0) (tC (.int 3))) (tCons (tVar 6) tNil)))))) (tCons (tVar 6) tNil)))) (tCons (tTup (tCons (tC (.int 1)) (tCons (tLst (tCons (tLst tNil) (tCons (tOp (rIxL K) (tVar 0) (tC (.int 2))) (tCons (tVar 4) tNil)))) (tCons (tVar 4) tNil)))) tNil)))) [some (.ref ar), some (.ref p1), some (.ref p2), some (.ref p3), some (.ref e1), some (.ref p7), some (.ref e2), some (.ref e3), some x5, none, none, none, none] J (RowsAt K (11 + 2)) := ev_more rfl rw (by decide) (ev_rows (by decide) (ev_rows1 (ev_row (K := K) (way := 0) (dz_L F.ed F.hd) tell_denr ((ev5 (ev_ix rfl F.er rfl) (ev_ix rfl F.er rfl) (ev_ix rfl F.er rfl) (ev_ix rfl F.er rfl) (ev_var rfl)).imp (fun vs G s e => by subst e; exact ⟨(by show 5 ≤ 5; decide), .inl ⟨rfl, _, _, _, _, _, rfl, RuleCh.mono ((F.good3 g).stray4 hf c1 c2 qqq_denr) s⟩⟩)) (ev_var rfl))
            (ev_rows1 (ev_row (K := K) (way := 1) (dz_L F.ep F.hp) (tell_prsr h4) ((ev3 mon_empty ev_nil (ev_ix rfl F.er rfl) (ev_var rfl)).imp (fun vs G s e => by obtain ⟨a, b, e, ⟨c, e1, hc⟩, e2⟩ := e; subst e1 e2 e; exact ⟨(by show 3 ≤ 5; decide), .inr ⟨rfl, _, _, _, rfl, ((F.same s).goodE (g.same s) hc).stray3 hf hm_nil qqq_prsr⟩⟩)) (ev_var rfl))
            ev_rows0)))
      refine seq_asg R6 fun x6 J6x s6x r6w => ?_
      clear R6 rw
      replace F := F.same s6x
      replace g := g.same s6x
      replace sq := fun (G : Hp) (s : Same J6x G) => sq G (s6x.trans s)
      clear s6x
      have rw := r6w
      clear r6w
      clear F g
      obtain ⟨ra, vs, ex, ea, lv, kv⟩ := rw
      subst ex
      try dsimp only [gName, List.set]
      refine (show ∀ J : Hp, J = J6x → tSeq _ _ { nx := fun _ H' => Q .non H', rt := Q } [some (.ref ar), some (.ref p1), some (.ref p2), some (.ref p3), some (.ref e1), some (.ref p7), some (.ref e2), some (.ref e3), some (.ref ra), none, none, none, none] J from fun J hJ => ?_) _ rfl
      subst hJ
      refine ⟨_, rfl, ra, rfl, ⟨_, SqL.of ea⟩, for_list (K := K) (a := ra) (xs := vs) (fun i σ H' => ∃ o1 o2 o3 : Option V, σ = [some (.ref ar), some (.ref p1), some (.ref p2), some (.ref p3), some (.ref e1), some (.ref p7), some (.ref e2), some (.ref e3), some (.ref ra), o1, o2, o3, none] ∧ Same J H') ⟨none, none, none, rfl, Same.refl J⟩ (fun i σ H' _ ⟨_, _, _, _, s⟩ => SqL.of (s _ _ ea)) ?_ ?_⟩
      · rintro i x σ H2 hi ⟨o1, o2, o3, rfl, s2⟩
        obtain ⟨t, gv, way, us2, u, d, rfl, e1, e2, hz, tl, c⟩ := mon_row _ _ _ s2 (kv x (List.mem_of_getElem? hi))
        refine ⟨t, _, rfl, SqT.of e1, rfl, _, _, rfl, _, _, rfl, _, _, rfl, rfl, ?_⟩
        refine ⟨_, rfl, _, rfl, _, rfl, ?_⟩
        dsimp only [tNil, tCons]
        refine Chk.sp (E := E0) c e2 hz tl fun G sG => ⟨_, rfl, iteF ?_⟩
        exact ⟨_, _, _, rfl, s2.trans sG⟩
      · rintro σ H2 ⟨o1, o2, o3, rfl, s2⟩
        exact sq H2 s2

end
end Nv
set_option maxHeartbeats 8000000
namespace Nv
open PySem PySem.Spec PyProof.Rows L2
/-! # _law_books_right -/
abbrev nBooks : List Str := ["_law_rule_here", "_law_other", "_law_same", "_law_book", "_law_odds", "_law_odd", "_law_caught", "_law_way", "error"]
theorem scBooks : FnScope nBooks ["_law_rule_here"] (defScope sBooks) := ⟨rfl, rfl, rfl, by decide +kernel, rfl, by decide +kernel, by decide +kernel⟩
abbrev yOther : Rl := ⟨"zzz", ["q"], [], [], []⟩
abbrev ySame : Rl := ⟨"zzz", ["q", "a"], [], [], []⟩
abbrev yNew : Rl := ⟨"new", ["p"], [], [], []⟩
theorem plain_ok {l : Str} {h : List Str} (hl : IsNm l) (hh : PatOk h) : Rl.Ok ⟨l, h, [], [], []⟩ := ⟨hl, hh, (fun y hy => nomatch hy), Nat.zero_le _, (fun y hy => nomatch hy), Nat.zero_le _, (fun y hy => nomatch hy), Nat.zero_le _⟩
theorem yOther_ok : yOther.Ok := plain_ok (by decide +kernel) ⟨"q", [], rfl, by decide +kernel, by decide, (fun y hy => nomatch hy)⟩
theorem ySame_ok : ySame.Ok := plain_ok (by decide +kernel) ⟨"q", ["a"], rfl, by decide +kernel, by decide, by decide +kernel⟩
theorem yNew_ok : yNew.Ok := plain_ok (by decide +kernel) ⟨"p", [], rfl, by decide +kernel, by decide, (fun y hy => nomatch hy)⟩
theorem yOther_clo : Clo yOther := ⟨rfl, rfl, rfl⟩
theorem ySame_clo : Clo ySame := ⟨by decide +kernel, rfl, rfl⟩
theorem yNew_clo : Clo yNew := ⟨rfl, rfl, rfl⟩
theorem nd3 (x : Rl) {ys : List Rl} (h : x.l ∈ ys.map Rl.l ∨ ("zzz" : Str) ∈ ys.map Rl.l) : ¬ (([x, yOther] ++ ys).map Rl.l).Nodup := fun nd => by
  rw [List.map_append, List.nodup_append] at nd
  rcases h with h | h
  · exact nd.2.2 _ (by simp) _ h rfl
  · exact nd.2.2 "zzz" (by simp) _ h rfl
theorem mon_isL {vs : List V} : Mon (IsLst vs) := fun v G G' s ⟨a, e, h⟩ => ⟨a, e, s _ _ h⟩
section
variable {P : Program} {w : World} {K : PySem.W.Frag} {mg : Str → Option Value} {base : Heap}
theorem ev_rv {σ : L2.St} {H : Hp} {CR a : Addr} {x : Rl} {i : Nat} (h : σ[i]? = some (some (.ref a))) (ra : RA CR H a x) : Ev (tVar i) σ H (IsR CR x) := (ev_var h).imp fun v G s e => ⟨a, e, ra.same s⟩
def tTryB (K : PySem.W.Frag) (CR CB CU CE : Addr) (W : WX) : TS :=
  tIfS (tTest (tOp rEq (tVar 7) (tC (.int 0)))) (tDrop (tMethS2 CB "rule" (spLabX CR CB CU) (WE W) (tVar 3) (tCons (tVar 5) tNil)))
  (tIfS (tTest (tOp rEq (tVar 7) (tC (.int 1)))) (tDrop (tMethS2 CB "without" (spLabX CR CB CU) (WE W) (tVar 3) (tCons (tVar 5) tNil)))
  (tAsg (tAddS K CB (spBookAddX K CR CB CE) (WE W) (tVar 3) (tVar 5)) (gName 6)))
def tTryA (K : PySem.W.Frag) (CR CB CE : Addr) (W : WX) : TS := tAsg (tAddS K CB (spBookAddX K CR CB CE) (WE W) (tVar 3) (tVar 5)) (gName 6)
def spBooks (CR : Addr) : Sp := fun vs H Q _ => ∃ (r : Addr) (x : Rl), vs = [.ref r] ∧ RA CR H r x ∧ x.Ok ∧ x.l = "r" ∧ ∀ G, Same H G → Q (.bl true) G
/-- what all of the three bodies end with: the name told, the value compared -/
theorem ok_books {f fM fN fRE fBE fRI fBI fRu fWi fAd CN CR CQ CB CEr CEq CE CU : Addr} {fd dM dN dRE dBE dRI dBI dRu dWi dAd : FuncData} (F : Fun K "_law_books_right" "_law_books_right" sBooks f fd) (B : BCx K CR CB) (T : REq P w K mg base CR) (rg : mg "range" = none)
    (GM : FnOk P w K mg base CX0 7 fM dM ["_law_way", "_law_row"] (spMade K CN CR CQ CB CEr CEq CE)) (kM : PySem.W.keepIn K (.ref fM) = true) (gM : mg "_law_made" = some (.ref fM)) (bM : Binds K dM ["_law_way", "_law_row"] [])
    (GN : FnOk P w K mg base CX0 1 fN dN ["_law_caught"] (spNamed K CEr CEq CE CU)) (kN : PySem.W.keepIn K (.ref fN) = true) (gN : mg "_law_named" = some (.ref fN)) (bN : Binds K dN ["_law_caught"] [])
    (GRE : FnOk P w K mg base CX0 1 fRE dRE ["self", "other"] (spRuleEq K CR)) (sRE : PySem.W.findIn K (.ref CR) "__eq__" = some (some (.ref fRE))) (nRE : PySem.W.findIn K (.ref CR) "__ne__" = some (some (.builtin "object.__ne__"))) (iRE : PySem.W.isFn K (.ref fRE) = true) (bRE : Binds K dRE ["self", "other"] [])
    (GBE : FnOk P w K mg base CX0 3 fBE dBE ["self", "other"] (spBookEq K CR CB)) (sBE : PySem.W.findIn K (.ref CB) "__eq__" = some (some (.ref fBE))) (nBE : PySem.W.findIn K (.ref CB) "__ne__" = some (some (.builtin "object.__ne__"))) (iBE : PySem.W.isFn K (.ref fBE) = true) (bBE : Binds K dBE ["self", "other"] [])
    (GI : FnOk P w K mg base CX0 5 fRI dRI ["self", "label", "head", "told", "pairs", "denied"] (spRuleInit CR)) (MI : Mk K CR fRI) (gR : mg "Rule" = some (.ref CR)) (bI : Binds K dRI ["self", "label", "head", "told", "pairs", "denied"] [.none, .none])
    (GB : FnOk P w K mg base CX0 3 fBI dBI ["self", "rules"] (spBookInit CR CB)) (MB : Mk K CB fBI) (gB : mg "Book" = some (.ref CB)) (bB : Binds K dBI ["self", "rules"] [])
    (GRu : FnOk P w K mg base (CX P w) 4 fRu dRu ["self", "label"] (spLabX CR CB CU)) (mRu : Meth K CB "rule" fRu) (bRu : Binds K dRu ["self", "label"] [])
    (GWi : FnOk P w K mg base (CX P w) 4 fWi dWi ["self", "label"] (spLabX CR CB CU)) (mWi : Meth K CB "without" fWi) (bWi : Binds K dWi ["self", "label"] [])
    (GAd : FnOk P w K mg base (CX P w) 4 fAd dAd ["self", "other"] (spBookAddX K CR CB CE)) (sAd : PySem.W.findIn K (.ref CB) "__add__" = some (some (.ref fAd))) (iAd : PySem.W.isFn K (.ref fAd) = true) (bAd : Binds K dAd ["self", "other"] [])
    (rad : PySem.W.findIn K (.ref CB) "__radd__" = some none) (sf : PySem.W.selfFirst K CB = true) (gNE : mg "NeverError" = some (.ref CN))
    (X3 : ExK P w K mg base CN CEr CEq CE CU CE "InvalidBook" false false true false) (X4 : ExK P w K mg base CN CEr CEq CE CU CU "UnknownName" false false false true) :
    FnOk P w K mg base CX0 8 f fd ["_law_rule_here"] (spBooks CR) := by
  have clB := B.clB
  have IR := B.I
  have IB := B.IB
  refine F.ok scBooks (fun vs H Q E h => ?_) (fun cdv A outer s H vs Q E hr h => ?_)
  · obtain ⟨_, _, rfl, _⟩ := h
    rfl
  · obtain ⟨r, x, rfl, ra, ok, hx, q⟩ := h
    have hr1 : Room 1 _ := hr.mono (by decide)
    have hr3 : Room 3 _ := hr.mono (by decide)
    have hr4 : Room 4 _ := hr.mono (by decide)
    have hr6 : Room 6 _ := hr.mono (by decide)
    refine ⟨_, pss_cons (ps_set (i := 1) scBooks.nd rfl (Or.inl rfl) (by exact (pe_make MI GI hr6 (by rfl) gR bI (show Vals [V.non, V.non] [Value.none, Value.none] from .cons rfl (.cons rfl .nil)) pass0 (pa_cons pe_str (pa_cons (pe_tup (pa_cons pe_str pa_nil)) (pa_cons (pe_lst pa_nil) pa_nil))))))
      (pss_cons (ps_par (i := 2) (j := 3) (by rfl) scBooks.nd rfl rfl (by decide) rfl rfl (pa_cons (by exact (pe_make MI GI hr6 (by rfl) gR bI (show Vals [V.non, V.non] [Value.none, Value.none] from .cons rfl (.cons rfl .nil)) pass0 (pa_cons pe_str (pa_cons (pe_tup (pa_cons pe_str (pa_cons pe_str pa_nil))) (pa_cons (pe_lst pa_nil) pa_nil))))) (pa_cons (by exact (pe_make MB GB hr4 (by rfl) gB bB .nil pass0 (pa_cons (pe_lst (pa_cons (pv 0) (pa_cons (pv 1) pa_nil))) pa_nil))) pa_nil)) (by rfl))
      (pss_cons (ps_set (i := 4) scBooks.nd rfl (Or.inl rfl) (pe_lst (pa_cons pe_non (pa_cons pe_int (pa_cons pe_bl (pa_cons pe_str (pa_cons (pe_tup pa_nil) (pa_cons pe_dnewK (pa_cons (pv 0) (pa_cons (pe_tup (pa_cons (pv 0) pa_nil)) (pa_cons (pe_lst (pa_cons (pv 0) (pa_cons pe_non pa_nil))) (pa_cons (pe_lst (pa_cons (pe_lst (pa_cons (pv 0) pa_nil)) pa_nil)) (pa_cons (pe_lst (pa_cons pe_str pa_nil)) (pa_cons (pe_lst (pa_cons (pv 0) (pa_cons pe_str pa_nil))) (pa_cons (pe_disp (pps_cons pe_str (pv 0) pps_nil) (by rfl) (by rfl) (by simp) (by decide)) pa_nil)))))))))))))))
      (pss_cons (ps_for PassesOwn.never rfl (pi_list (pe_op op_cat (pv 4) (pe_lst (pa_cons (pe_lst (pa_cons (pv 0) (pa_cons (pv 0) pa_nil))) (pa_cons (pe_lst (pa_cons (pv 1) (pa_cons (pv 0) (pa_cons (pv 2) pa_nil)))) (pa_cons (pv 3) (pa_cons (pe_lst (pa_cons (pv 3) pa_nil)) pa_nil))))))) (pg_name (i := 5) scBooks.nd rfl (Or.inl rfl)) (pss_cons (ps_set (i := 6) scBooks.nd rfl (Or.inl rfl) (by exact (pe_call GM hr (by rfl) gM kM bM .nil pass0 (pa_cons pe_int (pa_cons (pe_lst (pa_cons (pv 5) pa_nil)) pa_nil)))))
      (pss_one (ps_if (PW.pt (pw_or (pt_cmpR op_ne (by exact (pe_call GN hr1 (by rfl) gN kN bN .nil pass0 (pa_cons (pv 6) pa_nil))) pe_str (nomark _)) (pw_or1 (pt_cmpR (op_neAny T.R IR clB IB GRE sRE nRE iRE bRE GBE sBE nBE iBE bBE hr4) (pe_xc (f := "value") (pv 6)) (pv 5) (nomark _))))) (pss_one (ps_ret pe_bl)) pss_nil))))
      (pss_cons (ps_for PassesOwn.never rfl (pi_list (pe_lst (pa_cons pe_non (pa_cons pe_int (pa_cons pe_bl (pa_cons pe_str (pa_cons pe_str (pa_cons (pe_tup pa_nil) (pa_cons (pe_lst pa_nil) (pa_cons pe_dnewK (pa_cons (pv 0) (pa_cons (pe_lst (pa_cons pe_str pa_nil)) (pa_cons (pe_tup (pa_cons pe_str pa_nil)) (pa_cons pe_str pa_nil)))))))))))))) (pg_name (i := 5) scBooks.nd rfl (Or.inl rfl)) (pss_one (ps_for PassesOwn.never rfl (pi_range1 (by rfl) rg (pa_cons pe_int pa_nil)) (pg_name (i := 7) scBooks.nd rfl (Or.inl rfl)) (pss_cons (ps_set (i := 6) scBooks.nd rfl (Or.inl rfl) pe_non)
      (pss_cons (ps_try_keep (i := 8) (tb := tTryB K CR CB CU CE) (ts := fun _ _ _ => tAsg (tVar 8) (gName 6)) (Wout := fun _ _ _ _ => False) rfl rfl rfl scBooks.nd rfl rfl ⟨rfl, by decide, Or.inl gNE⟩ takes0 (fun W pn xe tk _ => (pss_one (ps_if (pt_cmpR op_eq (pv 7) pe_int (nomark _)) (pss_one (ps_expr (by exact (pe_methS2 (pv 3) clB mRu GRu hr4 bRu (fun σ => passAt tk σ) (pa_cons (pv 5) pa_nil))))) (pss_one (ps_if (pt_cmpR op_eq (pv 7) pe_int (nomark _)) (pss_one (ps_expr (by exact (pe_methS2 (pv 3) clB mWi GWi hr4 bWi (fun σ => passAt tk σ) (pa_cons (pv 5) pa_nil))))) (pss_one (ps_set (i := 6) scBooks.nd rfl (Or.inl rfl) (by exact (pe_addS GAd hr4 sf sAd rad iAd bAd (fun σ => passAt tk σ) (pv 3) (pv 5)))))))))) (fun a cls d pn => pss_one (ps_set (i := 6) scBooks.nd rfl (Or.inl rfl) (pv 8))))
      (pss_one (ps_if (PW.pt (pw_or (pt_cmpR op_ne (by exact (pe_call GN hr1 (by rfl) gN kN bN .nil pass0 (pa_cons (pv 6) pa_nil))) (pe_ix ix_list (pe_lst (pa_cons pe_str (pa_cons pe_str (pa_cons pe_str pa_nil)))) (pv 7) (fun _ _ => rfl)) (nomark _)) (pw_or1 (pt_cmpR (op_neAny T.R IR clB IB GRE sRE nRE iRE bRE GBE sBE nBE iBE bBE hr4) (pe_xc (f := "value") (pv 6)) (pv 5) (nomark _))))) (pss_one (ps_ret pe_bl)) pss_nil)))))))
      (pss_cons (ps_for PassesOwn.never rfl (pi_tup (pe_tup (pa_cons (by exact (pe_make MB GB hr4 (by rfl) gB bB .nil pass0 (pa_cons (pe_lst (pa_cons (pv 2) pa_nil)) pa_nil))) (pa_cons (pv 3) (pa_cons (by exact (pe_make MB GB hr4 (by rfl) gB bB .nil pass0 (pa_cons (pe_lst (pa_cons (pv 0) pa_nil)) pa_nil))) (pa_cons (by exact (pe_make MB GB hr4 (by rfl) gB bB .nil pass0 (pa_cons (pe_lst (pa_cons (by exact (pe_make MI GI hr6 (by rfl) gR bI (show Vals [V.non, V.non] [Value.none, Value.none] from .cons rfl (.cons rfl .nil)) pass0 (pa_cons pe_str (pa_cons (pe_tup (pa_cons pe_str pa_nil)) (pa_cons (pe_lst pa_nil) pa_nil))))) (pa_cons (pv 2) pa_nil))) pa_nil))) pa_nil)))))) (pg_name (i := 5) scBooks.nd rfl (Or.inl rfl)) (pss_cons (ps_set (i := 6) scBooks.nd rfl (Or.inl rfl) pe_non)
      (pss_cons (ps_try_keep (i := 8) (tb := tTryA K CR CB CE) (ts := fun _ _ _ => tAsg (tVar 8) (gName 6)) (Wout := fun _ _ _ _ => False) rfl rfl rfl scBooks.nd rfl rfl ⟨rfl, by decide, Or.inl gNE⟩ takes0 (fun W pn xe tk _ => (pss_one (ps_set (i := 6) scBooks.nd rfl (Or.inl rfl) (by exact (pe_addS GAd hr4 sf sAd rad iAd bAd (fun σ => passAt tk σ) (pv 3) (pv 5)))))) (fun a cls d pn => pss_one (ps_set (i := 6) scBooks.nd rfl (Or.inl rfl) (pv 8))))
      (pss_one (ps_if (PW.pt (pw_or (pt_cmpR op_ne (by exact (pe_call GN hr1 (by rfl) gN kN bN .nil pass0 (pa_cons (pv 6) pa_nil))) pe_str (nomark _)) (pw_or1 (pt_cmpR (op_neAny T.R IR clB IB GRE sRE nRE iRE bRE GBE sBE nBE iBE bBE hr4) (pe_xc (f := "value") (pv 6)) (pv 5) (nomark _))))) (pss_one (ps_ret pe_bl)) pss_nil)))))
      (pss_one (ps_ret pe_bl))))))), ?_⟩
    -- other, same, book
    have R1 : Ev (tMake CR (spRuleInit CR) [.non, .non] E0 (tCons (tC (.str "zzz")) (tCons (tTup (tCons (tC (.str "q")) tNil)) (tCons (tLst tNil) tNil)))) [some (.ref r), none, none, none, none, none, none, none, none] H (IsR CR yOther) := ev_rule (h := ["q"]) yOther_ok yOther_clo (ev_v1 ev_c ev_v0)
    refine seq_asg R1 fun v1 J s1 e1 => ?_
    clear R1
    obtain ⟨o, rfl, ro⟩ := e1
    replace ra := ra.same s1
    replace q := fun (G : Hp) (s : Same J G) => q G (s1.trans s)
    try dsimp only [List.set]
    have R2 : Ev (tMake CR (spRuleInit CR) [.non, .non] E0 (tCons (tC (.str "zzz")) (tCons (tTup (tCons (tC (.str "q")) (tCons (tC (.str "a")) tNil))) (tCons (tLst tNil) tNil)))) [some (.ref r), some (.ref o), none, none, none, none, none, none, none] J (IsR CR ySame) := ev_rule (h := ["q", "a"]) ySame_ok ySame_clo (ev_v1 ev_c (ev_v1 ev_c ev_v0))
    have R3 : Ev (tMake CB (spBookInit CR CB) [] E0 (tCons (tLst (tCons (tVar 0) (tCons (tVar 1) tNil))) tNil)) [some (.ref r), some (.ref o), none, none, none, none, none, none, none] J (IsB CR CB [x, yOther]) := ev_book (by simp [hx]; decide +kernel) (by show 2 ≤ 100; decide) (ev_r1 (ev_rv rfl ra) (ev_r1 (ev_rv rfl ro) ev_r0))
    refine seq_par2 mon_isR R2 R3 fun v2 v3 J2 s2 e2 e3 => ?_
    clear R2 R3
    obtain ⟨z, rfl, rz⟩ := e2
    obtain ⟨b, rs, rfl, bb, rb⟩ := e3
    replace ra := ra.same s2
    replace ro := ro.same s2
    replace q := fun (G : Hp) (s : Same J2 G) => q G (s2.trans s)
    have okb : ∀ y ∈ [x, yOther], y.Ok := fun y hy => by
      simp only [List.mem_cons, List.not_mem_nil, or_false] at hy
      rcases hy with h | h
      · rw [h]
        exact ok
      · rw [h]
        exact yOther_ok
    have okz : ∀ y ∈ [ySame], y.Ok := fun y hy => by
      rw [List.mem_singleton.mp hy]
      exact ySame_ok
    clear s1 s2
    try dsimp only [List.set]
    -- the first list
    have R4 : Ev (tLst (tCons (tC .non) (tCons (tC (.int 0)) (tCons (tC (.bl true)) (tCons (tC (.str "")) (tCons (tTup tNil) (tCons tDNewK (tCons (tVar 0) (tCons (tTup (tCons (tVar 0) tNil)) (tCons (tLst (tCons (tVar 0) (tCons (tC .non) tNil))) (tCons (tLst (tCons (tLst (tCons (tVar 0) tNil)) tNil)) (tCons (tLst (tCons (tC (.str "r")) tNil)) (tCons (tLst (tCons (tVar 0) (tCons (tC (.str "zzz")) tNil))) (tCons (tDisp [((tC (.str "a")), (tVar 0))]) tNil)))))))))))))) [some (.ref r), some (.ref o), some (.ref z), some (.ref b), none, none, none, none, none] J2 (ListN 13 (OddB K CR CB)) := ev_lN mon_oddB (by decide)
      (ev_a1 mon_oddB (ev_c.imp fun v G s e => by subst e; exact ob_non) (ev_a1 mon_oddB (ev_c.imp fun v G s e => by subst e; exact ob_int 0) (ev_a1 mon_oddB (ev_c.imp fun v G s e => by subst e; exact ob_bl true) (ev_a1 mon_oddB (ev_c.imp fun v G s e => by subst e; exact ob_str _) (ev_a1 mon_oddB ((ev_tv (vs := []) (by simp) ev_v0).imp fun v G s e => ob_tup e) (ev_a1 mon_oddB (ev_dK0.imp fun v G s e => ob_d0 e) (ev_a1 mon_oddB ((ev_var rfl).imp fun v G s e => by subst e; exact ob_rule B (ra.same s) ok) (ev_a1 mon_oddB ((ev_tv (vs := [.ref r]) (by simp) (ev_v1 (ev_var rfl) ev_v0)).imp fun v G s e => ob_tup e) (ev_a1 mon_oddB ((ev_lv (vs := [.ref r, .non]) (by simp) (ev_v1 (ev_var rfl) (ev_v1 ev_c ev_v0))).imp fun v G s e => ob_lst e (.cons (tr_rule B (ra.same s)) (.cons (tr_non B) .nil)) (by decide) rfl) (ev_a1 mon_oddB ((ev_lF (mon_isL (vs := [.ref r])) (ev_lv (vs := [.ref r]) (by simp) (ev_v1 (ev_var rfl) ev_v0))).imp fun v G s e => by obtain ⟨a, w, rfl, e1, ⟨b, rfl, e2⟩⟩ := e; exact ob_lst ⟨a, rfl, e1⟩ (.cons (tr_lst B e2) .nil) (by decide) rfl) (ev_a1 mon_oddB ((ev_lv (vs := [.str "r"]) (by simp) (ev_v1 ev_c ev_v0)).imp fun v G s e => ob_lst e (.cons (tr_str B _) .nil) (by decide) rfl) (ev_a1 mon_oddB ((ev_lv (vs := [.ref r, .str "zzz"]) (by simp) (ev_v1 (ev_var rfl) (ev_v1 ev_c ev_v0))).imp fun v G s e => ob_lst e (.cons (tr_rule B (ra.same s)) (.cons (tr_str B _) .nil)) (by decide) rfl) (ev_a1 mon_oddB ((ev_dK1 (ev_var rfl)).imp fun v G s e => ob_d1 e) ev_a0)))))))))))))
    refine seq_asg R4 fun v4 J3 s3 l4 => ?_
    clear R4
    replace ra := ra.same s3
    replace ro := ro.same s3
    replace rz := rz.same s3
    replace bb := bb.same s3
    replace rb := rb.same s3
    replace q := fun (G : Hp) (s : Same J3 G) => q G (s3.trans s)
    clear s3
    try dsimp only [List.set]
    have R5 : Ev (tOp rCat (tVar 4) (tLst (tCons (tLst (tCons (tVar 0) (tCons (tVar 0) tNil))) (tCons (tLst (tCons (tVar 1) (tCons (tVar 0) (tCons (tVar 2) tNil)))) (tCons (tVar 3) (tCons (tLst (tCons (tVar 3) tNil)) tNil)))))) [some (.ref r), some (.ref o), some (.ref z), some (.ref b), some v4, none, none, none, none] J3 (ListN (13 + 4) (OddB K CR CB)) := ev_moreN mon_oddB rfl l4 (by decide) (ev_lN mon_oddB (by decide)
      (ev_a1 mon_oddB ((ev_lv (vs := [.ref r, .ref r]) (by simp) (ev_v1 (ev_var rfl) (ev_v1 (ev_var rfl) ev_v0))).imp fun v G s e => ob_rules (rs := [r, r]) B e (.cons (ra.same s) (.cons (ra.same s) .nil)) (by show 2 ≤ 100; decide) (by simp)) (ev_a1 mon_oddB ((ev_lv (vs := [.ref o, .ref r, .ref z]) (by simp) (ev_v1 (ev_var rfl) (ev_v1 (ev_var rfl) (ev_v1 (ev_var rfl) ev_v0)))).imp fun v G s e => ob_rules (rs := [o, r, z]) B e (.cons (ro.same s) (.cons (ra.same s) (.cons (rz.same s) .nil))) (by show 3 ≤ 100; decide) (by simp [yOther, ySame])) (ev_a1 mon_oddB ((ev_var rfl).imp fun v G s e => by subst e; exact ob_book B ⟨b, rs, rfl, bb.same s, rb.same s⟩ okb) (ev_a1 mon_oddB ((ev_lv (vs := [.ref b]) (by simp) (ev_v1 (ev_var rfl) ev_v0)).imp fun v G s e => ob_lst e (.cons (tr_book B (bb.same s)) .nil) (by decide) rfl) ev_a0)))))
    refine seq_forL mon_oddB R5 (fun σ => ∃ o5 o6 : Option V, σ = [some (.ref r), some (.ref o), some (.ref z), some (.ref b), some v4, o5, o6, none, none]) ⟨none, none, rfl⟩ ?_ ?_
    · rintro G0 s0 y τ G D' ⟨o5, o6, rfl⟩ sG ⟨bd, sn⟩ nx
      try dsimp only [List.set]
      refine ⟨_, rfl, (by show 1 ≤ sizeLine; decide), fun p np => ?_⟩
      have u1 : Same G (upd G p (.lst [y])) := same_new np
      have f1 : upd G p (.lst [y]) p = some (.lst [y]) := upd_same
      generalize upd G p (.lst [y]) = G1 at u1 f1 ⊢
      refine ⟨p, [y], .inr (.inr ⟨rfl, ⟨y, rfl⟩, f1, (mon_bookBad _ _ _ u1 bd).makes X3.exm fun a G2 s2 cx => ?_⟩)⟩
      replace s2 := u1.trans s2
      clear u1 f1 np bd
      try dsimp only [gName, List.set]
      refine ⟨_, rfl, a, CE, "value", y, _, _, _, _, rfl, cx, X3.kit, X3.k1, X3.k2, X3.k3, X3.k4, rfl, _, rfl, ?_⟩
      rw [decide_eq_true (show V.str (namedBy false false true false) = V.str "book" from rfl)]
      refine iteF ?_
      refine ⟨_, rfl, a, CE, _, y, rfl, X3.xc, cx, _, rfl, rfl, mon_selfNe _ _ _ s2 sn, fun G4 s4 => ⟨_, rfl, iteF ?_⟩⟩
      exact nx _ _ ⟨_, _, rfl⟩ (sG.trans (s2.trans s4))

    · rintro τ J4 ⟨o5, o6, rfl⟩ s4
      clear l4 R5
      replace ra := ra.same s4
      replace ro := ro.same s4
      replace rz := rz.same s4
      replace bb := bb.same s4
      replace rb := rb.same s4
      replace q := fun (G : Hp) (s : Same J4 G) => q G (s4.trans s)
      clear s4
      have R6 : Ev (tLst (tCons (tC .non) (tCons (tC (.int 0)) (tCons (tC (.bl true)) (tCons (tC (.str "")) (tCons (tC (.str "nosuch")) (tCons (tTup tNil) (tCons (tLst tNil) (tCons tDNewK (tCons (tVar 0) (tCons (tLst (tCons (tC (.str "zzz")) tNil)) (tCons (tTup (tCons (tC (.str "zzz")) tNil)) (tCons (tC (.str "ZZZ")) tNil))))))))))))) [some (.ref r), some (.ref o), some (.ref z), some (.ref b), some v4, o5, o6, none, none] J4 (ListN 12 (OddL K CR CB twoL)) := ev_lN mon_oddL (by decide)
        (ev_a1 mon_oddL (ev_c.imp fun v G s e => by subst e; exact ol_of (d := .none) (T := "NoneType") B (by constructor) (by decide +kernel) (by decide +kernel) rfl (by decide) addT_NoneType (.inl rfl)) (ev_a1 mon_oddL (ev_c.imp fun v G s e => by subst e; exact ol_of (d := .int 0) (T := "int") B (by constructor) (by decide +kernel) (by decide +kernel) rfl (by decide) addT_int (.inl rfl)) (ev_a1 mon_oddL (ev_c.imp fun v G s e => by subst e; exact ol_of (d := .bool true) (T := "bool") B (by constructor) (by decide +kernel) (by decide +kernel) rfl (by decide) addT_bool (.inl rfl)) (ev_a1 mon_oddL (ev_c.imp fun v G s e => by subst e; exact ol_of (d := .str "") (T := "str") B (by constructor) (by decide +kernel) (by decide +kernel) rfl (by decide) addT_str (.inl rfl)) (ev_a1 mon_oddL (ev_c.imp fun v G s e => by subst e; exact ol_of (d := .str "nosuch") (T := "str") B (by constructor) (by decide +kernel) (by decide +kernel) rfl (by decide) addT_str (.inl rfl)) (ev_a1 mon_oddL ((ev_tv (vs := []) (by simp) ev_v0).imp fun v G s e => by obtain ⟨a, rfl, e⟩ := e; exact ol_of (d := .tuple []) (T := "tuple") B (.tup e .nil) (by decide +kernel) (by decide +kernel) rfl (by decide) addT_tuple (.inr (.inl ⟨a, rfl, .inl ⟨_, .inr e⟩⟩))) (ev_a1 mon_oddL ((ev_lv (vs := []) (by simp) ev_v0).imp fun v G s e => by obtain ⟨a, rfl, e⟩ := e; exact ol_of (d := .list []) (T := "list") B (.lst e .nil) (by decide +kernel) (by decide +kernel) rfl (by decide) addT_list (.inr (.inl ⟨a, rfl, .inl ⟨_, .inl e⟩⟩))) (ev_a1 mon_oddL (ev_dK0.imp fun v G s e => ol_d0 B e) (ev_a1 mon_oddL ((ev_var rfl).imp fun v G s e => by subst e; exact ol_rule B (ra.same s) ok) (ev_a1 mon_oddL ((ev_lv (vs := [.str "zzz"]) (by simp) (ev_v1 ev_c ev_v0)).imp fun v G s e => by obtain ⟨a, rfl, e⟩ := e; exact ol_of (d := .list [.str "zzz"]) (T := "list") B (.lst e (.cons (.str _) .nil)) (by decide +kernel) (by decide +kernel) rfl (by decide) addT_list (.inr (.inl ⟨a, rfl, .inl ⟨_, .inl e⟩⟩))) (ev_a1 mon_oddL ((ev_tv (vs := [.str "zzz"]) (by simp) (ev_v1 ev_c ev_v0)).imp fun v G s e => by obtain ⟨a, rfl, e⟩ := e; exact ol_of (d := .tuple [.str "zzz"]) (T := "tuple") B (.tup e (.cons (.str _) .nil)) (by decide +kernel) (by decide +kernel) rfl (by decide) addT_tuple (.inr (.inl ⟨a, rfl, .inl ⟨_, .inr e⟩⟩))) (ev_a1 mon_oddL (ev_c.imp fun v G s e => by subst e; exact ol_of (d := .str "ZZZ") (T := "str") B (by constructor) (by decide +kernel) (by decide +kernel) rfl (by decide) addT_str (.inl rfl)) ev_a0))))))))))))
      refine seq_forL mon_oddL R6 (fun σ => ∃ o5 o6 o7 : Option V, σ = [some (.ref r), some (.ref o), some (.ref z), some (.ref b), some v4, o5, o6, o7, none]) ⟨o5, o6, none, rfl⟩ ?_ ?_
      · rintro G0 s0 y τ G D' ⟨o5, o6, o7, rfl⟩ sG ⟨⟨nl, t, ty, kt, at_⟩, sn⟩ nx
        try dsimp only [List.set]
        have bb0 := bb.same (s0.trans sG)
        have rb0 := rb.same (s0.trans sG)
        refine for_rangeW (n := 3) (by decide) (fun σ => ∃ o6 o7 : Option V, σ = [some (.ref r), some (.ref o), some (.ref z), some (.ref b), some v4, some y, o6, o7, none]) ⟨_, _, rfl⟩ ?_ (fun τ G' ⟨o6, o7, e⟩ s => nx τ G' ⟨_, o6, o7, e⟩ (sG.trans s))
        rintro w τ G1 D2 hw ⟨o6, o7, rfl⟩ s1 nx2
        try dsimp only [List.set]
        have bb1 := bb0.same s1
        have rb1 := rb0.same s1
        have nl1 := nl.same s1
        have sn1 := mon_selfNe _ _ _ s1 sn
        have ty1 := tyx_same s1 ty
        obtain ⟨dxb, lb, eb, elb⟩ := id bb1
        have labs : [x, yOther].map Rl.l = twoL := by rw [List.map_cons, hx] <;> rfl
        clear bb0 rb0 nl ty sn
        have sn := sn1
        show tSeq _ _ _ _ _
        rcases (by omega : w = 0 ∨ w = 1 ∨ w = 2) with rfl | rfl | rfl
        · refine ⟨_, rfl, rfl, _, rfl, ?_⟩
          rw [decide_eq_true (show V.int ((0 : Nat) : Int) = V.int 0 from rfl)]
          refine iteT ?_
          refine ⟨_, rfl, b, dxb, _, rfl, eb, (lk_no (by decide +kernel)), _, rfl, b, y, rs, [x, yOther], rfl, bb1, rb1, (by show 2 ≤ 1000; decide), okb, by rw [labs]; exact nl1, fun G s d G2 s2 nd e => ⟨true, X4.exm, fun _ a na => ?_, fun z => nomatch z⟩⟩
          have cx : CtX (upd G2 a (CtH (.ref CU) (some d) a)) a CU "value" y := ⟨d, upd_same, by rw [upd_ne (fun z => by rw [z, na] at e; cases e)]; exact e⟩
          replace s2 := s.trans (s2.trans (same_new (o := CtH (.ref CU) (some d) a) na))
          generalize upd G2 a (CtH (.ref CU) (some d) a) = G2 at cx s2 ⊢
          refine ⟨_, rfl, ?_⟩
          try dsimp only [gName, List.set]
          refine ⟨_, rfl, a, CU, "value", y, _, _, _, _, rfl, cx, X4.kit, X4.k1, X4.k2, X4.k3, X4.k4, ?_⟩
          refine ⟨by decide, fun p np => ⟨_, rfl, p, _, _, _, rfl, rfl, SqL.of upd_same, rfl, rfl, _, rfl, ?_⟩⟩
          rw [decide_eq_true (show V.str (namedBy false false false true) = V.str "unknown" from rfl)]
          refine iteF ?_
          have u2 : Same G2 (upd G2 p (.lst [V.str "unknown", V.str "unknown", V.str "book"])) := same_new np
          generalize upd G2 p (.lst [V.str "unknown", V.str "unknown", V.str "book"]) = G3 at u2 ⊢
          replace cx := cx.same u2
          replace s2 := s2.trans u2
          refine ⟨_, rfl, a, CU, _, y, rfl, X4.xc, cx, _, rfl, rfl, mon_selfNe _ _ _ s2 sn, fun G4 s4 => ⟨_, rfl, iteF ?_⟩⟩
          exact nx2 _ _ ⟨_, _, rfl⟩ (s1.trans (s2.trans s4))

        · refine ⟨_, rfl, rfl, _, rfl, ?_⟩
          rw [decide_eq_false (show ¬ V.int ((1 : Nat) : Int) = V.int 0 from by decide)]
          refine iteF ?_
          refine ⟨_, rfl, rfl, _, rfl, ?_⟩
          rw [decide_eq_true (show V.int ((1 : Nat) : Int) = V.int 1 from rfl)]
          refine iteT ?_
          refine ⟨_, rfl, b, dxb, _, rfl, eb, (lk_no (by decide +kernel)), _, rfl, b, y, rs, [x, yOther], rfl, bb1, rb1, (by show 2 ≤ 1000; decide), okb, by rw [labs]; exact nl1, fun G s d G2 s2 nd e => ⟨true, X4.exm, fun _ a na => ?_, fun z => nomatch z⟩⟩
          have cx : CtX (upd G2 a (CtH (.ref CU) (some d) a)) a CU "value" y := ⟨d, upd_same, by rw [upd_ne (fun z => by rw [z, na] at e; cases e)]; exact e⟩
          replace s2 := s.trans (s2.trans (same_new (o := CtH (.ref CU) (some d) a) na))
          generalize upd G2 a (CtH (.ref CU) (some d) a) = G2 at cx s2 ⊢
          refine ⟨_, rfl, ?_⟩
          try dsimp only [gName, List.set]
          refine ⟨_, rfl, a, CU, "value", y, _, _, _, _, rfl, cx, X4.kit, X4.k1, X4.k2, X4.k3, X4.k4, ?_⟩
          refine ⟨by decide, fun p np => ⟨_, rfl, p, _, _, _, rfl, rfl, SqL.of upd_same, rfl, rfl, _, rfl, ?_⟩⟩
          rw [decide_eq_true (show V.str (namedBy false false false true) = V.str "unknown" from rfl)]
          refine iteF ?_
          have u2 : Same G2 (upd G2 p (.lst [V.str "unknown", V.str "unknown", V.str "book"])) := same_new np
          generalize upd G2 p (.lst [V.str "unknown", V.str "unknown", V.str "book"]) = G3 at u2 ⊢
          replace cx := cx.same u2
          replace s2 := s2.trans u2
          refine ⟨_, rfl, a, CU, _, y, rfl, X4.xc, cx, _, rfl, rfl, mon_selfNe _ _ _ s2 sn, fun G4 s4 => ⟨_, rfl, iteF ?_⟩⟩
          exact nx2 _ _ ⟨_, _, rfl⟩ (s1.trans (s2.trans s4))

        · refine ⟨_, rfl, rfl, _, rfl, ?_⟩
          rw [decide_eq_false (show ¬ V.int ((2 : Nat) : Int) = V.int 0 from by decide)]
          refine iteF ?_
          refine ⟨_, rfl, rfl, _, rfl, ?_⟩
          rw [decide_eq_false (show ¬ V.int ((2 : Nat) : Int) = V.int 1 from by decide)]
          refine iteF ?_
          refine ⟨_, rfl, _, rfl, b, dxb, _, t, rfl, eb, ty1, at_, b, y, rs, [x, yOther], rfl, bb1, rb1, (by show 2 ≤ 100; decide), .inl ⟨t, ty1, kt⟩, fun G s d G2 s2 nd e => ⟨true, X3.exm, fun _ a na => ?_, fun z => nomatch z⟩⟩
          have cx : CtX (upd G2 a (CtH (.ref CE) (some d) a)) a CE "value" y := ⟨d, upd_same, by rw [upd_ne (fun z => by rw [z, na] at e; cases e)]; exact e⟩
          replace s2 := s.trans (s2.trans (same_new (o := CtH (.ref CE) (some d) a) na))
          generalize upd G2 a (CtH (.ref CE) (some d) a) = G2 at cx s2 ⊢
          refine ⟨_, rfl, ?_⟩
          try dsimp only [gName, List.set]
          refine ⟨_, rfl, a, CE, "value", y, _, _, _, _, rfl, cx, X3.kit, X3.k1, X3.k2, X3.k3, X3.k4, ?_⟩
          refine ⟨by decide, fun p np => ⟨_, rfl, p, _, _, _, rfl, rfl, SqL.of upd_same, rfl, rfl, _, rfl, ?_⟩⟩
          rw [decide_eq_true (show V.str (namedBy false false true false) = V.str "book" from rfl)]
          refine iteF ?_
          have u2 : Same G2 (upd G2 p (.lst [V.str "unknown", V.str "unknown", V.str "book"])) := same_new np
          generalize upd G2 p (.lst [V.str "unknown", V.str "unknown", V.str "book"]) = G3 at u2 ⊢
          replace cx := cx.same u2
          replace s2 := s2.trans u2
          refine ⟨_, rfl, a, CE, _, y, rfl, X3.xc, cx, _, rfl, rfl, mon_selfNe _ _ _ s2 sn, fun G4 s4 => ⟨_, rfl, iteF ?_⟩⟩
          exact nx2 _ _ ⟨_, _, rfl⟩ (s1.trans (s2.trans s4))

      · rintro τ J5 ⟨o5, o6, o7, rfl⟩ s5
        clear R6
        replace ra := ra.same s5
        replace ro := ro.same s5
        replace rz := rz.same s5
        replace bb := bb.same s5
        replace rb := rb.same s5
        replace q := fun (G : Hp) (s : Same J5 G) => q G (s5.trans s)
        clear s5
        have R7 : Ev (tTup (tCons (tMake CB (spBookInit CR CB) [] E0 (tCons (tLst (tCons (tVar 2) tNil)) tNil)) (tCons (tVar 3) (tCons (tMake CB (spBookInit CR CB) [] E0 (tCons (tLst (tCons (tVar 0) tNil)) tNil)) (tCons (tMake CB (spBookInit CR CB) [] E0 (tCons (tLst (tCons (tMake CR (spRuleInit CR) [.non, .non] E0 (tCons (tC (.str "new")) (tCons (tTup (tCons (tC (.str "p")) tNil)) (tCons (tLst tNil) tNil)))) (tCons (tVar 2) tNil))) tNil)) tNil))))) [some (.ref r), some (.ref o), some (.ref z), some (.ref b), some v4, o5, o6, o7, none] J5 (TupN 4 (OddA CR CB [x, yOther])) := ev_tN mon_oddA (by decide)
          (ev_a1 mon_oddA ((ev_book (by simp) (by show 1 ≤ 100; decide) (ev_r1 (ev_rv rfl rz) ev_r0)).imp fun v G s e => oa_of e (by show 1 ≤ 100; decide) okz (nd3 x (by simp [ySame]))) (ev_a1 mon_oddA ((ev_var rfl).imp fun v G s e => by subst e; exact oa_of ⟨b, rs, rfl, bb.same s, rb.same s⟩ (by show 2 ≤ 100; decide) okb (nd3 x (by simp))) (ev_a1 mon_oddA ((ev_book (by simp) (by show 1 ≤ 100; decide) (ev_r1 (ev_rv rfl ra) ev_r0)).imp fun v G s e => oa_of e (by show 1 ≤ 100; decide) (fun y hy => by rw [List.mem_singleton.mp hy]; exact ok) (nd3 x (by simp))) (ev_a1 mon_oddA ((ev_book (by simp [yNew, ySame]; decide +kernel) (by show 2 ≤ 100; decide) (ev_r1 (ev_rule (h := ["p"]) yNew_ok yNew_clo (ev_v1 ev_c ev_v0)) (ev_r1 (ev_rv rfl rz) ev_r0))).imp fun v G s e => oa_of e (by show 2 ≤ 100; decide) (fun y hy => by simp only [List.mem_cons, List.not_mem_nil, or_false] at hy; rcases hy with h | h <;> rw [h] <;> first | exact yNew_ok | exact ySame_ok) (nd3 x (by simp [ySame, yNew]))) ev_a0))))
        refine seq_forT mon_oddA R7 (fun σ => ∃ o5 o6 : Option V, σ = [some (.ref r), some (.ref o), some (.ref z), some (.ref b), some v4, o5, o6, o7, none]) ⟨o5, o6, rfl⟩ ?_ (fun τ G' _ s => q G' s)
        rintro G0 s0 y τ G D' ⟨o5, o6, rfl⟩ sG ⟨a0, rs2, ys, rfl, b2, r2, hl2, ok2, nd2⟩ nx
        try dsimp only [List.set]
        have bb1 := bb.same (s0.trans sG)
        have rb1 := rb.same (s0.trans sG)
        obtain ⟨dxb, lb, eb, elb⟩ := id bb1
        have sn : SelfNe CR CB (.ref a0) G := .inr (.inr (.inr ⟨a0, rs2, ys, rfl, b2, r2, ok2⟩))
        show tSeq _ _ _ _ _
        refine ⟨_, rfl, _, rfl, b, dxb, _, .ref CB, rfl, eb, B.tyB b2, .inl rfl, b, .ref a0, rs, [x, yOther], rfl, bb1, rb1, (by show 2 ≤ 100; decide), .inr ⟨a0, rs2, ys, rfl, b2, r2, hl2, nd2⟩, fun G1 s d G2 s2 nd e => ⟨true, X3.exm, fun _ a na => ?_, fun z => nomatch z⟩⟩
        have cx : CtX (upd G2 a (CtH (.ref CE) (some d) a)) a CE "value" (.ref a0) := ⟨d, upd_same, by rw [upd_ne (fun z => by rw [z, na] at e; cases e)]; exact e⟩
        replace s2 := s.trans (s2.trans (same_new (o := CtH (.ref CE) (some d) a) na))
        generalize upd G2 a (CtH (.ref CE) (some d) a) = G2 at cx s2 ⊢
        refine ⟨_, rfl, ?_⟩
        try dsimp only [gName, List.set]
        refine ⟨_, rfl, a, CE, "value", (.ref a0), _, _, _, _, rfl, cx, X3.kit, X3.k1, X3.k2, X3.k3, X3.k4, rfl, _, rfl, ?_⟩
        rw [decide_eq_true (show V.str (namedBy false false true false) = V.str "book" from rfl)]
        refine iteF ?_
        refine ⟨_, rfl, a, CE, _, (.ref a0), rfl, X3.xc, cx, _, rfl, rfl, mon_selfNe _ _ _ s2 sn, fun G4 s4 => ⟨_, rfl, iteF ?_⟩⟩
        exact nx _ _ ⟨_, _, rfl⟩ (sG.trans (s2.trans s4))

end
end Nv
set_option maxHeartbeats 4000000
namespace Nv
open PySem PySem.Spec PyProof.Rows L2
/-! # good rows: what is made of them is no error -/
section
variable {K : PySem.W.Frag} {H G : Hp}
/-- an instance of the class at C stands at a -/
def InsAt (C a : Addr) (G : Hp) : Prop := ∃ dx fs, G a = some (.ins C dx fs)
section
variable {v0 v1 v2 v3 v4 : V} {l : Str} {th tt : Addr} {h : List Str} {us : List V} {ps qs ds : List (List Str)}
theorem Good.makes {CN CR CEr : Addr} {Q : VK} (g : Good H v0 v1 v2 v3 v4 l th tt h us ps qs ds) (c1 : hasMore h.tail ps = false) (c2 : hasMore qs.flatten ps = false) (c3 : hasMore (tails ds) ps = false)
    (q : ∀ (a : Addr) (G : Hp), Same H G → InsAt CR a G → Q (.ref a) G) : Makes K CN CR (spRuleX (K := K) CR CEr) [v0, v1, v2, v3, v4] H Q := fun y dy ny nd ne => by
  have sK : Same H (upd (upd H dy (.own y)) y (.ins CR dy [])) := same_put (same_new nd) ny
  have ff : ∀ {b : Bool}, b = false → ¬ b = true := fun e z => by rw [e] at z; cases z
  refine RuleCh.sp upd_same ((g.same sK).ch (ifN (ff c1) (ifN (ff c2) (ifN (ff c3) ?_))))
  intro l1 l2 l3 us2 us3 H' n1 n2 n3 sb e1 _ _ _ _ _
  exact ⟨rfl, q y H' (made_same (Same.refl H) ny nd sb) ⟨_, _, e1⟩⟩
end
section
variable {v1 v2 v3 : V} {tc tt : Addr} {cs : List Str} {us : List V} {ps qs : List (List Str)}
theorem GoodQ.makes {CN CQ CEq : Addr} {Q : VK} (g : GoodQ H v1 v2 v3 tc tt cs us ps qs) (c1 : hasMore cs ps = false) (c2 : hasMore qs.flatten ps = false)
    (q : ∀ (a : Addr) (G : Hp), Same H G → InsAt CQ a G → Q (.ref a) G) : Makes K CN CQ (spQX K CQ CEq) [v1, v2, v3] H Q := fun y dy ny nd ne => by
  have sK : Same H (upd (upd H dy (.own y)) y (.ins CQ dy [])) := same_put (same_new nd) ny
  have ff : ∀ {b : Bool}, b = false → ¬ b = true := fun e z => by rw [e] at z; cases z
  refine QCh.sp upd_same ((g.same sK).ch (ifN (ff c1) (ifN (ff c2) ?_)))
  intro l1 l2 l3 us2 H' n1 n2 n3 sb e1 _ _ _ _ _
  exact ⟨rfl, q y H' (made_same (Same.refl H) ny nd sb) ⟨_, _, e1⟩⟩
end
/-- the row of a rule that is let -/
def RowLet (v : V) (G : Hp) : Prop := ∃ (b : Addr) (v0 v1 v2 v3 v4 : V) (l : Str) (th tt : Addr) (h : List Str) (us : List V) (ps qs ds : List (List Str)), v = .ref b ∧ G b = some (.lst [v0, v1, v2, v3, v4]) ∧ Good G v0 v1 v2 v3 v4 l th tt h us ps qs ds ∧
  hasMore h.tail ps = false ∧ hasMore qs.flatten ps = false ∧ hasMore (tails ds) ps = false
theorem mon_rowLet : Mon RowLet := fun v G G' s ⟨b, v0, v1, v2, v3, v4, l, th, tt, h, us, ps, qs, ds, e, eb, g, c⟩ => ⟨b, v0, v1, v2, v3, v4, l, th, tt, h, us, ps, qs, ds, e, s _ _ eb, g.same s, c⟩
end
/-! ### readings of lists of patterns, of rows -/
section
variable {K : PySem.W.Frag} {H : Hp} {σ : L2.St} {φ0 φ1 φ2 φ3 φ4 : V → Hp → Prop} {te t0 t1 t2 t3 t4 : TE} {ta tr : TA}
theorem mon_isT {vs : List V} : Mon (IsTup vs) := fun v G G' s ⟨a, e, h⟩ => ⟨a, e, s _ _ h⟩
theorem ev_p0 : EvA tNil σ H (fun vs G => PaL G vs []) := fun G Q s q => q [] G (Same.refl G) .nil
theorem ev_p1 {p : List Str} {ps : List (List Str)} (h : Ev te σ H (IsTup (p.map V.str))) (hr : EvA tr σ H (fun vs G => PaL G vs ps)) : EvA (tCons te tr) σ H (fun vs G => PaL G vs (p :: ps)) := fun G Q s q => by
  refine h G _ s fun v G0 s0 e0 => ?_
  refine hr G0 _ (s.trans s0) fun vs G1 s1 e1 => ?_
  obtain ⟨a, rfl, ea⟩ := e0
  exact q _ _ (s0.trans s1) (.cons (s1 _ _ ea) e1)
/-- a list of tuples of texts -/
def IsPs (ps : List (List Str)) (v : V) (G : Hp) : Prop := ∃ a us, v = .ref a ∧ G a = some (.lst us) ∧ PaL G us ps
theorem mon_isPs {ps : List (List Str)} : Mon (IsPs ps) := fun v G G' s ⟨a, us, e, h, p⟩ => ⟨a, us, e, s _ _ h, p.same s⟩
theorem ev_lP {ps : List (List Str)} (hl : ps.length ≤ 100) (h : EvA ta σ H (fun vs G => PaL G vs ps)) : Ev (tLst ta) σ H (IsPs ps) := fun G Q s q =>
  h G _ s fun us G1 s1 p1 => ⟨by rw [p1.len]; exact Nat.le_trans hl (by decide), fun p np => q _ _ (s1.trans (same_new np)) ⟨p, us, rfl, upd_same, p1.same (same_new np)⟩⟩
theorem PaL.rep {G : Hp} {us : List V} {ps : List (List Str)} (h : PaL G us ps) : ∀ n : Nat, PaL G (List.replicate n us).flatten (List.replicate n ps).flatten
  | 0 => .nil
  | n + 1 => by
    rw [List.replicate_succ, List.replicate_succ, List.flatten_cons, List.flatten_cons]
    exact h.app (h.rep n)
theorem ev_rep {ps : List (List Str)} {n : Nat} (hn : n * ps.length ≤ 100) (hn2 : n ≤ 100) (h : Ev te σ H (IsPs ps)) : Ev (tOp rRep te (tC (.int (n : Int)))) σ H (IsPs (List.replicate n ps).flatten) := fun G Q s q =>
  h G _ s fun v G1 s1 e => by
    obtain ⟨a, us, rfl, ea, p1⟩ := e
    refine ⟨a, (n : Int), us, rfl, rfl, ea, by omega, by omega, ?_, fun p np => q _ _ (s1.trans (same_new np)) ⟨p, _, rfl, upd_same, ?_⟩⟩
    · rw [Int.toNat_natCast, p1.len, Nat.mul_comm]
      exact Nat.le_trans hn (by decide)
    · rw [Int.toNat_natCast]
      exact (p1.rep n).same (same_new np)
theorem ev5g (m0 : Mon φ0) (m1 : Mon φ1) (m2 : Mon φ2) (m3 : Mon φ3) (h0 : Ev t0 σ H φ0) (h1 : Ev t1 σ H φ1) (h2 : Ev t2 σ H φ2) (h3 : Ev t3 σ H φ3) (h4 : Ev t4 σ H φ4) :
    EvA (tCons t0 (tCons t1 (tCons t2 (tCons t3 (tCons t4 tNil))))) σ H (fun vs G => ∃ v0 v1 v2 v3 v4, vs = [v0, v1, v2, v3, v4] ∧ φ0 v0 G ∧ φ1 v1 G ∧ φ2 v2 G ∧ φ3 v3 G ∧ φ4 v4 G) := fun G Q s q => by
  refine h0 G _ s fun v0 G0 s0 e0 => ?_
  refine h1 G0 _ (s.trans s0) fun v1 G1 s1 e1 => ?_
  refine h2 G1 _ (s.trans (s0.trans s1)) fun v2 G2 s2 e2 => ?_
  refine h3 G2 _ (s.trans (s0.trans (s1.trans s2))) fun v3 G3 s3 e3 => ?_
  refine h4 G3 _ (s.trans (s0.trans (s1.trans (s2.trans s3)))) fun v4 G4 s4 e4 => ?_
  exact q _ _ (s0.trans (s1.trans (s2.trans (s3.trans s4)))) ⟨_, _, _, _, _, rfl, m0 _ _ _ (s1.trans (s2.trans (s3.trans s4))) e0, m1 _ _ _ (s2.trans (s3.trans s4)) e1, m2 _ _ _ (s3.trans s4) e2, m3 _ _ _ s4 e3, e4⟩
/-- ['r', (..), [..], [..], [..]] -/
theorem ev_rowLet {l : Str} {h : List Str} {ps qs ds : List (List Str)} (hl : IsNm l) (hh : PatOk h) (kp : ∀ x ∈ ps, PatOk x) (lp : ps.length ≤ 300) (kq : ∀ x ∈ qs, PairOk x) (lq : qs.length ≤ 300) (kd : ∀ x ∈ ds, PatOk x) (ld : ds.length ≤ 300)
    (c1 : hasMore h.tail ps = false) (c2 : hasMore qs.flatten ps = false) (c3 : hasMore (tails ds) ps = false)
    (h1 : Ev t1 σ H (IsTup (h.map V.str))) (h2 : Ev t2 σ H (IsPs ps)) (h3 : Ev t3 σ H (IsPs qs)) (h4 : Ev t4 σ H (IsPs ds)) : Ev (tLst (tCons (tC (.str l)) (tCons t1 (tCons t2 (tCons t3 (tCons t4 tNil)))))) σ H RowLet := fun G Q s q =>
  ev5g mon_is mon_isT mon_isPs mon_isPs (ev_c (c := V.str l)) h1 h2 h3 h4 G _ s fun vs G1 s1 e => by
    obtain ⟨v0, v1, v2, v3, v4, rfl, e0, ⟨th, e1, eh⟩, ⟨tt, us, e2, et, pt⟩, ⟨tq, uq, e3, eq, pq⟩, ⟨td, ud, e4, ed, pd⟩⟩ := e
    subst e0 e1 e2 e3 e4
    refine ⟨by show 5 ≤ sizeLine; decide, fun p np => ?_⟩
    refine q _ _ (s1.trans (same_new np)) ⟨p, _, _, _, _, _, l, th, tt, h, us, ps, qs, ds, rfl, upd_same, ⟨rfl, rfl, rfl, hl, same_new np _ _ eh, hh, same_new np _ _ et, pt.same (same_new np), kp, lp, ?_, kq, ?_, kd⟩, c1, c2, c3⟩
    · exact .inr ⟨tq, uq, rfl, same_new np _ _ eq, pq.same (same_new np), lq⟩
    · exact .inr ⟨td, ud, rfl, same_new np _ _ ed, pd.same (same_new np), ld⟩
end
end Nv
namespace Nv
open PySem PySem.Spec PyProof.Rows L2
section
variable {K : PySem.W.Frag} {H : Hp} {σ : L2.St} {φ : V → Hp → Prop} {te : TE} {ta : TA} {tb : TS} {D : Ends} {i n : Nat}
theorem forT (mo : Mon φ) (h : Ev te σ H (TupN n φ)) (Pv : L2.St → Prop) (h0 : Pv σ) (body : Goes φ Pv i tb H) (done : ∀ τ G, Pv τ → Same H G → D.nx τ G) : tFor (iTup K te) (gName i) tb D σ H := by
  refine h H _ (Same.refl H) fun v G s e => ?_
  obtain ⟨a, vs, rfl, ea, _, k⟩ := e
  refine ⟨a, rfl, ⟨vs, SqT.of ea⟩, for_tup (K := K) (a := a) (xs := vs) (fun i τ H' => Pv τ ∧ Same G H') ⟨h0, Same.refl G⟩ (fun i τ H' _ z => SqT.of (z.2 _ _ ea)) ?_ ?_⟩
  · rintro i x τ H2 hi ⟨p, s2⟩
    exact body G s x τ H2 _ p s2 (mo _ _ _ s2 (k x (List.mem_of_getElem? hi))) fun τ' G' p' s' => ⟨p', s'⟩
  · rintro τ H2 ⟨p, s2⟩
    exact done τ H2 p (s.trans s2)
/-- row[:3] + [None, None] -/
theorem ev_cut3 {j : Nat} {b : Addr} {v0 v1 v2 v3 v4 : V} {l : Str} {th tt : Addr} {h : List Str} {us : List V} {ps qs ds : List (List Str)} (hj : σ[j]? = some (some (.ref b))) (eb : H b = some (.lst [v0, v1, v2, v3, v4])) (g : Good H v0 v1 v2 v3 v4 l th tt h us ps qs ds) (c1 : hasMore h.tail ps = false) :
    Ev (tOp rCat (tSl (rSlL K) (tVar j) tNoPart (tPart (tC (.int 3)))) (tLst (tCons (tC .non) (tCons (tC .non) tNil)))) σ H RowLet := fun G Q s q => by
  refine ⟨_, hj, 3, rfl, b, _, rfl, SqL.of (s _ _ eb), fun p1 n1 => ?_⟩
  have hc : cutV [v0, v1, v2, v3, v4] none (some 3) = [v0, v1, v2] := rfl
  rw [hc]
  have u1 : Same G (upd G p1 (.lst [v0, v1, v2])) := same_new n1
  have f1 : upd G p1 (.lst [v0, v1, v2]) p1 = some (.lst [v0, v1, v2]) := upd_same
  generalize upd G p1 (.lst [v0, v1, v2]) = G1 at u1 f1 ⊢
  refine ⟨by show 2 ≤ sizeLine; decide, fun p2 n2 => ?_⟩
  have u2 : Same G1 (upd G1 p2 (.lst [.non, .non])) := same_new n2
  have f2 : upd G1 p2 (.lst [.non, .non]) p2 = some (.lst [.non, .non]) := upd_same
  generalize upd G1 p2 (.lst [.non, .non]) = G2 at u2 f2 ⊢
  refine ⟨p1, p2, _, _, rfl, rfl, u2 _ _ f1, f2, by show 3 + 2 ≤ sizeLine; decide, fun p3 n3 => ?_⟩
  have u3 : Same G (upd G2 p3 (.lst ([v0, v1, v2] ++ [.non, .non]))) := (u1.trans u2).trans (same_new n3)
  have s3 := s.trans u3
  exact q _ _ u3 ⟨p3, v0, v1, v2, .non, .non, l, th, tt, h, us, ps, [], [], rfl, upd_same, ⟨g.e0, g.e1, g.e2, g.hl, s3 _ _ g.eh, g.hh, s3 _ _ g.et, g.hp.same s3, g.hok, g.hpl, .inl ⟨rfl, rfl⟩, (fun x hx => nomatch hx), .inl ⟨rfl, rfl⟩, (fun x hx => nomatch hx)⟩, c1, (show hasMore [] ps = false from hm_nil), (show hasMore [] ps = false from hm_nil)⟩
theorem mem_rep1 {n : Nat} {p x : List Str} (h : x ∈ (List.replicate n [p]).flatten) : x = p := by
  obtain ⟨l, hl, hx⟩ := List.mem_flatten.mp h
  rw [List.eq_of_mem_replicate hl] at hx
  exact List.mem_singleton.mp hx
end
def wide2 : List (List Str) := [["p", "A", "B", "C"], ["p", "D", "E", "F"]]
theorem wide2_ok : ∀ x ∈ wide2, PatOk x := by
  intro x hx
  simp only [wide2, List.mem_cons, List.not_mem_nil, or_false] at hx
  rcases hx with rfl | rfl
  · exact ⟨"p", ["A", "B", "C"], rfl, by decide +kernel, by decide, by decide +kernel⟩
  · exact ⟨"p", ["D", "E", "F"], rfl, by decide +kernel, by decide, by decide +kernel⟩
theorem pat_p : PatOk (["p"] : List Str) := ⟨"p", [], rfl, by decide +kernel, by decide, fun y hy => nomatch hy⟩
theorem pat_pa : PatOk (["p", "a"] : List Str) := ⟨"p", ["a"], rfl, by decide +kernel, by decide, by decide +kernel⟩
theorem pair_Aa : PairOk (["A", "a"] : List Str) := ⟨"A", "a", rfl, by decide +kernel, .inr (by decide +kernel), .inl (by decide +kernel), .inl (by decide +kernel)⟩
section
variable {H : Hp} {σ : L2.St}
theorem ev_wide : Ev (tLst (tCons (tC (.str "r")) (tCons (tTup (tCons (tC (.str "p")) tNil)) (tCons (tLst (tCons (tTup (tCons (tC (.str "p")) (tCons (tC (.str "A")) (tCons (tC (.str "B")) (tCons (tC (.str "C")) tNil))))) (tCons (tTup (tCons (tC (.str "p")) (tCons (tC (.str "D")) (tCons (tC (.str "E")) (tCons (tC (.str "F")) tNil))))) tNil)))
    (tCons (tOp rRep (tLst (tCons (tTup (tCons (tC (.str "A")) (tCons (tC (.str "a")) tNil))) tNil)) (tC (.int 4))) (tCons (tLst tNil) tNil)))))) σ H RowLet :=
  ev_rowLet (l := "r") (h := ["p"]) (ps := wide2) (qs := (List.replicate 4 [(["A", "a"] : List Str)]).flatten) (ds := []) (by decide +kernel) pat_p wide2_ok (by decide) (fun x hx => by rw [mem_rep1 hx]; exact pair_Aa) (by decide) (fun x hx => nomatch hx) (by decide)
    (by decide +kernel) (by decide +kernel) (by decide +kernel)
    (ev_tv (by decide) (ev_v1 ev_c ev_v0)) (ev_lP (ps := wide2) (by decide) (ev_p1 (p := ["p", "A", "B", "C"]) (ev_tv (by decide) (ev_v1 ev_c (ev_v1 ev_c (ev_v1 ev_c (ev_v1 ev_c ev_v0))))) (ev_p1 (p := ["p", "D", "E", "F"]) (ev_tv (by decide) (ev_v1 ev_c (ev_v1 ev_c (ev_v1 ev_c (ev_v1 ev_c ev_v0))))) ev_p0)))
    (ev_rep (n := 4) (by decide) (by decide) (ev_lP (by decide) (ev_p1 (p := ["A", "a"]) (ev_tv (by decide) (ev_v1 ev_c (ev_v1 ev_c ev_v0))) ev_p0))) (ev_lP (by decide) ev_p0)
theorem ev_seven : Ev (tLst (tCons (tC (.str "r")) (tCons (tTup (tCons (tC (.str "p")) tNil)) (tCons (tOp rRep (tLst (tCons (tTup (tCons (tC (.str "p")) (tCons (tC (.str "a")) tNil))) tNil)) (tC (.int 7)))
    (tCons (tLst tNil) (tCons (tOp rRep (tLst (tCons (tTup (tCons (tC (.str "p")) tNil)) tNil)) (tC (.int 5))) tNil)))))) σ H RowLet :=
  ev_rowLet (l := "r") (h := ["p"]) (ps := (List.replicate 7 [(["p", "a"] : List Str)]).flatten) (qs := []) (ds := (List.replicate 5 [(["p"] : List Str)]).flatten) (by decide +kernel) pat_p (fun x hx => by rw [mem_rep1 hx]; exact pat_pa) (by decide) (fun x hx => nomatch hx) (by decide) (fun x hx => by rw [mem_rep1 hx]; exact pat_p) (by decide)
    (by decide +kernel) (by decide +kernel) (by decide +kernel)
    (ev_tv (by decide) (ev_v1 ev_c ev_v0)) (ev_rep (n := 7) (by decide) (by decide) (ev_lP (by decide) (ev_p1 (p := ["p", "a"]) (ev_tv (by decide) (ev_v1 ev_c (ev_v1 ev_c ev_v0))) ev_p0))) (ev_lP (by decide) ev_p0)
    (ev_rep (n := 5) (by decide) (by decide) (ev_lP (by decide) (ev_p1 (p := ["p"]) (ev_tv (by decide) (ev_v1 ev_c ev_v0)) ev_p0)))
end
end Nv
set_option maxHeartbeats 8000000
namespace Nv
open PySem PySem.Spec PyProof.Rows L2
/-! # the law -/
abbrev nLaw : List Str := ["_law_script", "_law_purse_here", "_law_names_here", "_law_rule_here", "_law_row", "_law_lists", "_law_pairs_here", "_law_columns", "_law_wide", "_law_some"]
theorem scLaw : FnScope nLaw ["_law_script"] (defScope sLaw) := ⟨rfl, rfl, rfl, by decide +kernel, rfl, by decide +kernel, by decide +kernel⟩
/-- the properties of a rule -/
structure RProps (P : Program) (w : World) (K : PySem.W.Frag) (mg : Str → Option Value) (base : Heap) (C : Addr) : Prop where
  R : RC K C
  label : PropOk P w K mg base C "label" (getSp C "_label")
  head : PropOk P w K mg base C "head" (getSp C "_head")
  told : PropOk P w K mg base C "told" (spGetL C "_told")
  pairs : PropOk P w K mg base C "pairs" (spGetL C "_pairs")
  denied : PropOk P w K mg base C "denied" (spGetL C "_denied")
theorem refs_no_int {bs : List Addr} {i : Nat} {a : Addr} (h : bs[i]? = some a) {s d t k : Int} : HO.lst (bs.map V.ref) ≠ .lst [.int s, .int d, .int t, .int k] := fun z => by
  injection z with z
  cases bs with
  | nil => cases h
  | cons b bs => injection z with z _; cases z
theorem Pu.other {H H1 : Hp} {a b : Addr} {n : Nat} (p : Pu H b n) (ne : b ≠ a) (s : Sb a H H1) : Pu H1 b n := by
  obtain ⟨x, d, t, k, e, h⟩ := p.ex
  exact ⟨⟨x, d, t, k, s _ _ ne e, h⟩⟩
/-- data lists that are refused one by one -/
theorem all_odd {H : Hp} {os : List Addr} {Ds : List (List PyData)} (h : All2 (fun o D => Dz H (.ref o) (.list D)) os Ds) (k : ∀ D ∈ Ds, D ≠ [] ∧ D.length ≤ 1000 ∧ ∀ d ∈ D, TellsOn d) :
    All2 (fun o D => Dz H (.ref o) (.list D) ∧ D ≠ [] ∧ D.length ≤ 1000 ∧ ∀ d ∈ D, TellsOn d) os Ds := by
  induction h with
  | nil => exact .nil
  | cons e _ ih => exact .cons ⟨e, k _ List.mem_cons_self⟩ (ih fun D hD => k D (List.mem_cons_of_mem _ hD))
section
variable {P : Program} {w : World} {K : PySem.W.Frag} {mg : Str → Option Value} {base : Heap}
theorem len_places : ∀ vs H Q E, spPlaces K vs H Q E → vs.length = (["_law_way", "_law_row", "_law_odds"] : List Str).length := fun vs H Q E h => by
  obtain ⟨_, _, _, _, _, _, rfl, _⟩ := h
  rfl
theorem len_strays : ∀ vs H Q E, spStrays K vs H Q E → vs.length = (["_law_row"] : List Str).length := fun vs H Q E h => by
  obtain ⟨_, _, _, _, _, _, _, _, _, _, _, _, _, _, rfl, _⟩ := h
  rfl
def spLaw (K : PySem.W.Frag) : Sp := fun vs H Q _ => ∃ (al : Addr) (ns : List Int), vs = [.ref al] ∧ SqL K H al (ns.map V.int) ∧ ns.length ≤ 63 ∧ ∀ H', Q (.bl true) H'
theorem Dz.addr {H : Hp} {v : V} {ds : List PyData} (h : Dz H v (.list ds)) : ∃ a xs, v = .ref a ∧ H a = some (.lst xs) ∧ DzAll H xs ds := by
  cases h with
  | @lst a xs _ e r => exact ⟨a, xs, rfl, e, r⟩
theorem ok_law {f CN CR CQ CB CEr CEq CE fPs fNa fKi fRu fOW fOT fOL fOP fPl fSt fBo fM : Addr} {fd dPs dNa dKi dRu dOW dOT dOL dOP dPl dSt dBo dM : FuncData} (F : Fun K "law" "law" sLaw f fd) (B : Bp mg) (T : RProps P w K mg base CR) (IR : IC K CR) (clQ : Cls K CQ) (IQ : IC K CQ) (gNE : mg "NeverError" = some (.ref CN))
    (kRN : PySem.W.kitOne K (.ref CR) (.ref CN) = some false) (kQN : PySem.W.kitOne K (.ref CQ) (.ref CN) = some false)
    (GPs : FnOk P w K mg base CX0 2 fPs dPs ["_law_script", "_law_few"] (spPurses K)) (kPs : PySem.W.keepIn K (.ref fPs) = true) (gPs : mg "_law_purses" = some (.ref fPs)) (bPs : Binds K dPs ["_law_script", "_law_few"] [])
    (GNa : FnOk P w K mg base CX0 4 fNa dNa ["_law_purse_here", "_law_many"] spNames) (kNa : PySem.W.keepIn K (.ref fNa) = true) (gNa : mg "_law_names" = some (.ref fNa)) (bNa : Binds K dNa ["_law_purse_here", "_law_many"] [])
    (GKi : FnOk P w K mg base CX0 4 fKi dKi ["_law_purse_here", "_law_many"] spKinds) (kKi : PySem.W.keepIn K (.ref fKi) = true) (gKi : mg "_law_kinds" = some (.ref fKi)) (bKi : Binds K dKi ["_law_purse_here", "_law_many"] [])
    (GRu : FnOk P w K mg base CX0 7 fRu dRu ["_law_purse_here", "_law_label", "_law_kinds_here", "_law_names_here", "_law_denied"] (spRule CR)) (kRu : PySem.W.keepIn K (.ref fRu) = true) (gRu : mg "_law_rule" = some (.ref fRu)) (bRu : Binds K dRu ["_law_purse_here", "_law_label", "_law_kinds_here", "_law_names_here", "_law_denied"] [])
    (GOW : FnOk P w K mg base CX0 1 fOW dOW [] (spData oddWords)) (kOW : PySem.W.keepIn K (.ref fOW) = true) (gOW : mg "_law_odd_words" = some (.ref fOW)) (bOW : Binds K dOW [] [])
    (GOT : FnOk P w K mg base CX0 2 fOT dOT [] (spData oddPatterns)) (kOT : PySem.W.keepIn K (.ref fOT) = true) (gOT : mg "_law_odd_patterns" = some (.ref fOT)) (bOT : Binds K dOT [] [])
    (GOL : FnOk P w K mg base CX0 3 fOL dOL [] (spData oddLists)) (kOL : PySem.W.keepIn K (.ref fOL) = true) (gOL : mg "_law_odd_lists" = some (.ref fOL)) (bOL : Binds K dOL [] [])
    (GOP : FnOk P w K mg base CX0 2 fOP dOP [] (spData oddPairs)) (kOP : PySem.W.keepIn K (.ref fOP) = true) (gOP : mg "_law_odd_pairs" = some (.ref fOP)) (bOP : Binds K dOP [] [])
    (GPl : RunG P w K mg base 9 fPl dPl ["_law_way", "_law_row", "_law_odds"] (spPlaces K)) (kPl : PySem.W.keepIn K (.ref fPl) = true) (gPl : mg "_law_places_right" = some (.ref fPl)) (bPl : Binds K dPl ["_law_way", "_law_row", "_law_odds"] [])
    (GSt : RunG P w K mg base 9 fSt dSt ["_law_row"] (spStrays K)) (kSt : PySem.W.keepIn K (.ref fSt) = true) (gSt : mg "_law_strays_right" = some (.ref fSt)) (bSt : Binds K dSt ["_law_row"] [])
    (GBo : FnOk P w K mg base CX0 8 fBo dBo ["_law_rule_here"] (spBooks CR)) (kBo : PySem.W.keepIn K (.ref fBo) = true) (gBo : mg "_law_books_right" = some (.ref fBo)) (bBo : Binds K dBo ["_law_rule_here"] [])
    (GM : FnOk P w K mg base CX0 7 fM dM ["_law_way", "_law_row"] (spMade K CN CR CQ CB CEr CEq CE)) (kM : PySem.W.keepIn K (.ref fM) = true) (gM : mg "_law_made" = some (.ref fM)) (bM : Binds K dM ["_law_way", "_law_row"] []) :
    RunG P w K mg base 10 f fd ["_law_script"] (spLaw K) := by
  have lenPl := len_places (K := K)
  have lenSt := len_strays (K := K)
  obtain ⟨p0, g0, d0, PO0, PF0, PB0⟩ := T.label.ex
  obtain ⟨p1, g1, d1, PO1, PF1, PB1⟩ := T.head.ex
  obtain ⟨p2, g2, d2, PO2, PF2, PB2⟩ := T.told.ex
  obtain ⟨p3, g3, d3, PO3, PF3, PB3⟩ := T.pairs.ex
  obtain ⟨p4, g4, d4, PO4, PF4, PB4⟩ := T.denied.ex
  refine run_ofG (k := 9) F scLaw (fun vs H Q E h => ?_) (fun cdv A outer s H vs Q hg hr h => ?_)
  · obtain ⟨al, ns, rfl, _⟩ := h
    rfl
  · obtain ⟨al, ns, rfl, eal, hns, q⟩ := h
    have hr2 : Room 2 _ := hr.mono (by decide)
    refine ⟨_, pss_cons (ps_for PassesOwn.never rfl (pi_list (by exact (pe_call GPs (hr.mono (by decide) : Room 2 _) (by rfl) gPs kPs bPs .nil pass0 (pa_cons (pv 0) (pa_cons pe_int pa_nil))))) (pg_name (i := 1) scLaw.nd rfl (Or.inl rfl)) (pss_cons (ps_set (i := 2) scLaw.nd rfl (Or.inl rfl) (by exact (pe_call GNa (hr.mono (by decide) : Room 4 _) (by rfl) gNa kNa bNa .nil pass0 (pa_cons (pv 1) (pa_cons pe_int pa_nil)))))
      (pss_cons (ps_set (i := 3) scLaw.nd rfl (Or.inl rfl) (by exact (pe_call GRu (hr.mono (by decide) : Room 7 _) (by rfl) gRu kRu bRu .nil pass0 (pa_cons (pv 1) (pa_cons pe_str (pa_cons (by exact (pe_call GKi (hr.mono (by decide) : Room 4 _) (by rfl) gKi kKi bKi .nil pass0 (pa_cons (pv 1) (pa_cons pe_int pa_nil)))) (pa_cons (pv 2) (pa_cons pe_bl pa_nil))))))))
      (pss_cons (ps_set (i := 4) scLaw.nd rfl (Or.inl rfl) (pe_lst (pa_cons (by exact (pe_prop (pv 3) T.R.cl PO0 PF0 hr2 PB0 .nil pass0 rfl)) (pa_cons (by exact (pe_prop (pv 3) T.R.cl PO1 PF1 hr2 PB1 .nil pass0 rfl)) (pa_cons (by exact (pe_prop (pv 3) T.R.cl PO2 PF2 hr2 PB2 .nil pass0 rfl)) (pa_cons (by exact (pe_prop (pv 3) T.R.cl PO3 PF3 hr2 PB3 .nil pass0 rfl)) (pa_cons (by exact (pe_prop (pv 3) T.R.cl PO4 PF4 hr2 PB4 .nil pass0 rfl)) pa_nil)))))))
      (pss_cons (ps_par (i := 5) (j := 6) (by rfl) scLaw.nd rfl rfl (by decide) rfl rfl (pa_cons (by exact (pe_call0 GOL (hr.mono (by decide) : Room 3 _) (by rfl) gOL kOL bOL .nil pass0)) (pa_cons (by exact (pe_call0 GOP (hr.mono (by decide) : Room 2 _) (by rfl) gOP kOP bOP .nil pass0)) pa_nil)) (by rfl))
      (pss_cons (ps_if (pt_not (pt_val (by exact (pe_callG GPl lenPl hg (hr.mono (by decide) : Room 9 _) (by rfl) gPl kPl bPl (pa_cons pe_int (pa_cons (pv 4) (pa_cons (pe_lst (pa_cons (by exact (pe_call0 GOW (hr.mono (by decide) : Room 1 _) (by rfl) gOW kOW bOW .nil pass0)) (pa_cons (by exact (pe_call0 GOT (hr.mono (by decide) : Room 2 _) (by rfl) gOT kOT bOT .nil pass0)) (pa_cons (pe_op op_cat (pv 5) (pe_lst (pa_cons pe_non pa_nil))) (pa_cons (pv 6) (pa_cons (pv 5) pa_nil)))))) pa_nil))))))) (pss_one (ps_ret pe_bl)) pss_nil)
      (pss_cons (ps_set (i := 7) scLaw.nd rfl (Or.inl rfl) (by exact (pe_dLst (pa_dcons pe_dInt (pa_dcons pe_dNon (pa_dcons pe_dBl (pa_dcons pe_dStr (pa_dcons (pe_dTup pa_dnil (by decide)) (pa_dcons pe_dDct (pa_dcons (pe_dTup (pa_dcons pe_dStr pa_dnil) (by decide)) (pa_dcons (pe_dLst (pa_dcons pe_dStr pa_dnil) (by decide)) (pa_dcons (pe_dLst (pa_dcons pe_dStr pa_dnil) (by decide)) (pa_dcons (pe_dLst (pa_dcons pe_dStr (pa_dcons pe_dNon pa_dnil)) (by decide)) (pa_dcons (pe_dLst (pa_dcons (pe_dLst (pa_dcons pe_dStr pa_dnil) (by decide)) pa_dnil) (by decide)) (pa_dcons (pe_dLst (pa_dcons pe_dStr pa_dnil) (by decide)) (pa_dcons (pe_dLst (pa_dcons pe_dInt pa_dnil) (by decide)) pa_dnil))))))))))))) (by decide))))
      (pss_cons (ps_if (pt_not (pt_val (by exact (pe_callG GPl lenPl hg (hr.mono (by decide) : Room 9 _) (by rfl) gPl kPl bPl (pa_cons pe_int (pa_cons (pe_lst (pa_cons (pe_lst pa_nil) (pa_cons (by exact (pe_prop (pv 3) T.R.cl PO2 PF2 hr2 PB2 .nil pass0 rfl)) (pa_cons (by exact (pe_prop (pv 3) T.R.cl PO3 PF3 hr2 PB3 .nil pass0 rfl)) pa_nil)))) (pa_cons (pe_lst (pa_cons (pv 7) (pa_cons (pe_op op_cat (pv 5) (pe_lst (pa_cons pe_non pa_nil))) (pa_cons (pv 6) pa_nil)))) pa_nil))))))) (pss_one (ps_ret pe_bl)) pss_nil)
      (pss_cons (ps_if (PW.pt (pw_or (pt_not (pt_val (by exact (pe_callG GSt lenSt hg (hr.mono (by decide) : Room 9 _) (by rfl) gSt kSt bSt (pa_cons (pv 4) pa_nil))))) (pw_or1 (pt_not (pt_val (by exact (pe_call GBo (hr.mono (by decide) : Room 8 _) (by rfl) gBo kBo bBo .nil pass0 (pa_cons (pv 3) pa_nil)))))))) (pss_one (ps_ret pe_bl)) pss_nil)
      (pss_cons (ps_set (i := 8) scLaw.nd rfl (Or.inl rfl) (pe_lst (pa_cons pe_str (pa_cons (pe_tup (pa_cons pe_str pa_nil)) (pa_cons (pe_lst (pa_cons (pe_tup (pa_cons pe_str (pa_cons pe_str (pa_cons pe_str (pa_cons pe_str pa_nil))))) (pa_cons (pe_tup (pa_cons pe_str (pa_cons pe_str (pa_cons pe_str (pa_cons pe_str pa_nil))))) pa_nil))) (pa_cons (pe_op op_rep (pe_lst (pa_cons (pe_tup (pa_cons pe_str (pa_cons pe_str pa_nil))) pa_nil)) pe_int) (pa_cons (pe_lst pa_nil) pa_nil)))))))
      (pss_one (ps_for PassesOwn.never rfl (pi_tup (pe_tup (pa_cons (pv 4) (pa_cons (pe_op op_cat (pe_slice sl_list (pv 4) po_none (po_some pe_int)) (pe_lst (pa_cons pe_non (pa_cons pe_non pa_nil)))) (pa_cons (pe_lst (pa_cons pe_str (pa_cons (pe_tup (pa_cons pe_str pa_nil)) (pa_cons (pe_op op_rep (pe_lst (pa_cons (pe_tup (pa_cons pe_str (pa_cons pe_str pa_nil))) pa_nil)) pe_int) (pa_cons (pe_lst pa_nil) (pa_cons (pe_op op_rep (pe_lst (pa_cons (pe_tup (pa_cons pe_str pa_nil)) pa_nil)) pe_int) pa_nil)))))) (pa_cons (pv 8) pa_nil)))))) (pg_name (i := 9) scLaw.nd rfl (Or.inl rfl)) (pss_one (ps_if (PW.pt (pw_or (pt_val (pe_callB call_isi (by rfl) B.isi bootIsi (pa_cons (by exact (pe_call GM (hr.mono (by decide) : Room 7 _) (by rfl) gM kM bM .nil pass0 (pa_cons pe_int (pa_cons (pv 9) pa_nil)))) (pa_cons (pe_glob (v := V.ref CN) (by rfl) gNE rfl) pa_nil)))) (pw_or1 (pt_val (pe_callB call_isi (by rfl) B.isi bootIsi (pa_cons (by exact (pe_call GM (hr.mono (by decide) : Room 7 _) (by rfl) gM kM bM .nil pass0 (pa_cons pe_int (pa_cons (pe_op op_cat (pe_lst (pa_cons (pe_lst pa_nil) pa_nil)) (pe_slice sl_list (pv 9) (po_some pe_int) (po_some pe_int))) pa_nil)))) (pa_cons (pe_glob (v := V.ref CN) (by rfl) gNE rfl) pa_nil))))))) (pss_one (ps_ret pe_bl)) pss_nil))))))))))))))
      (pss_one (ps_ret pe_bl)), ?_⟩
    -- the purses
    refine ⟨_, rfl, al, ns, 1, rfl, eal, by omega, by decide, fun p bs Hq nd bl hbs np ep sp => ?_⟩
    refine ⟨p, rfl, ⟨_, SqL.of ep⟩, for_list (K := K) (a := p) (xs := bs.map V.ref) (fun i σ H' => ∃ o1 o2 o3 o4 o5 o6 o7 o8 o9 : Option V, σ = [some (.ref al), o1, o2, o3, o4, o5, o6, o7, o8, o9] ∧ H' p = some (.lst (bs.map V.ref)) ∧ ∀ j b, i ≤ j → bs[j]? = some b → Pu H' b 1099511627776) ⟨_, _, _, _, _, _, _, _, _, rfl, ep, fun j b _ h => (hbs b (List.mem_of_getElem? h)).1⟩ (fun i σ H' _ z => ?_) ?_ ?_⟩
    · obtain ⟨_, _, _, _, _, _, _, _, _, _, e, _⟩ := z
      exact SqL.of e
    · rintro i v σ H0 hi ⟨o1, o2, o3, o4, o5, o6, o7, o8, o9, rfl, ep0, hpu⟩
      obtain ⟨a, hai, rfl⟩ := at_ref hi
      have pu0 := hpu i a (Nat.le_refl _) hai
      have pa : p ≠ a := lst_ne pu0 (fun _ _ _ _ => refs_no_int hai) ep0
      have hE : ∀ G', Sb a H0 G' → G' p = some (.lst (bs.map V.ref)) ∧ ∀ j b, i + 1 ≤ j → bs[j]? = some b → Pu G' b 1099511627776 := fun G' s => ⟨s _ _ pa ep0, fun j b hj hb => (hpu j b (by omega) hb).other (fun z => by
        rw [z] at hb
        obtain ⟨h1, e1⟩ := List.getElem?_eq_some_iff.mp hb
        obtain ⟨h2, e2⟩ := List.getElem?_eq_some_iff.mp hai
        exact List.pairwise_iff_getElem.mp nd i j h2 h1 (by omega) (e2.trans e1.symm)) s⟩
      try dsimp only [gName, List.set]
      refine (show ∀ D' : Ends, (∀ o1 o2 o3 o4 o5 o6 o7 o8 o9 G', Sb a H0 G' → D'.nx [some (.ref al), o1, o2, o3, o4, o5, o6, o7, o8, o9] G') → tSeq _ _ D' [some (.ref al), some (.ref a), o2, o3, o4, o5, o6, o7, o8, o9] H0 from fun D' nx => ?_) _ (fun _ _ _ _ _ _ _ _ _ G' s => ⟨_, _, _, _, _, _, _, _, _, rfl, hE G' s⟩)
      clear hE hpu ep0
      -- names, kinds, the rule
      refine ⟨_, rfl, a, 1000000, 3, rfl, pu0.le (by omega), by decide, fun pn zs H1 zl zn znd npn pu1 sb1 en => ?_⟩
      have pna : pn ≠ a := pu0.ne npn
      try dsimp only [gName, List.set]
      refine (show ∀ J : Hp, J = H1 → tSeq _ _ D' [some (.ref al), some (.ref a), some (.ref pn), o3, o4, o5, o6, o7, o8, o9] J from fun J hJ => ?_) _ rfl
      subst hJ
      refine ⟨_, rfl, _, rfl, a, 900000, 4, rfl, pu1.le (by omega), by decide, fun pk ks H2 kl kd npk pu2 sb2 ek => ?_⟩
      have pka : pk ≠ a := pu1.ne npk
      have en2 := sb2 _ _ pna en
      refine ⟨_, rfl, a, pk, pn, "r", true, 800000, ks, zs, rfl, pu2.le (by omega), by decide +kernel, ⟨ek, pka, by omega, by omega, kd⟩, ⟨en2, pna, by omega, by omega, zn⟩, fun r x H3 ok clo few _ xl ra pu3 sb3 => ?_⟩
      replace ra := ra.ra
      have sb := sb1.trans (sb2.trans sb3)
      replace nx := fun o1 o2 o3 o4 o5 o6 o7 o8 o9 (G' : Hp) (s : Same H3 G') => nx o1 o2 o3 o4 o5 o6 o7 o8 o9 G' (sb.then s)
      clear sb sb1 sb2 sb3 pu0 pu1 pu2 pu3 kd ek en en2 npk npn zl zn znd kl pa
      try dsimp only [gName, List.set]
      refine (show ∀ J : Hp, J = H3 → tSeq _ _ D' [some (.ref al), some (.ref a), some (.ref pn), some (.ref r), o4, o5, o6, o7, o8, o9] J from fun J hJ => ?_) _ rfl
      subst hJ
      -- the row
      have ra0 := ra
      obtain ⟨dx, th, l1, l2, l3, us, us2, us3, er, eth, ⟨e1, h1⟩, ⟨e2, h2⟩, e3, h3⟩ := ra0
      refine ⟨_, rfl, r, dx, _, rfl, er, r, dx, _, _, rfl, er, lk1, ?_⟩
      refine ⟨_, rfl, r, dx, _, rfl, er, r, dx, _, _, rfl, er, lk2, ?_⟩
      refine ⟨_, rfl, r, dx, _, rfl, er, r, dx, l1, _, us, rfl, er, lk3, e1, fun q1 n1 => ?_⟩
      have u1 : Same J (upd J q1 (.lst us)) := same_new n1
      have f1 : upd J q1 (.lst us) q1 = some (.lst us) := upd_same
      generalize upd J q1 (.lst us) = J1 at u1 f1 ⊢
      refine ⟨_, rfl, r, dx, _, rfl, u1 _ _ er, r, dx, l2, _, us2, rfl, u1 _ _ er, lk4, u1 _ _ e2, fun q2 n2 => ?_⟩
      have u2 : Same J1 (upd J1 q2 (.lst us2)) := same_new n2
      have f2 : upd J1 q2 (.lst us2) q2 = some (.lst us2) := upd_same
      generalize upd J1 q2 (.lst us2) = J2 at u2 f2 ⊢
      have u12 := u1.trans u2
      refine ⟨_, rfl, r, dx, _, rfl, u12 _ _ er, r, dx, l3, _, us3, rfl, u12 _ _ er, lk5, u12 _ _ e3, fun q3 n3 => ?_⟩
      have u3 : Same J2 (upd J2 q3 (.lst us3)) := same_new n3
      have f3 : upd J2 q3 (.lst us3) q3 = some (.lst us3) := upd_same
      generalize upd J2 q3 (.lst us3) = J3 at u3 f3 ⊢
      refine ⟨(by show 5 ≤ sizeLine; decide), fun q4 n4 => ?_⟩
      have u4 : Same J3 (upd J3 q4 (.lst [.str x.l, .ref th, .ref q1, .ref q2, .ref q3])) := same_new n4
      have f4 : upd J3 q4 (.lst [.str x.l, .ref th, .ref q1, .ref q2, .ref q3]) q4 = some (.lst [.str x.l, .ref th, .ref q1, .ref q2, .ref q3]) := upd_same
      generalize upd J3 q4 (.lst [.str x.l, .ref th, .ref q1, .ref q2, .ref q3]) = J4 at u4 f4 ⊢
      have u14 := u12.trans (u3.trans u4)
      have g : Good J4 (.str x.l) (.ref th) (.ref q1) (.ref q2) (.ref q3) x.l th q1 x.h us x.ps x.qs x.ds := ⟨rfl, rfl, rfl, ok.l, u14 _ _ eth, ok.h, u4 _ _ (u3 _ _ (u2 _ _ f1)), h1.same u14, ok.ps, ok.pl, .inr ⟨q2, us2, rfl, u4 _ _ (u3 _ _ f2), h2.same u14, ok.ql⟩, ok.qs, .inr ⟨q3, us3, rfl, u4 _ _ f3, h3.same u14, ok.dl⟩, ok.ds⟩
      replace ra := ra.same u14
      replace nx := fun o1 o2 o3 o4 o5 o6 o7 o8 o9 (G' : Hp) (s : Same J4 G') => nx o1 o2 o3 o4 o5 o6 o7 o8 o9 G' (u14.trans s)
      clear u1 u2 u3 u4 u12 u14 f1 f2 f3 n1 n2 n3 n4 er eth e1 e2 e3 h1 h2 h3
      try dsimp only [gName, List.set]
      refine (show ∀ J : Hp, J = J4 → tSeq _ _ D' [some (.ref al), some (.ref a), some (.ref pn), some (.ref r), some (.ref q4), o5, o6, o7, o8, o9] J from fun J hJ => ?_) _ rfl
      subst hJ
      -- the odd lists, the odd pairs
      refine ⟨rfl, fun vL J1 s1 zL => ⟨rfl, fun vP J2 s2 zP => ⟨_, _, rfl, ?_⟩⟩⟩
      obtain ⟨aL, xL, rfl, eL, rL⟩ := (Dz.mono s2 _ _ zL).addr
      obtain ⟨aP, xP, rfl, eP, rP⟩ := zP.addr
      have s12 := s1.trans s2
      replace ra := ra.same s12
      replace g := g.same s12
      replace f4 := s12 _ _ f4
      replace nx := fun o1 o2 o3 o4 o5 o6 o7 o8 o9 (G' : Hp) (s : Same J2 G') => nx o1 o2 o3 o4 o5 o6 o7 o8 o9 G' (s12.trans s)
      clear s12 s1 s2 zL zP
      have lL : xL.length ≤ 1000 := by
        rw [rL.len]
        exact (rule_lists oddLists (by simp [oddRule])).2.1
      try dsimp only [gName, List.set]
      refine (show ∀ J : Hp, J = J2 → tSeq _ _ D' [some (.ref al), some (.ref a), some (.ref pn), some (.ref r), some (.ref q4), some (.ref aL), some (.ref aP), o7, o8, o9] J from fun J hJ => ?_) _ rfl
      subst hJ
      -- the rule's places
      refine ⟨_, rfl, ⟨rfl, fun vW J1 s1 zW => ⟨rfl, fun vT J2 s2 zT => ?_⟩⟩⟩
      obtain ⟨aW, xW, rfl, eW, rW⟩ := (Dz.mono s2 _ _ zW).addr
      obtain ⟨aT, xT, rfl, eT, rT⟩ := zT.addr
      have s12 := s1.trans s2
      refine ⟨_, rfl, (by show 1 ≤ sizeLine; decide), fun p1 n1 => ?_⟩
      have u1 : Same J2 (upd J2 p1 (.lst [.non])) := same_new n1
      have f1 : upd J2 p1 (.lst [.non]) p1 = some (.lst [.non]) := upd_same
      generalize upd J2 p1 (.lst [.non]) = J3 at u1 f1 ⊢
      have s13 := s12.trans u1
      refine ⟨aL, p1, xL, [.non], rfl, rfl, s13 _ _ eL, f1, Nat.le_trans (by show xL.length + 1 ≤ 1001; omega) (by decide), fun p2 n2 => ?_⟩
      have u2 : Same J3 (upd J3 p2 (.lst (xL ++ [.non]))) := same_new n2
      have f2 : upd J3 p2 (.lst (xL ++ [.non])) p2 = some (.lst (xL ++ [.non])) := upd_same
      generalize upd J3 p2 (.lst (xL ++ [.non])) = J4 at u2 f2 ⊢
      have u12 := u1.trans u2
      refine ⟨_, rfl, _, rfl, (by show 5 ≤ sizeLine; decide), fun p3 n3 => ?_⟩
      have u3 : Same J4 (upd J4 p3 (.lst [.ref aW, .ref aT, .ref p2, .ref aP, .ref aL])) := same_new n3
      have f3 : upd J4 p3 (.lst [.ref aW, .ref aT, .ref p2, .ref aP, .ref aL]) p3 = some (.lst ([aW, aT, p2, aP, aL].map V.ref)) := upd_same
      generalize upd J4 p3 (.lst [.ref aW, .ref aT, .ref p2, .ref aP, .ref aL]) = J5 at u3 f3 ⊢
      have u13 := u12.trans u3
      have s15 := s12.trans u13
      have zL5 : Dz J5 (.ref aL) (.list oddLists) := .lst (s15 _ _ eL) (DzAll.mono s15 _ _ rL)
      have zP5 : Dz J5 (.ref aP) (.list oddPairs) := .lst (s15 _ _ eP) (DzAll.mono s15 _ _ rP)
      have zW5 : Dz J5 (.ref aW) (.list oddWords) := .lst (u13 _ _ eW) (DzAll.mono u13 _ _ rW)
      have zT5 : Dz J5 (.ref aT) (.list oddPatterns) := .lst (u13 _ _ eT) (DzAll.mono u13 _ _ rT)
      have z25 : Dz J5 (.ref p2) (.list (oddLists ++ [.none])) := .lst (u3 _ _ f2) ((DzAll.mono s15 _ _ rL).snoc .non)
      refine ⟨0, q4, p3, _, [aW, aT, p2, aP, aL], oddRule, rfl, s15 _ _ f4, f3, rfl, (by show 5 ≤ 5; decide), all_odd (.cons zW5 (.cons zT5 (.cons z25 (.cons zP5 (.cons zL5 .nil))))) rule_lists, (g.same s15).places, fun J6 s6 => ⟨_, rfl, iteF ?_⟩⟩
      have s16 := s15.trans s6
      replace ra := ra.same s16
      replace g := g.same s16
      replace f4 := s16 _ _ f4
      replace eL := s16 _ _ eL
      replace rL := DzAll.mono s16 _ _ rL
      replace eP := s16 _ _ eP
      replace rP := DzAll.mono s16 _ _ rP
      replace nx := fun o1 o2 o3 o4 o5 o6 o7 o8 o9 (G' : Hp) (s : Same J6 G') => nx o1 o2 o3 o4 o5 o6 o7 o8 o9 G' (s16.trans s)
      clear s16 s15 s13 s12 s1 s2 u1 u2 u3 u12 u13 f1 f2 f3 n1 n2 n3 zL5 zP5 zW5 zT5 z25 eW eT rW rT zW zT s6
      try dsimp only [gName, List.set]
      refine (show ∀ J : Hp, J = J6 → tSeq _ _ D' [some (.ref al), some (.ref a), some (.ref pn), some (.ref r), some (.ref q4), some (.ref aL), some (.ref aP), o7, o8, o9] J from fun J hJ => ?_) _ rfl
      subst hJ
      -- the columns
      refine fun vC J1 s1 zC => ?_
      replace zC : Dz J1 vC (.list oddColumns) := zC
      obtain ⟨aC, xC, rfl, eC, rC⟩ := zC.addr
      clear zC
      replace ra := ra.same s1
      replace g := g.same s1
      replace f4 := s1 _ _ f4
      replace eL := s1 _ _ eL
      replace rL := DzAll.mono s1 _ _ rL
      replace eP := s1 _ _ eP
      replace rP := DzAll.mono s1 _ _ rP
      replace nx := fun o1 o2 o3 o4 o5 o6 o7 o8 o9 (G' : Hp) (s : Same J1 G') => nx o1 o2 o3 o4 o5 o6 o7 o8 o9 G' (s1.trans s)
      clear s1
      try dsimp only [gName, List.set]
      refine (show ∀ J : Hp, J = J1 → tSeq _ _ D' [some (.ref al), some (.ref a), some (.ref pn), some (.ref r), some (.ref q4), some (.ref aL), some (.ref aP), some (.ref aC), o8, o9] J from fun J hJ => ?_) _ rfl
      subst hJ
      -- the question's places
      have ra0 := ra
      obtain ⟨dx, th', l1, l2, l3, us', us2, us3, er, eth, ⟨e1, h1⟩, ⟨e2, h2⟩, e3, h3⟩ := ra0
      refine ⟨Nat.zero_le _, fun c nc => ?_⟩
      have u1 : Same J (upd J c (.lst [])) := same_new nc
      have fc : upd J c (.lst []) c = some (.lst (([] : List Str).map V.str)) := upd_same
      generalize upd J c (.lst []) = J1 at u1 fc ⊢
      refine ⟨_, rfl, r, dx, _, rfl, u1 _ _ er, r, dx, l1, _, us', rfl, u1 _ _ er, lk3, u1 _ _ e1, fun q1 n1 => ?_⟩
      have u2 : Same J1 (upd J1 q1 (.lst us')) := same_new n1
      have f1 : upd J1 q1 (.lst us') q1 = some (.lst us') := upd_same
      generalize upd J1 q1 (.lst us') = J2 at u2 f1 ⊢
      have u12 := u1.trans u2
      refine ⟨_, rfl, r, dx, _, rfl, u12 _ _ er, r, dx, l2, _, us2, rfl, u12 _ _ er, lk4, u12 _ _ e2, fun q2 n2 => ?_⟩
      have u3 : Same J2 (upd J2 q2 (.lst us2)) := same_new n2
      have f2 : upd J2 q2 (.lst us2) q2 = some (.lst us2) := upd_same
      generalize upd J2 q2 (.lst us2) = J3 at u3 f2 ⊢
      refine ⟨(by show 3 ≤ sizeLine; decide), fun q3 n3 => ?_⟩
      have u4 : Same J3 (upd J3 q3 (.lst [.ref c, .ref q1, .ref q2])) := same_new n3
      have f3 : upd J3 q3 (.lst [.ref c, .ref q1, .ref q2]) q3 = some (.lst [.ref c, .ref q1, .ref q2]) := upd_same
      generalize upd J3 q3 (.lst [.ref c, .ref q1, .ref q2]) = J4 at u4 f3 ⊢
      have u14 := u12.trans (u3.trans u4)
      have gq : GoodQ J4 (.ref c) (.ref q1) (.ref q2) c q1 [] us' x.ps x.qs := ⟨rfl, rfl, u4 _ _ (u3 _ _ (u2 _ _ fc)), (fun x hx => nomatch hx), Nat.zero_le _, u4 _ _ (u3 _ _ f1), h1.same u14, ok.ps, ok.pl, .inr ⟨q2, us2, rfl, u4 _ _ f2, h2.same u14, ok.ql⟩, ok.qs⟩
      refine ⟨_, rfl, _, rfl, (by show 1 ≤ sizeLine; decide), fun p1 m1 => ?_⟩
      have w1 : Same J4 (upd J4 p1 (.lst [.non])) := same_new m1
      have k1 : upd J4 p1 (.lst [.non]) p1 = some (.lst [.non]) := upd_same
      generalize upd J4 p1 (.lst [.non]) = J5 at w1 k1 ⊢
      have s15 := u14.trans w1
      refine ⟨aL, p1, xL, [.non], rfl, rfl, s15 _ _ eL, k1, Nat.le_trans (by show xL.length + 1 ≤ 1001; omega) (by decide), fun p2 m2 => ?_⟩
      have w2 : Same J5 (upd J5 p2 (.lst (xL ++ [.non]))) := same_new m2
      have k2 : upd J5 p2 (.lst (xL ++ [.non])) p2 = some (.lst (xL ++ [.non])) := upd_same
      generalize upd J5 p2 (.lst (xL ++ [.non])) = J6 at w2 k2 ⊢
      refine ⟨_, rfl, (by show 3 ≤ sizeLine; decide), fun p3 m3 => ?_⟩
      have w3 : Same J6 (upd J6 p3 (.lst [.ref aC, .ref p2, .ref aP])) := same_new m3
      have k3 : upd J6 p3 (.lst [.ref aC, .ref p2, .ref aP]) p3 = some (.lst ([aC, p2, aP].map V.ref)) := upd_same
      generalize upd J6 p3 (.lst [.ref aC, .ref p2, .ref aP]) = J7 at w3 k3 ⊢
      have w13 := w1.trans (w2.trans w3)
      have s17 := u14.trans w13
      have zC7 : Dz J7 (.ref aC) (.list oddColumns) := .lst (s17 _ _ eC) (DzAll.mono s17 _ _ rC)
      have zP7 : Dz J7 (.ref aP) (.list oddPairs) := .lst (s17 _ _ eP) (DzAll.mono s17 _ _ rP)
      have z27 : Dz J7 (.ref p2) (.list (oddLists ++ [.none])) := .lst (w3 _ _ k2) ((DzAll.mono s17 _ _ rL).snoc .non)
      refine ⟨1, q3, p3, _, [aC, p2, aP], oddQuestion, rfl, w13 _ _ f3, k3, rfl, (by show 3 ≤ 5; decide), all_odd (.cons zC7 (.cons z27 (.cons zP7 .nil))) question_lists, (gq.same w13).places, fun J8 s8 => ⟨_, rfl, iteF ?_⟩⟩
      have s18 := s17.trans s8
      replace ra := ra.same s18
      replace g := g.same s18
      replace f4 := s18 _ _ f4
      replace nx := fun o1 o2 o3 o4 o5 o6 o7 o8 o9 (G' : Hp) (s : Same J8 G') => nx o1 o2 o3 o4 o5 o6 o7 o8 o9 G' (s18.trans s)
      clear s18 s17 s15 s8 w1 w2 w3 w13 u1 u2 u3 u4 u12 u14 zC7 zP7 z27 k1 k2 k3 m1 m2 m3 f1 f2 f3 fc n1 n2 n3 nc gq er eth e1 h1 e2 h2 e3 h3 eL rL eP rP eC rC lL
      try dsimp only [gName, List.set]
      refine (show ∀ J : Hp, J = J8 → tSeq _ _ D' [some (.ref al), some (.ref a), some (.ref pn), some (.ref r), some (.ref q4), some (.ref aL), some (.ref aP), some (.ref aC), o8, o9] J from fun J hJ => ?_) _ rfl
      subst hJ
      -- strays, books
      refine ⟨_, rfl, q4, _, _, _, _, _, _, _, _, _, _, _, _, _, rfl, f4, g, few, clo.h, clo.q, fun J1 s1 => ⟨_, rfl, iteF ?_⟩⟩
      refine ⟨_, rfl, r, x, rfl, ra.same s1, ok, xl, fun J2 s2 => ⟨_, rfl, iteF ?_⟩⟩
      have s12 := s1.trans s2
      replace g := g.same s12
      replace f4 := s12 _ _ f4
      replace nx := fun o1 o2 o3 o4 o5 o6 o7 o8 o9 (G' : Hp) (s : Same J2 G') => nx o1 o2 o3 o4 o5 o6 o7 o8 o9 G' (s12.trans s)
      clear s12 s1 s2 ra
      -- the wide row, those that are let
      try dsimp only [gName, List.set]
      refine (show ∀ J : Hp, J = J2 → tSeq _ _ D' [some (.ref al), some (.ref a), some (.ref pn), some (.ref r), some (.ref q4), some (.ref aL), some (.ref aP), some (.ref aC), o8, o9] J from fun J hJ => ?_) _ rfl
      subst hJ
      refine seq_asg ev_wide fun v8 J3 s3 r8 => ?_
      replace g := g.same s3
      replace f4 := s3 _ _ f4
      replace nx := fun o1 o2 o3 o4 o5 o6 o7 o8 o9 (G' : Hp) (s : Same J3 G') => nx o1 o2 o3 o4 o5 o6 o7 o8 o9 G' (s3.trans s)
      clear s3
      try dsimp only [gName, List.set]
      have R1 : Ev (tTup (tCons (tVar 4) (tCons (tOp rCat (tSl (rSlL K) (tVar 4) tNoPart (tPart (tC (.int 3)))) (tLst (tCons (tC .non) (tCons (tC .non) tNil)))) (tCons (tLst (tCons (tC (.str "r")) (tCons (tTup (tCons (tC (.str "p")) tNil)) (tCons (tOp rRep (tLst (tCons (tTup (tCons (tC (.str "p")) (tCons (tC (.str "a")) tNil))) tNil)) (tC (.int 7)))
    (tCons (tLst tNil) (tCons (tOp rRep (tLst (tCons (tTup (tCons (tC (.str "p")) tNil)) tNil)) (tC (.int 5))) tNil)))))) (tCons (tVar 8) tNil))))) [some (.ref al), some (.ref a), some (.ref pn), some (.ref r), some (.ref q4), some (.ref aL), some (.ref aP), some (.ref aC), some v8, o9] J3 (TupN 4 RowLet) :=
        ev_tN mon_rowLet (by decide) (ev_a1 mon_rowLet ((ev_var rfl).imp fun v G s e => by subst e; exact ⟨q4, _, _, _, _, _, _, _, _, _, _, _, _, _, rfl, s _ _ f4, g.same s, clo.h, clo.q, clo.d⟩) (ev_a1 mon_rowLet (ev_cut3 rfl f4 g clo.h) (ev_a1 mon_rowLet ev_seven (ev_a1 mon_rowLet ((ev_var rfl).imp fun v G s e => by subst e; exact mon_rowLet _ _ _ s r8) ev_a0))))
      refine forT mon_rowLet R1 (fun σ => ∃ o9 : Option V, σ = [some (.ref al), some (.ref a), some (.ref pn), some (.ref r), some (.ref q4), some (.ref aL), some (.ref aP), some (.ref aC), some v8, o9]) ⟨_, rfl⟩ ?_ (fun τ G ⟨o9, e⟩ s => by subst e; exact nx _ _ _ _ _ _ _ _ _ G s)
      rintro G0 s0 y τ G D2 ⟨o9, rfl⟩ sG ⟨b, v0, v1, v2, v3, v4, l, th2, tt, h, us4, ps, qs, ds, rfl, eb, gg, c1, c2, c3⟩ nx2
      try dsimp only [List.set]
      refine ⟨_, rfl, b, _, .inl ⟨rfl, ⟨_, _, _, _, _, rfl⟩, eb, gg.makes c1 c2 c3 fun m1 G1 s1 ⟨dx1, fs1, em⟩ => ?_⟩⟩
      refine ⟨_, _, _, _, false, rfl, .own _, .base (.ins em T.R.cl IR.ha IR.hn IR.ht IR.hm), kRN, false, rfl, iteF ?_⟩
      refine ⟨Nat.zero_le _, fun p1 n1 => ?_⟩
      have u1 : Same G1 (upd G1 p1 (.lst [])) := same_new n1
      have f1 : upd G1 p1 (.lst []) p1 = some (.lst (([] : List Str).map V.str)) := upd_same
      generalize upd G1 p1 (.lst []) = G2 at u1 f1 ⊢
      refine ⟨(by show 1 ≤ sizeLine; decide), fun p2 n2 => ?_⟩
      have u2 : Same G2 (upd G2 p2 (.lst [.ref p1])) := same_new n2
      have f2 : upd G2 p2 (.lst [.ref p1]) p2 = some (.lst [.ref p1]) := upd_same
      generalize upd G2 p2 (.lst [.ref p1]) = G3 at u2 f2 ⊢
      have s13 := s1.trans (u1.trans u2)
      refine ⟨_, rfl, 2, rfl, 4, rfl, b, _, rfl, SqL.of (s13 _ _ eb), fun p3 n3 => ?_⟩
      rw [show cutV [v0, v1, v2, v3, v4] (some 2) (some 4) = [v2, v3] from rfl]
      have u3 : Same G3 (upd G3 p3 (.lst [v2, v3])) := same_new n3
      have f3 : upd G3 p3 (.lst [v2, v3]) p3 = some (.lst [v2, v3]) := upd_same
      generalize upd G3 p3 (.lst [v2, v3]) = G4 at u3 f3 ⊢
      refine ⟨p2, p3, _, _, rfl, rfl, u3 _ _ f2, f3, (by show 1 + 2 ≤ sizeLine; decide), fun p4 n4 => ?_⟩
      have u4 : Same G4 (upd G4 p4 (.lst ([.ref p1] ++ [v2, v3]))) := same_new n4
      have f5 : upd G4 p4 (.lst ([.ref p1] ++ [v2, v3])) p4 = some (.lst [.ref p1, v2, v3]) := upd_same
      generalize upd G4 p4 (.lst ([.ref p1] ++ [v2, v3])) = G5 at u4 f5 ⊢
      have u24 := u2.trans (u3.trans u4)
      have s15 := s13.trans (u3.trans u4)
      have gq : GoodQ G5 (.ref p1) v2 v3 p1 tt [] us4 ps qs := ⟨rfl, gg.e2, u24 _ _ f1, (fun x hx => nomatch hx), Nat.zero_le _, s15 _ _ gg.et, gg.hp.same s15, gg.hok, gg.hpl, gg.oq.same s15, gg.hq⟩
      refine ⟨p4, _, .inr (.inl ⟨rfl, ⟨_, _, _, rfl⟩, f5, gq.makes hm_nil c2 fun m2 G6 s6 ⟨dx2, fs2, em2⟩ => ?_⟩)⟩
      refine ⟨_, _, _, _, false, rfl, .own _, .base (.ins em2 clQ IQ.ha IQ.hn IQ.ht IQ.hm), kQN, false, rfl, iteF ?_⟩
      exact nx2 _ _ ⟨_, rfl⟩ (sG.trans (s15.trans s6))
    · rintro σ H1 ⟨o1, o2, o3, o4, o5, o6, o7, o8, o9, rfl, _, _⟩
      exact q H1
end
end Nv
set_option maxHeartbeats 4000000
namespace Nv
open PySem PySem.Spec PyProof.Rows L2
section
variable {P : Program} {w : World} {K : PySem.W.Frag} {mg : Str → Option Value} {base : Heap}
/-- the script is handed in, tracked as what is known to the object, or an object of the written part -/
theorem law_run {fa a : Addr} {mb : Str → Option Value} {fd : FuncData} {x : Str} {sp : Sp} {k : Nat} {s1 : Shared} {vs : List Value} {ns : List Int}
    (KX : K.In s1.heap) (hns : s1.heap.Ns mainGlobals mg) (hb : s1.heap.Ns builtinsNs mb) (hbb : ∀ x : Str, x ≠ "__name__" → mb x = bootBuiltins x) (hlim : s1.heap.NoLimit) (hsys : ∃ ms, s1.heap.Ns sysModules ms) (hg : s1.gens = #[])
    (ha : s1.heap.get? a = some { cls := .type "list", data := .seq vs.toArray }) (hi : IntsAre vs ns) (hz : ns.length ≤ sizeLine) (hr : Room k callerA)
    (F : ∀ base : Heap, K.In base → base.Ns mainGlobals mg → (∃ o, base.get? sysModules = some o) → RunG P w K mg base k fa fd [x] sp) (bind : ∀ (s : Shared) (u : Value), BindsTo s fd ⟨[u], []⟩ [(x, u)])
    (hsp : ∀ H : Hp, SqL K H a (ns.map V.int) → sp [.ref a] H (fun v _ => v = .bl true) E0) :
    codeAny (model P w) callerA (.call (.ref fa) ⟨[.ref a], []⟩) (fun r s' => r = .ok (.ret (.bool true)) ∧ OldK s1.heap s'.heap ∧ s'.os = s1.os ∧ AllBare s'.gens) s1 := by
  have rv := vals_ints hi
  -- some abstract heap that tracks at most the script, locked
  obtain ⟨H, only, hS, hok, notK⟩ : ∃ H : Hp, (∀ b u, H b = some u → b = a ∧ ∃ o xs, u = .frz o (.lst xs)) ∧ SqL K H a (ns.map V.int) ∧ HOk P w H s1.heap ∧ (∀ b o, K.lookup b = some o → H b = none) := by
    cases hk : K.lookup a with
    | some o =>
      have e := KX a o hk
      rw [ha] at e
      cases e
      exact ⟨fun _ => none, (fun b u z => by cases z), .inr ⟨_, vs.toArray, _, hk, rfl, rfl, rfl, by rw [List.size_toArray, hi.length]; exact hz, by simpa using rv⟩, (fun b u z => by cases z), fun _ _ _ => rfl⟩
    | none =>
      refine ⟨upd (fun _ => none) a (.frz { cls := .type "list", data := .seq vs.toArray } (.lst (ns.map V.int))), fun b u z => ?_, .inl (.inr ⟨_, upd_same⟩), fun b u z => ?_, fun b o z => ?_⟩
      · by_cases e : b = a
        · rw [e, upd_same] at z
          exact ⟨e, _, _, (Option.some.inj z).symm⟩
        · rw [upd_ne e] at z
          cases z
      · by_cases e : b = a
        · rw [e, upd_same] at z
          cases z
          rw [e]
          exact ⟨ha, by rw [List.length_map]; exact hz, vs, _, rv, ha⟩
        · rw [upd_ne e] at z
          cases z
      · by_cases e : b = a
        · rw [e, hk] at z
          cases z
        · rw [upd_ne e]
  have in_base : ∀ {b : Addr} {o : Obj}, s1.heap.get? b = some o → H b = none → (hidT s1.heap H).get? b = some o := fun e n => hidT_get e n
  have free_of : ∀ {b : Addr} {o : Obj} {es : Array DictEntry} {ep : Nat}, s1.heap.get? b = some o → o.data = .dict es ep → H b = none := fun {b o es ep} e d => by
    cases q : H b with
    | none => rfl
    | some u =>
      rw [(only b u q).1, ha] at e
      cases e
      cases d
  have ns_base : ∀ {b : Addr} {m : Str → Option Value}, s1.heap.Ns b m → (hidT s1.heap H).Ns b m := fun ⟨o, es, ep, e, d, r⟩ => ⟨o, es, ep, in_base e (free_of e d), d, r⟩
  have kb : K.In (hidT s1.heap H) := fun b o e => in_base (KX b o e) (notK b o e)
  have md : Mod K mg (hidT s1.heap H) := ⟨kb, ns_base hns, ⟨mb, ns_base hb, hbb⟩, let ⟨mc, h1, h2⟩ := hlim; ⟨mc, ns_base h1, h2⟩⟩
  have sy : ∃ o, (hidT s1.heap H).get? sysModules = some o := let ⟨ms, o, es, ep, e, d, _⟩ := hsys; ⟨o, in_base e (free_of e d)⟩
  have e0 : Env0 P w K mg (hidT s1.heap H) callerA [] s1 H := ⟨rfl, md, fun b o e => of_hidT e, Nat.le_of_eq (hidT_size _ _), trivial, (fun b z => by cases z), hok, .of_eq hg⟩
  refine codeAny_mono (F _ kb (ns_base hns) sy callerA [] s1 H ⟨[.ref a], []⟩ [.ref a] [.ref a] _ rfl hr e0 (bind s1 (.ref a)) (.cons rfl .nil) (hsp H hS)) fun r s' h => ?_
  cases r with
  | error e => exact False.elim h
  | ok fl =>
    cases fl with
    | next => exact False.elim h
    | brk => exact False.elim h
    | cont => exact False.elim h
    | ret u =>
      obtain ⟨v, H', os, bare, un, hok', rr, q⟩ := h
      obtain rfl : v = V.bl true := q
      obtain rfl : u = Value.bool true := rr
      refine ⟨rfl, OldK.of_keep fun b o e => ?_, os, bare⟩
      cases z : H b with
      | none => exact un.keep b o e z (fun m => nomatch m) (fun m => nomatch m)
      | some u =>
        obtain ⟨_, ob, xs, rfl⟩ := only b u z
        obtain ⟨e1, _⟩ := hok b _ z
        obtain ⟨e2, _⟩ := hok' b _ (un.frzs b ob _ z)
        rw [e] at e1
        cases e1
        exact e2
end
theorem walkG {l : PySem.W.OpenLaw} {k : Nat} {q : Program} {loose : List Str} {XP : (Str → Option Value) → Heap → Prop} {YP : World → Heap → Prop} {d : DefRec} {K : Params → PySem.W.Frag} {sp : PySem.W.Frag → Sp} {x : Str}
    (hn : l.most = some 63) (hdf : d.params.defaults = []) (hr : Room k callerA) (hq : importsNone q = true) (hY : ∀ (w : World) (h : Heap), YP w h → (K w.params).In h)
    (F : ∀ (w : World) (mg : Str → Option Value) (fa : Addr) (h : Heap), (K w.params).In h → h.Ns mainGlobals mg → mg d.name = some (.ref fa) → ∃ fd : FuncData, (∀ (s : Shared) (u : Value), BindsTo s fd ⟨[u], []⟩ [(x, u)]) ∧
      ∀ base : Heap, (K w.params).In base → base.Ns mainGlobals mg → (∃ o, base.get? sysModules = some o) → RunG l.prog w (K w.params) mg base k fa fd [x] (sp (K w.params)))
    (hsp : ∀ (K : PySem.W.Frag) (H : Hp) (a : Addr) (ns : List Int), ns.length ≤ 63 → SqL K H a (ns.map V.int) → sp K [.ref a] H (fun v _ => v = .bl true) E0) :
    PySem.W.WalkO q loose XP YP l.row.toRowW d [] (fun f vs => PySem.call f vs) := by
  refine Att.attach_call hn hdf fun w s0 s1 mg mb fa o pm cd doc a vs ns G Y ho hd hcd hmg hobj hints hlen hg => ?_
  have KX := hY w _ Y
  obtain ⟨fd, hb, hF⟩ := F w mg fa _ KX G.T.g hmg
  have sy : ∃ ms, s1.heap.Ns sysModules ms := let ⟨ms, z, _⟩ := (G.T.seer hq).mods; ⟨ms, z⟩
  exact law_run KX G.T.g G.T.b G.T.builtins G.T.nolimit sy hg hobj hints (Nat.le_trans hlen (by decide)) hr hF hb fun H hS => hsp _ H a ns hlen hS
end Nv
set_option maxHeartbeats 4000000
namespace L2
open PySem PySem.Spec PyProof.Rows
/-- the text of such an __init__: its parameters, its one statement, its names -/
def xiA (f : Str) (p1 p2 p3 : Pos) : Arguments where
  posonlyargs := []
  args := [{ arg := "self", annotation := none, pos := p1 }, { arg := f, annotation := none, pos := p2 }]
  vararg := none
  kwonlyargs := []
  kw_defaults := []
  kwarg := none
  defaults := [.Constant .none 0 p3]
def xiB (f : Str) (q1 q2 q3 q4 : Pos) : List Stmt := [.Assign [.Attribute (.Name "self" q1) f q2] (.Name f q3) q4]
def xiS (f : Str) : Scope := { kind := .function, names := [(PySem.Str.ofString "self", .local), (f, .local)], isGenerator := false, isCoroutine := false, more := [] }

section
variable {P : Program} {w : World} {K : PySem.W.Frag} {mg : Str → Option Value} {base : Heap} {qual : Str} {p1 p2 p3 q1 q2 q3 q4 : Pos} {C fI : Addr} {fd : FuncData}
theorem scX_value : FnScope ["self", "value"] ["self", "value"] (xiS "value") := ⟨rfl, rfl, rfl, by decide +kernel, rfl, by decide +kernel, by decide +kernel⟩
theorem ok_init_value (F : FunD K "__init__" qual (xiA "value" p1 p2 p3) (xiB "value" q1 q2 q3 q4) (xiS "value") [.non] [] fI fd) (T : OexC K C) (no : PySem.W.findIn K (.ref C) "value" = some none) :
    FnOk P w K mg base CX0 1 fI fd ["self", "value"] (spXI C "value") := by
  refine F.ok scX_value (fun vs H Q E h => ?_) (fun cdv A outer s H vs Q E hr h => ?_)
  · obtain ⟨a, v, rfl, _⟩ := h
    rfl
  · obtain ⟨a, v, rfl, ha, k⟩ := h
    refine ⟨_, pss_one (ps_ost (pv 0) (pv 1)), ?_⟩
    exact ⟨_, rfl, _, rfl, a, C, rfl, T, no, .inl ⟨ha, fun dx n ne => k dx n ne⟩⟩
theorem binds_value (F : FunD K "__init__" qual (xiA "value" p1 p2 p3) (xiB "value" q1 q2 q3 q4) (xiS "value") [.non] [] fI fd) :
    (∀ (s : Shared) (a b : Value), K.In s.heap → BindsTo s fd ⟨[a, b], []⟩ ((["self", "value"] : List Str).zip [a, b])) ∧
    (∀ (s : Shared) (a : Value), K.In s.heap → BindsTo s fd ⟨[a], []⟩ ((["self", "value"] : List Str).zip [a, .none])) ∧
    (∀ (s : Shared) (a b : Value), K.In s.heap → BindsTo s fd ⟨[a], (["value"] : List Str).zip [b]⟩ ((["self", "value"] : List Str).zip [a, b])) := by
  obtain ⟨oc, od, dV, kV, doc, pm, an, cdv, ct, osl, rfl, lk, hcd, hD, hK⟩ := F.ex
  rcases hD with ⟨e, _⟩ | ⟨_, T, o, its, m, rfl, lT, oT, rT⟩
  · cases e
  · cases rT with
    | cons r0 rn =>
      cases rn
      cases r0
      refine ⟨fun s a b X => BindsTo.of_looks fun M => ?_, fun s a X => BindsTo.of_looks fun M => ?_, fun s a b X => BindsTo.of_looks fun M => ?_⟩
      · exact looks_items X lT oT (.of_pure rfl)
      · exact looks_items X lT oT (.of_pure rfl)
      · exact looks_items X lT oT (.of_pure rfl)
theorem xc_value {x : Str} (F : FunD K "__init__" qual (xiA "value" p1 p2 p3) (xiB "value" q1 q2 q3 q4) (xiS "value") [.non] [] fI fd) (T : OexC K C) (gC : mg x = some (.ref C)) (no : PySem.W.findIn K (.ref C) "value" = some none)
    (ga : PySem.W.findIn K (.ref C) "__getattribute__" = some (some (.builtin "BaseException.__getattribute__"))) (gg : PySem.W.findIn K (.ref C) "__getattr__" = some none) (hdC : PySem.W.hasDictIn K C = true)
    (iC : PySem.W.findIn K (.ref C) "__init__" = some (some (.ref fI))) (tI : PySem.W.typeIn K (.ref fI) = some (.type "function")) : XC P w K mg base x "value" C :=
  ⟨T, gC, no, ga, gg, hdC, fI, fd, iC, tI, ok_init_value F T no, binds_value F⟩
end

section
variable {P : Program} {w : World} {K : PySem.W.Frag} {mg : Str → Option Value} {base : Heap} {qual : Str} {p1 p2 p3 q1 q2 q3 q4 : Pos} {C fI : Addr} {fd : FuncData}
theorem scX_ring : FnScope ["self", "ring"] ["self", "ring"] (xiS "ring") := ⟨rfl, rfl, rfl, by decide +kernel, rfl, by decide +kernel, by decide +kernel⟩
theorem ok_init_ring (F : FunD K "__init__" qual (xiA "ring" p1 p2 p3) (xiB "ring" q1 q2 q3 q4) (xiS "ring") [.non] [] fI fd) (T : OexC K C) (no : PySem.W.findIn K (.ref C) "ring" = some none) :
    FnOk P w K mg base CX0 1 fI fd ["self", "ring"] (spXI C "ring") := by
  refine F.ok scX_ring (fun vs H Q E h => ?_) (fun cdv A outer s H vs Q E hr h => ?_)
  · obtain ⟨a, v, rfl, _⟩ := h
    rfl
  · obtain ⟨a, v, rfl, ha, k⟩ := h
    refine ⟨_, pss_one (ps_ost (pv 0) (pv 1)), ?_⟩
    exact ⟨_, rfl, _, rfl, a, C, rfl, T, no, .inl ⟨ha, fun dx n ne => k dx n ne⟩⟩
theorem binds_ring (F : FunD K "__init__" qual (xiA "ring" p1 p2 p3) (xiB "ring" q1 q2 q3 q4) (xiS "ring") [.non] [] fI fd) :
    (∀ (s : Shared) (a b : Value), K.In s.heap → BindsTo s fd ⟨[a, b], []⟩ ((["self", "ring"] : List Str).zip [a, b])) ∧
    (∀ (s : Shared) (a : Value), K.In s.heap → BindsTo s fd ⟨[a], []⟩ ((["self", "ring"] : List Str).zip [a, .none])) ∧
    (∀ (s : Shared) (a b : Value), K.In s.heap → BindsTo s fd ⟨[a], (["ring"] : List Str).zip [b]⟩ ((["self", "ring"] : List Str).zip [a, b])) := by
  obtain ⟨oc, od, dV, kV, doc, pm, an, cdv, ct, osl, rfl, lk, hcd, hD, hK⟩ := F.ex
  rcases hD with ⟨e, _⟩ | ⟨_, T, o, its, m, rfl, lT, oT, rT⟩
  · cases e
  · cases rT with
    | cons r0 rn =>
      cases rn
      cases r0
      refine ⟨fun s a b X => BindsTo.of_looks fun M => ?_, fun s a X => BindsTo.of_looks fun M => ?_, fun s a b X => BindsTo.of_looks fun M => ?_⟩
      · exact looks_items X lT oT (.of_pure rfl)
      · exact looks_items X lT oT (.of_pure rfl)
      · exact looks_items X lT oT (.of_pure rfl)
theorem xc_ring {x : Str} (F : FunD K "__init__" qual (xiA "ring" p1 p2 p3) (xiB "ring" q1 q2 q3 q4) (xiS "ring") [.non] [] fI fd) (T : OexC K C) (gC : mg x = some (.ref C)) (no : PySem.W.findIn K (.ref C) "ring" = some none)
    (ga : PySem.W.findIn K (.ref C) "__getattribute__" = some (some (.builtin "BaseException.__getattribute__"))) (gg : PySem.W.findIn K (.ref C) "__getattr__" = some none) (hdC : PySem.W.hasDictIn K C = true)
    (iC : PySem.W.findIn K (.ref C) "__init__" = some (some (.ref fI))) (tI : PySem.W.typeIn K (.ref fI) = some (.type "function")) : XC P w K mg base x "ring" C :=
  ⟨T, gC, no, ga, gg, hdC, fI, fd, iC, tI, ok_init_ring F T no, binds_ring F⟩
end

section
variable {P : Program} {w : World} {K : PySem.W.Frag} {mg : Str → Option Value} {base : Heap} {qual : Str} {p1 p2 p3 q1 q2 q3 q4 : Pos} {C fI : Addr} {fd : FuncData}
theorem scX_most : FnScope ["self", "most"] ["self", "most"] (xiS "most") := ⟨rfl, rfl, rfl, by decide +kernel, rfl, by decide +kernel, by decide +kernel⟩
theorem ok_init_most (F : FunD K "__init__" qual (xiA "most" p1 p2 p3) (xiB "most" q1 q2 q3 q4) (xiS "most") [.non] [] fI fd) (T : OexC K C) (no : PySem.W.findIn K (.ref C) "most" = some none) :
    FnOk P w K mg base CX0 1 fI fd ["self", "most"] (spXI C "most") := by
  refine F.ok scX_most (fun vs H Q E h => ?_) (fun cdv A outer s H vs Q E hr h => ?_)
  · obtain ⟨a, v, rfl, _⟩ := h
    rfl
  · obtain ⟨a, v, rfl, ha, k⟩ := h
    refine ⟨_, pss_one (ps_ost (pv 0) (pv 1)), ?_⟩
    exact ⟨_, rfl, _, rfl, a, C, rfl, T, no, .inl ⟨ha, fun dx n ne => k dx n ne⟩⟩
theorem binds_most (F : FunD K "__init__" qual (xiA "most" p1 p2 p3) (xiB "most" q1 q2 q3 q4) (xiS "most") [.non] [] fI fd) :
    (∀ (s : Shared) (a b : Value), K.In s.heap → BindsTo s fd ⟨[a, b], []⟩ ((["self", "most"] : List Str).zip [a, b])) ∧
    (∀ (s : Shared) (a : Value), K.In s.heap → BindsTo s fd ⟨[a], []⟩ ((["self", "most"] : List Str).zip [a, .none])) ∧
    (∀ (s : Shared) (a b : Value), K.In s.heap → BindsTo s fd ⟨[a], (["most"] : List Str).zip [b]⟩ ((["self", "most"] : List Str).zip [a, b])) := by
  obtain ⟨oc, od, dV, kV, doc, pm, an, cdv, ct, osl, rfl, lk, hcd, hD, hK⟩ := F.ex
  rcases hD with ⟨e, _⟩ | ⟨_, T, o, its, m, rfl, lT, oT, rT⟩
  · cases e
  · cases rT with
    | cons r0 rn =>
      cases rn
      cases r0
      refine ⟨fun s a b X => BindsTo.of_looks fun M => ?_, fun s a X => BindsTo.of_looks fun M => ?_, fun s a b X => BindsTo.of_looks fun M => ?_⟩
      · exact looks_items X lT oT (.of_pure rfl)
      · exact looks_items X lT oT (.of_pure rfl)
      · exact looks_items X lT oT (.of_pure rfl)
theorem xc_most {x : Str} (F : FunD K "__init__" qual (xiA "most" p1 p2 p3) (xiB "most" q1 q2 q3 q4) (xiS "most") [.non] [] fI fd) (T : OexC K C) (gC : mg x = some (.ref C)) (no : PySem.W.findIn K (.ref C) "most" = some none)
    (ga : PySem.W.findIn K (.ref C) "__getattribute__" = some (some (.builtin "BaseException.__getattribute__"))) (gg : PySem.W.findIn K (.ref C) "__getattr__" = some none) (hdC : PySem.W.hasDictIn K C = true)
    (iC : PySem.W.findIn K (.ref C) "__init__" = some (some (.ref fI))) (tI : PySem.W.typeIn K (.ref fI) = some (.type "function")) : XC P w K mg base x "most" C :=
  ⟨T, gC, no, ga, gg, hdC, fI, fd, iC, tI, ok_init_most F T no, binds_most F⟩
end

section
variable {P : Program} {w : World} {K : PySem.W.Frag} {mg : Str → Option Value} {base : Heap} {qual : Str} {p1 p2 p3 q1 q2 q3 q4 : Pos} {C fI : Addr} {fd : FuncData}
theorem scX_conflicts : FnScope ["self", "conflicts"] ["self", "conflicts"] (xiS "conflicts") := ⟨rfl, rfl, rfl, by decide +kernel, rfl, by decide +kernel, by decide +kernel⟩
theorem ok_init_conflicts (F : FunD K "__init__" qual (xiA "conflicts" p1 p2 p3) (xiB "conflicts" q1 q2 q3 q4) (xiS "conflicts") [.non] [] fI fd) (T : OexC K C) (no : PySem.W.findIn K (.ref C) "conflicts" = some none) :
    FnOk P w K mg base CX0 1 fI fd ["self", "conflicts"] (spXI C "conflicts") := by
  refine F.ok scX_conflicts (fun vs H Q E h => ?_) (fun cdv A outer s H vs Q E hr h => ?_)
  · obtain ⟨a, v, rfl, _⟩ := h
    rfl
  · obtain ⟨a, v, rfl, ha, k⟩ := h
    refine ⟨_, pss_one (ps_ost (pv 0) (pv 1)), ?_⟩
    exact ⟨_, rfl, _, rfl, a, C, rfl, T, no, .inl ⟨ha, fun dx n ne => k dx n ne⟩⟩
theorem binds_conflicts (F : FunD K "__init__" qual (xiA "conflicts" p1 p2 p3) (xiB "conflicts" q1 q2 q3 q4) (xiS "conflicts") [.non] [] fI fd) :
    (∀ (s : Shared) (a b : Value), K.In s.heap → BindsTo s fd ⟨[a, b], []⟩ ((["self", "conflicts"] : List Str).zip [a, b])) ∧
    (∀ (s : Shared) (a : Value), K.In s.heap → BindsTo s fd ⟨[a], []⟩ ((["self", "conflicts"] : List Str).zip [a, .none])) ∧
    (∀ (s : Shared) (a b : Value), K.In s.heap → BindsTo s fd ⟨[a], (["conflicts"] : List Str).zip [b]⟩ ((["self", "conflicts"] : List Str).zip [a, b])) := by
  obtain ⟨oc, od, dV, kV, doc, pm, an, cdv, ct, osl, rfl, lk, hcd, hD, hK⟩ := F.ex
  rcases hD with ⟨e, _⟩ | ⟨_, T, o, its, m, rfl, lT, oT, rT⟩
  · cases e
  · cases rT with
    | cons r0 rn =>
      cases rn
      cases r0
      refine ⟨fun s a b X => BindsTo.of_looks fun M => ?_, fun s a X => BindsTo.of_looks fun M => ?_, fun s a b X => BindsTo.of_looks fun M => ?_⟩
      · exact looks_items X lT oT (.of_pure rfl)
      · exact looks_items X lT oT (.of_pure rfl)
      · exact looks_items X lT oT (.of_pure rfl)
theorem xc_conflicts {x : Str} (F : FunD K "__init__" qual (xiA "conflicts" p1 p2 p3) (xiB "conflicts" q1 q2 q3 q4) (xiS "conflicts") [.non] [] fI fd) (T : OexC K C) (gC : mg x = some (.ref C)) (no : PySem.W.findIn K (.ref C) "conflicts" = some none)
    (ga : PySem.W.findIn K (.ref C) "__getattribute__" = some (some (.builtin "BaseException.__getattribute__"))) (gg : PySem.W.findIn K (.ref C) "__getattr__" = some none) (hdC : PySem.W.hasDictIn K C = true)
    (iC : PySem.W.findIn K (.ref C) "__init__" = some (some (.ref fI))) (tI : PySem.W.typeIn K (.ref fI) = some (.type "function")) : XC P w K mg base x "conflicts" C :=
  ⟨T, gC, no, ga, gg, hdC, fI, fd, iC, tI, ok_init_conflicts F T no, binds_conflicts F⟩
end
end L2
set_option maxHeartbeats 4000000
namespace Nv
open PySem PySem.Spec PyProof.Rows L2
open PySem.HandSPX (refsVE veTail)
/-- an exception class of the text, as it stands behind the top: bm its bases' line -/
structure ClsOk (K : PySem.W.Frag) (nm : Str) (C : Addr) (bm : List Value) : Prop where
  g : PySem.W.nsIn K mainGlobals nm = some (some (.ref C))
  lk : ∃ (q : Str) (N : Addr) (bs : List Value) (sn : List Str) (sub : List Value) (ab : Bool) (col : Option Bool) (dd : Option Addr) (k0 k1 k2 k3 k5 : Option Value),
    K.lookup C = some (excClassObj nm q C N bs bm true sn sub ab col dd k0 k1 k2 k3 k5 "ValueError.__new__")
  ve : refsVE bm = true
  sa : PySem.W.findIn K (.ref C) "__setattr__" = some (some (.builtin "object.__setattr__"))
  ga : PySem.W.findIn K (.ref C) "__getattribute__" = some (some (.builtin "BaseException.__getattribute__"))
  gg : PySem.W.findIn K (.ref C) "__getattr__" = some none
  cc : PySem.W.findIn K (.ref C) "__class__" = some (some (.builtin "object.__class__"))
  kC : PySem.W.keepIn K (.ref C) = true
section
variable {K : PySem.W.Frag} {nm : Str} {C cN : Addr} {bm : List Value}
theorem ClsOk.cls (c : ClsOk K nm C bm) : ∃ cd, PySem.W.clsIn K C = some cd ∧ cd.mro = .ref C :: bm ∧ cd.hasDict = true ∧ cd.name = nm := by
  obtain ⟨q, N, bs, sn, sub, ab, col, dd, k0, k1, k2, k3, k5, e⟩ := c.lk
  refine ⟨_, (by unfold PySem.W.clsIn; rw [e] <;> rfl), rfl, rfl, rfl⟩
theorem ClsOk.sub (c : ClsOk K nm C bm) (x : Value) : PySem.W.subIn K (.ref C) x = some ((Value.ref C :: bm).contains x) := by
  obtain ⟨cd, e, m, _, _⟩ := c.cls
  show PySem.W.mroIn K C x = _
  unfold PySem.W.mroIn
  rw [e, Option.bind_some, m] <;> rfl
theorem ClsOk.typ (c : ClsOk K nm C bm) : PySem.W.typeIn K (.ref C) = some (.type "type") := by
  obtain ⟨q, N, bs, sn, sub, ab, col, dd, k0, k1, k2, k3, k5, e⟩ := c.lk
  show (K.lookup C).map (·.cls) = _
  rw [e] <;> rfl
theorem ClsOk.has (c : ClsOk K nm C bm) (x : String) (h : veTail.contains (.type x) = true) : PySem.W.subIn K (.ref C) (.type x) = some true := by
  rw [c.sub, List.contains_cons, PySem.HandSPX.refsVE_contains x bm c.ve, h, Bool.or_true]
theorem ClsOk.oex (c : ClsOk K nm C bm) : OexC K C := by
  obtain ⟨q, N, bs, sn, sub, ab, col, dd, k0, k1, k2, k3, k5, e⟩ := c.lk
  exact ⟨⟨_, _, _, _, _, _, _, _, _, _, _, _, _, _, _, e, c.ve⟩, c.sa, c.has "BaseException" (by decide), c.typ, c.kC⟩
theorem ClsOk.dict (c : ClsOk K nm C bm) : PySem.W.hasDictIn K C = true := by
  obtain ⟨cd, e, _, h, _⟩ := c.cls
  unfold PySem.W.hasDictIn
  rw [e]
  exact h
theorem ClsOk.kit (c : ClsOk K nm C bm) : XKit K C := by
  obtain ⟨cd, e, _⟩ := c.cls
  exact ⟨by rw [e] <;> rfl, c.ga, c.gg, c.has "BaseException" (by decide), c.cc, c.has "object" (by decide)⟩
theorem ClsOk.ne {nm2 : Str} {C2 : Addr} {bm2 : List Value} (c : ClsOk K nm C bm) (c2 : ClsOk K nm2 C2 bm2) (h : nm ≠ nm2) : C ≠ C2 := fun z => by
  subst z
  obtain ⟨cd, e, _, _, n⟩ := c.cls
  obtain ⟨cd2, e2, _, _, n2⟩ := c2.cls
  rw [e] at e2
  cases e2
  exact h (n.symm.trans n2)
theorem ClsOk.one {nm2 : Str} {C2 : Addr} {bm2 : List Value} (c : ClsOk K nm C bm) (c2 : ClsOk K nm2 C2 bm2) : PySem.W.kitOne K (.ref C) (.ref C2) = some ((Value.ref C :: bm).contains (.ref C2)) := by
  unfold PySem.W.kitOne
  by_cases z : C = C2
  · subst z
    rw [if_pos (by simp)]
    simp
  · rw [if_neg (by simpa using z)]
    obtain ⟨cd, e, _⟩ := c2.cls
    unfold PySem.W.kitCls
    dsimp only
    rw [e, c2.typ, if_pos (by rfl), c.sub]
theorem contains_tail (C C2 cN : Addr) (h : C2 ≠ cN) : (Value.ref C :: Value.ref cN :: veTail).contains (.ref C2) = decide (C2 = C) := by
  by_cases z : C2 = C
  · subst z
    simp
  · simp [z, h]
theorem kit_ve (c : ClsOk K nm C bm) : PySem.W.kitOne K (.ref C) (.type "ValueError") = some true := by
  unfold PySem.W.kitOne
  rw [if_neg (by simp)]
  unfold PySem.W.kitCls
  dsimp only
  rw [if_pos (by decide +kernel), c.has "ValueError" (by decide)]
end
/-- such a class with its own __init__ -/
structure ErrOk (K : PySem.W.Frag) (nm f : Str) (C cN : Addr) : Prop where
  base : ClsOk K nm C (.ref cN :: veTail)
  n : PySem.W.nsIn K mainGlobals "NeverError" = some (some (.ref cN))
  made : ∀ (P : Program) (w : World) (mg : Str → Option Value) (h b : Heap), K.In h → h.Ns mainGlobals mg → XC P w K mg b nm f C
section
variable {K : PySem.W.Frag} {nm : Str} {C cN fI T N : Addr} {q qual : Str} {bs : List Value} {sn : List Str} {sub : List Value} {ab : Bool} {col : Option Bool} {dd od an od2 : Option Addr} {k0 k1 k2 k3 k5 : Option Value}
variable {oc kV doc pm cdv ct oc2 : Value} {osl sl2 : Array (Option Value)} {n2 : Nat} (p1 p2 p3 q1 q2 q3 q4 : Pos)
theorem err_value {h : Heap} (X : K.In h) (g : PySem.W.nsIn K mainGlobals nm = some (some (.ref C))) (gN : PySem.W.nsIn K mainGlobals "NeverError" = some (some (.ref cN)))
    (lk : K.lookup C = some (excClassObj nm q C N bs [.ref cN, .type "ValueError", .type "Exception", .type "BaseException", .type "object"] true sn sub ab col dd k0 k1 k2 k3 k5 "ValueError.__new__"))
    (sa : PySem.W.findIn K (.ref C) "__setattr__" = some (some (.builtin "object.__setattr__"))) (ga : PySem.W.findIn K (.ref C) "__getattribute__" = some (some (.builtin "BaseException.__getattribute__")))
    (gg : PySem.W.findIn K (.ref C) "__getattr__" = some none) (cc : PySem.W.findIn K (.ref C) "__class__" = some (some (.builtin "object.__class__"))) (kC : PySem.W.keepIn K (.ref C) = true)
    (no : PySem.W.findIn K (.ref C) "value" = some none) (iC : PySem.W.findIn K (.ref C) "__init__" = some (some (.ref fI))) (tI : PySem.W.typeIn K (.ref fI) = some (.type "function"))
    (l : K.lookup fI = some ⟨oc, od, .func (PySem.W.fnOf "__init__" qual (xiA "value" p1 p2 p3) (xiB "value" q1 q2 q3 q4) (xiS "value") (.ref T) kV doc pm an cdv ct), osl⟩) (cd : PySem.W.codeIn K cdv qual = true) (kI : PySem.W.keepIn K (.ref fI) = true)
    (t : K.lookup T = some ⟨oc2, od2, .seq #[.none] n2, sl2⟩) : ∃ C cN, ErrOk K nm "value" C cN := by
  have c : ClsOk K nm C (.ref cN :: veTail) := ⟨g, ⟨_, _, _, _, _, _, _, _, _, _, _, _, _, lk⟩, rfl, sa, ga, gg, cc, kC⟩
  have F : FunD K "__init__" qual (xiA "value" p1 p2 p3) (xiB "value" q1 q2 q3 q4) (xiS "value") [.non] [] fI _ :=
    ⟨⟨_, _, _, _, _, _, _, _, _, _, rfl, l, cd, .inr ⟨by simp, T, _, [Value.none], n2, rfl, t, rfl, .cons rfl .nil⟩, .inl rfl⟩, kI⟩
  exact ⟨C, cN, c, gN, fun P w mg h b X G => xc_value F c.oex (PySem.W.mg_of X G g) no ga gg c.dict iC tI⟩
end
section
variable {K : PySem.W.Frag} {nm : Str} {C cN N : Addr} {q : Str} {bs : List Value} {sn : List Str} {sub : List Value} {ab : Bool} {col : Option Bool} {dd : Option Addr} {k0 k1 k2 k3 k5 : Option Value}
theorem never_ok {h : Heap} (X : K.In h) (g : PySem.W.nsIn K mainGlobals nm = some (some (.ref C)))
    (lk : K.lookup C = some (excClassObj nm q C N bs [.type "ValueError", .type "Exception", .type "BaseException", .type "object"] true sn sub ab col dd k0 k1 k2 k3 k5 "ValueError.__new__"))
    (sa : PySem.W.findIn K (.ref C) "__setattr__" = some (some (.builtin "object.__setattr__"))) (ga : PySem.W.findIn K (.ref C) "__getattribute__" = some (some (.builtin "BaseException.__getattribute__")))
    (gg : PySem.W.findIn K (.ref C) "__getattr__" = some none) (cc : PySem.W.findIn K (.ref C) "__class__" = some (some (.builtin "object.__class__"))) (kC : PySem.W.keepIn K (.ref C) = true) :
    ∃ C, ClsOk K nm C veTail :=
  ⟨C, ⟨g, ⟨_, _, _, _, _, _, _, _, _, _, _, _, _, lk⟩, rfl, sa, ga, gg, cc, kC⟩⟩
end
/-- two looks at NeverError's name -/
theorem same_n {K : PySem.W.Frag} {a b : Addr} (h1 : PySem.W.nsIn K mainGlobals "NeverError" = some (some (.ref a))) (h2 : PySem.W.nsIn K mainGlobals "NeverError" = some (some (.ref b))) : a = b := by
  rw [h1] at h2
  cases h2
  rfl
theorem obj_at {K : PySem.W.Frag} {h : Heap} (X : K.In h) (gt : PySem.W.specialIn K (.builtin "object.__class__") "__get__" = some (some (.builtin "getset_descriptor.__get__"))) (tk : PySem.W.takesIn K (.builtin "object.__class__") = some true) : XObj K := ⟨gt, tk⟩
section
variable {K : PySem.W.Frag} {n m f g : Str} {C D cN : Addr}
theorem one_no (N : ClsOk K "NeverError" cN veTail) (x : ErrOk K n f C cN) (y : ErrOk K m g D cN) (hm : m ≠ "NeverError") (ne : m ≠ n) : PySem.W.kitOne K (.ref C) (.ref D) = some false := by
  rw [x.base.one y.base, contains_tail _ _ _ (y.base.ne N hm), decide_eq_false (y.base.ne x.base ne)]
theorem one_me {K : PySem.W.Frag} {C : Addr} : PySem.W.kitOne K (.ref C) (.ref C) = some true := by simp [PySem.W.kitOne]
theorem exm_n (N : ClsOk K "NeverError" cN veTail) (x : ErrOk K n f C cN) : PySem.W.exmOne K (.ref C) (.ref cN) = some true := by
  unfold PySem.W.exmOne
  rw [N.has "BaseException" (by decide), if_pos (by rfl)]
  obtain ⟨cd, e, _⟩ := N.cls
  unfold PySem.W.kitCls
  dsimp only
  rw [e, N.typ, if_pos (by rfl), x.base.sub]
  simp
end
/-- a class of the text that is no exception -/
structure KCls (K : PySem.W.Frag) (nm : Str) (C : Addr) : Prop where
  cd : ∃ cd, PySem.W.clsIn K C = some cd ∧ cd.mro = [.ref C, .type "object"] ∧ cd.name = nm
  ty : PySem.W.typeIn K (.ref C) = some (.type "type")
section
variable {K : PySem.W.Frag} {n m : Str} {C D cN : Addr} {bm : List Value}
theorem KCls.sub (c : KCls K n C) (x : Value) : PySem.W.subIn K (.ref C) x = some ([Value.ref C, .type "object"].contains x) := by
  obtain ⟨cd, e, h, _⟩ := c.cd
  show PySem.W.mroIn K C x = _
  unfold PySem.W.mroIn
  rw [e, Option.bind_some, h] <;> rfl
theorem KCls.ne (c : KCls K n C) (d : KCls K m D) (h : n ≠ m) : C ≠ D := fun z => by
  subst z
  obtain ⟨cd, e, _, p⟩ := c.cd
  obtain ⟨cd2, e2, _, p2⟩ := d.cd
  rw [e] at e2
  cases e2
  exact h (p.symm.trans p2)
theorem KCls.neX (c : KCls K n C) (d : ClsOk K m D bm) (h : n ≠ m) : C ≠ D := fun z => by
  subst z
  obtain ⟨cd, e, _, p⟩ := c.cd
  obtain ⟨cd2, e2, _, _, p2⟩ := d.cls
  rw [e] at e2
  cases e2
  exact h (p.symm.trans p2)
theorem KCls.sub_no (c : KCls K n C) {x : Value} (h1 : Value.ref C ≠ x) (h2 : Value.type "object" ≠ x) : PySem.W.subIn K (.ref C) x = some false := by
  rw [c.sub]
  simp [h1.symm, h2.symm]
theorem KCls.to (d : KCls K m D) {t : Value} (h : t ≠ .ref D) : PySem.W.kitOne K t (.ref D) = PySem.W.subIn K t (.ref D) := by
  unfold PySem.W.kitOne
  rw [if_neg (by simpa using h)]
  obtain ⟨cd, e, _⟩ := d.cd
  unfold PySem.W.kitCls
  dsimp only
  rw [e, d.ty, if_pos (by rfl)]
theorem KCls.one (c : KCls K n C) (d : KCls K m D) (h : n ≠ m) : PySem.W.kitOne K (.ref C) (.ref D) = some false := by
  have ne := c.ne d h
  rw [d.to (fun z => ne (by cases z; rfl)), c.sub_no (x := .ref D) (fun z => ne (by cases z; rfl)) (by simp)]
theorem KCls.oneX (c : KCls K n C) (d : ClsOk K m D bm) (h : n ≠ m) : PySem.W.kitOne K (.ref C) (.ref D) = some false := by
  have ne := c.neX d h
  unfold PySem.W.kitOne
  rw [if_neg (by simpa using ne)]
  obtain ⟨cd, e, _⟩ := d.cls
  unfold PySem.W.kitCls
  dsimp only
  rw [e, d.typ, if_pos (by rfl), c.sub_no (x := .ref D) (fun z => ne (by cases z; rfl)) (by simp)]
theorem KCls.list (c : KCls K n C) : PySem.W.kitOne K (.ref C) (.type "list") = some false := by
  unfold PySem.W.kitOne
  rw [if_neg (by simp)]
  unfold PySem.W.kitCls
  dsimp only
  rw [if_pos (by decide +kernel), c.sub_no (x := .type "list") (by simp) (by simp)]
theorem KCls.typ (d : KCls K m D) {T : String} (h : PySem.W.subIn K (.type T) (.ref D) = some false) : PySem.W.kitOne K (.type T) (.ref D) = some false := by
  rw [d.to (t := .type T) (by simp), h]
end
end Nv
set_option maxHeartbeats 4000000
namespace Nv
open PySem PySem.Spec PyProof.Rows L2
theorem cs_of {K : PySem.W.Frag} {C : Addr} {b : Value} {v : Bool} (h : PySem.W.mroIn K C b = some v) : (PySem.W.clsIn K C).isSome = true := by
  unfold PySem.W.mroIn at h
  cases g : PySem.W.clsIn K C with
  | none =>
    rw [g] at h
    cases h
  | some _ => rfl
theorem me_of {K : PySem.W.Frag} {C : Addr} : PySem.W.kitOne K (.ref C) (.ref C) = some true := by simp [PySem.W.kitOne]
/-- a def at the top, by name -/
def DefAt (K : PySem.W.Frag) (x : Str) (st : Stmt) : Prop := ∃ (f : Addr) (fd : FuncData), PySem.W.nsIn K mainGlobals x = some (some (.ref f)) ∧ Fun K x x st f fd
theorem def_at {K : PySem.W.Frag} {h : Heap} (X : K.In h) {x : Str} {st : Stmt} {f : Addr} {oc : Value} {od an : Option Addr} {osl : Array (Option Value)} {kV doc pm cdv ct : Value} (g : PySem.W.nsIn K mainGlobals x = some (some (.ref f)))
    (l : K.lookup f = some ⟨oc, od, .func (PySem.W.fnOf x x (defArgs st) (defBody st) (defScope st) .none kV doc pm an cdv ct), osl⟩) (c : PySem.W.codeIn K cdv x = true) (k : PySem.W.keepIn K (.ref f) = true) : DefAt K x st := ⟨f, _, g, fun_mk l c k⟩
/-- a method -/
def MethAt (K : PySem.W.Frag) (C : Addr) (x qual : Str) (st : Stmt) : Prop := ∃ (f : Addr) (fd : FuncData), PySem.W.findIn K (.ref C) x = some (some (.ref f)) ∧ PySem.W.isFn K (.ref f) = true ∧ Fun K x qual st f fd
def PropAt (K : PySem.W.Frag) (C : Addr) (x qual : Str) (st : Stmt) : Prop := ∃ (p g : Addr) (fd : FuncData), PropOf K C x p g ∧ Fun K x qual st g fd
def InitAt (K : PySem.W.Frag) (C : Addr) (qual : Str) (st : Stmt) (dvs : List V) : Prop := ∃ (f : Addr) (fd : FuncData), PySem.W.findIn K (.ref C) "__init__" = some (some (.ref f)) ∧ PySem.W.isFn K (.ref f) = true ∧ FunD K "__init__" qual (defArgs st) (defBody st) (defScope st) dvs [] f fd
def InitAt0 (K : PySem.W.Frag) (C : Addr) (qual : Str) (st : Stmt) : Prop := ∃ (f : Addr) (fd : FuncData), PySem.W.findIn K (.ref C) "__init__" = some (some (.ref f)) ∧ PySem.W.isFn K (.ref f) = true ∧ Fun K "__init__" qual st f fd

structure RuleTop (K : PySem.W.Frag) (C : Addr) : Prop where
  g : PySem.W.nsIn K mainGlobals "Rule" = some (some (.ref C))
  cl : Cls K C
  I : IC K C
  mks : PySem.W.makesIn K C = true
  kc : PySem.W.keepIn K (.ref C) = true
  ne : PySem.W.findIn K (.ref C) "__ne__" = some (some (.builtin "object.__ne__"))
  kcls : KCls K "Rule" C
  n0 : NoAttr K C "_label"
  n1 : NoAttr K C "_head"
  n2 : NoAttr K C "_told"
  n3 : NoAttr K C "_pairs"
  n4 : NoAttr K C "_denied"
  init : InitAt K C "Rule.__init__" (inClass cRule 0) [.non, .non]
  m0 : MethAt K C "__eq__" "Rule.__eq__" (inClass cRule 1)
  q0 : PropAt K C "label" "Rule.label" (inClass cRule 2)
  q1 : PropAt K C "head" "Rule.head" (inClass cRule 3)
  q2 : PropAt K C "told" "Rule.told" (inClass cRule 4)
  q3 : PropAt K C "pairs" "Rule.pairs" (inClass cRule 5)
  q4 : PropAt K C "denied" "Rule.denied" (inClass cRule 6)
  na : NoAdd K C

theorem rule_at {K : PySem.W.Frag} {h : Heap} {cdd : ClassData} (X : K.In h) {C fI T fm0 fq0 pq0 fq1 pq1 fq2 pq2 fq3 pq3 fq4 pq4 : Addr} {ocI kVI dcI pmI cdI ctI oc2 ocm0 kVm0 dcm0 pmm0 cdm0 ctm0 ocq0 kVq0 dcq0 pmq0 cdq0 ctq0 ocq1 kVq1 dcq1 pmq1 cdq1 ctq1 ocq2 kVq2 dcq2 pmq2 cdq2 ctq2 ocq3 kVq3 dcq3 pmq3 cdq3 ctq3 ocq4 kVq4 dcq4 pmq4 cdq4 ctq4 : Value} {odI anI od2 odm0 anm0 odq0 anq0 odq1 anq1 odq2 anq2 odq3 anq3 odq4 anq4 : Option Addr} {slI sl2 slm0 slq0 slq1 slq2 slq3 slq4 : Array (Option Value)} {nn : Nat} {rsq0 rsq1 rsq2 rsq3 rsq4 : List Value}
    (g : PySem.W.nsIn K mainGlobals "Rule" = some (some (.ref C)))
    (pg : PySem.W.plainGet K C Str.empty = true)
    (hd : PySem.W.hasDictIn K C = true)
    (po : PySem.W.plainOver K C = true)
    (sa : PySem.W.findIn K (.ref C) "__setattr__" = some (some (.builtin "object.__setattr__")))
    (mk : PySem.W.makesIn K C = true)
    (kc : PySem.W.keepIn K (.ref C) = true)
    (cc : PySem.W.findIn K (.ref C) "__class__" = some (some (.builtin "object.__class__")))
    (gt : PySem.W.specialIn K (.builtin "object.__class__") "__get__" = some (some (.builtin "getset_descriptor.__get__")))
    (tk : PySem.W.takesIn K (.builtin "object.__class__") = some true)
    (mo : PySem.W.mroIn K C (.type "object") = some true)
    (ne : PySem.W.findIn K (.ref C) "__ne__" = some (some (.builtin "object.__ne__")))
    (ty : PySem.W.typeIn K (.ref C) = some (.type "type"))
    (kc1 : PySem.W.clsIn K C = some cdd)
    (km : cdd.mro = [.ref C, .type "object"])
    (kn : cdd.name = "Rule")
    (n0 : PySem.W.findIn K (.ref C) "_label" = some none)
    (n1 : PySem.W.findIn K (.ref C) "_head" = some none)
    (n2 : PySem.W.findIn K (.ref C) "_told" = some none)
    (n3 : PySem.W.findIn K (.ref C) "_pairs" = some none)
    (n4 : PySem.W.findIn K (.ref C) "_denied" = some none)
    (aI : PySem.W.findIn K (.ref C) "__init__" = some (some (.ref fI)))
    (iI : PySem.W.isFn K (.ref fI) = true)
    (lI : K.lookup fI = some ⟨ocI, odI, .func (PySem.W.fnOf "__init__" "Rule.__init__" (defArgs (inClass cRule 0)) (defBody (inClass cRule 0)) (defScope (inClass cRule 0)) (.ref T) kVI dcI pmI anI cdI ctI), slI⟩)
    (cI : PySem.W.codeIn K cdI "Rule.__init__" = true)
    (kI : PySem.W.keepIn K (.ref fI) = true)
    (t : K.lookup T = some ⟨oc2, od2, .seq #[.none, .none] nn, sl2⟩)
    (am0 : PySem.W.findIn K (.ref C) "__eq__" = some (some (.ref fm0)))
    (im0 : PySem.W.isFn K (.ref fm0) = true)
    (lm0 : K.lookup fm0 = some ⟨ocm0, odm0, .func (PySem.W.fnOf "__eq__" "Rule.__eq__" (defArgs (inClass cRule 1)) (defBody (inClass cRule 1)) (defScope (inClass cRule 1)) .none kVm0 dcm0 pmm0 anm0 cdm0 ctm0), slm0⟩)
    (cm0 : PySem.W.codeIn K cdm0 "Rule.__eq__" = true)
    (km0 : PySem.W.keepIn K (.ref fm0) = true)
    (aq0 : PySem.W.findIn K (.ref C) "label" = some (some (.ref pq0)))
    (sq0 : PySem.W.specialIn K (.ref pq0) "__get__" = some (some (.builtin "property.__get__")))
    (tq0 : PySem.W.takesIn K (.ref pq0) = some true)
    (rq0 : PySem.W.recIn K pq0 "property" = some (.ref fq0 :: rsq0))
    (lq0 : K.lookup fq0 = some ⟨ocq0, odq0, .func (PySem.W.fnOf "label" "Rule.label" (defArgs (inClass cRule 2)) (defBody (inClass cRule 2)) (defScope (inClass cRule 2)) .none kVq0 dcq0 pmq0 anq0 cdq0 ctq0), slq0⟩)
    (cq0 : PySem.W.codeIn K cdq0 "Rule.label" = true)
    (kq0 : PySem.W.keepIn K (.ref fq0) = true)
    (aq1 : PySem.W.findIn K (.ref C) "head" = some (some (.ref pq1)))
    (sq1 : PySem.W.specialIn K (.ref pq1) "__get__" = some (some (.builtin "property.__get__")))
    (tq1 : PySem.W.takesIn K (.ref pq1) = some true)
    (rq1 : PySem.W.recIn K pq1 "property" = some (.ref fq1 :: rsq1))
    (lq1 : K.lookup fq1 = some ⟨ocq1, odq1, .func (PySem.W.fnOf "head" "Rule.head" (defArgs (inClass cRule 3)) (defBody (inClass cRule 3)) (defScope (inClass cRule 3)) .none kVq1 dcq1 pmq1 anq1 cdq1 ctq1), slq1⟩)
    (cq1 : PySem.W.codeIn K cdq1 "Rule.head" = true)
    (kq1 : PySem.W.keepIn K (.ref fq1) = true)
    (aq2 : PySem.W.findIn K (.ref C) "told" = some (some (.ref pq2)))
    (sq2 : PySem.W.specialIn K (.ref pq2) "__get__" = some (some (.builtin "property.__get__")))
    (tq2 : PySem.W.takesIn K (.ref pq2) = some true)
    (rq2 : PySem.W.recIn K pq2 "property" = some (.ref fq2 :: rsq2))
    (lq2 : K.lookup fq2 = some ⟨ocq2, odq2, .func (PySem.W.fnOf "told" "Rule.told" (defArgs (inClass cRule 4)) (defBody (inClass cRule 4)) (defScope (inClass cRule 4)) .none kVq2 dcq2 pmq2 anq2 cdq2 ctq2), slq2⟩)
    (cq2 : PySem.W.codeIn K cdq2 "Rule.told" = true)
    (kq2 : PySem.W.keepIn K (.ref fq2) = true)
    (aq3 : PySem.W.findIn K (.ref C) "pairs" = some (some (.ref pq3)))
    (sq3 : PySem.W.specialIn K (.ref pq3) "__get__" = some (some (.builtin "property.__get__")))
    (tq3 : PySem.W.takesIn K (.ref pq3) = some true)
    (rq3 : PySem.W.recIn K pq3 "property" = some (.ref fq3 :: rsq3))
    (lq3 : K.lookup fq3 = some ⟨ocq3, odq3, .func (PySem.W.fnOf "pairs" "Rule.pairs" (defArgs (inClass cRule 5)) (defBody (inClass cRule 5)) (defScope (inClass cRule 5)) .none kVq3 dcq3 pmq3 anq3 cdq3 ctq3), slq3⟩)
    (cq3 : PySem.W.codeIn K cdq3 "Rule.pairs" = true)
    (kq3 : PySem.W.keepIn K (.ref fq3) = true)
    (aq4 : PySem.W.findIn K (.ref C) "denied" = some (some (.ref pq4)))
    (sq4 : PySem.W.specialIn K (.ref pq4) "__get__" = some (some (.builtin "property.__get__")))
    (tq4 : PySem.W.takesIn K (.ref pq4) = some true)
    (rq4 : PySem.W.recIn K pq4 "property" = some (.ref fq4 :: rsq4))
    (lq4 : K.lookup fq4 = some ⟨ocq4, odq4, .func (PySem.W.fnOf "denied" "Rule.denied" (defArgs (inClass cRule 6)) (defBody (inClass cRule 6)) (defScope (inClass cRule 6)) .none kVq4 dcq4 pmq4 anq4 cdq4 ctq4), slq4⟩)
    (cq4 : PySem.W.codeIn K cdq4 "Rule.denied" = true)
    (kq4 : PySem.W.keepIn K (.ref fq4) = true)
    (ad : PySem.W.findIn K (.ref C) "__add__" = some none)
    (ra : PySem.W.findIn K (.ref C) "__radd__" = some none) :
    ∃ C, RuleTop K C :=
  ⟨C, g, ⟨pg, hd, po, sa⟩, ⟨cc, gt, tk, mo, me_of⟩, mk, kc, ne, ⟨⟨_, kc1, km, kn⟩, ty⟩, n0, n1, n2, n3, n4, ⟨fI, _, aI, iI, ⟨⟨_, _, _, _, _, _, _, _, _, _, rfl, lI, cI, .inr ⟨by simp, T, _, [Value.none, Value.none], nn, rfl, t, rfl, .cons rfl (.cons rfl .nil)⟩, .inl rfl⟩, kI⟩⟩, ⟨fm0, _, am0, im0, fun_mk lm0 cm0 km0⟩, ⟨pq0, fq0, _, ⟨aq0, sq0, tq0, ⟨_, rq0⟩⟩, fun_mk lq0 cq0 kq0⟩, ⟨pq1, fq1, _, ⟨aq1, sq1, tq1, ⟨_, rq1⟩⟩, fun_mk lq1 cq1 kq1⟩, ⟨pq2, fq2, _, ⟨aq2, sq2, tq2, ⟨_, rq2⟩⟩, fun_mk lq2 cq2 kq2⟩, ⟨pq3, fq3, _, ⟨aq3, sq3, tq3, ⟨_, rq3⟩⟩, fun_mk lq3 cq3 kq3⟩, ⟨pq4, fq4, _, ⟨aq4, sq4, tq4, ⟨_, rq4⟩⟩, fun_mk lq4 cq4 kq4⟩, ⟨⟨_, kc1, km⟩, ad, ra⟩⟩

structure BookTop (K : PySem.W.Frag) (C : Addr) : Prop where
  g : PySem.W.nsIn K mainGlobals "Book" = some (some (.ref C))
  cl : Cls K C
  I : IC K C
  mks : PySem.W.makesIn K C = true
  kc : PySem.W.keepIn K (.ref C) = true
  ne : PySem.W.findIn K (.ref C) "__ne__" = some (some (.builtin "object.__ne__"))
  kcls : KCls K "Book" C
  n0 : NoAttr K C "_rules"
  init : InitAt0 K C "Book.__init__" (inClass cBook 0)
  m0 : MethAt K C "__eq__" "Book.__eq__" (inClass cBook 1)
  m1 : MethAt K C "__len__" "Book.__len__" (inClass cBook 2)
  m2 : MethAt K C "__add__" "Book.__add__" (inClass cBook 3)
  m3 : MethAt K C "rules" "Book.rules" (inClass cBook 4)
  m4 : MethAt K C "labels" "Book.labels" (inClass cBook 5)
  m5 : MethAt K C "rule" "Book.rule" (inClass cBook 6)
  m6 : MethAt K C "without" "Book.without" (inClass cBook 7)
  rad : PySem.W.findIn K (.ref C) "__radd__" = some none
  sf : PySem.W.selfFirst K C = true

theorem book_at {K : PySem.W.Frag} {h : Heap} {cdd : ClassData} (X : K.In h) {C fI fm0 fm1 fm2 fm3 fm4 fm5 fm6 : Addr} {ocI kVI dcI pmI cdI ctI ocm0 kVm0 dcm0 pmm0 cdm0 ctm0 ocm1 kVm1 dcm1 pmm1 cdm1 ctm1 ocm2 kVm2 dcm2 pmm2 cdm2 ctm2 ocm3 kVm3 dcm3 pmm3 cdm3 ctm3 ocm4 kVm4 dcm4 pmm4 cdm4 ctm4 ocm5 kVm5 dcm5 pmm5 cdm5 ctm5 ocm6 kVm6 dcm6 pmm6 cdm6 ctm6 : Value} {odI anI odm0 anm0 odm1 anm1 odm2 anm2 odm3 anm3 odm4 anm4 odm5 anm5 odm6 anm6 : Option Addr} {slI slm0 slm1 slm2 slm3 slm4 slm5 slm6 : Array (Option Value)} 
    (g : PySem.W.nsIn K mainGlobals "Book" = some (some (.ref C)))
    (pg : PySem.W.plainGet K C Str.empty = true)
    (hd : PySem.W.hasDictIn K C = true)
    (po : PySem.W.plainOver K C = true)
    (sa : PySem.W.findIn K (.ref C) "__setattr__" = some (some (.builtin "object.__setattr__")))
    (mk : PySem.W.makesIn K C = true)
    (kc : PySem.W.keepIn K (.ref C) = true)
    (cc : PySem.W.findIn K (.ref C) "__class__" = some (some (.builtin "object.__class__")))
    (gt : PySem.W.specialIn K (.builtin "object.__class__") "__get__" = some (some (.builtin "getset_descriptor.__get__")))
    (tk : PySem.W.takesIn K (.builtin "object.__class__") = some true)
    (mo : PySem.W.mroIn K C (.type "object") = some true)
    (ne : PySem.W.findIn K (.ref C) "__ne__" = some (some (.builtin "object.__ne__")))
    (ty : PySem.W.typeIn K (.ref C) = some (.type "type"))
    (kc1 : PySem.W.clsIn K C = some cdd)
    (km : cdd.mro = [.ref C, .type "object"])
    (kn : cdd.name = "Book")
    (n0 : PySem.W.findIn K (.ref C) "_rules" = some none)
    (aI : PySem.W.findIn K (.ref C) "__init__" = some (some (.ref fI)))
    (iI : PySem.W.isFn K (.ref fI) = true)
    (lI : K.lookup fI = some ⟨ocI, odI, .func (PySem.W.fnOf "__init__" "Book.__init__" (defArgs (inClass cBook 0)) (defBody (inClass cBook 0)) (defScope (inClass cBook 0)) .none kVI dcI pmI anI cdI ctI), slI⟩)
    (cI : PySem.W.codeIn K cdI "Book.__init__" = true)
    (kI : PySem.W.keepIn K (.ref fI) = true)
    (am0 : PySem.W.findIn K (.ref C) "__eq__" = some (some (.ref fm0)))
    (im0 : PySem.W.isFn K (.ref fm0) = true)
    (lm0 : K.lookup fm0 = some ⟨ocm0, odm0, .func (PySem.W.fnOf "__eq__" "Book.__eq__" (defArgs (inClass cBook 1)) (defBody (inClass cBook 1)) (defScope (inClass cBook 1)) .none kVm0 dcm0 pmm0 anm0 cdm0 ctm0), slm0⟩)
    (cm0 : PySem.W.codeIn K cdm0 "Book.__eq__" = true)
    (km0 : PySem.W.keepIn K (.ref fm0) = true)
    (am1 : PySem.W.findIn K (.ref C) "__len__" = some (some (.ref fm1)))
    (im1 : PySem.W.isFn K (.ref fm1) = true)
    (lm1 : K.lookup fm1 = some ⟨ocm1, odm1, .func (PySem.W.fnOf "__len__" "Book.__len__" (defArgs (inClass cBook 2)) (defBody (inClass cBook 2)) (defScope (inClass cBook 2)) .none kVm1 dcm1 pmm1 anm1 cdm1 ctm1), slm1⟩)
    (cm1 : PySem.W.codeIn K cdm1 "Book.__len__" = true)
    (km1 : PySem.W.keepIn K (.ref fm1) = true)
    (am2 : PySem.W.findIn K (.ref C) "__add__" = some (some (.ref fm2)))
    (im2 : PySem.W.isFn K (.ref fm2) = true)
    (lm2 : K.lookup fm2 = some ⟨ocm2, odm2, .func (PySem.W.fnOf "__add__" "Book.__add__" (defArgs (inClass cBook 3)) (defBody (inClass cBook 3)) (defScope (inClass cBook 3)) .none kVm2 dcm2 pmm2 anm2 cdm2 ctm2), slm2⟩)
    (cm2 : PySem.W.codeIn K cdm2 "Book.__add__" = true)
    (km2 : PySem.W.keepIn K (.ref fm2) = true)
    (am3 : PySem.W.findIn K (.ref C) "rules" = some (some (.ref fm3)))
    (im3 : PySem.W.isFn K (.ref fm3) = true)
    (lm3 : K.lookup fm3 = some ⟨ocm3, odm3, .func (PySem.W.fnOf "rules" "Book.rules" (defArgs (inClass cBook 4)) (defBody (inClass cBook 4)) (defScope (inClass cBook 4)) .none kVm3 dcm3 pmm3 anm3 cdm3 ctm3), slm3⟩)
    (cm3 : PySem.W.codeIn K cdm3 "Book.rules" = true)
    (km3 : PySem.W.keepIn K (.ref fm3) = true)
    (am4 : PySem.W.findIn K (.ref C) "labels" = some (some (.ref fm4)))
    (im4 : PySem.W.isFn K (.ref fm4) = true)
    (lm4 : K.lookup fm4 = some ⟨ocm4, odm4, .func (PySem.W.fnOf "labels" "Book.labels" (defArgs (inClass cBook 5)) (defBody (inClass cBook 5)) (defScope (inClass cBook 5)) .none kVm4 dcm4 pmm4 anm4 cdm4 ctm4), slm4⟩)
    (cm4 : PySem.W.codeIn K cdm4 "Book.labels" = true)
    (km4 : PySem.W.keepIn K (.ref fm4) = true)
    (am5 : PySem.W.findIn K (.ref C) "rule" = some (some (.ref fm5)))
    (im5 : PySem.W.isFn K (.ref fm5) = true)
    (lm5 : K.lookup fm5 = some ⟨ocm5, odm5, .func (PySem.W.fnOf "rule" "Book.rule" (defArgs (inClass cBook 6)) (defBody (inClass cBook 6)) (defScope (inClass cBook 6)) .none kVm5 dcm5 pmm5 anm5 cdm5 ctm5), slm5⟩)
    (cm5 : PySem.W.codeIn K cdm5 "Book.rule" = true)
    (km5 : PySem.W.keepIn K (.ref fm5) = true)
    (am6 : PySem.W.findIn K (.ref C) "without" = some (some (.ref fm6)))
    (im6 : PySem.W.isFn K (.ref fm6) = true)
    (lm6 : K.lookup fm6 = some ⟨ocm6, odm6, .func (PySem.W.fnOf "without" "Book.without" (defArgs (inClass cBook 7)) (defBody (inClass cBook 7)) (defScope (inClass cBook 7)) .none kVm6 dcm6 pmm6 anm6 cdm6 ctm6), slm6⟩)
    (cm6 : PySem.W.codeIn K cdm6 "Book.without" = true)
    (km6 : PySem.W.keepIn K (.ref fm6) = true)
    (ra : PySem.W.findIn K (.ref C) "__radd__" = some none)
    (sf : PySem.W.selfFirst K C = true) :
    ∃ C, BookTop K C :=
  ⟨C, g, ⟨pg, hd, po, sa⟩, ⟨cc, gt, tk, mo, me_of⟩, mk, kc, ne, ⟨⟨_, kc1, km, kn⟩, ty⟩, n0, ⟨fI, _, aI, iI, fun_mk lI cI kI⟩, ⟨fm0, _, am0, im0, fun_mk lm0 cm0 km0⟩, ⟨fm1, _, am1, im1, fun_mk lm1 cm1 km1⟩, ⟨fm2, _, am2, im2, fun_mk lm2 cm2 km2⟩, ⟨fm3, _, am3, im3, fun_mk lm3 cm3 km3⟩, ⟨fm4, _, am4, im4, fun_mk lm4 cm4 km4⟩, ⟨fm5, _, am5, im5, fun_mk lm5 cm5 km5⟩, ⟨fm6, _, am6, im6, fun_mk lm6 cm6 km6⟩, ra, sf⟩

structure QuestionTop (K : PySem.W.Frag) (C : Addr) : Prop where
  g : PySem.W.nsIn K mainGlobals "Question" = some (some (.ref C))
  cl : Cls K C
  I : IC K C
  mks : PySem.W.makesIn K C = true
  kc : PySem.W.keepIn K (.ref C) = true
  ne : PySem.W.findIn K (.ref C) "__ne__" = some (some (.builtin "object.__ne__"))
  kcls : KCls K "Question" C
  n0 : NoAttr K C "_columns"
  n1 : NoAttr K C "_told"
  n2 : NoAttr K C "_pairs"
  init : InitAt K C "Question.__init__" (inClass cQuestion 0) [.non]
  m0 : MethAt K C "__eq__" "Question.__eq__" (inClass cQuestion 1)
  q0 : PropAt K C "columns" "Question.columns" (inClass cQuestion 2)
  q1 : PropAt K C "told" "Question.told" (inClass cQuestion 3)
  q2 : PropAt K C "pairs" "Question.pairs" (inClass cQuestion 4)

theorem question_at {K : PySem.W.Frag} {h : Heap} {cdd : ClassData} (X : K.In h) {C fI T fm0 fq0 pq0 fq1 pq1 fq2 pq2 : Addr} {ocI kVI dcI pmI cdI ctI oc2 ocm0 kVm0 dcm0 pmm0 cdm0 ctm0 ocq0 kVq0 dcq0 pmq0 cdq0 ctq0 ocq1 kVq1 dcq1 pmq1 cdq1 ctq1 ocq2 kVq2 dcq2 pmq2 cdq2 ctq2 : Value} {odI anI od2 odm0 anm0 odq0 anq0 odq1 anq1 odq2 anq2 : Option Addr} {slI sl2 slm0 slq0 slq1 slq2 : Array (Option Value)} {nn : Nat} {rsq0 rsq1 rsq2 : List Value}
    (g : PySem.W.nsIn K mainGlobals "Question" = some (some (.ref C)))
    (pg : PySem.W.plainGet K C Str.empty = true)
    (hd : PySem.W.hasDictIn K C = true)
    (po : PySem.W.plainOver K C = true)
    (sa : PySem.W.findIn K (.ref C) "__setattr__" = some (some (.builtin "object.__setattr__")))
    (mk : PySem.W.makesIn K C = true)
    (kc : PySem.W.keepIn K (.ref C) = true)
    (cc : PySem.W.findIn K (.ref C) "__class__" = some (some (.builtin "object.__class__")))
    (gt : PySem.W.specialIn K (.builtin "object.__class__") "__get__" = some (some (.builtin "getset_descriptor.__get__")))
    (tk : PySem.W.takesIn K (.builtin "object.__class__") = some true)
    (mo : PySem.W.mroIn K C (.type "object") = some true)
    (ne : PySem.W.findIn K (.ref C) "__ne__" = some (some (.builtin "object.__ne__")))
    (ty : PySem.W.typeIn K (.ref C) = some (.type "type"))
    (kc1 : PySem.W.clsIn K C = some cdd)
    (km : cdd.mro = [.ref C, .type "object"])
    (kn : cdd.name = "Question")
    (n0 : PySem.W.findIn K (.ref C) "_columns" = some none)
    (n1 : PySem.W.findIn K (.ref C) "_told" = some none)
    (n2 : PySem.W.findIn K (.ref C) "_pairs" = some none)
    (aI : PySem.W.findIn K (.ref C) "__init__" = some (some (.ref fI)))
    (iI : PySem.W.isFn K (.ref fI) = true)
    (lI : K.lookup fI = some ⟨ocI, odI, .func (PySem.W.fnOf "__init__" "Question.__init__" (defArgs (inClass cQuestion 0)) (defBody (inClass cQuestion 0)) (defScope (inClass cQuestion 0)) (.ref T) kVI dcI pmI anI cdI ctI), slI⟩)
    (cI : PySem.W.codeIn K cdI "Question.__init__" = true)
    (kI : PySem.W.keepIn K (.ref fI) = true)
    (t : K.lookup T = some ⟨oc2, od2, .seq #[.none] nn, sl2⟩)
    (am0 : PySem.W.findIn K (.ref C) "__eq__" = some (some (.ref fm0)))
    (im0 : PySem.W.isFn K (.ref fm0) = true)
    (lm0 : K.lookup fm0 = some ⟨ocm0, odm0, .func (PySem.W.fnOf "__eq__" "Question.__eq__" (defArgs (inClass cQuestion 1)) (defBody (inClass cQuestion 1)) (defScope (inClass cQuestion 1)) .none kVm0 dcm0 pmm0 anm0 cdm0 ctm0), slm0⟩)
    (cm0 : PySem.W.codeIn K cdm0 "Question.__eq__" = true)
    (km0 : PySem.W.keepIn K (.ref fm0) = true)
    (aq0 : PySem.W.findIn K (.ref C) "columns" = some (some (.ref pq0)))
    (sq0 : PySem.W.specialIn K (.ref pq0) "__get__" = some (some (.builtin "property.__get__")))
    (tq0 : PySem.W.takesIn K (.ref pq0) = some true)
    (rq0 : PySem.W.recIn K pq0 "property" = some (.ref fq0 :: rsq0))
    (lq0 : K.lookup fq0 = some ⟨ocq0, odq0, .func (PySem.W.fnOf "columns" "Question.columns" (defArgs (inClass cQuestion 2)) (defBody (inClass cQuestion 2)) (defScope (inClass cQuestion 2)) .none kVq0 dcq0 pmq0 anq0 cdq0 ctq0), slq0⟩)
    (cq0 : PySem.W.codeIn K cdq0 "Question.columns" = true)
    (kq0 : PySem.W.keepIn K (.ref fq0) = true)
    (aq1 : PySem.W.findIn K (.ref C) "told" = some (some (.ref pq1)))
    (sq1 : PySem.W.specialIn K (.ref pq1) "__get__" = some (some (.builtin "property.__get__")))
    (tq1 : PySem.W.takesIn K (.ref pq1) = some true)
    (rq1 : PySem.W.recIn K pq1 "property" = some (.ref fq1 :: rsq1))
    (lq1 : K.lookup fq1 = some ⟨ocq1, odq1, .func (PySem.W.fnOf "told" "Question.told" (defArgs (inClass cQuestion 3)) (defBody (inClass cQuestion 3)) (defScope (inClass cQuestion 3)) .none kVq1 dcq1 pmq1 anq1 cdq1 ctq1), slq1⟩)
    (cq1 : PySem.W.codeIn K cdq1 "Question.told" = true)
    (kq1 : PySem.W.keepIn K (.ref fq1) = true)
    (aq2 : PySem.W.findIn K (.ref C) "pairs" = some (some (.ref pq2)))
    (sq2 : PySem.W.specialIn K (.ref pq2) "__get__" = some (some (.builtin "property.__get__")))
    (tq2 : PySem.W.takesIn K (.ref pq2) = some true)
    (rq2 : PySem.W.recIn K pq2 "property" = some (.ref fq2 :: rsq2))
    (lq2 : K.lookup fq2 = some ⟨ocq2, odq2, .func (PySem.W.fnOf "pairs" "Question.pairs" (defArgs (inClass cQuestion 4)) (defBody (inClass cQuestion 4)) (defScope (inClass cQuestion 4)) .none kVq2 dcq2 pmq2 anq2 cdq2 ctq2), slq2⟩)
    (cq2 : PySem.W.codeIn K cdq2 "Question.pairs" = true)
    (kq2 : PySem.W.keepIn K (.ref fq2) = true) :
    ∃ C, QuestionTop K C :=
  ⟨C, g, ⟨pg, hd, po, sa⟩, ⟨cc, gt, tk, mo, me_of⟩, mk, kc, ne, ⟨⟨_, kc1, km, kn⟩, ty⟩, n0, n1, n2, ⟨fI, _, aI, iI, ⟨⟨_, _, _, _, _, _, _, _, _, _, rfl, lI, cI, .inr ⟨by simp, T, _, [Value.none], nn, rfl, t, rfl, .cons rfl .nil⟩, .inl rfl⟩, kI⟩⟩, ⟨fm0, _, am0, im0, fun_mk lm0 cm0 km0⟩, ⟨pq0, fq0, _, ⟨aq0, sq0, tq0, ⟨_, rq0⟩⟩, fun_mk lq0 cq0 kq0⟩, ⟨pq1, fq1, _, ⟨aq1, sq1, tq1, ⟨_, rq1⟩⟩, fun_mk lq1 cq1 kq1⟩, ⟨pq2, fq2, _, ⟨aq2, sq2, tq2, ⟨_, rq2⟩⟩, fun_mk lq2 cq2 kq2⟩⟩

end Nv
set_option maxHeartbeats 8000000
namespace Nv
open PySem PySem.Spec PyProof.Rows L2
theorem binds_rule {K : PySem.W.Frag} {f : Addr} {fd : FuncData} (F : FunD K "__init__" "Rule.__init__" (defArgs sRuleInit) (defBody sRuleInit) (defScope sRuleInit) [.non, .non] [] f fd) : ∀ n, n ≤ ([Value.none, Value.none] : List Value).length → Binds K fd ["self", "label", "head", "told", "pairs", "denied"] (([Value.none, Value.none] : List Value).drop n) := by
  obtain ⟨oc, od, dV, kV, doc, pm, an, cdv, ct, osl, rfl, lk, hcd, hD, hK⟩ := F.ex
  rcases hD with ⟨e, _⟩ | ⟨_, T, o, its, m, rfl, lT, oT, rT⟩
  · cases e
  · cases rT with
    | cons r0 rn =>
      cases rn with
      | cons r1 rn =>
        cases rn
        cases r0
        cases r1
        intro n hn s us X hl
        have hn2 : n ≤ 2 := hn
        rcases (by omega : n = 0 ∨ n = 1 ∨ n = 2) with rfl | rfl | rfl
        · have h4 : us.length = 4 := by simpa using hl
          match us, h4 with
          | [_, _, _, _], _ => exact BindsTo.of_looks fun M => looks_items X lT oT (.of_pure rfl)
        · have h4 : us.length = 5 := by simpa using hl
          match us, h4 with
          | [_, _, _, _, _], _ => exact BindsTo.of_looks fun M => looks_items X lT oT (.of_pure rfl)
        · have h4 : us.length = 6 := by simpa using hl
          match us, h4 with
          | [_, _, _, _, _, _], _ => exact BindsTo.of_looks fun M => looks_items X lT oT (.of_pure rfl)
theorem binds_q {K : PySem.W.Frag} {f : Addr} {fd : FuncData} (F : FunD K "__init__" "Question.__init__" (defArgs sQInit) (defBody sQInit) (defScope sQInit) [.non] [] f fd) : ∀ n, n ≤ ([Value.none] : List Value).length → Binds K fd ["self", "columns", "told", "pairs"] (([Value.none] : List Value).drop n) := by
  obtain ⟨oc, od, dV, kV, doc, pm, an, cdv, ct, osl, rfl, lk, hcd, hD, hK⟩ := F.ex
  rcases hD with ⟨e, _⟩ | ⟨_, T, o, its, m, rfl, lT, oT, rT⟩
  · cases e
  · cases rT with
    | cons r0 rn =>
      cases rn
      cases r0
      intro n hn s us X hl
      have hn2 : n ≤ 1 := hn
      rcases (by omega : n = 0 ∨ n = 1) with rfl | rfl
      · have h4 : us.length = 3 := by simpa using hl
        match us, h4 with
        | [_, _, _], _ => exact BindsTo.of_looks fun M => looks_items X lT oT (.of_pure rfl)
      · have h4 : us.length = 4 := by simpa using hl
        match us, h4 with
        | [_, _, _, _], _ => exact BindsTo.of_looks fun M => looks_items X lT oT (.of_pure rfl)
theorem law_at {P : Program} {w : World} {K : PySem.W.Frag} {mg : Str → Option Value} {h : Heap} {fa : Addr} (X : K.In h) (G : h.Ns mainGlobals mg) (hfa : mg "law" = some (.ref fa)) {CR CQ CB CN CEr CEq CEb CU : Addr} (TR : RuleTop K CR) (TB : BookTop K CB) (TQ : QuestionTop K CQ)
    (O : XObj K) (N : ClsOk K "NeverError" CN PySem.HandSPX.veTail) (eR : ErrOk K "InvalidRule" "value" CEr CN) (eQ : ErrOk K "InvalidQuestion" "value" CEq CN) (eB : ErrOk K "InvalidBook" "value" CEb CN) (eU : ErrOk K "UnknownName" "value" CU CN)
    (z_isinstance : PySem.W.nsIn K mainGlobals "isinstance" = some none) (z_str : PySem.W.nsIn K mainGlobals "str" = some none) (z_tuple : PySem.W.nsIn K mainGlobals "tuple" = some none) (z_list : PySem.W.nsIn K mainGlobals "list" = some none) (z_set : PySem.W.nsIn K mainGlobals "set" = some none) (z_len : PySem.W.nsIn K mainGlobals "len" = some none) (z_all : PySem.W.nsIn K mainGlobals "all" = some none) (z_any : PySem.W.nsIn K mainGlobals "any" = some none) (z_range : PySem.W.nsIn K mainGlobals "range" = some none) (z_sum : PySem.W.nsIn K mainGlobals "sum" = some none) (z_max : PySem.W.nsIn K mainGlobals "max" = some none) (z_min : PySem.W.nsIn K mainGlobals "min" = some none) (z_int : PySem.W.nsIn K mainGlobals "int" = some none) (z_repr : PySem.W.nsIn K mainGlobals "repr" = some none) (z_enumerate : PySem.W.nsIn K mainGlobals "enumerate" = some none)
    (d_isName : DefAt K "is_name" sIsName)
    (d_isVar : DefAt K "is_variable" sIsVar)
    (d_isTerm : DefAt K "is_term" sIsTerm)
    (d_isPattern : DefAt K "is_pattern" sIsPattern)
    (d_isPatterns : DefAt K "is_patterns" sIsPatterns)
    (d_isPair : DefAt K "is_pair" sIsPair)
    (d_isPairs : DefAt K "is_pairs" sIsPairs)
    (d_termsOf : DefAt K "terms_of" sTermsOf)
    (d_sides : DefAt K "sides_of" sSides)
    (d_varsAmong : DefAt K "variables_among" sVarsAmong)
    (d_varsOf : DefAt K "variables_of" sVarsOf)
    (d_hasMore : DefAt K "has_more" sHasMore)
    (d_hasDouble : DefAt K "_has_double" sHasDouble)
    (d_place : DefAt K "_place" sPlace)
    (d_purse : DefAt K "_law_purse" sPurse)
    (d_mixed : DefAt K "_law_mixed" sMixed)
    (d_draw : DefAt K "_law_draw" sDraw)
    (d_purses : DefAt K "_law_purses" sPurses)
    (d_oneOf : DefAt K "_law_one_of" sOneOf)
    (d_shuffled : DefAt K "_law_shuffled" sShuffled)
    (d_names : DefAt K "_law_names" sNames)
    (d_kinds : DefAt K "_law_kinds" sKinds)
    (d_pattern : DefAt K "_law_pattern" sPattern)
    (d_told : DefAt K "_law_told" sTold)
    (d_variables : DefAt K "_law_variables" sVariables)
    (d_pairs : DefAt K "_law_pairs" sPairs)
    (d_rule : DefAt K "_law_rule" sRule)
    (d_keeps : DefAt K "_law_keeps" sKeeps)
    (d_oddWords : DefAt K "_law_odd_words" sOddWords)
    (d_oddPatterns : DefAt K "_law_odd_patterns" sOddPatterns)
    (d_oddLists : DefAt K "_law_odd_lists" sOddLists)
    (d_oddPairs : DefAt K "_law_odd_pairs" sOddPairs)
    (d_named : DefAt K "_law_named" sNamed)
    (d_made : DefAt K "_law_made" sMade)
    (d_refused : DefAt K "_law_refused" sRefused)
    (d_places : DefAt K "_law_places_right" sPlaces)
    (d_strays : DefAt K "_law_strays_right" sStrays)
    (d_books : DefAt K "_law_books_right" sBooks)
    (d_law : DefAt K "law" sLaw) :
    ∃ fd : FuncData, (∀ (s : Shared) (u : Value), BindsTo s fd ⟨[u], []⟩ [("_law_script", u)]) ∧
      ∀ base : Heap, K.In base → base.Ns mainGlobals mg → (∃ o, base.get? sysModules = some o) → RunG P w K mg base 10 fa fd ["_law_script"] (spLaw K) := by
  obtain ⟨f_isName, e_isName, g_isName, F_isName⟩ := d_isName
  have m_isName := PySem.W.mg_of X G g_isName
  have b_isName : Binds K e_isName ["value"] [] := F_isName.binds (ps := ["value"]) fun _ _ _ _ _ _ us hl => match us, hl with | [_], _ => rfl
  obtain ⟨f_isVar, e_isVar, g_isVar, F_isVar⟩ := d_isVar
  have m_isVar := PySem.W.mg_of X G g_isVar
  have b_isVar : Binds K e_isVar ["value"] [] := F_isVar.binds (ps := ["value"]) fun _ _ _ _ _ _ us hl => match us, hl with | [_], _ => rfl
  obtain ⟨f_isTerm, e_isTerm, g_isTerm, F_isTerm⟩ := d_isTerm
  have m_isTerm := PySem.W.mg_of X G g_isTerm
  have b_isTerm : Binds K e_isTerm ["value"] [] := F_isTerm.binds (ps := ["value"]) fun _ _ _ _ _ _ us hl => match us, hl with | [_], _ => rfl
  obtain ⟨f_isPattern, e_isPattern, g_isPattern, F_isPattern⟩ := d_isPattern
  have m_isPattern := PySem.W.mg_of X G g_isPattern
  have b_isPattern : Binds K e_isPattern ["value"] [] := F_isPattern.binds (ps := ["value"]) fun _ _ _ _ _ _ us hl => match us, hl with | [_], _ => rfl
  obtain ⟨f_isPatterns, e_isPatterns, g_isPatterns, F_isPatterns⟩ := d_isPatterns
  have m_isPatterns := PySem.W.mg_of X G g_isPatterns
  have b_isPatterns : Binds K e_isPatterns ["value"] [] := F_isPatterns.binds (ps := ["value"]) fun _ _ _ _ _ _ us hl => match us, hl with | [_], _ => rfl
  obtain ⟨f_isPair, e_isPair, g_isPair, F_isPair⟩ := d_isPair
  have m_isPair := PySem.W.mg_of X G g_isPair
  have b_isPair : Binds K e_isPair ["value"] [] := F_isPair.binds (ps := ["value"]) fun _ _ _ _ _ _ us hl => match us, hl with | [_], _ => rfl
  obtain ⟨f_isPairs, e_isPairs, g_isPairs, F_isPairs⟩ := d_isPairs
  have m_isPairs := PySem.W.mg_of X G g_isPairs
  have b_isPairs : Binds K e_isPairs ["value"] [] := F_isPairs.binds (ps := ["value"]) fun _ _ _ _ _ _ us hl => match us, hl with | [_], _ => rfl
  obtain ⟨f_termsOf, e_termsOf, g_termsOf, F_termsOf⟩ := d_termsOf
  have m_termsOf := PySem.W.mg_of X G g_termsOf
  have b_termsOf : Binds K e_termsOf ["patterns"] [] := F_termsOf.binds (ps := ["patterns"]) fun _ _ _ _ _ _ us hl => match us, hl with | [_], _ => rfl
  obtain ⟨f_sides, e_sides, g_sides, F_sides⟩ := d_sides
  have m_sides := PySem.W.mg_of X G g_sides
  have b_sides : Binds K e_sides ["pairs"] [] := F_sides.binds (ps := ["pairs"]) fun _ _ _ _ _ _ us hl => match us, hl with | [_], _ => rfl
  obtain ⟨f_varsAmong, e_varsAmong, g_varsAmong, F_varsAmong⟩ := d_varsAmong
  have m_varsAmong := PySem.W.mg_of X G g_varsAmong
  have b_varsAmong : Binds K e_varsAmong ["terms"] [] := F_varsAmong.binds (ps := ["terms"]) fun _ _ _ _ _ _ us hl => match us, hl with | [_], _ => rfl
  obtain ⟨f_varsOf, e_varsOf, g_varsOf, F_varsOf⟩ := d_varsOf
  have m_varsOf := PySem.W.mg_of X G g_varsOf
  have b_varsOf : Binds K e_varsOf ["patterns"] [] := F_varsOf.binds (ps := ["patterns"]) fun _ _ _ _ _ _ us hl => match us, hl with | [_], _ => rfl
  obtain ⟨f_hasMore, e_hasMore, g_hasMore, F_hasMore⟩ := d_hasMore
  have m_hasMore := PySem.W.mg_of X G g_hasMore
  have b_hasMore : Binds K e_hasMore ["terms", "told"] [] := F_hasMore.binds (ps := ["terms", "told"]) fun _ _ _ _ _ _ us hl => match us, hl with | [_, _], _ => rfl
  obtain ⟨f_hasDouble, e_hasDouble, g_hasDouble, F_hasDouble⟩ := d_hasDouble
  have m_hasDouble := PySem.W.mg_of X G g_hasDouble
  have b_hasDouble : Binds K e_hasDouble ["labels"] [] := F_hasDouble.binds (ps := ["labels"]) fun _ _ _ _ _ _ us hl => match us, hl with | [_], _ => rfl
  obtain ⟨f_place, e_place, g_place, F_place⟩ := d_place
  have m_place := PySem.W.mg_of X G g_place
  have b_place : Binds K e_place ["label", "labels"] [] := F_place.binds (ps := ["label", "labels"]) fun _ _ _ _ _ _ us hl => match us, hl with | [_, _], _ => rfl
  obtain ⟨f_purse, e_purse, g_purse, F_purse⟩ := d_purse
  have m_purse := PySem.W.mg_of X G g_purse
  have b_purse : Binds K e_purse ["_law_script", "_law_at"] [] := F_purse.binds (ps := ["_law_script", "_law_at"]) fun _ _ _ _ _ _ us hl => match us, hl with | [_, _], _ => rfl
  obtain ⟨f_mixed, e_mixed, g_mixed, F_mixed⟩ := d_mixed
  have m_mixed := PySem.W.mg_of X G g_mixed
  have b_mixed : Binds K e_mixed ["_law_seed", "_law_turn", "_law_at"] [] := F_mixed.binds (ps := ["_law_seed", "_law_turn", "_law_at"]) fun _ _ _ _ _ _ us hl => match us, hl with | [_, _, _], _ => rfl
  obtain ⟨f_draw, e_draw, g_draw, F_draw⟩ := d_draw
  have m_draw := PySem.W.mg_of X G g_draw
  have b_draw : Binds K e_draw ["_law_purse_here", "_law_many"] [] := F_draw.binds (ps := ["_law_purse_here", "_law_many"]) fun _ _ _ _ _ _ us hl => match us, hl with | [_, _], _ => rfl
  obtain ⟨f_purses, e_purses, g_purses, F_purses⟩ := d_purses
  have m_purses := PySem.W.mg_of X G g_purses
  have b_purses : Binds K e_purses ["_law_script", "_law_few"] [] := F_purses.binds (ps := ["_law_script", "_law_few"]) fun _ _ _ _ _ _ us hl => match us, hl with | [_, _], _ => rfl
  obtain ⟨f_oneOf, e_oneOf, g_oneOf, F_oneOf⟩ := d_oneOf
  have m_oneOf := PySem.W.mg_of X G g_oneOf
  have b_oneOf : Binds K e_oneOf ["_law_purse_here", "_law_some"] [] := F_oneOf.binds (ps := ["_law_purse_here", "_law_some"]) fun _ _ _ _ _ _ us hl => match us, hl with | [_, _], _ => rfl
  obtain ⟨f_shuffled, e_shuffled, g_shuffled, F_shuffled⟩ := d_shuffled
  have m_shuffled := PySem.W.mg_of X G g_shuffled
  have b_shuffled : Binds K e_shuffled ["_law_purse_here", "_law_some"] [] := F_shuffled.binds (ps := ["_law_purse_here", "_law_some"]) fun _ _ _ _ _ _ us hl => match us, hl with | [_, _], _ => rfl
  obtain ⟨f_names, e_names, g_names, F_names⟩ := d_names
  have m_names := PySem.W.mg_of X G g_names
  have b_names : Binds K e_names ["_law_purse_here", "_law_many"] [] := F_names.binds (ps := ["_law_purse_here", "_law_many"]) fun _ _ _ _ _ _ us hl => match us, hl with | [_, _], _ => rfl
  obtain ⟨f_kinds, e_kinds, g_kinds, F_kinds⟩ := d_kinds
  have m_kinds := PySem.W.mg_of X G g_kinds
  have b_kinds : Binds K e_kinds ["_law_purse_here", "_law_many"] [] := F_kinds.binds (ps := ["_law_purse_here", "_law_many"]) fun _ _ _ _ _ _ us hl => match us, hl with | [_, _], _ => rfl
  obtain ⟨f_pattern, e_pattern, g_pattern, F_pattern⟩ := d_pattern
  have m_pattern := PySem.W.mg_of X G g_pattern
  have b_pattern : Binds K e_pattern ["_law_purse_here", "_law_kinds_here", "_law_terms"] [] := F_pattern.binds (ps := ["_law_purse_here", "_law_kinds_here", "_law_terms"]) fun _ _ _ _ _ _ us hl => match us, hl with | [_, _, _], _ => rfl
  obtain ⟨f_told, e_told, g_told, F_told⟩ := d_told
  have m_told := PySem.W.mg_of X G g_told
  have b_told : Binds K e_told ["_law_purse_here", "_law_kinds_here", "_law_names_here", "_law_most", "_law_few"] [] := F_told.binds (ps := ["_law_purse_here", "_law_kinds_here", "_law_names_here", "_law_most", "_law_few"]) fun _ _ _ _ _ _ us hl => match us, hl with | [_, _, _, _, _], _ => rfl
  obtain ⟨f_variables, e_variables, g_variables, F_variables⟩ := d_variables
  have m_variables := PySem.W.mg_of X G g_variables
  have b_variables : Binds K e_variables ["_law_told_here"] [] := F_variables.binds (ps := ["_law_told_here"]) fun _ _ _ _ _ _ us hl => match us, hl with | [_], _ => rfl
  obtain ⟨f_pairs, e_pairs, g_pairs, F_pairs⟩ := d_pairs
  have m_pairs := PySem.W.mg_of X G g_pairs
  have b_pairs : Binds K e_pairs ["_law_purse_here", "_law_told_here", "_law_names_here"] [] := F_pairs.binds (ps := ["_law_purse_here", "_law_told_here", "_law_names_here"]) fun _ _ _ _ _ _ us hl => match us, hl with | [_, _, _], _ => rfl
  obtain ⟨f_rule, e_rule, g_rule, F_rule⟩ := d_rule
  have m_rule := PySem.W.mg_of X G g_rule
  have b_rule : Binds K e_rule ["_law_purse_here", "_law_label", "_law_kinds_here", "_law_names_here", "_law_denied"] [] := F_rule.binds (ps := ["_law_purse_here", "_law_label", "_law_kinds_here", "_law_names_here", "_law_denied"]) fun _ _ _ _ _ _ us hl => match us, hl with | [_, _, _, _, _], _ => rfl
  obtain ⟨f_keeps, e_keeps, g_keeps, F_keeps⟩ := d_keeps
  have m_keeps := PySem.W.mg_of X G g_keeps
  have b_keeps : Binds K e_keeps ["_law_found", "_law_value"] [] := F_keeps.binds (ps := ["_law_found", "_law_value"]) fun _ _ _ _ _ _ us hl => match us, hl with | [_, _], _ => rfl
  obtain ⟨f_oddWords, e_oddWords, g_oddWords, F_oddWords⟩ := d_oddWords
  have m_oddWords := PySem.W.mg_of X G g_oddWords
  have b_oddWords : Binds K e_oddWords [] [] := F_oddWords.binds (ps := []) fun _ _ _ _ _ _ us hl => match us, hl with | [], _ => rfl
  obtain ⟨f_oddPatterns, e_oddPatterns, g_oddPatterns, F_oddPatterns⟩ := d_oddPatterns
  have m_oddPatterns := PySem.W.mg_of X G g_oddPatterns
  have b_oddPatterns : Binds K e_oddPatterns [] [] := F_oddPatterns.binds (ps := []) fun _ _ _ _ _ _ us hl => match us, hl with | [], _ => rfl
  obtain ⟨f_oddLists, e_oddLists, g_oddLists, F_oddLists⟩ := d_oddLists
  have m_oddLists := PySem.W.mg_of X G g_oddLists
  have b_oddLists : Binds K e_oddLists [] [] := F_oddLists.binds (ps := []) fun _ _ _ _ _ _ us hl => match us, hl with | [], _ => rfl
  obtain ⟨f_oddPairs, e_oddPairs, g_oddPairs, F_oddPairs⟩ := d_oddPairs
  have m_oddPairs := PySem.W.mg_of X G g_oddPairs
  have b_oddPairs : Binds K e_oddPairs [] [] := F_oddPairs.binds (ps := []) fun _ _ _ _ _ _ us hl => match us, hl with | [], _ => rfl
  obtain ⟨f_named, e_named, g_named, F_named⟩ := d_named
  have m_named := PySem.W.mg_of X G g_named
  have b_named : Binds K e_named ["_law_caught"] [] := F_named.binds (ps := ["_law_caught"]) fun _ _ _ _ _ _ us hl => match us, hl with | [_], _ => rfl
  obtain ⟨f_made, e_made, g_made, F_made⟩ := d_made
  have m_made := PySem.W.mg_of X G g_made
  have b_made : Binds K e_made ["_law_way", "_law_row"] [] := F_made.binds (ps := ["_law_way", "_law_row"]) fun _ _ _ _ _ _ us hl => match us, hl with | [_, _], _ => rfl
  obtain ⟨f_refused, e_refused, g_refused, F_refused⟩ := d_refused
  have m_refused := PySem.W.mg_of X G g_refused
  have b_refused : Binds K e_refused ["_law_way", "_law_row", "_law_value"] [] := F_refused.binds (ps := ["_law_way", "_law_row", "_law_value"]) fun _ _ _ _ _ _ us hl => match us, hl with | [_, _, _], _ => rfl
  obtain ⟨f_places, e_places, g_places, F_places⟩ := d_places
  have m_places := PySem.W.mg_of X G g_places
  have b_places : Binds K e_places ["_law_way", "_law_row", "_law_odds"] [] := F_places.binds (ps := ["_law_way", "_law_row", "_law_odds"]) fun _ _ _ _ _ _ us hl => match us, hl with | [_, _, _], _ => rfl
  obtain ⟨f_strays, e_strays, g_strays, F_strays⟩ := d_strays
  have m_strays := PySem.W.mg_of X G g_strays
  have b_strays : Binds K e_strays ["_law_row"] [] := F_strays.binds (ps := ["_law_row"]) fun _ _ _ _ _ _ us hl => match us, hl with | [_], _ => rfl
  obtain ⟨f_books, e_books, g_books, F_books⟩ := d_books
  have m_books := PySem.W.mg_of X G g_books
  have b_books : Binds K e_books ["_law_rule_here"] [] := F_books.binds (ps := ["_law_rule_here"]) fun _ _ _ _ _ _ us hl => match us, hl with | [_], _ => rfl
  obtain ⟨f_law, e_law, g_law, F_law⟩ := d_law
  have m_law := PySem.W.mg_of X G g_law
  have b_law : Binds K e_law ["_law_script"] [] := F_law.binds (ps := ["_law_script"]) fun _ _ _ _ _ _ us hl => match us, hl with | [_], _ => rfl
  have B : Bp mg := ⟨PySem.W.mg_none_of X G z_isinstance, PySem.W.mg_none_of X G z_str, PySem.W.mg_none_of X G z_tuple, PySem.W.mg_none_of X G z_list, PySem.W.mg_none_of X G z_set, PySem.W.mg_none_of X G z_len, PySem.W.mg_none_of X G z_all, PySem.W.mg_none_of X G z_any⟩
  have B2 : Bl mg := ⟨PySem.W.mg_none_of X G z_range, PySem.W.mg_none_of X G z_len, PySem.W.mg_none_of X G z_sum, PySem.W.mg_none_of X G z_max, PySem.W.mg_none_of X G z_min, PySem.W.mg_none_of X G z_int, PySem.W.mg_none_of X G z_tuple⟩
  have rp := PySem.W.mg_none_of X G z_repr
  have en := PySem.W.mg_none_of X G z_enumerate
  have e := hfa.symm.trans m_law
  cases e
  refine ⟨e_law, fun s u => ?_, fun base _ _ sy => ?_⟩
  · obtain ⟨oc, od, kV, doc, pm, an, cdv, ct, osl, rfl, lk, hcd⟩ := F_law.ex
    exact .of_eq rfl
  · skip
    have G_isName : FnOk P w K mg base CX0 1 f_isName e_isName ["value"] _ := ok_isName F_isName B
    have G_isVar : FnOk P w K mg base CX0 1 f_isVar e_isVar ["value"] _ := ok_isVar F_isVar B
    have G_isTerm : FnOk P w K mg base CX0 2 f_isTerm e_isTerm ["value"] _ := ok_isTerm F_isTerm G_isName F_isName.kp m_isName b_isName G_isVar F_isVar.kp m_isVar b_isVar
    have G_isPattern : FnOk P w K mg base CX0 3 f_isPattern e_isPattern ["value"] (spTup K patB) := ok_isPattern F_isPattern B G_isName F_isName.kp m_isName b_isName G_isTerm F_isTerm.kp m_isTerm b_isTerm
    have G_isPatterns : FnOk P w K mg base CX0 4 f_isPatterns e_isPatterns ["value"] (spLst K patB) := ok_isPatterns F_isPatterns B G_isPattern F_isPattern.kp m_isPattern b_isPattern
    have G_isPair : FnOk P w K mg base CX0 3 f_isPair e_isPair ["value"] (spTup K prB) := ok_isPair F_isPair B G_isTerm F_isTerm.kp m_isTerm b_isTerm G_isVar F_isVar.kp m_isVar b_isVar
    have G_isPairs : FnOk P w K mg base CX0 4 f_isPairs e_isPairs ["value"] (spLst K prB) := ok_isPairs F_isPairs B G_isPair F_isPair.kp m_isPair b_isPair
    have G_termsOf : FnOk P w K mg base CX0 1 f_termsOf e_termsOf ["patterns"] _ := ok_termsOf F_termsOf
    have G_sides : FnOk P w K mg base CX0 1 f_sides e_sides ["pairs"] _ := ok_sides F_sides
    have G_varsAmong : FnOk P w K mg base CX0 2 f_varsAmong e_varsAmong ["terms"] _ := ok_varsAmong F_varsAmong B G_isVar F_isVar.kp m_isVar b_isVar
    have G_varsOf : FnOk P w K mg base CX0 3 f_varsOf e_varsOf ["patterns"] _ := ok_varsOf F_varsOf G_termsOf F_termsOf.kp m_termsOf b_termsOf G_varsAmong F_varsAmong.kp m_varsAmong b_varsAmong
    have G_hasMore : FnOk P w K mg base CX0 4 f_hasMore e_hasMore ["terms", "told"] _ := ok_hasMore F_hasMore B G_varsAmong F_varsAmong.kp m_varsAmong b_varsAmong G_varsOf F_varsOf.kp m_varsOf b_varsOf
    have G_hasDouble : FnOk P w K mg base CX0 1 f_hasDouble e_hasDouble ["labels"] _ := ok_hasDouble F_hasDouble B
    have G_place : FnOk P w K mg base CX0 1 f_place e_place ["label", "labels"] _ := ok_place F_place
    have G_purse : FnOk P w K mg base CX0 1 f_purse e_purse ["_law_script", "_law_at"] _ := ok_purse F_purse B2
    have G_draw : FnOk P w K mg base CX0 2 f_draw e_draw ["_law_purse_here", "_law_many"] _ := ok_draw F_draw F_mixed m_mixed b_mixed B2.rg
    have G_purses : FnOk P w K mg base CX0 2 f_purses e_purses ["_law_script", "_law_few"] _ := ok_purses F_purses G_purse F_purse.kp m_purse b_purse B2
    have G_oneOf : FnOk P w K mg base CX0 3 f_oneOf e_oneOf ["_law_purse_here", "_law_some"] _ := ok_oneOf F_oneOf G_draw F_draw.kp m_draw b_draw B2
    have G_shuffled : FnOk P w K mg base CX0 3 f_shuffled e_shuffled ["_law_purse_here", "_law_some"] _ := ok_shuffled F_shuffled G_draw F_draw.kp m_draw b_draw B2
    have G_names : FnOk P w K mg base CX0 4 f_names e_names ["_law_purse_here", "_law_many"] _ := ok_names F_names G_draw F_draw.kp m_draw b_draw G_shuffled F_shuffled.kp m_shuffled b_shuffled B2
    have G_kinds : FnOk P w K mg base CX0 4 f_kinds e_kinds ["_law_purse_here", "_law_many"] _ := ok_kinds F_kinds G_draw F_draw.kp m_draw b_draw G_shuffled F_shuffled.kp m_shuffled b_shuffled B2
    have G_pattern : FnOk P w K mg base CX0 4 f_pattern e_pattern ["_law_purse_here", "_law_kinds_here", "_law_terms"] _ := ok_pattern F_pattern G_oneOf F_oneOf.kp m_oneOf b_oneOf B2
    have G_told : FnOk P w K mg base CX0 5 f_told e_told ["_law_purse_here", "_law_kinds_here", "_law_names_here", "_law_most", "_law_few"] _ := ok_told F_told G_oneOf F_oneOf.kp m_oneOf b_oneOf G_draw F_draw.kp m_draw b_draw G_pattern F_pattern.kp m_pattern b_pattern B2
    have G_variables : FnOk P w K mg base CX0 1 f_variables e_variables ["_law_told_here"] _ := ok_variables F_variables
    have G_pairs : FnOk P w K mg base CX0 4 f_pairs e_pairs ["_law_purse_here", "_law_told_here", "_law_names_here"] _ := ok_pairs F_pairs G_variables F_variables.kp m_variables b_variables G_draw F_draw.kp m_draw b_draw G_oneOf F_oneOf.kp m_oneOf b_oneOf G_shuffled F_shuffled.kp m_shuffled b_shuffled B2
    -- the exceptions
    have x1 : XC P w K mg base "InvalidRule" "value" CEr := eR.made P w mg h base X G
    have x2 : XC P w K mg base "InvalidQuestion" "value" CEq := eQ.made P w mg h base X G
    have x3 : XC P w K mg base "InvalidBook" "value" CEb := eB.made P w mg h base X G
    have x4 : XC P w K mg base "UnknownName" "value" CU := eU.made P w mg h base X G
    have X1 : ExK P w K mg base CN CEr CEq CEb CU CEr "InvalidRule" true false false false := ⟨x1, eR.base.kit, exm_n N eR, one_me, one_no N eR eQ (by decide) (by decide), one_no N eR eB (by decide) (by decide), one_no N eR eU (by decide) (by decide)⟩
    have X2 : ExK P w K mg base CN CEr CEq CEb CU CEq "InvalidQuestion" false true false false := ⟨x2, eQ.base.kit, exm_n N eQ, one_no N eQ eR (by decide) (by decide), one_me, one_no N eQ eB (by decide) (by decide), one_no N eQ eU (by decide) (by decide)⟩
    have X3 : ExK P w K mg base CN CEr CEq CEb CU CEb "InvalidBook" false false true false := ⟨x3, eB.base.kit, exm_n N eB, one_no N eB eR (by decide) (by decide), one_no N eB eQ (by decide) (by decide), one_me, one_no N eB eU (by decide) (by decide)⟩
    have X4 : ExK P w K mg base CN CEr CEq CEb CU CU "UnknownName" false false false true := ⟨x4, eU.base.kit, exm_n N eU, one_no N eU eR (by decide) (by decide), one_no N eU eQ (by decide) (by decide), one_no N eU eB (by decide) (by decide), one_me⟩
    have gN := PySem.W.mg_of X G N.g
    -- the classes
    have RR : RC K CR := ⟨TR.cl, TR.n0, TR.n1, TR.n2, TR.n3, TR.n4⟩
    have gR := PySem.W.mg_of X G TR.g
    have gB := PySem.W.mg_of X G TB.g
    have gQ := PySem.W.mg_of X G TQ.g
    have CT : Ct P w K mg base := ⟨⟨_, _, G_isName, F_isName.kp, m_isName, b_isName⟩, ⟨_, _, G_isVar, F_isVar.kp, m_isVar, b_isVar⟩, ⟨_, _, G_isPattern, F_isPattern.kp, m_isPattern, b_isPattern⟩, ⟨_, _, G_isPatterns, F_isPatterns.kp, m_isPatterns, b_isPatterns⟩, ⟨_, _, G_isPairs, F_isPairs.kp, m_isPairs, b_isPairs⟩, ⟨_, _, G_termsOf, F_termsOf.kp, m_termsOf, b_termsOf⟩, ⟨_, _, G_sides, F_sides.kp, m_sides, b_sides⟩, ⟨_, _, G_hasMore, F_hasMore.kp, m_hasMore, b_hasMore⟩⟩
    obtain ⟨fRI, dRI, aRI, iRI, FRI⟩ := TR.init
    obtain ⟨fRE, dRE, aRE, iRE, FRE⟩ := TR.m0
    have bRE : Binds K dRE ["self", "other"] [] := FRE.binds (ps := ["self", "other"]) fun _ _ _ _ _ _ us hl => match us, hl with | [_, _], _ => rfl
    have GRI : FnOk P w K mg base CX0 5 fRI dRI ["self", "label", "head", "told", "pairs", "denied"] (spRuleInit CR) := ok_ruleInit FRI B RR CT
    have GRX := ok_ruleX FRI B RR CT x1
    have GRE : FnOk P w K mg base CX0 1 fRE dRE ["self", "other"] (spRuleEq K CR) := ok_ruleEq FRE B RR TR.I gR
    have MR : Mk K CR fRI := ⟨TR.mks, aRI, iRI, TR.kc⟩
    obtain ⟨pp0, gp0, dp0, PO0, FP0⟩ := TR.q0
    obtain ⟨pp1, gp1, dp1, PO1, FP1⟩ := TR.q1
    obtain ⟨pp2, gp2, dp2, PO2, FP2⟩ := TR.q2
    obtain ⟨pp3, gp3, dp3, PO3, FP3⟩ := TR.q3
    obtain ⟨pp4, gp4, dp4, PO4, FP4⟩ := TR.q4
    have bp0 : Binds K dp0 ["self"] [] := FP0.binds (ps := ["self"]) fun _ _ _ _ _ _ us hl => match us, hl with | [_], _ => rfl
    have bp1 : Binds K dp1 ["self"] [] := FP1.binds (ps := ["self"]) fun _ _ _ _ _ _ us hl => match us, hl with | [_], _ => rfl
    have bp2 : Binds K dp2 ["self"] [] := FP2.binds (ps := ["self"]) fun _ _ _ _ _ _ us hl => match us, hl with | [_], _ => rfl
    have bp3 : Binds K dp3 ["self"] [] := FP3.binds (ps := ["self"]) fun _ _ _ _ _ _ us hl => match us, hl with | [_], _ => rfl
    have bp4 : Binds K dp4 ["self"] [] := FP4.binds (ps := ["self"]) fun _ _ _ _ _ _ us hl => match us, hl with | [_], _ => rfl
    have Gp0 : FnOk P w K mg base CX0 1 gp0 dp0 ["self"] (getSp CR "_label") := ok_get FP0 ⟨rfl, rfl, rfl, by decide +kernel, rfl, by decide +kernel, by decide +kernel⟩ rfl TR.cl TR.n0
    have Gp1 : FnOk P w K mg base CX0 1 gp1 dp1 ["self"] (getSp CR "_head") := ok_get FP1 ⟨rfl, rfl, rfl, by decide +kernel, rfl, by decide +kernel, by decide +kernel⟩ rfl TR.cl TR.n1
    have Gp2 : FnOk P w K mg base CX0 1 gp2 dp2 ["self"] (spGetL CR "_told") := ok_getL FP2 ⟨rfl, rfl, rfl, by decide +kernel, rfl, by decide +kernel, by decide +kernel⟩ rfl (fun X e => by unfold Gl Env.kindOf; rw [e]; decide +kernel) TR.cl TR.n2 B
    have Gp3 : FnOk P w K mg base CX0 1 gp3 dp3 ["self"] (spGetL CR "_pairs") := ok_getL FP3 ⟨rfl, rfl, rfl, by decide +kernel, rfl, by decide +kernel, by decide +kernel⟩ rfl (fun X e => by unfold Gl Env.kindOf; rw [e]; decide +kernel) TR.cl TR.n3 B
    have Gp4 : FnOk P w K mg base CX0 1 gp4 dp4 ["self"] (spGetL CR "_denied") := ok_getL FP4 ⟨rfl, rfl, rfl, by decide +kernel, rfl, by decide +kernel, by decide +kernel⟩ rfl (fun X e => by unfold Gl Env.kindOf; rw [e]; decide +kernel) TR.cl TR.n4 B
    have LB : PL P w K mg base CR "label" "_label" := ⟨pp0, gp0, dp0, PO0, Gp0, bp0⟩
    have RP : RProps P w K mg base CR := ⟨RR, ⟨pp0, gp0, dp0, PO0, Gp0, bp0⟩, ⟨pp1, gp1, dp1, PO1, Gp1, bp1⟩, ⟨pp2, gp2, dp2, PO2, Gp2, bp2⟩, ⟨pp3, gp3, dp3, PO3, Gp3, bp3⟩, ⟨pp4, gp4, dp4, PO4, Gp4, bp4⟩⟩
    have RQ : REq P w K mg base CR := ⟨RR, ⟨fRE, dRE, GRE, aRE, iRE, bRE⟩, TR.kcls.sub_no (x := .type "str") (by simp) (by simp), TR.kcls.typ rfl⟩
    have KB : KitB K CR CB := ⟨TR.kcls.list, TB.kcls.list, TR.kcls.one TB.kcls (by decide), TB.kcls.one TR.kcls (by decide), fun T hT => TR.kcls.typ (by
      rcases List.mem_cons.mp hT with rfl | hT
      · rfl
      rcases List.mem_cons.mp hT with rfl | hT
      · rfl
      rcases List.mem_cons.mp hT with rfl | hT
      · rfl
      cases hT), fun T hT => TB.kcls.typ (by
      rcases List.mem_cons.mp hT with rfl | hT
      · rfl
      rcases List.mem_cons.mp hT with rfl | hT
      · rfl
      rcases List.mem_cons.mp hT with rfl | hT
      · rfl
      rcases List.mem_cons.mp hT with rfl | hT
      · rfl
      rcases List.mem_cons.mp hT with rfl | hT
      · rfl
      rcases List.mem_cons.mp hT with rfl | hT
      · rfl
      rcases List.mem_cons.mp hT with rfl | hT
      · rfl
      cases hT)⟩
    have BX : BCx K CR CB := ⟨KB, RR, TR.I, TB.cl, TB.I, TR.kcls.ne TB.kcls (by decide), TR.na⟩
    -- the book
    obtain ⟨fBI, dBI, aBI, iBI, FBI⟩ := TB.init
    obtain ⟨f0, d0, a0, i0, F0⟩ := TB.m0
    obtain ⟨f2, d2, a2, i2, F2⟩ := TB.m2
    obtain ⟨f4, d4, a4, i4, F4⟩ := TB.m4
    obtain ⟨f5, d5, a5, i5, F5⟩ := TB.m5
    obtain ⟨f6, d6, a6, i6, F6⟩ := TB.m6
    have bBI : Binds K dBI ["self", "rules"] [] := FBI.binds (ps := ["self", "rules"]) fun _ _ _ _ _ _ us hl => match us, hl with | [_, _], _ => rfl
    have b0 : Binds K d0 ["self", "other"] [] := F0.binds (ps := ["self", "other"]) fun _ _ _ _ _ _ us hl => match us, hl with | [_, _], _ => rfl
    have b2 : Binds K d2 ["self", "other"] [] := F2.binds (ps := ["self", "other"]) fun _ _ _ _ _ _ us hl => match us, hl with | [_, _], _ => rfl
    have b4 : Binds K d4 ["self"] [] := F4.binds (ps := ["self"]) fun _ _ _ _ _ _ us hl => match us, hl with | [_], _ => rfl
    have b5 : Binds K d5 ["self", "label"] [] := F5.binds (ps := ["self", "label"]) fun _ _ _ _ _ _ us hl => match us, hl with | [_, _], _ => rfl
    have b6 : Binds K d6 ["self", "label"] [] := F6.binds (ps := ["self", "label"]) fun _ _ _ _ _ _ us hl => match us, hl with | [_, _], _ => rfl
    have MB : Mk K CB fBI := ⟨TB.mks, aBI, iBI, TB.kc⟩
    have GBI : FnOk P w K mg base CX0 3 fBI dBI ["self", "rules"] (spBookInit CR CB) := ok_bookInit FBI B TB.cl TB.n0 RR TR.I gR LB G_hasDouble F_hasDouble.kp m_hasDouble b_hasDouble
    have GBX := ok_bookX FBI B TB.cl TB.n0 RR TR.I gR LB G_hasDouble F_hasDouble.kp m_hasDouble b_hasDouble x3
    have G0 : FnOk P w K mg base CX0 3 f0 d0 ["self", "other"] (spBookEq K CR CB) := ok_bookEq F0 B TB.cl TB.n0 TB.I gB RR TR.I GRE aRE iRE bRE
    have G4 : FnOk P w K mg base CX0 3 f4 d4 ["self"] (spBookLabels CR CB) := ok_bookLabels F4 TB.cl TB.n0 RR LB
    have M4 : Meth K CB "labels" f4 := ⟨a4, i4, F4.kp⟩
    have GPX := ok_placeX F_place RQ x4
    have G5 := ok_bookRuleX F5 TB.cl TB.n0 G4 M4 b4 GPX F_place.kp m_place b_place
    have G6 := ok_bookWithoutX F6 TB.cl TB.n0 G4 M4 b4 GPX F_place.kp m_place b_place
    have G2 := ok_bookAddX F2 B TB.cl TB.I gB x3 G4 M4 b4 G_hasDouble F_hasDouble.kp m_hasDouble b_hasDouble
    -- the question
    have QC' : QC K CQ := ⟨TQ.cl, TQ.n0, TQ.n1, TQ.n2⟩
    obtain ⟨fQI, dQI, aQI, iQI, FQI⟩ := TQ.init
    have GQX := ok_qX FQI B QC' CT x2
    have MQ : Mk K CQ fQI := ⟨TQ.mks, aQI, iQI, TQ.kc⟩
    -- the law
    have G_rule : FnOk P w K mg base CX0 7 f_rule e_rule ["_law_purse_here", "_law_label", "_law_kinds_here", "_law_names_here", "_law_denied"] (spRule CR) := ok_rule F_rule G_draw F_draw.kp m_draw b_draw G_told F_told.kp m_told b_told G_variables F_variables.kp m_variables b_variables G_pattern F_pattern.kp m_pattern b_pattern G_pairs F_pairs.kp m_pairs b_pairs GRI MR gR (binds_rule FRI 2 (by decide))
    have G_made := ok_made F_made gN ⟨fRI, dRI, MR, GRX, binds_rule FRI 2 (by decide), gR⟩ ⟨fQI, dQI, MQ, GQX, binds_q FQI 1 (by decide), gQ⟩ ⟨fBI, dBI, MB, GBX, bBI, gB⟩
    have G_named := ok_named (P := P) (w := w) (base := base) F_named B O x1.gC x2.gC x3.gC x4.gC
    have G_keeps := ok_keeps (P := P) (w := w) (base := base) F_keeps B rp sy
    have G_refused := ok_refused F_refused G_made F_made.kp m_made b_made G_named F_named.kp m_named b_named G_keeps F_keeps.kp m_keeps b_keeps X1 X2
    have G_oddWords := ok_oddWords (P := P) (w := w) (K := K) (mg := mg) (base := base) F_oddWords
    have G_oddPatterns := ok_oddPatterns F_oddPatterns G_oddWords F_oddWords.kp m_oddWords b_oddWords
    have G_oddLists := ok_oddLists F_oddLists G_oddPatterns F_oddPatterns.kp m_oddPatterns b_oddPatterns
    have G_oddPairs := ok_oddPairs F_oddPairs G_oddWords F_oddWords.kp m_oddWords b_oddWords
    have G_places := ok_places F_places B B2.rg en G_refused F_refused.kp m_refused b_refused
    have G_strays := ok_strays F_strays G_refused F_refused.kp m_refused b_refused G_variables F_variables.kp m_variables b_variables
    have G_books := ok_books F_books BX RQ B2.rg G_made F_made.kp m_made b_made G_named F_named.kp m_named b_named GRE aRE TR.ne iRE bRE G0 a0 TB.ne i0 b0 GRI MR gR (binds_rule FRI 0 (by decide)) GBI MB gB bBI G5 ⟨a5, i5, F5.kp⟩ b5 G6 ⟨a6, i6, F6.kp⟩ b6 G2 a2 i2 b2 TB.rad TB.sf gN X3 X4
    exact ok_law F_law B RP TR.I TQ.cl TQ.I gN (TR.kcls.oneX N (by decide)) (TQ.kcls.oneX N (by decide)) G_purses F_purses.kp m_purses b_purses G_names F_names.kp m_names b_names G_kinds F_kinds.kp m_kinds b_kinds G_rule F_rule.kp m_rule b_rule G_oddWords F_oddWords.kp m_oddWords b_oddWords G_oddPatterns F_oddPatterns.kp m_oddPatterns b_oddPatterns G_oddLists F_oddLists.kp m_oddLists b_oddLists G_oddPairs F_oddPairs.kp m_oddPairs b_oddPairs G_places F_places.kp m_places b_places G_strays F_strays.kp m_strays b_strays G_books F_books.kp m_books b_books G_made F_made.kp m_made b_made

end Nv
open PySem PySem.W PyProof.Rows
set_option maxRecDepth 100000 in
set_option maxHeartbeats 0 in
theorem PySem.Challenge.cw_neverapart_k02_rules_and_books_refused_holds : PySem.Challenge.rw_neverapart_k02_rules_and_books_refused.Holds := by
  w_on; o_law; k_head; (case hw => w_witness2)
  k_fill
  refine Nv.walkG (l := PySem.Challenge.rw_neverapart_k02_rules_and_books_refused) (k := 10) (sp := Nv.spLaw) (x := "_law_script") rfl rfl ⟨rfl, by decide, by decide⟩ (by decide +kernel) (fun w h Y => PySem.W.kIn_of Y) ?F (fun K H a ns hl hS => ⟨a, ns, rfl, hS, hl, fun _ => rfl⟩)
  case F =>
    intro w mg fa h KX G hmg
    have O := Nv.obj_at KX (by k_is) (by k_is)
    obtain ⟨cN, N⟩ := (by
      refine' Nv.never_ok KX (nm := "NeverError") ?g ?lk ?sa ?ga ?gg ?cc ?kC
      (case g => k_is)
      (case lk => k_is)
      (case sa => k_is)
      (case ga => k_is)
      (case gg => k_is)
      (case cc => k_is)
      (case kC => k_is)
      )
    obtain ⟨ceR, neR, eR⟩ := (by
      refine' Nv.err_value ⟨9, 17, 9, 21⟩ ⟨9, 23, 9, 28⟩ ⟨9, 29, 9, 33⟩ ⟨10, 8, 10, 12⟩ ⟨10, 8, 10, 18⟩ ⟨10, 21, 10, 26⟩ ⟨10, 8, 10, 26⟩ KX (nm := "InvalidRule") (qual := "InvalidRule.__init__") ?g ?gN ?lk ?sa ?ga ?gg ?cc ?kC ?no ?iC ?tI ?l ?cd ?kI ?t
      (case g => k_is)
      (case gN => k_is)
      (case lk => k_is)
      (case sa => k_is)
      (case ga => k_is)
      (case gg => k_is)
      (case cc => k_is)
      (case kC => k_is)
      (case no => k_is)
      (case iC => k_is)
      (case tI => k_is)
      (case l => k_is)
      (case cd => k_is)
      (case kI => k_is)
      (case t => k_is)
      )
    obtain rfl := Nv.same_n eR.n N.g
    obtain ⟨ceQ, neQ, eQ⟩ := (by
      refine' Nv.err_value ⟨17, 17, 17, 21⟩ ⟨17, 23, 17, 28⟩ ⟨17, 29, 17, 33⟩ ⟨18, 8, 18, 12⟩ ⟨18, 8, 18, 18⟩ ⟨18, 21, 18, 26⟩ ⟨18, 8, 18, 26⟩ KX (nm := "InvalidQuestion") (qual := "InvalidQuestion.__init__") ?g ?gN ?lk ?sa ?ga ?gg ?cc ?kC ?no ?iC ?tI ?l ?cd ?kI ?t
      (case g => k_is)
      (case gN => k_is)
      (case lk => k_is)
      (case sa => k_is)
      (case ga => k_is)
      (case gg => k_is)
      (case cc => k_is)
      (case kC => k_is)
      (case no => k_is)
      (case iC => k_is)
      (case tI => k_is)
      (case l => k_is)
      (case cd => k_is)
      (case kI => k_is)
      (case t => k_is)
      )
    obtain rfl := Nv.same_n eQ.n N.g
    obtain ⟨ceB, neB, eB⟩ := (by
      refine' Nv.err_value ⟨13, 17, 13, 21⟩ ⟨13, 23, 13, 28⟩ ⟨13, 29, 13, 33⟩ ⟨14, 8, 14, 12⟩ ⟨14, 8, 14, 18⟩ ⟨14, 21, 14, 26⟩ ⟨14, 8, 14, 26⟩ KX (nm := "InvalidBook") (qual := "InvalidBook.__init__") ?g ?gN ?lk ?sa ?ga ?gg ?cc ?kC ?no ?iC ?tI ?l ?cd ?kI ?t
      (case g => k_is)
      (case gN => k_is)
      (case lk => k_is)
      (case sa => k_is)
      (case ga => k_is)
      (case gg => k_is)
      (case cc => k_is)
      (case kC => k_is)
      (case no => k_is)
      (case iC => k_is)
      (case tI => k_is)
      (case l => k_is)
      (case cd => k_is)
      (case kI => k_is)
      (case t => k_is)
      )
    obtain rfl := Nv.same_n eB.n N.g
    obtain ⟨ceU, neU, eU⟩ := (by
      refine' Nv.err_value ⟨21, 17, 21, 21⟩ ⟨21, 23, 21, 28⟩ ⟨21, 29, 21, 33⟩ ⟨22, 8, 22, 12⟩ ⟨22, 8, 22, 18⟩ ⟨22, 21, 22, 26⟩ ⟨22, 8, 22, 26⟩ KX (nm := "UnknownName") (qual := "UnknownName.__init__") ?g ?gN ?lk ?sa ?ga ?gg ?cc ?kC ?no ?iC ?tI ?l ?cd ?kI ?t
      (case g => k_is)
      (case gN => k_is)
      (case lk => k_is)
      (case sa => k_is)
      (case ga => k_is)
      (case gg => k_is)
      (case cc => k_is)
      (case kC => k_is)
      (case no => k_is)
      (case iC => k_is)
      (case tI => k_is)
      (case l => k_is)
      (case cd => k_is)
      (case kI => k_is)
      (case t => k_is)
      )
    obtain rfl := Nv.same_n eU.n N.g
    obtain ⟨CRule, TRule⟩ := (by
      refine' Nv.rule_at KX ?g ?pg ?hd ?po ?sa ?mk ?kc ?cc ?gt ?tk ?mo ?ne ?ty ?kc1 ?km ?kn ?n0 ?n1 ?n2 ?n3 ?n4 ?aI ?iI ?lI ?cI ?kI ?t ?am0 ?im0 ?lm0 ?cm0 ?km0 ?aq0 ?sq0 ?tq0 ?rq0 ?lq0 ?cq0 ?kq0 ?aq1 ?sq1 ?tq1 ?rq1 ?lq1 ?cq1 ?kq1 ?aq2 ?sq2 ?tq2 ?rq2 ?lq2 ?cq2 ?kq2 ?aq3 ?sq3 ?tq3 ?rq3 ?lq3 ?cq3 ?kq3 ?aq4 ?sq4 ?tq4 ?rq4 ?lq4 ?cq4 ?kq4 ?ad ?ra
      (case g => k_is)
      (case pg => k_is)
      (case hd => k_is)
      (case po => k_is)
      (case sa => k_is)
      (case mk => k_is)
      (case kc => k_is)
      (case cc => k_is)
      (case gt => k_is)
      (case tk => k_is)
      (case mo => k_is)
      (case ne => k_is)
      (case ty => k_is)
      (case kc1 => k_is)
      (case km => exact rfl)
      (case kn => exact rfl)
      (case n0 => k_is)
      (case n1 => k_is)
      (case n2 => k_is)
      (case n3 => k_is)
      (case n4 => k_is)
      (case aI => k_is)
      (case iI => k_is)
      (case lI => k_is)
      (case cI => k_is)
      (case kI => k_is)
      (case t => k_is)
      (case am0 => k_is)
      (case im0 => k_is)
      (case lm0 => k_is)
      (case cm0 => k_is)
      (case km0 => k_is)
      (case aq0 => k_is)
      (case sq0 => k_is)
      (case tq0 => k_is)
      (case rq0 => k_is)
      (case lq0 => k_is)
      (case cq0 => k_is)
      (case kq0 => k_is)
      (case aq1 => k_is)
      (case sq1 => k_is)
      (case tq1 => k_is)
      (case rq1 => k_is)
      (case lq1 => k_is)
      (case cq1 => k_is)
      (case kq1 => k_is)
      (case aq2 => k_is)
      (case sq2 => k_is)
      (case tq2 => k_is)
      (case rq2 => k_is)
      (case lq2 => k_is)
      (case cq2 => k_is)
      (case kq2 => k_is)
      (case aq3 => k_is)
      (case sq3 => k_is)
      (case tq3 => k_is)
      (case rq3 => k_is)
      (case lq3 => k_is)
      (case cq3 => k_is)
      (case kq3 => k_is)
      (case aq4 => k_is)
      (case sq4 => k_is)
      (case tq4 => k_is)
      (case rq4 => k_is)
      (case lq4 => k_is)
      (case cq4 => k_is)
      (case kq4 => k_is)
      (case ad => k_is)
      (case ra => k_is)
      )
    obtain ⟨CBook, TBook⟩ := (by
      refine' Nv.book_at KX ?g ?pg ?hd ?po ?sa ?mk ?kc ?cc ?gt ?tk ?mo ?ne ?ty ?kc1 ?km ?kn ?n0 ?aI ?iI ?lI ?cI ?kI ?am0 ?im0 ?lm0 ?cm0 ?km0 ?am1 ?im1 ?lm1 ?cm1 ?km1 ?am2 ?im2 ?lm2 ?cm2 ?km2 ?am3 ?im3 ?lm3 ?cm3 ?km3 ?am4 ?im4 ?lm4 ?cm4 ?km4 ?am5 ?im5 ?lm5 ?cm5 ?km5 ?am6 ?im6 ?lm6 ?cm6 ?km6 ?ra ?sf
      (case g => k_is)
      (case pg => k_is)
      (case hd => k_is)
      (case po => k_is)
      (case sa => k_is)
      (case mk => k_is)
      (case kc => k_is)
      (case cc => k_is)
      (case gt => k_is)
      (case tk => k_is)
      (case mo => k_is)
      (case ne => k_is)
      (case ty => k_is)
      (case kc1 => k_is)
      (case km => exact rfl)
      (case kn => exact rfl)
      (case n0 => k_is)
      (case aI => k_is)
      (case iI => k_is)
      (case lI => k_is)
      (case cI => k_is)
      (case kI => k_is)
      (case am0 => k_is)
      (case im0 => k_is)
      (case lm0 => k_is)
      (case cm0 => k_is)
      (case km0 => k_is)
      (case am1 => k_is)
      (case im1 => k_is)
      (case lm1 => k_is)
      (case cm1 => k_is)
      (case km1 => k_is)
      (case am2 => k_is)
      (case im2 => k_is)
      (case lm2 => k_is)
      (case cm2 => k_is)
      (case km2 => k_is)
      (case am3 => k_is)
      (case im3 => k_is)
      (case lm3 => k_is)
      (case cm3 => k_is)
      (case km3 => k_is)
      (case am4 => k_is)
      (case im4 => k_is)
      (case lm4 => k_is)
      (case cm4 => k_is)
      (case km4 => k_is)
      (case am5 => k_is)
      (case im5 => k_is)
      (case lm5 => k_is)
      (case cm5 => k_is)
      (case km5 => k_is)
      (case am6 => k_is)
      (case im6 => k_is)
      (case lm6 => k_is)
      (case cm6 => k_is)
      (case km6 => k_is)
      (case ra => k_is)
      (case sf => k_is)
      )
    obtain ⟨CQuestion, TQuestion⟩ := (by
      refine' Nv.question_at KX ?g ?pg ?hd ?po ?sa ?mk ?kc ?cc ?gt ?tk ?mo ?ne ?ty ?kc1 ?km ?kn ?n0 ?n1 ?n2 ?aI ?iI ?lI ?cI ?kI ?t ?am0 ?im0 ?lm0 ?cm0 ?km0 ?aq0 ?sq0 ?tq0 ?rq0 ?lq0 ?cq0 ?kq0 ?aq1 ?sq1 ?tq1 ?rq1 ?lq1 ?cq1 ?kq1 ?aq2 ?sq2 ?tq2 ?rq2 ?lq2 ?cq2 ?kq2
      (case g => k_is)
      (case pg => k_is)
      (case hd => k_is)
      (case po => k_is)
      (case sa => k_is)
      (case mk => k_is)
      (case kc => k_is)
      (case cc => k_is)
      (case gt => k_is)
      (case tk => k_is)
      (case mo => k_is)
      (case ne => k_is)
      (case ty => k_is)
      (case kc1 => k_is)
      (case km => exact rfl)
      (case kn => exact rfl)
      (case n0 => k_is)
      (case n1 => k_is)
      (case n2 => k_is)
      (case aI => k_is)
      (case iI => k_is)
      (case lI => k_is)
      (case cI => k_is)
      (case kI => k_is)
      (case t => k_is)
      (case am0 => k_is)
      (case im0 => k_is)
      (case lm0 => k_is)
      (case cm0 => k_is)
      (case km0 => k_is)
      (case aq0 => k_is)
      (case sq0 => k_is)
      (case tq0 => k_is)
      (case rq0 => k_is)
      (case lq0 => k_is)
      (case cq0 => k_is)
      (case kq0 => k_is)
      (case aq1 => k_is)
      (case sq1 => k_is)
      (case tq1 => k_is)
      (case rq1 => k_is)
      (case lq1 => k_is)
      (case cq1 => k_is)
      (case kq1 => k_is)
      (case aq2 => k_is)
      (case sq2 => k_is)
      (case tq2 => k_is)
      (case rq2 => k_is)
      (case lq2 => k_is)
      (case cq2 => k_is)
      (case kq2 => k_is)
      )
    have d_isName := (by
      refine' Nv.def_at KX (x := "is_name") (st := Nv.sIsName) ?g ?l ?c ?k
      (case g => k_is)
      (case l => k_is)
      (case c => k_is)
      (case k => k_is)
      )
    have d_isVar := (by
      refine' Nv.def_at KX (x := "is_variable") (st := Nv.sIsVar) ?g ?l ?c ?k
      (case g => k_is)
      (case l => k_is)
      (case c => k_is)
      (case k => k_is)
      )
    have d_isTerm := (by
      refine' Nv.def_at KX (x := "is_term") (st := Nv.sIsTerm) ?g ?l ?c ?k
      (case g => k_is)
      (case l => k_is)
      (case c => k_is)
      (case k => k_is)
      )
    have d_isPattern := (by
      refine' Nv.def_at KX (x := "is_pattern") (st := Nv.sIsPattern) ?g ?l ?c ?k
      (case g => k_is)
      (case l => k_is)
      (case c => k_is)
      (case k => k_is)
      )
    have d_isPatterns := (by
      refine' Nv.def_at KX (x := "is_patterns") (st := Nv.sIsPatterns) ?g ?l ?c ?k
      (case g => k_is)
      (case l => k_is)
      (case c => k_is)
      (case k => k_is)
      )
    have d_isPair := (by
      refine' Nv.def_at KX (x := "is_pair") (st := Nv.sIsPair) ?g ?l ?c ?k
      (case g => k_is)
      (case l => k_is)
      (case c => k_is)
      (case k => k_is)
      )
    have d_isPairs := (by
      refine' Nv.def_at KX (x := "is_pairs") (st := Nv.sIsPairs) ?g ?l ?c ?k
      (case g => k_is)
      (case l => k_is)
      (case c => k_is)
      (case k => k_is)
      )
    have d_termsOf := (by
      refine' Nv.def_at KX (x := "terms_of") (st := Nv.sTermsOf) ?g ?l ?c ?k
      (case g => k_is)
      (case l => k_is)
      (case c => k_is)
      (case k => k_is)
      )
    have d_sides := (by
      refine' Nv.def_at KX (x := "sides_of") (st := Nv.sSides) ?g ?l ?c ?k
      (case g => k_is)
      (case l => k_is)
      (case c => k_is)
      (case k => k_is)
      )
    have d_varsAmong := (by
      refine' Nv.def_at KX (x := "variables_among") (st := Nv.sVarsAmong) ?g ?l ?c ?k
      (case g => k_is)
      (case l => k_is)
      (case c => k_is)
      (case k => k_is)
      )
    have d_varsOf := (by
      refine' Nv.def_at KX (x := "variables_of") (st := Nv.sVarsOf) ?g ?l ?c ?k
      (case g => k_is)
      (case l => k_is)
      (case c => k_is)
      (case k => k_is)
      )
    have d_hasMore := (by
      refine' Nv.def_at KX (x := "has_more") (st := Nv.sHasMore) ?g ?l ?c ?k
      (case g => k_is)
      (case l => k_is)
      (case c => k_is)
      (case k => k_is)
      )
    have d_hasDouble := (by
      refine' Nv.def_at KX (x := "_has_double") (st := Nv.sHasDouble) ?g ?l ?c ?k
      (case g => k_is)
      (case l => k_is)
      (case c => k_is)
      (case k => k_is)
      )
    have d_place := (by
      refine' Nv.def_at KX (x := "_place") (st := Nv.sPlace) ?g ?l ?c ?k
      (case g => k_is)
      (case l => k_is)
      (case c => k_is)
      (case k => k_is)
      )
    have d_purse := (by
      refine' Nv.def_at KX (x := "_law_purse") (st := Nv.sPurse) ?g ?l ?c ?k
      (case g => k_is)
      (case l => k_is)
      (case c => k_is)
      (case k => k_is)
      )
    have d_mixed := (by
      refine' Nv.def_at KX (x := "_law_mixed") (st := Nv.sMixed) ?g ?l ?c ?k
      (case g => k_is)
      (case l => k_is)
      (case c => k_is)
      (case k => k_is)
      )
    have d_draw := (by
      refine' Nv.def_at KX (x := "_law_draw") (st := Nv.sDraw) ?g ?l ?c ?k
      (case g => k_is)
      (case l => k_is)
      (case c => k_is)
      (case k => k_is)
      )
    have d_purses := (by
      refine' Nv.def_at KX (x := "_law_purses") (st := Nv.sPurses) ?g ?l ?c ?k
      (case g => k_is)
      (case l => k_is)
      (case c => k_is)
      (case k => k_is)
      )
    have d_oneOf := (by
      refine' Nv.def_at KX (x := "_law_one_of") (st := Nv.sOneOf) ?g ?l ?c ?k
      (case g => k_is)
      (case l => k_is)
      (case c => k_is)
      (case k => k_is)
      )
    have d_shuffled := (by
      refine' Nv.def_at KX (x := "_law_shuffled") (st := Nv.sShuffled) ?g ?l ?c ?k
      (case g => k_is)
      (case l => k_is)
      (case c => k_is)
      (case k => k_is)
      )
    have d_names := (by
      refine' Nv.def_at KX (x := "_law_names") (st := Nv.sNames) ?g ?l ?c ?k
      (case g => k_is)
      (case l => k_is)
      (case c => k_is)
      (case k => k_is)
      )
    have d_kinds := (by
      refine' Nv.def_at KX (x := "_law_kinds") (st := Nv.sKinds) ?g ?l ?c ?k
      (case g => k_is)
      (case l => k_is)
      (case c => k_is)
      (case k => k_is)
      )
    have d_pattern := (by
      refine' Nv.def_at KX (x := "_law_pattern") (st := Nv.sPattern) ?g ?l ?c ?k
      (case g => k_is)
      (case l => k_is)
      (case c => k_is)
      (case k => k_is)
      )
    have d_told := (by
      refine' Nv.def_at KX (x := "_law_told") (st := Nv.sTold) ?g ?l ?c ?k
      (case g => k_is)
      (case l => k_is)
      (case c => k_is)
      (case k => k_is)
      )
    have d_variables := (by
      refine' Nv.def_at KX (x := "_law_variables") (st := Nv.sVariables) ?g ?l ?c ?k
      (case g => k_is)
      (case l => k_is)
      (case c => k_is)
      (case k => k_is)
      )
    have d_pairs := (by
      refine' Nv.def_at KX (x := "_law_pairs") (st := Nv.sPairs) ?g ?l ?c ?k
      (case g => k_is)
      (case l => k_is)
      (case c => k_is)
      (case k => k_is)
      )
    have d_rule := (by
      refine' Nv.def_at KX (x := "_law_rule") (st := Nv.sRule) ?g ?l ?c ?k
      (case g => k_is)
      (case l => k_is)
      (case c => k_is)
      (case k => k_is)
      )
    have d_keeps := (by
      refine' Nv.def_at KX (x := "_law_keeps") (st := Nv.sKeeps) ?g ?l ?c ?k
      (case g => k_is)
      (case l => k_is)
      (case c => k_is)
      (case k => k_is)
      )
    have d_oddWords := (by
      refine' Nv.def_at KX (x := "_law_odd_words") (st := Nv.sOddWords) ?g ?l ?c ?k
      (case g => k_is)
      (case l => k_is)
      (case c => k_is)
      (case k => k_is)
      )
    have d_oddPatterns := (by
      refine' Nv.def_at KX (x := "_law_odd_patterns") (st := Nv.sOddPatterns) ?g ?l ?c ?k
      (case g => k_is)
      (case l => k_is)
      (case c => k_is)
      (case k => k_is)
      )
    have d_oddLists := (by
      refine' Nv.def_at KX (x := "_law_odd_lists") (st := Nv.sOddLists) ?g ?l ?c ?k
      (case g => k_is)
      (case l => k_is)
      (case c => k_is)
      (case k => k_is)
      )
    have d_oddPairs := (by
      refine' Nv.def_at KX (x := "_law_odd_pairs") (st := Nv.sOddPairs) ?g ?l ?c ?k
      (case g => k_is)
      (case l => k_is)
      (case c => k_is)
      (case k => k_is)
      )
    have d_named := (by
      refine' Nv.def_at KX (x := "_law_named") (st := Nv.sNamed) ?g ?l ?c ?k
      (case g => k_is)
      (case l => k_is)
      (case c => k_is)
      (case k => k_is)
      )
    have d_made := (by
      refine' Nv.def_at KX (x := "_law_made") (st := Nv.sMade) ?g ?l ?c ?k
      (case g => k_is)
      (case l => k_is)
      (case c => k_is)
      (case k => k_is)
      )
    have d_refused := (by
      refine' Nv.def_at KX (x := "_law_refused") (st := Nv.sRefused) ?g ?l ?c ?k
      (case g => k_is)
      (case l => k_is)
      (case c => k_is)
      (case k => k_is)
      )
    have d_places := (by
      refine' Nv.def_at KX (x := "_law_places_right") (st := Nv.sPlaces) ?g ?l ?c ?k
      (case g => k_is)
      (case l => k_is)
      (case c => k_is)
      (case k => k_is)
      )
    have d_strays := (by
      refine' Nv.def_at KX (x := "_law_strays_right") (st := Nv.sStrays) ?g ?l ?c ?k
      (case g => k_is)
      (case l => k_is)
      (case c => k_is)
      (case k => k_is)
      )
    have d_books := (by
      refine' Nv.def_at KX (x := "_law_books_right") (st := Nv.sBooks) ?g ?l ?c ?k
      (case g => k_is)
      (case l => k_is)
      (case c => k_is)
      (case k => k_is)
      )
    have d_law := (by
      refine' Nv.def_at KX (x := "law") (st := Nv.sLaw) ?g ?l ?c ?k
      (case g => k_is)
      (case l => k_is)
      (case c => k_is)
      (case k => k_is)
      )
    exact Nv.law_at KX G hmg TRule TBook TQuestion O N eR eQ eB eU (by k_is) (by k_is) (by k_is) (by k_is) (by k_is) (by k_is) (by k_is) (by k_is) (by k_is) (by k_is) (by k_is) (by k_is) (by k_is) (by k_is) (by k_is) d_isName d_isVar d_isTerm d_isPattern d_isPatterns d_isPair d_isPairs d_termsOf d_sides d_varsAmong d_varsOf d_hasMore d_hasDouble d_place d_purse d_mixed d_draw d_purses d_oneOf d_shuffled d_names d_kinds d_pattern d_told d_variables d_pairs d_rule d_keeps d_oddWords d_oddPatterns d_oddLists d_oddPairs d_named d_made d_refused d_places d_strays d_books d_law
