import PyProof.Rows.All
import Wide.All
import OpenK.AllK
import Wide.FinOn
import HandS.ForMost
import HandS.Wide
import HandS.WideBits
import HandS.WideMore
import HandS.More
import HandS.DictComp
import HandS.Walk
import HandS.Conv
import HandS.Flow
import HandS.TryOnly
import HandS.IsInst
import HandS.Zip
import HandS.Codes
import HandS.OwnEq
import KE.KEqNest
import HandS.Style
import HandS.Set
import HandS.SetTxt0
import HandS.SortOrd
import HandS.Keys
import KE.KSortAsk
import HandS.SetBool
import HandS.Comp
import KE.GoesSet
import HandS.Finally
import HandS.Sort
import HandS.Strs
import PyProof.EqKinds
import PyProof.InstNe
import OpenK.KWalk
import HandS.WordsDict
import HandS.MakeKw
import HandS.ListItems
import PyProof.ReprRoads
import PyProof.ReprLen
import HandS.Ends
import HandS.MakeKwOnly
import HandS.Defaults
import HandS.ExcInit
import HandS.ExcValue
import HandS.WordsExc
import KE.RegKIsAll
import PySem.Challenge.RW_endswell_k02_desks_kept_and_compared
set_option Elab.async false
set_option linter.all false
set_option maxRecDepth 100000
set_option exponentiation.threshold 4000
section
open PySem PySem.W PyProof.Rows
set_option maxHeartbeats 0
open_top head for PySem.Challenge.rw_endswell_k02_desks_kept_and_compared
end
set_option maxHeartbeats 8100000
/-! the law's draws: a purse, mixed, draw -/
namespace L2
namespace D1
open PySem PySem.Spec PyProof.Rows
def top (i : Nat) : Stmt := PySem.Challenge.pw_endswell_k02_desks_kept_and_compared.main.body.getD i (.Pass ⟨0, 0, 0, 0⟩)
abbrev sPurse : Stmt := top 26
abbrev sMixed : Stmt := top 27
abbrev sDraw : Stmt := top 28
abbrev sPurses : Stmt := top 29
abbrev sOneOf : Stmt := top 30
abbrev sWord : Stmt := top 33
/-- the built-ins' names are free -/
structure Free (mg : Str → Option Value) : Prop where
  sum : mg "sum" = none
  int : mg "int" = none
  max : mg "max" = none
  min : mg "min" = none
  len : mg "len" = none
  range : mg "range" = none
  repr : mg "repr" = none
  isi : mg "isinstance" = none
  all : mg "all" = none
/-- a purse: what is left of a great number, a seed, turns taken, its place -/
def Purse (H : Hp) (p : Addr) (t : Int) : Prop := ∃ g b z : Int, H p = some (.lst [.int g, .int b, .int t, .int z]) ∧ 0 ≤ g ∧ g < 10 ^ 480 ∧ 0 ≤ b ∧ b < 2147483629 ∧ 0 ≤ z ∧ z < 64 ∧ 0 ≤ t
theorem Purse.same {H H' : Hp} {p : Addr} {t : Int} (h : Purse H p t) (s : Same H H') : Purse H' p t := by
  obtain ⟨g, b, z, e, r⟩ := h; exact ⟨g, b, z, s _ _ e, r⟩
def spPurse (K : PySem.W.Frag) : Sp := fun vs H Q _ => ∃ (a : Addr) (ns : List Int) (z : Int), vs = [.ref a, .int z] ∧ SqL K H a (ns.map V.int) ∧ 0 ≤ z ∧ z < 64 ∧ ∀ H' p, Same H H' → H p = none → Purse H' p 0 → Q (.ref p) H'
def spMixed : Sp := fun vs H Q _ => ∃ (s t z : Int), vs = [.int s, .int t, .int z] ∧ 0 ≤ t ∧ t < 2 ^ 40 ∧ ∀ r : Int, 0 ≤ r → r < 2 ^ 31 → Q (.int r) H
def spDraw : Sp := fun vs H Q _ => ∃ (p : Addr) (m t : Int), vs = [.ref p, .int m] ∧ Purse H p t ∧ 1 ≤ m ∧ m < 2 ^ 27 ∧ t < 2 ^ 30 ∧ ∀ (r t' : Int) (o : HO), 0 ≤ r → r < m → t' ≤ t + 1 → Purse (upd H p o) p t' → Q (.int r) (upd H p o)
theorem op_powW {X : Cx} : OpR X (binaryOp .Pow) (rI (fun i j => 0 ≤ j ∧ (Builtin.Int.intBits i : Int) * j ≤ 2 ^ 27) fun i j => .int (i ^ j.toNat)) := opI fun _ _ _ _ _ _ _ hc q => pow_int hc.1 hc.2 q
theorem cut_ints (ns : List Int) (lo hi : Option Int) : ∃ ms : List Int, cutV (ns.map V.int) lo hi = ms.map V.int :=
  ⟨(ns.drop (HT.sIx ns.length 0 lo)).take (HT.sIx ns.length ns.length hi - HT.sIx ns.length 0 lo), by simp [cutV, List.map_drop, List.map_take]⟩
section
variable {P : Program} {w : World} {K : PySem.W.Frag} {mg : Str → Option Value} {base : Heap}
theorem scP : FnScope ["_law_script", "_law_at", "_law_seed"] ["_law_script", "_law_at"] (defScope sPurse) := ⟨rfl, rfl, rfl, by decide +kernel, rfl, by decide +kernel, by decide +kernel⟩
theorem ok_purse {f : Addr} {fd : FuncData} (F : Fun K "_law_purse" "_law_purse" sPurse f fd) (T : Free mg) : FnOk P w K mg base CX0 1 f fd ["_law_script", "_law_at"] (spPurse K) := by
  refine F.ok scP (fun vs H Q E h => ?_) (fun cdv A outer s H vs Q E hr h => ?_)
  · obtain ⟨a, ns, z, rfl, _⟩ := h; rfl
  · obtain ⟨a, ns, z, rfl, hS, z0, z1, k⟩ := h
    refine ⟨_, pss_cons (ps_set (i := 2) scP.nd rfl (Or.inl rfl) (pe_callB (cr_sum rfl) (by rfl) T.sum (by decide +kernel) (pa_cons (pe_slice sl_list (pv 0) (po_some (pv 1)) (po_some (pe_op op_add (pv 1) pe_int))) pa_nil)))
      (pss_one (ps_ret (pe_lst (pa_cons (pe_op op_mod (pe_callTy call_int1 (by rfl) T.int (by decide +kernel) (pa_cons (pe_callB (call_max2 rfl) (by rfl) T.max (by decide +kernel) (pa_cons (pe_op op_sub (pv 2) (pe_op op_pow pe_int pe_int)) (pa_cons pe_int pa_nil))) pa_nil)) (pe_op op_powW (pe_op op_pow pe_int pe_int) pe_int))
        (pa_cons (pe_op op_mod (pe_callTy call_int1 (by rfl) T.int (by decide +kernel) (pa_cons (pv 2) pa_nil)) pe_int) (pa_cons pe_int (pa_cons (pv 1) pa_nil))))))), ?_⟩
    obtain ⟨ms, em⟩ := cut_ints ns (some z) (some (z + 1))
    refine ⟨_, rfl, _, rfl, _, rfl, _, rfl, _, _, rfl, rfl, _, rfl, a, _, rfl, hS, fun q hq => ?_⟩
    refine ⟨q, ms, rfl, SqL.of (by rw [upd_same, em]), ?_⟩
    refine ⟨_, rfl, _, _, rfl, rfl, ⟨by decide, by decide, by decide⟩, _, _, rfl, rfl, _, _, rfl, .inl ⟨_, rfl, ?_⟩⟩
    refine ⟨_, _, rfl, rfl, ⟨by decide, by decide, by decide⟩, _, _, rfl, rfl, ⟨by decide, by decide +kernel⟩, _, _, rfl, rfl, (by show (0 : Int) < (10 ^ Int.toNat 60) ^ Int.toNat 8; decide +kernel), ?_⟩
    refine ⟨_, rfl, .inl ⟨_, rfl, _, _, rfl, rfl, (by show (0 : Int) < 2147483629; decide), _, rfl, by show 4 ≤ sizeLine; decide, fun p hp => ?_⟩⟩
    have hpq : p ≠ q := fun e => by rw [e, upd_same] at hp; cases hp
    have hp0 : H p = none := by rw [upd_ne hpq] at hp; exact hp
    refine k _ p (fun b o e => ?_) hp0 ⟨_, _, _, upd_same, ?_⟩
    · rw [upd_ne (ne_of_none e hp0), upd_ne (ne_of_none e hq)]; exact e
    · exact ⟨Int.emod_nonneg _ (by decide +kernel), Int.emod_lt_of_pos _ (by decide +kernel), Int.emod_nonneg _ (by decide), Int.emod_lt_of_pos _ (by decide), z0, z1, Int.le_refl _⟩
theorem scM : FnScope ["_law_seed", "_law_turn", "_law_at", "_law_mixed_here"] ["_law_seed", "_law_turn", "_law_at"] (defScope sMixed) := ⟨rfl, rfl, rfl, by decide +kernel, rfl, by decide +kernel, by decide +kernel⟩
theorem ok_mixed {f : Addr} {fd : FuncData} (F : Fun K "_law_mixed" "_law_mixed" sMixed f fd) (T : Free mg) : FnOk P w K mg base CX0 1 f fd ["_law_seed", "_law_turn", "_law_at"] spMixed := by
  refine F.ok scM (fun vs H Q E h => ?_) (fun cdv A outer s H vs Q E hr h => ?_)
  · obtain ⟨a, t, z, rfl, _⟩ := h; rfl
  · obtain ⟨a, t, z, rfl, t0, t1, k⟩ := h
    refine ⟨_, pss_cons (ps_set (i := 3) scM.nd rfl (Or.inl rfl) (pe_op op_add (pe_op op_mul (pv 0) pe_int) (pe_op op_mul (pe_op op_mul pe_int (pv 1)) (pv 1))))
      (pss_cons (ps_set (i := 3) scM.nd rfl (Or.inl rfl) (pe_op op_mod (pe_callTy call_int1 (by rfl) T.int (by decide +kernel) (pa_cons (pe_op op_add (pe_op op_add (pv 3) (pe_op op_mul pe_int (pv 2))) (pv 1)) pa_nil)) pe_int))
      (pss_cons (ps_set (i := 3) scM.nd rfl (Or.inl rfl) (pe_op op_mod (pe_callTy call_int1 (by rfl) T.int (by decide +kernel) (pa_cons (pe_op op_add (pe_op op_mul (pv 3) (pv 3)) pe_int) pa_nil)) pe_int))
      (pss_one (ps_ret (pe_op op_mod (pe_callTy call_int1 (by rfl) T.int (by decide +kernel) (pa_cons (pe_op op_mul (pv 3) pe_int) pa_nil)) pe_int))))), ?_⟩
    refine ⟨_, rfl, _, _, rfl, rfl, .inr ⟨by decide, by decide⟩, _, rfl, _, _, rfl, rfl, .inl ⟨by decide, by decide⟩, _, rfl, _, _, rfl, rfl, .inr ⟨by omega, by omega⟩, _, _, rfl, rfl, ?_⟩
    refine ⟨_, rfl, _, rfl, _, _, rfl, rfl, .inl ⟨by decide, by decide⟩, _, _, rfl, rfl, _, rfl, _, _, rfl, rfl, .inl ⟨_, rfl, _, _, rfl, rfl, (by show (0 : Int) < 2147483647; decide), ?_⟩⟩
    generalize hm : (a * 69069 + 104729 * t * t + 7919 * z + t) % 2147483647 = m
    have m0 : 0 ≤ m := by rw [← hm]; exact Int.emod_nonneg _ (by decide)
    have m1 : m < 2147483647 := by rw [← hm]; exact Int.emod_lt_of_pos _ (by decide)
    refine ⟨_, rfl, _, rfl, _, _, rfl, rfl, .inl ⟨by omega, by omega⟩, _, _, rfl, rfl, .inl ⟨_, rfl, _, _, rfl, rfl, (by show (0 : Int) < 2147483629; decide), ?_⟩⟩
    refine ⟨_, rfl, _, _, rfl, rfl, .inr ⟨by decide, by decide⟩, .inl ⟨_, rfl, _, _, rfl, rfl, (by show (0 : Int) < 2147483587; decide), ?_⟩⟩
    exact k _ (Int.emod_nonneg _ (by decide)) (Int.lt_trans (Int.emod_lt_of_pos _ (by decide)) (by decide))
theorem scD : FnScope ["_law_purse_here", "_law_many", "_law_drawn", "_law_found", "_law_piece"] ["_law_purse_here", "_law_many"] (defScope sDraw) := ⟨rfl, rfl, rfl, by decide +kernel, rfl, by decide +kernel, by decide +kernel⟩
theorem bits27 {m : Int} (h1 : 1 ≤ m) (h2 : m < 2 ^ 27) : ((Builtin.Int.intBits m : Nat) : Int) / 28 = 0 := by
  have h : Builtin.Int.intBits m ≤ 27 := PyProof.Rows.intBits_le (by omega)
  omega
theorem ok_draw {f fM : Addr} {fd fdM : FuncData} (F : Fun K "_law_draw" "_law_draw" sDraw f fd) (T : Free mg) (FM : Fun K "_law_mixed" "_law_mixed" sMixed fM fdM) (bM : Binds K fdM ["_law_seed", "_law_turn", "_law_at"] []) (gM : mg "_law_mixed" = some (.ref fM)) :
    FnOk P w K mg base CX0 2 f fd ["_law_purse_here", "_law_many"] spDraw := by
  have GM : FnOk P w K mg base CX0 1 fM fdM ["_law_seed", "_law_turn", "_law_at"] spMixed := ok_mixed FM T
  refine F.ok scD (fun vs H Q E h => ?_) (fun cdv A outer s H vs Q E hr h => ?_)
  · obtain ⟨p, m, t, rfl, _⟩ := h; rfl
  · obtain ⟨p, m, t, rfl, hp, m1, m2, t1, k⟩ := h
    refine ⟨_, pss_cons (ps_if (pt_cmpR op_gt (pe_ix ix_list (pv 0) pe_int (fun _ _ => rfl)) pe_int (nomark _))
        (pss_cons (ps_set (i := 2) scD.nd rfl (Or.inl rfl) (pe_op op_mod (pe_callTy call_int1 (by rfl) T.int (by decide +kernel) (pa_cons (pe_ix ix_list (pv 0) pe_int (fun _ _ => rfl)) pa_nil)) (pv 1)))
          (pss_cons (ps_asg (pe_op op_fdivW (pe_ix ix_list (pv 0) pe_int (fun _ _ => rfl)) (pv 1)) (pg_sub (pv 0) pe_int set_list)) (pss_one (ps_ret (pv 2))))) pss_nil)
      (pss_cons (ps_set (i := 3) scD.nd rfl (Or.inl rfl) pe_int)
      (pss_cons (ps_for PassesOwn.never rfl (pi_range1 rfl T.range (pa_cons (pe_op op_add pe_int (pe_op op_fdiv (pe_bits (pv 1)) pe_int)) pa_nil)) (pg_name (i := 4) scD.nd rfl (Or.inl rfl))
        (pss_cons (ps_asg (pe_op op_add (pe_ix ix_list (pv 0) pe_int (fun _ _ => rfl)) pe_int) (pg_sub (pv 0) pe_int set_list))
          (pss_one (ps_set (i := 3) scD.nd rfl (Or.inl rfl) (pe_op op_add (pe_op op_mul (pv 3) pe_int) (pe_call GM (hr.mono (by decide)) rfl gM FM.kp bM .nil pass0 (pa_cons (pe_ix ix_list (pv 0) pe_int (fun _ _ => rfl)) (pa_cons (pe_ix ix_list (pv 0) pe_int (fun _ _ => rfl)) (pa_cons (pe_ix ix_list (pv 0) pe_int (fun _ _ => rfl)) pa_nil)))))))))
      (pss_one (ps_ret (pe_op op_mod (pe_callTy call_int1 (by rfl) T.int (by decide +kernel) (pa_cons (pv 3) pa_nil)) (pv 1)))))), ?_⟩
    obtain ⟨g, b, z, hl, g0, g1, b0, b1, z0, z1, t0⟩ := hp
    refine ⟨_, rfl, p, _, 0, _, rfl, rfl, SqL.of hl, rfl, _, _, rfl, rfl, _, rfl, ?_⟩
    refine ite2 (fun c => ?_) (fun _ => ?_)
    · refine ⟨_, rfl, p, _, 0, _, rfl, rfl, SqL.of hl, rfl, .inl ⟨_, rfl, _, rfl, _, _, rfl, rfl, (by show (0 : Int) < m; omega), ?_⟩⟩
      refine ⟨_, rfl, p, _, 0, _, rfl, rfl, SqL.of hl, rfl, _, rfl, _, _, rfl, rfl, wide_div (b := 27) (by omega) (by omega) (by decide) (by decide), ?_⟩
      · refine ⟨_, rfl, p, _, 0, 0, rfl, rfl, hl, rfl, _, rfl, ?_⟩
        exact k _ t _ (Int.emod_nonneg _ (by omega)) (Int.emod_lt_of_pos _ (by omega)) (by omega) ⟨_, _, _, upd_same, Int.ediv_nonneg g0 (by omega), Int.lt_of_le_of_lt (Int.ediv_le_self _ g0) g1, b0, b1, z0, z1, t0⟩
    · have e1 := bits27 m1 m2
      refine ⟨_, rfl, m, rfl, _, _, rfl, rfl, ⟨by decide, by decide⟩, _, _, rfl, rfl, _, rfl, by rw [e1]; decide, by rw [e1]; decide, ?_⟩
      rw [e1]
      refine for_range (n := 1) (fun i σ H' => ∃ (fnd : Int) (v : Option V), σ = [some (.ref p), some (.int m), none, some (.int fnd), v] ∧ (i = 0 → H' = H) ∧ (0 < i → H' = upd H p (.lst [.int g, .int b, .int (t + 1), .int z]))) ⟨0, none, rfl, fun _ => rfl, fun c => absurd c (by decide)⟩ ?_ ?_
      · rintro i σ H' hi ⟨fnd, v, rfl, e0, _⟩
        obtain rfl : i = 0 := by omega
        obtain rfl := e0 rfl
        refine ⟨_, rfl, p, _, 2, _, rfl, rfl, SqL.of hl, rfl, _, _, rfl, rfl, _, rfl, p, _, 2, 2, rfl, rfl, hl, rfl, ?_⟩
        refine ⟨_, rfl, _, _, rfl, rfl, .inr ⟨by decide, by decide⟩, _, rfl, p, _, 1, _, rfl, rfl, SqL.of upd_same, rfl, _, rfl, p, _, 2, _, rfl, rfl, SqL.of upd_same, rfl, _, rfl, p, _, 3, _, rfl, rfl, SqL.of upd_same, rfl, ?_⟩
        refine ⟨_, _, _, rfl, by omega, by omega, fun r r0 r1 => ⟨_, _, rfl, rfl, _, _, rfl, fun c => absurd c (by decide), fun _ => rfl⟩⟩
      · rintro σ H' ⟨fnd, v, rfl, _, e2⟩
        obtain rfl := e2 (by decide)
        refine ⟨_, rfl, .inl ⟨_, rfl, _, rfl, _, _, rfl, rfl, (by show (0 : Int) < m; omega), ?_⟩⟩
        exact k _ (t + 1) _ (Int.emod_nonneg _ (by omega)) (Int.emod_lt_of_pos _ (by omega)) (Int.le_refl _) ⟨_, _, _, upd_same, g0, g1, b0, b1, z0, z1, by omega⟩
end
end D1
end L2
namespace L2
namespace D1
open PySem PySem.Spec PyProof.Rows
theorem Purse.upd {H : Hp} {p q : Addr} {t : Int} {o : HO} (h : Purse H p t) (n : p ≠ q) : Purse (upd H q o) p t := by
  obtain ⟨g, b, z, e, r⟩ := h; exact ⟨g, b, z, by rw [upd_ne n]; exact e, r⟩
theorem Purse.some {H : Hp} {p : Addr} {t : Int} (h : Purse H p t) : ∃ o, H p = some o := by
  obtain ⟨g, b, z, e, _⟩ := h; exact ⟨_, e⟩
/-- all that was tracked is as it was, but at p -/
def But (p : Addr) (H H' : Hp) : Prop := ∀ b o, b ≠ p → H b = some o → H' b = some o
theorem But.refl (p : Addr) (H : Hp) : But p H H := fun _ _ _ h => h
theorem But.upd (p : Addr) (H : Hp) (o : HO) : But p H (upd H p o) := fun b u n h => by rw [upd_ne n]; exact h
theorem But.trans {p : Addr} {H H1 H2 : Hp} (a : But p H H1) (b : But p H1 H2) : But p H H2 := fun c o n h => b c o n (a c o n h)
theorem But.of {p : Addr} {H H' : Hp} (s : Same H H') : But p H H' := fun b o _ h => s b o h
theorem Same.new {H : Hp} {a : Addr} {o : HO} (n : H a = none) : Same H (L2.upd H a o) := fun b u e => by rw [upd_ne (ne_of_none e n)]; exact e
def spPurses (K : PySem.W.Frag) : Sp := fun vs H Q _ => ∃ (a : Addr) (ns : List Int) (few : Int), vs = [.ref a, .int few] ∧ SqL K H a (ns.map V.int) ∧ ns.length ≤ 63 ∧ 1 ≤ few ∧ few ≤ 60 ∧
  ∀ (H' : Hp) (L : Addr) (ps : List Addr), Same H H' → H L = none → H' L = some (.lst (ps.map V.ref)) → (∀ p ∈ ps, H p = none ∧ Purse H' p 0) → ps.Nodup → L ∉ ps → ps.length ≤ 63 → Q (.ref L) H'
def spOneOf : Sp := fun vs H Q _ => ∃ (p L : Addr) (xs : List V) (t : Int), vs = [.ref p, .ref L] ∧ Purse H p t ∧ H L = some (.lst xs) ∧ L ≠ p ∧ 1 ≤ xs.length ∧ xs.length < 2 ^ 20 ∧ t < 2 ^ 30 ∧
  ∀ (i : Nat) (v : V) (t' : Int) (o : HO), xs[i]? = some v → t' ≤ t + 1 → Purse (L2.upd H p o) p t' → Q v (L2.upd H p o)
def spWord : Sp := fun vs H Q _ => ∃ (p : Addr) (t : Int), vs = [.ref p] ∧ Purse H p t ∧ t < 2 ^ 29 ∧
  ∀ (x : Str) (H' : Hp) (t' : Int), 1 ≤ x.length → x.length ≤ 8 → (∀ c ∈ x.cps.toList, 97 ≤ c ∧ c ≤ 122) → But p H H' → Purse H' p t' → t' ≤ t + 10 → Q (.str x) H'
section
variable {P : Program} {w : World} {K : PySem.W.Frag} {mg : Str → Option Value} {base : Heap}
theorem scPs : FnScope ["_law_script", "_law_few", "_law_at"] ["_law_script", "_law_few"] (defScope sPurses) := ⟨rfl, rfl, rfl, by decide +kernel, rfl, by decide +kernel, by decide +kernel⟩
theorem ok_purses {f fP : Addr} {fd fdP : FuncData} (F : Fun K "_law_purses" "_law_purses" sPurses f fd) (T : Free mg) (FP : Fun K "_law_purse" "_law_purse" sPurse fP fdP) (bP : Binds K fdP ["_law_script", "_law_at"] []) (gP : mg "_law_purse" = some (.ref fP)) :
    FnOk P w K mg base CX0 2 f fd ["_law_script", "_law_few"] (spPurses K) := by
  have GP : FnOk P w K mg base CX0 1 fP fdP ["_law_script", "_law_at"] (spPurse K) := ok_purse FP T
  refine F.ok scPs (fun vs H Q E h => ?_) (fun cdv A outer s H vs Q E hr h => ?_)
  · obtain ⟨a, ns, few, rfl, _⟩ := h; rfl
  · obtain ⟨a, ns, few, rfl, hS, l63, f1, f2, k⟩ := h
    refine ⟨_, pss_one (ps_ret (pe_lc (own := [("_law_at", 2)]) (g := gName 2) (tt := tYes) rfl scPs.nd
      (pi_range1 rfl T.range (pa_cons (pe_callB (call_max2 rfl) (by rfl) T.max (by decide +kernel) (pa_cons pe_int (pa_cons (pe_callB (call_min2 rfl) (by rfl) T.min (by decide +kernel) (pa_cons (pv 1) (pa_cons (pe_callB call_len_seq (by rfl) T.len PySem.boot_len (pa_cons (pv 0) pa_nil)) pa_nil))) pa_nil))) pa_nil))
      (blkOk_by (N := ["_law_script", "_law_few", "_law_at"]) (sc := defScope sPurses) (by decide +kernel)) (fun _ _ _ _ _ => pg_name (i := 2) scPs.nd rfl (Or.inl rfl)) (fun _ _ _ _ _ => pts_nil)
      (fun _ _ _ _ _ => pe_call GP (hr.mono (by decide)) rfl gP FP.kp bP .nil pass0 (pa_cons (pv 0) (pa_cons (pv 2) pa_nil))))), ?_⟩
    refine ⟨_, rfl, _, rfl, a, _, rfl, .inl hS, few, _, rfl, ?_⟩
    rw [List.length_map]
    generalize hm : (if (ns.length : Int) < few then (ns.length : Int) else few) = m
    have m0 : 0 ≤ m ∧ m ≤ 60 := by rw [← hm]; split <;> omega
    refine ⟨1, m, rfl, ?_⟩
    generalize hj : (if m > 1 then m else (1 : Int)) = j
    have j0 : 1 ≤ j ∧ j ≤ 60 := by rw [← hj]; split <;> omega
    refine ⟨j, rfl, by omega, by omega, fun D hD => ?_⟩
    refine lc_range (n := j.toNat) (fun i H' => ∃ ps : List Addr, ps.length = i ∧ Same H H' ∧ H' D = some (.lst (ps.map V.ref)) ∧ (∀ p ∈ ps, H p = none ∧ Purse H' p 0) ∧ ps.Nodup ∧ D ∉ ps)
      ⟨[], rfl, Same.new hD, upd_same, (fun p hp => by cases hp), List.nodup_nil, by simp⟩ ?_ ?_
    · rintro i H1 hi ⟨ps, lp, sm, hL, al, nd, nD⟩
      refine ⟨rfl, ?_⟩
      dsimp only [tYes]
      rw [if_pos rfl]
      refine ⟨_, rfl, _, rfl, a, ns, _, rfl, sm.seq hS, by omega, by omega, fun H2 p s2 np hp => ?_⟩
      have hD2 := s2 _ _ hL
      have npD : p ≠ D := fun e => by rw [e, hL] at np; cases np
      refine ⟨_, hD2, by rw [List.length_map, lp, sizeLine_eq]; omega, ps ++ [p], by rw [List.length_append, lp]; rfl, fun b o e => ?_, ?_, fun q hq => ?_, ?_, ?_⟩
      · rw [upd_ne (ne_of_none e hD)]; exact s2 _ _ (sm _ _ e)
      · rw [upd_same, List.map_append]; rfl
      · rcases List.mem_append.mp hq with hq | hq
        · obtain ⟨q0, qp⟩ := al q hq
          exact ⟨q0, (qp.same s2).upd fun e => nD (e ▸ hq)⟩
        · obtain rfl : q = p := by simpa using hq
          exact ⟨sm.free np, hp.upd npD⟩
      · refine List.nodup_append.mpr ⟨nd, by simp, fun x hx y hy e => ?_⟩
        obtain rfl : y = p := by simpa using hy
        obtain ⟨_, qp⟩ := al x hx
        obtain ⟨o, ho⟩ := qp.some
        rw [e, np] at ho; cases ho
      · intro z
        rcases List.mem_append.mp z with z | z
        · exact nD z
        · exact npD (by simpa using z : D = p).symm
    · rintro H1 ⟨ps, lp, sm, hL, al, nd, nD⟩
      exact k H1 D ps sm hD hL al nd nD (by omega)
theorem scO : FnScope ["_law_purse_here", "_law_some"] ["_law_purse_here", "_law_some"] (defScope sOneOf) := ⟨rfl, rfl, rfl, by decide +kernel, rfl, by decide +kernel, by decide +kernel⟩
theorem ok_oneof {f fD : Addr} {fd fdD : FuncData} (F : Fun K "_law_one_of" "_law_one_of" sOneOf f fd) (T : Free mg) (kD : PySem.W.keepIn K (.ref fD) = true) (GD : FnOk P w K mg base CX0 2 fD fdD ["_law_purse_here", "_law_many"] spDraw) (bD : Binds K fdD ["_law_purse_here", "_law_many"] []) (gD : mg "_law_draw" = some (.ref fD)) :
    FnOk P w K mg base CX0 3 f fd ["_law_purse_here", "_law_some"] spOneOf := by
  refine F.ok scO (fun vs H Q E h => ?_) (fun cdv A outer s H vs Q E hr h => ?_)
  · obtain ⟨p, L, xs, t, rfl, _⟩ := h; rfl
  · obtain ⟨p, L, xs, t, rfl, hp, hL, ne, l1, l2, t1, k⟩ := h
    refine ⟨_, pss_one (ps_ret (pe_ix ix_list (pv 1) (pe_call GD (hr.mono (by decide)) rfl gD kD bD .nil pass0 (pa_cons (pv 0) (pa_cons (pe_callB call_len_seq (by rfl) T.len PySem.boot_len (pa_cons (pv 1) pa_nil)) pa_nil))) (fun _ _ => rfl))), ?_⟩
    refine ⟨_, rfl, _, rfl, _, rfl, L, _, rfl, .inl (SqL.of hL), p, _, t, rfl, hp, by omega, by omega, t1, fun r t' o r0 r1 tt hp' => ?_⟩
    have hr2 : r.toNat < xs.length := by omega
    refine ⟨L, xs, r, xs[r.toNat], rfl, rfl, SqL.of (by rw [upd_ne ne]; exact hL), at_of (j := r.toNat) (by omega) (List.getElem?_eq_getElem hr2), ?_⟩
    exact k r.toNat _ t' o (List.getElem?_eq_getElem hr2) tt hp'
/-- single letters -/
def Let (y : Str) : Prop := ∃ c, 97 ≤ c ∧ c ≤ 122 ∧ y = ⟨#[c]⟩
theorem joinL_nil : ∀ ys : List (List Nat), (∀ y ∈ ys, ∃ c, 97 ≤ c ∧ c ≤ 122 ∧ y = [c]) → (TL.joinL [] ys).length = ys.length ∧ ∀ c ∈ TL.joinL [] ys, 97 ≤ c ∧ c ≤ 122
  | [], _ => ⟨rfl, fun c h => by cases h⟩
  | [p], h => by
    obtain ⟨c, c1, c2, rfl⟩ := h p (List.mem_singleton.mpr rfl)
    exact ⟨rfl, fun d hd => by obtain rfl : d = c := List.mem_singleton.mp hd; exact ⟨c1, c2⟩⟩
  | p :: q :: r, h => by
    obtain ⟨c, c1, c2, rfl⟩ := h p List.mem_cons_self
    obtain ⟨l, m⟩ := joinL_nil (q :: r) fun y hy => h y (List.mem_cons_of_mem _ hy)
    show ([c] ++ ([] ++ TL.joinL [] (q :: r))).length = _ ∧ ∀ d ∈ ([c] ++ ([] ++ TL.joinL [] (q :: r))), _
    refine ⟨by rw [List.length_append, List.nil_append, l]; simp; omega, fun d hd => ?_⟩
    rcases List.mem_append.mp hd with hd | hd
    · obtain rfl : d = c := List.mem_singleton.mp hd; exact ⟨c1, c2⟩
    · exact m d (by simpa using hd)
theorem word_of {ys : List Str} (h : ∀ y ∈ ys, Let y) : (Txt.join "" ys).length = ys.length ∧ ∀ c ∈ (Txt.join "" ys).cps.toList, 97 ≤ c ∧ c ≤ 122 := by
  have e : (Txt.join "" ys).cps.toList = TL.joinL [] (ys.map TL.tl) := by rw [TL.join_eq]; exact TL.tl_join "" ys
  obtain ⟨a, b⟩ := joinL_nil (ys.map TL.tl) fun y hy => by
    obtain ⟨z, hz, rfl⟩ := List.mem_map.mp hy
    obtain ⟨c, c1, c2, rfl⟩ := h z hz
    exact ⟨c, c1, c2, rfl⟩
  rw [List.length_map] at a
  refine ⟨?_, fun c hc => b c (e ▸ hc)⟩
  show (Txt.join "" ys).cps.size = _
  rw [← Array.length_toList, e, a]
theorem abc_at (r : Int) (r0 : 0 ≤ r) (r1 : r < 26) : ∃ c, atI (Str.ofString "abcdefghijklmnopqrstuvwxyz").cps.toList r = some c ∧ 97 ≤ c ∧ c ≤ 122 := by
  have h : ∀ j : Fin 26, ∃ c, (Str.ofString "abcdefghijklmnopqrstuvwxyz").cps.toList[j.val]? = some c ∧ 97 ≤ c ∧ c ≤ 122 := by
    intro j
    refine ⟨97 + j.val, ?_, by omega, by omega⟩
    revert j
    decide +kernel
  obtain ⟨c, e, q⟩ := h ⟨r.toNat, by omega⟩
  refine ⟨c, ?_, q⟩
  rw [show r = ((r.toNat : Nat) : Int) by omega]
  exact atI_nat e
theorem scW : FnScope ["_law_purse_here", "_law_size", "_law_turn"] ["_law_purse_here"] (defScope sWord) := ⟨rfl, rfl, rfl, by decide +kernel, rfl, by decide +kernel, by decide +kernel⟩
theorem ok_word {f fD : Addr} {fd fdD : FuncData} (F : Fun K "_law_word" "_law_word" sWord f fd) (T : Free mg) (kD : PySem.W.keepIn K (.ref fD) = true) (GD : FnOk P w K mg base CX0 2 fD fdD ["_law_purse_here", "_law_many"] spDraw) (bD : Binds K fdD ["_law_purse_here", "_law_many"] []) (gD : mg "_law_draw" = some (.ref fD)) :
    FnOk P w K mg base CX0 3 f fd ["_law_purse_here"] spWord := by
  refine F.ok scW (fun vs H Q E h => ?_) (fun cdv A outer s H vs Q E hr h => ?_)
  · obtain ⟨p, t, rfl, _⟩ := h; rfl
  · obtain ⟨p, t, rfl, hp, t1, k⟩ := h
    refine ⟨_, pss_cons (ps_set (i := 1) scW.nd rfl (Or.inl rfl) (pe_op op_add pe_int (pe_call GD (hr.mono (by decide)) rfl gD kD bD .nil pass0 (pa_cons (pv 0) (pa_cons (pe_ifExp (pt_cmpR op_eq (pe_call GD (hr.mono (by decide)) rfl gD kD bD .nil pass0 (pa_cons (pv 0) (pa_cons pe_int pa_nil))) pe_int (nomark _)) pe_int pe_int) pa_nil)))))
      (pss_one (ps_ret (pe_join pe_str (pe_lc (own := [("_law_turn", 2)]) (g := gName 2) (tt := tYes) rfl scW.nd (pi_range1 rfl T.range (pa_cons (pv 1) pa_nil))
        (blkOk_by (N := ["_law_purse_here", "_law_size", "_law_turn"]) (sc := defScope sWord) (by decide +kernel)) (fun _ _ _ _ _ => pg_name (i := 2) scW.nd rfl (Or.inl rfl)) (fun _ _ _ _ _ => pts_nil)
        (fun _ _ _ _ _ => pe_ix ix_str pe_str (pe_call GD (hr.mono (by decide)) rfl gD kD bD .nil pass0 (pa_cons (pv 0) (pa_cons pe_int pa_nil))) (fun _ _ => rfl)))))), ?_⟩
    refine ⟨_, rfl, _, rfl, p, 3, t, rfl, hp, by decide, by decide, by omega, fun r1 t2 o1 r10 r11 tt1 hp1 => ?_⟩
    refine ⟨rfl, _, rfl, ?_⟩
    refine ite2 (fun _ => ?_) (fun _ => ?_) <;> refine ⟨p, _, t2, rfl, hp1, by decide, by decide, by omega, fun r2 t3 o2 r20 r21 tt2 hp2 => ⟨_, _, rfl, rfl, ?_⟩⟩
    all_goals
      have rb : r2 < 8 := by omega
      clear r21
      have bt : But p H (L2.upd (L2.upd H p o1) p o2) := (But.upd p H o1).trans (But.upd p _ o2)
      generalize L2.upd (L2.upd H p o1) p o2 = H0 at hp2 bt
      refine ⟨⟨_, rfl⟩, _, rfl, _, rfl, by omega, by omega, fun D hD => ?_⟩
      have nD : p ≠ D := by obtain ⟨o, ho⟩ := hp2.some; exact ne_of_none ho hD
      refine lc_range (n := (1 + r2).toNat) (fun i H' => ∃ ys : List Str, ys.length = i ∧ (∀ y ∈ ys, Let y) ∧ H' D = some (.lst (ys.map V.str)) ∧ But p H0 H' ∧ ∃ t', Purse H' p t' ∧ t' ≤ t + 2 + i) ⟨[], rfl, (fun y hy => by cases hy), upd_same, But.of (Same.new hD), t3, hp2.upd nD, by omega⟩ ?_ ?_
      · rintro i H1 hi ⟨ys, ly, al, hL, b1, t', hp', tl'⟩
        refine ⟨rfl, ?_⟩
        dsimp only [tYes]
        rw [if_pos rfl]
        refine ⟨_, rfl, p, 26, t', rfl, hp', by decide, by decide, by omega, fun r t4 o r0 r1 tt hp4 => ?_⟩
        obtain ⟨c, ec, c1, c2⟩ := abc_at r r0 r1
        refine ⟨_, r, c, rfl, rfl, by decide +kernel, ec, _, by rw [upd_ne nD.symm]; exact hL, by rw [List.length_map, ly, sizeLine_eq]; omega, ys ++ [⟨#[c]⟩], by rw [List.length_append, ly]; rfl, fun y hy => ?_, ?_, ?_, t4, hp4.upd nD, by omega⟩
        · rcases List.mem_append.mp hy with hy | hy
          · exact al y hy
          · exact ⟨c, c1, c2, by simpa using hy⟩
        · rw [upd_same, List.map_append]; rfl
        · intro b u nb e
          have nbD : b ≠ D := ne_of_none e hD
          rw [upd_ne nbD, upd_ne nb]; exact b1 b u nb e
      · rintro H1 ⟨ys, ly, al, hL, b1, t', hp', tl'⟩
        obtain ⟨lw, cw⟩ := word_of al
        refine ⟨_, D, ys, rfl, rfl, .inl (SqL.of hL), ?_, ?_⟩
        · have one : (ys.map (·.length)).sum ≤ ys.length := by
            clear lw cw hL ly
            induction ys with
            | nil => exact Nat.le_refl _
            | cons y r ih =>
              obtain ⟨c, _, _, rfl⟩ := al y List.mem_cons_self
              have := ih fun z hz => al z (List.mem_cons_of_mem _ hz)
              simp only [List.map_cons, List.sum_cons, List.length_cons]
              show 1 + _ ≤ _
              omega
          have z0 : (Str.ofString "").length = 0 := rfl
          rw [z0]; omega
        · exact k _ H1 t' (by rw [lw]; omega) (by rw [lw]; omega) cw (bt.trans b1) hp' (by omega)
end
end D1
end L2
/-! what is hidden of a heap; shuffled -/
namespace L2
namespace D1
open PySem PySem.Spec PyProof.Rows
/-- the heap without what stands at S -/
def cut (S : List Addr) (H : Hp) : Hp := fun b => if b ∈ S then none else H b
section
variable {S : List Addr} {H H' : Hp} {p q D : Addr} {o : HO}
theorem cut_in (h : q ∈ S) : cut S H q = none := if_pos h
theorem cut_out (h : q ∉ S) : cut S H q = H q := if_neg h
theorem cut_some {u : HO} (h : cut S H q = some u) : q ∉ S ∧ H q = some u := by
  unfold cut at h
  split at h
  · cases h
  · exact ⟨by assumption, h⟩
theorem cut_le : Same (cut S H) H := fun _ _ h => (cut_some h).2
theorem cut_mono {S' : List Addr} (h : ∀ b ∈ S', b ∈ S) : Same (cut S H) (cut S' H) := fun b o e => by
  obtain ⟨n, e⟩ := cut_some e
  rw [cut_out fun z => n (h b z)]; exact e
theorem cut_upd (h : q ∈ S) : cut S (upd H q o) = cut S H := by
  funext b
  by_cases hb : b ∈ S
  · rw [cut_in hb, cut_in hb]
  · rw [cut_out hb, cut_out hb, upd_ne fun e => hb (by rw [e]; exact h)]
theorem cut_same (s : Same H H') : Same (cut S H) (cut S H') := fun b o e => by
  obtain ⟨n, e⟩ := cut_some e
  rw [cut_out n]; exact s _ _ e
theorem cut_but (s : But p H H') (h : p ∈ S) : Same (cut S H) (cut S H') := fun b o e => by
  obtain ⟨n, e⟩ := cut_some e
  rw [cut_out n]; exact s _ _ (fun z => n (z ▸ h)) e
theorem cut_new (n : H q = none) : Same (cut S H) (cut S (upd H q o)) := cut_same (Same.new n)
/-- what is new may be hidden -/
theorem cut_hide (n : H q = none) : Same (cut S H) (cut (q :: S) H) := fun b o e => by
  obtain ⟨m, e⟩ := cut_some e
  rw [cut_out fun z => by rcases List.mem_cons.mp z with z | z; exact absurd e (by rw [z, n]; exact fun y => by cases y); exact m z]; exact e
theorem cut_nil : Same H (cut [] H) := fun b o e => by rw [cut_out (by simp)]; exact e
theorem But.cut (s : But p H H') : Same (cut [p] H) (cut [p] H') := cut_but s (by simp)
theorem But.new (n : H q = none) : But p H (L2.upd H q o) := But.of (Same.new n)
/-- a list of texts -/
def SL (H : Hp) (a : Addr) (ss : List Str) : Prop := H a = some (.lst (ss.map V.str))
theorem SL.same {a : Addr} {ss : List Str} (h : SL H a ss) (s : Same H H') : SL H' a ss := s _ _ h
theorem SL.sq {K : PySem.W.Frag} {a : Addr} {ss : List Str} (h : SL H a ss) : SqL K H a (ss.map V.str) := SqL.of h
end
theorem perm_ins {α : Type} (xs : List α) (i : Nat) (y : α) : (xs.take i ++ [y] ++ xs.drop i).Perm (xs ++ [y]) := by
  have h : (xs.take i ++ ([y] ++ xs.drop i)).Perm (xs.take i ++ (xs.drop i ++ [y])) := (List.perm_append_comm).append_left _
  rw [List.append_assoc]
  refine h.trans ?_
  rw [← List.append_assoc, List.take_append_drop]
theorem take_succ_get {α : Type} {xs : List α} {i : Nat} {x : α} (h : xs[i]? = some x) : xs.take (i + 1) = xs.take i ++ [x] := by
  rw [List.take_succ, h]; rfl
abbrev sShuf : Stmt := top 31
def spShuf : Sp := fun vs H Q _ => ∃ (p L : Addr) (xs : List V) (t : Int), vs = [.ref p, .ref L] ∧ Purse H p t ∧ H L = some (.lst xs) ∧ L ≠ p ∧ xs.length ≤ 1000 ∧ t < 2 ^ 29 ∧
  ∀ (H' : Hp) (R : Addr) (ys : List V) (t' : Int), But p H H' → H R = none → H' R = some (.lst ys) → ys.Perm xs → Purse H' p t' → t' ≤ t + xs.length → Q (.ref R) H'
section
variable {P : Program} {w : World} {K : PySem.W.Frag} {mg : Str → Option Value} {base : Heap}
theorem scSh : FnScope ["_law_purse_here", "_law_some", "_law_found", "_law_item"] ["_law_purse_here", "_law_some"] (defScope sShuf) := ⟨rfl, rfl, rfl, by decide +kernel, rfl, by decide +kernel, by decide +kernel⟩
theorem ok_shuf {f fD : Addr} {fd fdD : FuncData} (F : Fun K "_law_shuffled" "_law_shuffled" sShuf f fd) (T : Free mg) (kD : PySem.W.keepIn K (.ref fD) = true) (GD : FnOk P w K mg base CX0 2 fD fdD ["_law_purse_here", "_law_many"] spDraw) (bD : Binds K fdD ["_law_purse_here", "_law_many"] []) (gD : mg "_law_draw" = some (.ref fD)) :
    FnOk P w K mg base CX0 3 f fd ["_law_purse_here", "_law_some"] spShuf := by
  refine F.ok scSh (fun vs H Q E h => ?_) (fun cdv A outer s H vs Q E hr h => ?_)
  · obtain ⟨p, L, xs, t, rfl, _⟩ := h; rfl
  · obtain ⟨p, L, xs, t, rfl, hp, hL, ne, l1, t1, k⟩ := h
    refine ⟨_, pss_cons (ps_set (i := 2) scSh.nd rfl (Or.inl rfl) (pe_lst pa_nil))
      (pss_cons (ps_for PassesOwn.never rfl (pi_list (pv 1)) (pg_name (i := 3) scSh.nd rfl (Or.inl rfl))
        (pss_one (ps_expr (pe_bm PySem.F.plainAttrs_list PySem.F.slot_list_insert PySem.F.type_list_insert mt_insert (pv 2)
          (pa_cons (pe_call GD (hr.mono (by decide)) rfl gD kD bD .nil pass0 (pa_cons (pv 0) (pa_cons (pe_op op_add (pe_callB call_len_seq (by rfl) T.len PySem.boot_len (pa_cons (pv 2) pa_nil)) pe_int) pa_nil))) (pa_cons (pv 3) pa_nil))))))
      (pss_one (ps_ret (pv 2)))), ?_⟩
    refine ⟨by decide, fun D hD => ?_⟩
    have nD : p ≠ D := by obtain ⟨o, ho⟩ := hp.some; exact ne_of_none ho hD
    have nL : L ≠ D := ne_of_none hL hD
    refine ⟨_, rfl, L, rfl, ⟨_, SqL.of (by rw [upd_ne nL]; exact hL)⟩, for_list (xs := xs) (K := K) (fun i σ H' => ∃ (v : Option V) (ys : List V) (t' : Int), σ = [some (.ref p), some (.ref L), some (.ref D), v] ∧ But p H H' ∧ H' D = some (.lst ys) ∧ ys.Perm (xs.take i) ∧ Purse H' p t' ∧ t' ≤ t + i) ⟨none, [], t, rfl, But.new hD, upd_same, by simp, hp.upd nD, by omega⟩ ?_ ?_ ?_⟩
    · rintro i σ H' hi ⟨v, ys, t', rfl, b, _⟩
      exact SqL.of (b _ _ ne hL)
    · rintro i x σ H' hx ⟨v, ys, t', rfl, b, hD', pm, hp', tt⟩
      have hi : i < xs.length := (List.getElem?_eq_some_iff.mp hx).1
      have ly : ys.length = i := by rw [pm.length_eq, List.length_take]; omega
      refine ⟨_, rfl, .inl ⟨rfl, _, SqL.of hD'⟩, _, rfl, _, rfl, D, _, rfl, .inl (SqL.of hD'), _, _, rfl, rfl, p, _, t', rfl, hp', by omega, by omega, by omega, fun r t2 o r0 r1 tt2 hp2 => ?_⟩
      refine ⟨_, rfl, D, ys, r, x, rfl, rfl, by rw [upd_ne nD.symm]; exact hD', by rw [sizeLine_eq]; omega, r0, by omega, ?_⟩
      refine ⟨_, _, t2, rfl, ?_, upd_same, ?_, hp2.upd nD, by omega⟩
      · intro b' u nb e
        rw [upd_ne (ne_of_none e hD), upd_ne nb]; exact b b' u nb e
      · rw [take_succ_get hx]
        exact (perm_ins ys _ x).trans (pm.append_right _)
    · rintro σ H' ⟨v, ys, t', rfl, b, hD', pm, hp', tt⟩
      rw [List.take_length] at pm
      exact ⟨_, rfl, k H' D ys t' b hD hD' pm hp' tt⟩
end
end D1
end L2
/-! calls told in one piece; list of a text; words -/
namespace L2
namespace D1
open PySem PySem.Spec PyProof.Rows
/-- the def that stands under the name x keeps a promise -/
structure Cal (P : Program) (w : World) (K : PySem.W.Frag) (mg : Str → Option Value) (base : Heap) (x : Str) (k : Nat) (ps : List Str) (sp : Sp) : Prop where
  ex : ∃ f fd, mg x = some (.ref f) ∧ PySem.W.keepIn K (.ref f) = true ∧ FnOk P w K mg base CX0 k f fd ps sp ∧ Binds K fd ps []
theorem pe_cal {X : Cx} {x : Str} {k : Nat} {ps : List Str} {sp : Sp} {e : Expr} {es : List Expr} {t : TA} {p pos : Pos} (C : Cal X.prog X.w X.K X.mg X.base x k ps sp) (hr : Room k X.A) (hg : Gl X x) (ha : PA X (e :: es) t)
    (hdb : (x == ("__debug__" : Str)) = false := by decide) (he : starEach (e :: es) X.env = (false, eval e X.env) :: starEach es X.env := by rfl) (hpl : (backTo pos (starEach es X.env)).any (·.1) = false := by rfl) :
    PE X (.Call (.Name x p) (e :: es) [] pos) (tCall sp [] E0 t) := by
  obtain ⟨f, fd, h1, h2, h3, h4⟩ := C.ex
  exact pe_call h3 hr hg h1 h2 h4 .nil pass0 ha hdb he hpl
theorem Cal.of {P : Program} {w : World} {K : PySem.W.Frag} {mg : Str → Option Value} {base : Heap} {x : Str} {k : Nat} {ps : List Str} {sp : Sp} {f : Addr} {fd : FuncData} (g : mg x = some (.ref f)) (kp : PySem.W.keepIn K (.ref f) = true) (F : FnOk P w K mg base CX0 k f fd ps sp) (b : Binds K fd ps []) : Cal P w K mg base x k ps sp := ⟨⟨f, fd, g, kp, F, b⟩⟩
def signs (z : Str) : List Str := z.cps.toList.map fun c => ⟨#[c]⟩
theorem call_listStr {X : Cx} (hc : X.calm = true) : CallR X (.type "list") (fun xs H Q => ∃ z : Str, xs = [.str z] ∧ z.cps.size ≤ sizeLine ∧ ∀ l, H l = none → Q (.ref l) (upd H l (.lst ((signs z).map V.str)))) := by
  intro pins s σ H xs us Q I r h
  obtain ⟨z, rfl, hz, q⟩ := h
  obtain ⟨u, rfl, t, rfl⟩ := vals1 r
  refine PySem.call_list_str (I.ok.hd hc) z t (fun h' tk acc' c' hkeep hS hacc => ?_) hz
  refine ⟨.ref s.heap.objs.size, upd H s.heap.objs.size (.lst ((signs z).map V.str)), I.laid hkeep (Nat.le_refl _) (show ObjOk X.prog X.w _ _ _ (.lst ((signs z).map V.str)) from ⟨?_, acc'.toList, c', ?_, ?_⟩), rfl, q _ (I.hok.fresh (Nat.le_refl _))⟩
  · rw [List.length_map, signs, List.length_map, Array.length_toList]; exact hz
  · have el : acc'.toList.length = acc'.size := by simp
    refine vals_of_at (by rw [List.length_map, signs, List.length_map, Array.length_toList, el, hacc.1]) fun j x w h1 h2 => ?_
    obtain ⟨c, v, hc, rfl⟩ := hacc.2 j w (by rw [← Array.getElem?_toList]; exact h2)
    rw [signs, List.map_map, List.getElem?_map, Array.getElem?_toList, hc] at h1
    cases h1
    exact ⟨v, rfl⟩
  · rw [Array.toArray_toList]; exact hS
def tl (x : Str) : List Nat := x.cps.toList
theorem tl_len (x : Str) : (tl x).length = x.length := Array.length_toList
theorem tl_app (x y : Str) : tl (x ++ y) = tl x ++ tl y := by
  show (x.cps ++ y.cps).toList = _
  rw [Array.toList_append]; rfl
theorem tl_ext {x y : Str} (h : tl x = tl y) : x = y := by
  cases x; cases y; exact congrArg _ (Array.toList_inj.mp h)
theorem tl_cut (z : Str) (lo hi : Option Int) : tl (cutS z lo hi) = ((tl z).drop (HT.sIx z.length 0 lo)).take (HT.sIx z.length z.length hi - HT.sIx z.length 0 lo) := rfl
/-- a word -/
structure Wd (x : Str) : Prop where
  lo : 1 ≤ x.length
  hi : x.length ≤ 8
  ok : ∀ c ∈ tl x, 97 ≤ c ∧ c ≤ 122
theorem wd_let {c : Nat} (h1 : 97 ≤ c) (h2 : c ≤ 122) : Wd ⟨#[c]⟩ := ⟨by show 1 ≤ 1; decide, by show 1 ≤ 8; decide, fun d hd => by obtain rfl : d = c := List.mem_singleton.mp hd; exact ⟨h1, h2⟩⟩
theorem sIx_of {n d : Nat} {r : Int} (h : 0 ≤ r) : HT.sIx n d (some r) = min r.toNat n := by
  show (if r < 0 then _ else _) = _
  rw [if_neg (by omega)]
theorem wd_bent {b : Str} {r : Int} {c : Nat} (h : Wd b) (r0 : 0 ≤ r) (r1 : r < b.length) (h1 : 97 ≤ c) (h2 : c ≤ 122) : Wd (cutS b none (some r) ++ ⟨#[c]⟩ ++ cutS b (some (r + 1)) none) := by
  have e : tl (cutS b none (some r) ++ ⟨#[c]⟩ ++ cutS b (some (r + 1)) none) = (tl b).take r.toNat ++ [c] ++ (tl b).drop (r + 1).toNat := by
    rw [tl_app, tl_app, tl_cut, tl_cut, HT.sIx_none, HT.sIx_none, sIx_of r0, sIx_of (by omega), Nat.min_eq_left (by omega), Nat.min_eq_left (by omega), Nat.sub_zero, List.drop_zero]
    congr 1
    refine List.take_of_length_le ?_
    rw [List.length_drop, tl_len]; omega
  have l : (cutS b none (some r) ++ ⟨#[c]⟩ ++ cutS b (some (r + 1)) none).length = b.length := by
    rw [← tl_len, e, List.length_append, List.length_append, List.length_take, List.length_drop, tl_len]
    simp only [List.length_singleton]
    omega
  refine ⟨by rw [l]; exact h.lo, by rw [l]; exact h.hi, fun d hd => ?_⟩
  rw [e] at hd
  rcases List.mem_append.mp hd with hd | hd
  · rcases List.mem_append.mp hd with hd | hd
    · exact h.ok d (List.mem_of_mem_take hd)
    · obtain rfl : d = c := List.mem_singleton.mp hd; exact ⟨h1, h2⟩
  · exact h.ok d (List.mem_of_mem_drop hd)
theorem inV_str (x : Str) : ∀ ss : List Str, inV (.str x) (ss.map V.str) = decide (x ∈ ss)
  | [] => by simp [inV]
  | y :: r => by
    have ih := inV_str x r
    unfold inV at ih ⊢
    rw [List.map_cons, List.any_cons, ih]
    show (y == x || decide (x ∈ r)) = _
    by_cases h : y = x
    · subst h; simp
    · have h1 : (y == x) = false := beq_eq_false_iff_ne.mpr h
      have h2 : ¬ x = y := fun e => h e.symm
      rw [h1, Bool.false_or]
      by_cases h3 : x ∈ r <;> simp [h2, h3]
theorem flat_strs (ss : List Str) : (ss.map V.str).all flatV = true := by
  induction ss with
  | nil => rfl
  | cons a r ih => rw [List.map_cons, List.all_cons, ih]; rfl
theorem pigeon {α : Type} [DecidableEq α] : ∀ (l m : List α), l.Nodup → (∀ x ∈ l, x ∈ m) → l.length ≤ m.length
  | [], _, _, _ => Nat.zero_le _
  | x :: r, m, nd, h => by
    have nd' := List.nodup_cons.mp nd
    have hx := h x List.mem_cons_self
    have ih := pigeon r (m.erase x) nd'.2 fun y hy => (List.mem_erase_of_ne fun e => nd'.1 (by rw [← e]; exact hy)).mpr (h y (List.mem_cons_of_mem _ hy))
    rw [List.length_erase_of_mem hx] at ih
    have : 0 < m.length := List.length_pos_of_mem hx
    rw [List.length_cons]; omega
def abc : Str := Str.ofString "abcdefghijklmnopqrstuvwxyz"
theorem abc_len : (signs abc).length = 26 := by decide +kernel
theorem abc_nd : (signs abc).Nodup := by decide +kernel
theorem abc_wd : ∀ x ∈ signs abc, Wd x := by
  have h : ∀ c ∈ tl abc, 97 ≤ c ∧ c ≤ 122 := by decide +kernel
  intro x hx
  obtain ⟨c, hc, rfl⟩ := List.mem_map.mp hx
  exact wd_let (h c hc).1 (h c hc).2
theorem abc_left {ss : List Str} (h : ss.length < 26) : ∃ x r, (signs abc).filter (fun x => decide (x ∉ ss)) = x :: r ∧ x ∉ ss ∧ Wd x := by
  cases e : (signs abc).filter (fun x => decide (x ∉ ss)) with
  | nil =>
    exfalso
    have := pigeon (signs abc) ss abc_nd fun x hx => Classical.byContradiction fun n => by
      have : x ∈ (signs abc).filter (fun x => decide (x ∉ ss)) := List.mem_filter.mpr ⟨hx, by simpa using n⟩
      rw [e] at this; cases this
    rw [abc_len] at this; omega
  | cons x r =>
    have h1 : x ∈ (signs abc).filter (fun x => decide (x ∉ ss)) := by rw [e]; exact List.mem_cons_self
    obtain ⟨h2, h3⟩ := List.mem_filter.mp h1
    exact ⟨x, r, rfl, by simpa using h3, abc_wd x h2⟩
end D1
end L2
/-! words, pool -/
namespace L2
namespace D1
open PySem PySem.Spec PyProof.Rows
structure Free2 (mg : Str → Option Value) : Prop extends Free mg where
  list : mg "list" = none
  dict : mg "dict" = none
  tuple : mg "tuple" = none
  str : mg "str" = none
  bool : mg "bool" = none
  zip : mg "zip" = none
  sorted : mg "sorted" = none
abbrev sWords : Stmt := top 34
abbrev sPool : Stmt := top 35
def spWords : Sp := fun vs H Q _ => ∃ (p : Addr) (n t : Int), vs = [.ref p, .int n] ∧ Purse H p t ∧ 0 ≤ n ∧ n ≤ 20 ∧ t < 2 ^ 28 ∧
  ∀ (H' : Hp) (R : Addr) (ss : List Str) (t' : Int), But p H H' → H R = none → SL H' R ss → ss.length = n.toNat → ss.Nodup → (∀ x ∈ ss, Wd x) → Purse H' p t' → t' ≤ t + 300 → Q (.ref R) H'
theorem upd_none' {H : Hp} {a b : Addr} {o : HO} (e : L2.upd H a o b = none) : H b = none := by
  by_cases h : b = a
  · rw [h, upd_same] at e; cases e
  · rw [upd_ne h] at e; exact e
theorem But.fr {p b : Addr} {H H' : Hp} (h : But p H H') (e : H' b = none) (n : b ≠ p) : H b = none := by
  cases z : H b with
  | none => rfl
  | some o => rw [h b o n z] at e; cases e
theorem But.ofL {p L : Addr} {H0 H : Hp} {o : HO} (n : H0 L = Option.none) : But p H0 H → But p H0 (L2.upd H L o) := fun s b u nb e => by
  rw [upd_ne (ne_of_none e n)]; exact s b u nb e
theorem get_map {α β : Type} {f : α → β} {l : List α} {i : Nat} {y : β} (h : (l.map f)[i]? = some y) : ∃ x, l[i]? = some x ∧ y = f x := by
  rw [List.getElem?_map] at h
  obtain ⟨x, h1, h2⟩ := Option.map_eq_some_iff.mp h
  exact ⟨x, h1, h2.symm⟩
theorem nodup_app {α : Type} {l : List α} {x : α} (h : l.Nodup) (n : x ∉ l) : (l ++ [x]).Nodup :=
  List.nodup_append.mpr ⟨h, by simp, fun a ha b hb e => by obtain rfl : b = x := List.mem_singleton.mp hb; exact n (e ▸ ha)⟩
theorem wd_app {l : List Str} {x : Str} (h : ∀ y ∈ l, Wd y) (w : Wd x) : ∀ y ∈ l ++ [x], Wd y := fun y hy => by
  rcases List.mem_append.mp hy with hy | hy
  · exact h y hy
  · obtain rfl : y = x := List.mem_singleton.mp hy; exact w
theorem filt_yes {α : Type} {l : List α} {j : Nat} {z : α} {f : α → Bool} (h : l[j]? = some z) (b : f z = true) : (l.take (j + 1)).filter f = (l.take j).filter f ++ [z] := by
  rw [take_succ_get h, List.filter_append]; simp [List.filter, b]
theorem filt_no {α : Type} {l : List α} {j : Nat} {z : α} {f : α → Bool} (h : l[j]? = some z) (b : f z = false) : (l.take (j + 1)).filter f = (l.take j).filter f := by
  rw [take_succ_get h, List.filter_append]; simp [List.filter, b]
theorem cut_len (z : Str) (lo hi : Option Int) : (cutS z lo hi).length ≤ z.length := by
  rw [← tl_len, tl_cut, List.length_take, List.length_drop, tl_len]; omega
theorem bent_len1 {b : Str} {r : Int} {c : Nat} (h : Wd b) : (cutS b none (some r)).length + (⟨#[c]⟩ : Str).length ≤ sizeLine := by
  have := cut_len b none (some r); have := h.hi; rw [sizeLine_eq]; show _ + 1 ≤ _; omega
theorem bent_len2 {b : Str} {r r2 : Int} {c : Nat} (h : Wd b) : (cutS b none (some r) ++ ⟨#[c]⟩).length + (cutS b (some r2) none).length ≤ sizeLine := by
  have h1 := cut_len b none (some r); have h2 := cut_len b (some r2) none; have := h.hi
  rw [← tl_len, tl_app, List.length_append, tl_len, sizeLine_eq]
  show _ + 1 + _ ≤ _; omega
section
variable {P : Program} {w : World} {K : PySem.W.Frag} {mg : Str → Option Value} {base : Heap}
abbrev CDraw (P : Program) (w : World) (K : PySem.W.Frag) (mg : Str → Option Value) (base : Heap) := Cal P w K mg base "_law_draw" 2 ["_law_purse_here", "_law_many"] spDraw
abbrev CWord (P : Program) (w : World) (K : PySem.W.Frag) (mg : Str → Option Value) (base : Heap) := Cal P w K mg base "_law_word" 3 ["_law_purse_here"] spWord
abbrev CShuf (P : Program) (w : World) (K : PySem.W.Frag) (mg : Str → Option Value) (base : Heap) := Cal P w K mg base "_law_shuffled" 3 ["_law_purse_here", "_law_some"] spShuf
abbrev CWords (P : Program) (w : World) (K : PySem.W.Frag) (mg : Str → Option Value) (base : Heap) := Cal P w K mg base "_law_words" 4 ["_law_purse_here", "_law_many"] spWords
theorem scWs : FnScope ["_law_purse_here", "_law_many", "_law_base", "_law_near", "_law_spot", "_law_found", "_law_turn", "_law_word_here", "_law_letter"] ["_law_purse_here", "_law_many"] (defScope sWords) := ⟨rfl, rfl, rfl, by decide +kernel, rfl, by decide +kernel, by decide +kernel⟩
theorem ok_words {f : Addr} {fd : FuncData} (F : Fun K "_law_words" "_law_words" sWords f fd) (T : Free2 mg) (CD : CDraw P w K mg base) (CW : CWord P w K mg base) :
    FnOk P w K mg base CX0 4 f fd ["_law_purse_here", "_law_many"] spWords := by
  refine F.ok scWs (fun vs H Q E h => ?_) (fun cdv A outer s H vs Q E hr h => ?_)
  · obtain ⟨p, n, t, rfl, _⟩ := h; rfl
  · obtain ⟨p, n, t, rfl, hp, n0, n1, t1, k⟩ := h
    refine ⟨_, pss_cons (ps_par (i := 2) (j := 3) rfl scWs.nd rfl rfl (by decide) rfl rfl (pa_cons (pe_cal CW (hr.mono (by decide)) rfl (pa_cons (pv 0) pa_nil)) (pa_cons (pe_cmpR op_eq (pe_cal CD (hr.mono (by decide)) rfl (pa_cons (pv 0) (pa_cons pe_int pa_nil))) pe_int (nomark _)) pa_nil)) (by rfl))
      (pss_cons (ps_asg (pe_tup (pa_cons (pe_cal CD (hr.mono (by decide)) rfl (pa_cons (pv 0) (pa_cons (pe_callB call_len_str (by rfl) T.len PySem.boot_len (pa_cons (pv 2) pa_nil)) pa_nil))) (pa_cons (pe_lst pa_nil) pa_nil))) (pg_tup rfl (pgs_cons (pg_name (i := 4) scWs.nd rfl (Or.inl rfl)) (pgs_cons (pg_name (i := 5) scWs.nd rfl (Or.inr rfl)) pgs_nil))))
      (pss_cons (ps_for PassesOwn.never rfl (pi_range1 rfl T.range (pa_cons (pv 1) pa_nil)) (pg_name (i := 6) scWs.nd rfl (Or.inl rfl))
        (pss_cons (ps_set (i := 7) scWs.nd rfl (Or.inl rfl) (pe_op op_add_str (pe_op op_add_str (pe_slice sl_str (pv 2) po_none (po_some (pv 4))) (pe_ix ix_str pe_str (pe_cal CD (hr.mono (by decide)) rfl (pa_cons (pv 0) (pa_cons pe_int pa_nil))) (fun _ _ => rfl))) (pe_slice sl_str (pv 2) (po_some (pe_op op_add (pv 4) pe_int)) po_none)))
        (pss_cons (ps_if (pt_not (pt_truth (pv 3) (by intro _; rfl))) (pss_one (ps_set (i := 7) scWs.nd rfl (Or.inl rfl) (pe_cal CW (hr.mono (by decide)) rfl (pa_cons (pv 0) pa_nil)))) pss_nil)
        (pss_cons (ps_if (pt_cmpR op_in_seq (pv 7) (pv 5) rfl) (pss_one (ps_set (i := 7) scWs.nd rfl (Or.inl rfl) (pe_ix ix_list (pe_lc (own := [("_law_letter", 8)]) (g := gName 8) (tt := tTest (tOp (rIn K true) (tVar 8) (tVar 5))) rfl scWs.nd
            (pi_list (pe_callTy (call_listStr rfl) (by rfl) T.list (by decide +kernel) (pa_cons pe_str pa_nil)))
            (blkOk_by (N := ["_law_purse_here", "_law_many", "_law_base", "_law_near", "_law_spot", "_law_found", "_law_turn", "_law_word_here", "_law_letter"]) (sc := defScope sWords) (by decide +kernel)) (fun _ _ _ _ _ => pg_name (i := 8) scWs.nd rfl (Or.inl rfl))
            (fun _ _ _ _ _ => pts_one (pt_cmpR op_notIn_seq (pv 8) (pv 5) rfl)) (fun _ _ _ _ _ => pv 8)) pe_int (fun _ _ => rfl)))) pss_nil)
        (pss_one (ps_expr (pe_bm PySem.F.plainAttrs_list PySem.F.slot_list_append PySem.F.type_list_append mt_append (pv 5) (pa_cons (pv 7) pa_nil))))))))
      (pss_one (ps_ret (pv 5))))), ?_⟩
    refine ⟨_, rfl, p, t, rfl, hp, by omega, fun base' H1 t2 b1 b2 b3 bt1 hp1 tt1 => ?_⟩
    refine ⟨_, rfl, p, 3, t2, rfl, hp1, by decide, by decide, by omega, fun r t3 o r0 r1 tt2 hp2 => ?_⟩
    refine ⟨rfl, _, _, rfl, ?_⟩
    refine ⟨_, rfl, _, rfl, base', rfl, by have := sizeLine_eq; omega, p, _, t3, rfl, hp2, by omega, by omega, by omega, fun spot t4 o4 s0 s1 tt4 hp4 => ?_⟩
    refine ⟨Nat.zero_le _, fun L hL => ?_⟩
    refine ⟨by show 2 ≤ sizeLine; decide, fun T1 hT1 => ?_⟩
    have hL0 : H L = none := by
      have z := upd_none' (upd_none' hL)
      exact bt1.fr z (fun e => by obtain ⟨u, hu⟩ := hp1.some; rw [← e, z] at hu; cases hu)
    have npL : p ≠ L := by obtain ⟨u, hu⟩ := hp4.some; exact ne_of_none hu hL
    have nTL : L ≠ T1 := fun e => by rw [← e, upd_same] at hT1; cases hT1
    have npT : p ≠ T1 := by
      obtain ⟨u, hu⟩ := (hp4.upd (o := .lst []) npL).some
      exact ne_of_none hu hT1
    refine ⟨T1, _, rfl, SqT.of upd_same, rfl, _, _, rfl, _, _, rfl, rfl, ?_⟩
    have wb : Wd base' := ⟨b1, b2, b3⟩
    refine ⟨_, rfl, n, rfl, by omega, by omega, ?_⟩
    refine for_range (n := n.toNat) (fun i σ H' => ∃ (v6 v7 : Option V) (ss : List Str) (t' : Int), σ = [some (.ref p), some (.int n), some (.str base'), some (.bl (decide (V.int r = V.int 0))), some (.int spot), some (.ref L), v6, v7, none] ∧ But p H H' ∧ SL H' L ss ∧ ss.length = i ∧ ss.Nodup ∧ (∀ x ∈ ss, Wd x) ∧ Purse H' p t' ∧ t' ≤ t + 12 + 12 * i)
      ⟨none, none, [], t4, rfl, ?_, ?_, rfl, List.nodup_nil, (fun x hx => by cases hx), (hp4.upd npL).upd npT, by omega⟩ ?_ ?_
    · exact ((bt1.trans (But.upd p _ o)).trans (But.upd p _ o4)).trans ((But.new hL).trans (But.new hT1))
    · rw [SL, upd_ne nTL, upd_same]; rfl
    · rintro i σ HX hi ⟨v6, v7, ss, tX, rfl, bX, hLX, ls, nd, aw, hpX, ttX⟩
      have li : i < 20 := by omega
      refine ⟨_, rfl, _, rfl, _, rfl, base', rfl, by rw [sizeLine_eq]; omega, _, rfl, p, 26, tX, rfl, hpX, by decide, by decide, by omega, fun rc tY oY y0 y1 ttY hpY => ?_⟩
      obtain ⟨cc, ec, c1, c2⟩ := abc_at rc y0 y1
      refine ⟨_, rc, cc, rfl, rfl, by decide +kernel, ec, _, _, rfl, rfl, ?_, _, rfl, _, rfl, _, _, rfl, rfl, _, rfl, base', rfl, by rw [sizeLine_eq]; omega, _, _, rfl, rfl, ?_, ?_⟩
      · exact bent_len1 wb
      · exact bent_len2 wb
      have wwX := wd_bent wb s0 s1 c1 c2
      generalize cutS base' none (some spot) ++ ⟨#[cc]⟩ ++ cutS base' (some (spot + 1)) none = wX at wwX
      replace bX := bX.trans (But.upd p HX oY)
      replace hLX : SL (L2.upd HX p oY) L ss := by rw [SL, upd_ne npL.symm]; exact hLX
      replace hpX := hpY
      generalize L2.upd HX p oY = HX at bX hLX hpX
      clear hpY
      refine ⟨_, rfl, _, rfl, ?_⟩
      refine ite2 (fun _ => ?_) (fun _ => ?_)
      · refine ⟨_, rfl, p, tY, rfl, hpX, by omega, fun wX HX2 tX2 w1 w2 w3 btX hpX2 ttX2 => ?_⟩
        have wwX : Wd wX := ⟨w1, w2, w3⟩
        replace bX := bX.trans btX
        replace hLX : SL HX2 L ss := btX _ _ npL.symm hLX
        replace hpX := hpX2
        refine ⟨_, rfl, _, rfl, L, _, rfl, .inl hLX.sq, rfl, flat_strs ss, ?_⟩
        refine ⟨_, rfl, ?_⟩
        rw [if_neg (by decide), inV_str]
        refine ite2 (fun c => ?_) (fun c => ?_)
        · refine ⟨_, rfl, by decide +kernel, fun q hq => ⟨q, rfl, ⟨_, SqL.of upd_same⟩, fun D hD => ?_⟩⟩
          have nqL : L ≠ q := ne_of_none hLX hq
          have hDX : HX2 D = none := upd_none' hD
          have nDL : L ≠ D := ne_of_none hLX hDX
          have nDq : q ≠ D := fun e => by rw [e, upd_same] at hD; cases hD
          refine lc_list (K := K) (a := q) (xs := (signs abc).map V.str) (fun j H' => Same HX2 H' ∧ SL H' q (signs abc) ∧ SL H' D (((signs abc).take j).filter fun x => decide (x ∉ ss)))
            ⟨fun b u e => by rw [upd_ne (ne_of_none e hDX), upd_ne (ne_of_none e hq)]; exact e, by rw [SL, upd_ne nDq, upd_same]; rfl, by rw [SL, upd_same]; rfl⟩ (fun j H' _ z => z.2.1.sq) ?_ ?_
          · rintro j x H' hx ⟨sm, hq', hD'⟩
            obtain ⟨z, hz, rfl⟩ := get_map hx
            refine ⟨rfl, _, rfl, _, rfl, L, _, rfl, .inl (hLX.same sm).sq, rfl, flat_strs ss, ?_⟩
            refine ⟨_, rfl, ?_⟩
            rw [if_pos rfl, inV_str]
            have lj : j < 26 := by rw [← abc_len]; exact (List.getElem?_eq_some_iff.mp hz).1
            by_cases hzs : z ∈ ss
            · have e1 : decide (z ∈ ss) = true := decide_eq_true hzs
              rw [e1]
              refine iteF ?_
              refine ⟨sm, hq', ?_⟩
              rw [filt_no hz (by simpa using hzs)]
              exact hD'
            · have e1 : decide (z ∈ ss) = false := decide_eq_false hzs
              rw [e1]
              refine iteT ?_
              refine ⟨_, rfl, _, hD', by rw [List.length_map, sizeLine_eq]; exact Nat.lt_of_le_of_lt (List.length_filter_le _ _) (by rw [List.length_take]; omega), fun b u e => ?_, ?_, ?_⟩
              · rw [upd_ne (ne_of_none e hDX)]; exact sm _ _ e
              · rw [SL, upd_ne nDq]; exact hq'
              · rw [SL, upd_same, filt_yes hz (by simpa using hzs), List.map_append]
                rfl
          · rintro H' ⟨sm, hq', hD'⟩
            have lf : ((signs abc).map V.str).length = (signs abc).length := List.length_map _
            rw [lf, List.take_length] at hD'
            obtain ⟨x, rr, ex, nx, wx⟩ := abc_left (ss := ss) (by omega)
            refine ⟨D, _, 0, .str x, rfl, rfl, SqL.of hD', by rw [ex]; exact atI_nat (j := 0) rfl, ?_⟩
            refine ⟨_, rfl, .inl ⟨rfl, _, SqL.of (hLX.same sm)⟩, _, rfl, L, _, _, rfl, rfl, hLX.same sm, by rw [List.length_map, sizeLine_eq]; omega, ?_⟩
            exact ⟨_, _, ss ++ [x], tX2, rfl, But.ofL hL0 (bX.trans (But.of sm)), by rw [SL, upd_same, List.map_append]; rfl, by rw [List.length_append, ls]; rfl, nodup_app nd nx, wd_app aw wx, (hpX.same sm).upd npL, by omega⟩
        · refine ⟨_, rfl, .inl ⟨rfl, _, SqL.of hLX⟩, _, rfl, L, _, _, rfl, rfl, hLX, by rw [List.length_map, sizeLine_eq]; omega, ?_⟩
          exact ⟨_, _, ss ++ [wX], tX2, rfl, But.ofL hL0 bX, by rw [SL, upd_same, List.map_append]; rfl, by rw [List.length_append, ls]; rfl, nodup_app nd (of_decide_eq_false (Bool.eq_false_iff.mpr c)), wd_app aw wwX, hpX.upd npL, by omega⟩
      · refine ⟨_, rfl, _, rfl, L, _, rfl, .inl hLX.sq, rfl, flat_strs ss, ?_⟩
        refine ⟨_, rfl, ?_⟩
        rw [if_neg (by decide), inV_str]
        refine ite2 (fun c => ?_) (fun c => ?_)
        · refine ⟨_, rfl, by decide +kernel, fun q hq => ⟨q, rfl, ⟨_, SqL.of upd_same⟩, fun D hD => ?_⟩⟩
          have nqL : L ≠ q := ne_of_none hLX hq
          have hDX : HX D = none := upd_none' hD
          have nDL : L ≠ D := ne_of_none hLX hDX
          have nDq : q ≠ D := fun e => by rw [e, upd_same] at hD; cases hD
          refine lc_list (K := K) (a := q) (xs := (signs abc).map V.str) (fun j H' => Same HX H' ∧ SL H' q (signs abc) ∧ SL H' D (((signs abc).take j).filter fun x => decide (x ∉ ss)))
            ⟨fun b u e => by rw [upd_ne (ne_of_none e hDX), upd_ne (ne_of_none e hq)]; exact e, by rw [SL, upd_ne nDq, upd_same]; rfl, by rw [SL, upd_same]; rfl⟩ (fun j H' _ z => z.2.1.sq) ?_ ?_
          · rintro j x H' hx ⟨sm, hq', hD'⟩
            obtain ⟨z, hz, rfl⟩ := get_map hx
            refine ⟨rfl, _, rfl, _, rfl, L, _, rfl, .inl (hLX.same sm).sq, rfl, flat_strs ss, ?_⟩
            refine ⟨_, rfl, ?_⟩
            rw [if_pos rfl, inV_str]
            have lj : j < 26 := by rw [← abc_len]; exact (List.getElem?_eq_some_iff.mp hz).1
            by_cases hzs : z ∈ ss
            · have e1 : decide (z ∈ ss) = true := decide_eq_true hzs
              rw [e1]
              refine iteF ?_
              refine ⟨sm, hq', ?_⟩
              rw [filt_no hz (by simpa using hzs)]
              exact hD'
            · have e1 : decide (z ∈ ss) = false := decide_eq_false hzs
              rw [e1]
              refine iteT ?_
              refine ⟨_, rfl, _, hD', by rw [List.length_map, sizeLine_eq]; exact Nat.lt_of_le_of_lt (List.length_filter_le _ _) (by rw [List.length_take]; omega), fun b u e => ?_, ?_, ?_⟩
              · rw [upd_ne (ne_of_none e hDX)]; exact sm _ _ e
              · rw [SL, upd_ne nDq]; exact hq'
              · rw [SL, upd_same, filt_yes hz (by simpa using hzs), List.map_append]
                rfl
          · rintro H' ⟨sm, hq', hD'⟩
            have lf : ((signs abc).map V.str).length = (signs abc).length := List.length_map _
            rw [lf, List.take_length] at hD'
            obtain ⟨x, rr, ex, nx, wx⟩ := abc_left (ss := ss) (by omega)
            refine ⟨D, _, 0, .str x, rfl, rfl, SqL.of hD', by rw [ex]; exact atI_nat (j := 0) rfl, ?_⟩
            refine ⟨_, rfl, .inl ⟨rfl, _, SqL.of (hLX.same sm)⟩, _, rfl, L, _, _, rfl, rfl, hLX.same sm, by rw [List.length_map, sizeLine_eq]; omega, ?_⟩
            exact ⟨_, _, ss ++ [x], tY, rfl, But.ofL hL0 (bX.trans (But.of sm)), by rw [SL, upd_same, List.map_append]; rfl, by rw [List.length_append, ls]; rfl, nodup_app nd nx, wd_app aw wx, (hpX.same sm).upd npL, by omega⟩
        · refine ⟨_, rfl, .inl ⟨rfl, _, SqL.of hLX⟩, _, rfl, L, _, _, rfl, rfl, hLX, by rw [List.length_map, sizeLine_eq]; omega, ?_⟩
          exact ⟨_, _, ss ++ [wX], tY, rfl, But.ofL hL0 bX, by rw [SL, upd_same, List.map_append]; rfl, by rw [List.length_append, ls]; rfl, nodup_app nd (of_decide_eq_false (Bool.eq_false_iff.mpr c)), wd_app aw wwX, hpX.upd npL, by omega⟩
    · rintro σ H' ⟨v6, v7, ss, t', rfl, b, hS, ls, nd, aw, hp', tt⟩
      exact ⟨_, rfl, k H' L ss t' b hL0 hS ls nd aw hp' (by omega)⟩
end
end D1
end L2
/-! pool, turns -/
namespace L2
namespace D1
open PySem PySem.Spec PyProof.Rows
def unS : V → Str
  | .str x => x
  | _ => ""
theorem Purse.ne {H : Hp} {p q : Addr} {t : Int} (h : Purse H p t) (n : H q = none) : q ≠ p := by
  obtain ⟨u, hu⟩ := h.some; exact (ne_of_none hu n).symm
theorem Purse.new {H : Hp} {p q : Addr} {t : Int} {o : HO} (h : Purse H p t) (n : H q = none) : Purse (L2.upd H q o) p t := h.upd (h.ne n).symm
theorem SL.new {H : Hp} {q a : Addr} {ss : List Str} {o : HO} (h : SL H a ss) (n : H q = none) : SL (L2.upd H q o) a ss := h.same (Same.new n)
theorem But.newt {p q : Addr} {H H1 : Hp} {o : HO} (h : But p H H1) (n : H1 q = none) : But p H (L2.upd H1 q o) := h.trans (But.new n)
theorem unS_map (ss : List Str) : (ss.map V.str).map unS = ss := by
  rw [List.map_map]
  exact List.map_id'' (fun _ => rfl) ss
/-- a permutation of texts is one of texts -/
theorem perm_str {ys : List V} {ss : List Str} (h : ys.Perm (ss.map V.str)) : ∃ zs : List Str, ys = zs.map V.str ∧ zs.Perm ss := by
  have a : ∀ y ∈ ys, y = V.str (unS y) := fun y hy => by
    obtain ⟨x, _, rfl⟩ := List.mem_map.mp (h.mem_iff.mp hy)
    rfl
  refine ⟨ys.map unS, ?_, ?_⟩
  · rw [List.map_map]
    refine (List.map_congr_left (g := id) fun y hy => (a y hy).symm).trans ?_ |>.symm
    exact List.map_id ys
  · have := h.map unS
    rwa [unS_map] at this
def cutL {α : Type} (xs : List α) (lo hi : Option Int) : List α := (xs.drop (HT.sIx xs.length 0 lo)).take (HT.sIx xs.length xs.length hi - HT.sIx xs.length 0 lo)
theorem cutV_map (ss : List Str) (lo hi : Option Int) : cutV (ss.map V.str) lo hi = (cutL ss lo hi).map V.str := by
  unfold cutV cutL
  rw [List.length_map, List.map_take, List.map_drop]
theorem cutL_to {α : Type} (xs : List α) {k : Int} (h : 0 ≤ k) : cutL xs none (some k) = xs.take k.toNat := by
  unfold cutL
  rw [HT.sIx_none, sIx_of h, Nat.sub_zero, List.drop_zero]
  rcases Nat.le_total k.toNat xs.length with q | q
  · rw [Nat.min_eq_left q]
  · rw [Nat.min_eq_right q, List.take_of_length_le (Nat.le_refl _), List.take_of_length_le q]
theorem cutL_from {α : Type} (xs : List α) {k : Int} (h : 0 ≤ k) : cutL xs (some k) none = xs.drop k.toNat := by
  unfold cutL
  rw [HT.sIx_none, sIx_of h]
  rcases Nat.le_total k.toNat xs.length with q | q
  · rw [Nat.min_eq_left q]
    exact List.take_of_length_le (by rw [List.length_drop]; omega)
  · rw [Nat.min_eq_right q, List.drop_of_length_le (Nat.le_refl _), List.drop_of_length_le q, List.take_nil]
abbrev sTurns : Stmt := top 36
def spPool : Sp := fun vs H Q _ => ∃ (p : Addr) (t : Int), vs = [.ref p] ∧ Purse H p t ∧ t < 2 ^ 27 ∧
  ∀ (H' : Hp) (R : Addr) (ss : List Str) (t' : Int), But p H H' → H R = none → SL H' R ss → ss.length = 6 → ss.Nodup → (∀ x ∈ ss, Wd x) → Purse H' p t' → t' ≤ t + 400 → Q (.ref R) H'
/-- turns as they stand in a dict -/
def kT (ts : List (Str × Str)) : List (Key × V) := ts.map fun t => (Sum.inr t.1, V.str t.2)
def putT (ts : List (Str × Str)) (k v : Str) : List (Str × Str) := if (ts.any fun t => decide (t.1 = k)) = true then ts.map (fun t => if t.1 = k then (t.1, v) else t) else ts ++ [(k, v)]
theorem any_kT (ts : List (Str × Str)) (k : Str) : ((kT ts).any fun kv => decide (kv.1 = Sum.inr k)) = ts.any fun t => decide (t.1 = k) := by
  rw [kT, List.any_map]
  refine congrArg (fun f => ts.any f) (funext fun t => ?_)
  show decide ((Sum.inr t.1 : Key) = Sum.inr k) = _
  by_cases h : t.1 = k
  · rw [h]; simp
  · have : ¬ (Sum.inr t.1 : Key) = Sum.inr k := fun e => h (Sum.inr.inj e)
    simp [h, this]
theorem putK_kT (ts : List (Str × Str)) (k v : Str) : putK (kT ts) (.inr k) (.str v) = kT (putT ts k v) := by
  unfold putK putT
  rw [any_kT]
  by_cases h : (ts.any fun t => decide (t.1 = k)) = true
  · rw [if_pos h, if_pos h, kT, kT, List.map_map, List.map_map]
    refine List.map_congr_left fun t _ => ?_
    show (if (Sum.inr t.1 : Key) = Sum.inr k then ((Sum.inr t.1 : Key), V.str v) else ((Sum.inr t.1 : Key), V.str t.2)) = _
    by_cases e : t.1 = k
    · rw [if_pos (congrArg _ e)]; simp [e]
    · rw [if_neg fun z => e (Sum.inr.inj z)]; simp [e]
  · rw [if_neg h, if_neg h, kT, kT, List.map_append]
    rfl
theorem any_mem (ts : List (Str × Str)) (k : Str) : ((ts.any fun t => decide (t.1 = k)) = true) ↔ k ∈ ts.map (·.1) := by
  rw [List.any_eq_true]
  constructor
  · rintro ⟨t, ht, e⟩
    exact List.mem_map.mpr ⟨t, ht, of_decide_eq_true e⟩
  · intro h
    obtain ⟨t, ht, e⟩ := List.mem_map.mp h
    exact ⟨t, ht, decide_eq_true e⟩
theorem putT_keys (ts : List (Str × Str)) (k v : Str) : (putT ts k v).map (·.1) = if k ∈ ts.map (·.1) then ts.map (·.1) else ts.map (·.1) ++ [k] := by
  unfold putT
  by_cases h : (ts.any fun t => decide (t.1 = k)) = true
  · rw [if_pos h, if_pos ((any_mem ts k).mp h), List.map_map]
    refine List.map_congr_left fun t _ => ?_
    show (if t.1 = k then (t.1, v) else t).1 = t.1
    by_cases e : t.1 = k
    · rw [if_pos e]
    · rw [if_neg e]
  · rw [if_neg h, if_neg fun z => h ((any_mem ts k).mpr z), List.map_append]
    rfl
theorem putT_goal {ts : List (Str × Str)} {k v : Str} : ∀ t ∈ putT ts k v, t.2 = v ∨ t ∈ ts := by
  unfold putT
  intro t ht
  by_cases h : (ts.any fun t => decide (t.1 = k)) = true
  · rw [if_pos h] at ht
    obtain ⟨u, hu, e⟩ := List.mem_map.mp ht
    by_cases c : u.1 = k
    · rw [if_pos c] at e; exact .inl (by rw [← e])
    · rw [if_neg c] at e; exact .inr (e ▸ hu)
  · rw [if_neg h] at ht
    rcases List.mem_append.mp ht with ht | ht
    · exact .inr ht
    · obtain rfl := List.mem_singleton.mp ht; exact .inl rfl
def TurnsAt (H : Hp) (a : Addr) (ts : List (Str × Str)) : Prop := H a = some (.dK (kT ts))
theorem TurnsAt.same {H H' : Hp} {a : Addr} {ts : List (Str × Str)} (h : TurnsAt H a ts) (s : Same H H') : TurnsAt H' a ts := s _ _ h
/-- turns over the words ws to the states ss -/
structure TOk (ts : List (Str × Str)) (ss ws : List Str) : Prop where
  nd : (ts.map (·.1)).Nodup
  ks : ∀ t ∈ ts, t.1 ∈ ws
  gs : ∀ t ∈ ts, t.2 ∈ ss
theorem TOk.nil {ss ws : List Str} : TOk [] ss ws := ⟨List.nodup_nil, by simp, by simp⟩
theorem TOk.len {ts : List (Str × Str)} {ss ws : List Str} (h : TOk ts ss ws) : ts.length ≤ ws.length := by
  have := pigeon (ts.map (·.1)) ws h.nd fun x hx => by obtain ⟨t, ht, rfl⟩ := List.mem_map.mp hx; exact h.ks t ht
  rwa [List.length_map] at this
theorem TOk.put {ts : List (Str × Str)} {ss ws : List Str} {k v : Str} (h : TOk ts ss ws) (hk : k ∈ ws) (hv : v ∈ ss) : TOk (putT ts k v) ss ws := by
  refine ⟨?_, fun t ht => ?_, fun t ht => ?_⟩
  · rw [putT_keys]
    by_cases c : k ∈ ts.map (·.1)
    · rw [if_pos c]; exact h.nd
    · rw [if_neg c]; exact nodup_app h.nd c
  · have : t.1 ∈ (putT ts k v).map (·.1) := List.mem_map_of_mem ht
    rw [putT_keys] at this
    have key : t.1 ∈ ts.map (·.1) → t.1 ∈ ws := fun z => by obtain ⟨u, hu, e⟩ := List.mem_map.mp z; rw [← e]; exact h.ks u hu
    by_cases c : k ∈ ts.map (·.1)
    · rw [if_pos c] at this; exact key this
    · rw [if_neg c] at this
      rcases List.mem_append.mp this with z | z
      · exact key z
      · rw [List.mem_singleton.mp z]; exact hk
  · rcases putT_goal t ht with e | e
    · rw [e]; exact hv
    · exact h.gs t e
theorem putT_ne {ts : List (Str × Str)} {k v : Str} : putT ts k v ≠ [] := fun e => by
  have := congrArg (List.map (·.1)) e
  rw [putT_keys] at this
  by_cases c : k ∈ ts.map (·.1)
  · rw [if_pos c] at this
    have e2 : ts.map (·.1) = [] := this
    rw [e2] at c; cases c
  · rw [if_neg c] at this; simp at this
def spTurns : Sp := fun vs H Q _ => ∃ (p S W : Addr) (ss ws : List Str) (at' top' t : Int), vs = [.ref p, .ref S, .ref W, .int at', .int top'] ∧ Purse H p t ∧ SL H S ss ∧ SL H W ws ∧ S ≠ p ∧ W ≠ p ∧ 1 ≤ ss.length ∧ ss.length ≤ 1000 ∧ 1 ≤ ws.length ∧ ws.length ≤ 20 ∧ ws.Nodup ∧ 0 ≤ at' ∧ at' < 2 ^ 20 ∧ 1 ≤ top' ∧ top' < 2 ^ 20 ∧ t < 2 ^ 27 ∧
  ∀ (H' : Hp) (R : Addr) (ts : List (Str × Str)) (t' : Int), But p H H' → H R = none → TurnsAt H' R ts → TOk ts ss ws → ts ≠ [] → Purse H' p t' → t' ≤ t + 50 → Q (.ref R) H'
def nmsL : List Str := ["says", "hears", "done", "start", "end"]
theorem nms_wd : ∀ x ∈ nmsL, Wd x := by
  have h : ∀ x ∈ nmsL, 1 ≤ x.length ∧ x.length ≤ 8 ∧ ∀ c ∈ tl x, 97 ≤ c ∧ c ≤ 122 := by decide +kernel
  exact fun x hx => ⟨(h x hx).1, (h x hx).2.1, (h x hx).2.2⟩
theorem nms_nd : nmsL.Nodup := by decide +kernel
section
variable {P : Program} {w : World} {K : PySem.W.Frag} {mg : Str → Option Value} {base : Heap}
abbrev COne (P : Program) (w : World) (K : PySem.W.Frag) (mg : Str → Option Value) (base : Heap) := Cal P w K mg base "_law_one_of" 3 ["_law_purse_here", "_law_some"] spOneOf
theorem scPo : FnScope ["_law_purse_here", "_law_words_here", "_law_word_here"] ["_law_purse_here"] (defScope sPool) := ⟨rfl, rfl, rfl, by decide +kernel, rfl, by decide +kernel, by decide +kernel⟩
theorem ok_pool {f : Addr} {fd : FuncData} (F : Fun K "_law_pool" "_law_pool" sPool f fd) (T : Free2 mg) (CD : CDraw P w K mg base) (CW : CWords P w K mg base) (CS : CShuf P w K mg base) :
    FnOk P w K mg base CX0 5 f fd ["_law_purse_here"] spPool := by
  refine F.ok scPo (fun vs H Q E h => ?_) (fun cdv A outer s H vs Q E hr h => ?_)
  · obtain ⟨p, t, rfl, _⟩ := h; rfl
  · obtain ⟨p, t, rfl, hp, t1, k⟩ := h
    refine ⟨_, pss_cons (ps_set (i := 1) scPo.nd rfl (Or.inr rfl) (pe_cal CW (hr.mono (by decide)) rfl (pa_cons (pv 0) (pa_cons pe_int pa_nil))))
      (pss_cons (ps_if (pt_cmpR op_eq (pe_cal CD (hr.mono (by decide)) rfl (pa_cons (pv 0) (pa_cons pe_int pa_nil))) pe_int (nomark _))
        (pss_one (ps_set (i := 1) scPo.nd rfl (Or.inr rfl) (pe_slice sl_list (pe_op op_cat (pe_slice sl_list (pe_lc (own := [("_law_word_here", 2)]) (g := gName 2) (tt := tTest (tOp (rIn K true) (tVar 2) (tVar 1))) rfl scPo.nd
            (pi_list (pe_lst (pa_cons pe_str (pa_cons pe_str (pa_cons pe_str (pa_cons pe_str (pa_cons pe_str pa_nil)))))))
            (blkOk_by (N := ["_law_purse_here", "_law_words_here", "_law_word_here"]) (sc := defScope sPool) (by decide +kernel)) (fun _ _ _ _ _ => pg_name (i := 2) scPo.nd rfl (Or.inl rfl))
            (fun _ _ _ _ _ => pts_one (pt_cmpR op_notIn_seq (pv 2) (pv 1) rfl)) (fun _ _ _ _ _ => pv 2)) po_none (po_some pe_int)) (pv 1)) po_none (po_some pe_int)))) pss_nil)
      (pss_one (ps_ret (pe_cal CS (hr.mono (by decide)) rfl (pa_cons (pv 0) (pa_cons (pv 1) pa_nil)))))), ?_⟩
    refine ⟨_, rfl, p, 6, t, rfl, hp, by decide, by decide, by omega, fun H1 R ss t1' b1 hR hS ls nd aw hp1 tt1 => ?_⟩
    refine ⟨_, rfl, p, 3, t1', rfl, hp1, by decide, by decide, by omega, fun r t2 o r0 r1 tt2 hp2 => ?_⟩
    have nRp : R ≠ p := fun e => by obtain ⟨u, hu⟩ := hp.some; rw [← e, hR] at hu; cases hu
    have b2 := b1.trans (But.upd p H1 o)
    have hS2 : SL (L2.upd H1 p o) R ss := by rw [SL, upd_ne nRp]; exact hS
    generalize L2.upd H1 p o = H2 at b2 hS2 hp2
    refine ⟨rfl, _, rfl, ?_⟩
    refine ite2 (fun _ => ?_) (fun _ => ?_)
    · refine ⟨by show 5 ≤ sizeLine; decide, fun q hq => ⟨q, rfl, ⟨_, SqL.of upd_same⟩, fun D hD => ?_⟩⟩
      have nRq : R ≠ q := ne_of_none hS2 hq
      have hD2 := upd_none' hD
      have nRD : R ≠ D := ne_of_none hS2 hD2
      have nDq : q ≠ D := fun e => by rw [e, upd_same] at hD; cases hD
      refine lc_list (K := K) (a := q) (xs := nmsL.map V.str) (fun j H' => Same H2 H' ∧ SL H' q nmsL ∧ SL H' D ((nmsL.take j).filter fun x => decide (x ∉ ss)))
        ⟨fun b u e => by rw [upd_ne (ne_of_none e hD2), upd_ne (ne_of_none e hq)]; exact e, by rw [SL, upd_ne nDq, upd_same]; rfl, by rw [SL, upd_same]; rfl⟩ (fun j H' _ z => z.2.1.sq) ?_ ?_
      · rintro j x H' hx ⟨sm, hq', hD'⟩
        obtain ⟨z, hz, rfl⟩ := get_map hx
        refine ⟨rfl, _, rfl, _, rfl, R, _, rfl, .inl (hS2.same sm).sq, rfl, flat_strs ss, ?_⟩
        refine ⟨_, rfl, ?_⟩
        rw [if_pos rfl, inV_str]
        have lj : j < 5 := (List.getElem?_eq_some_iff.mp hz).1
        by_cases hzs : z ∈ ss
        · rw [decide_eq_true hzs]
          refine iteF ⟨sm, hq', ?_⟩
          rw [filt_no hz (by simpa using hzs)]
          exact hD'
        · rw [decide_eq_false hzs]
          refine iteT ⟨_, rfl, _, hD', by rw [List.length_map, sizeLine_eq]; exact Nat.lt_of_le_of_lt (List.length_filter_le _ _) (by rw [List.length_take]; omega), fun b u e => ?_, ?_, ?_⟩
          · rw [upd_ne (ne_of_none e hD2)]; exact sm _ _ e
          · rw [SL, upd_ne nDq]; exact hq'
          · rw [SL, upd_same, filt_yes hz (by simpa using hzs), List.map_append]
            rfl
      · rintro H3 ⟨sm, hq', hD'⟩
        rw [show (nmsL.map V.str).length = 5 from rfl, show nmsL.take 5 = nmsL from rfl] at hD'
        refine ⟨_, rfl, D, _, rfl, SqL.of hD', fun q2 hq2 => ?_⟩
        have hR3 := hS2.same sm
        refine ⟨_, rfl, q2, R, _, _, rfl, rfl, upd_same, by rw [upd_ne (ne_of_none hR3 hq2)]; exact hR3, ?_, fun q3 hq3 => ?_⟩
        · rw [cutV_map, List.length_map, List.length_map, cutL_to _ (by decide), List.length_take, sizeLine_eq, ls]; omega
        refine ⟨_, rfl, q3, _, rfl, SqL.of upd_same, fun q4 hq4 => ?_⟩
        rw [cutV_map, ← List.map_append, cutV_map, cutL_to _ (by decide), cutL_to _ (by decide)]
        rw [cutV_map, ← List.map_append, cutL_to _ (by decide)] at hq4
        rw [cutV_map, cutL_to _ (by decide)] at hq3
        have wf : ∀ x ∈ nmsL.filter (fun x => decide (x ∉ ss)), x ∉ ss ∧ Wd x := fun x hx => by
          obtain ⟨h1, h2⟩ := List.mem_filter.mp hx
          exact ⟨by simpa using h2, nms_wd x h1⟩
        have nf : (nmsL.filter (fun x => decide (x ∉ ss))).Nodup := nms_nd.filter _
        generalize nmsL.filter (fun x => decide (x ∉ ss)) = fs at wf nf hq3 hq4 ⊢
        have lf : ((fs.take (2 : Int).toNat ++ ss).take (6 : Int).toNat).length = 6 := by
          rw [List.length_take, List.length_append, ls]; show min 6 _ = 6; omega
        have ndf : ((fs.take (2 : Int).toNat ++ ss).take (6 : Int).toNat).Nodup :=
          List.Nodup.sublist (List.take_sublist _ _) (List.nodup_append.mpr ⟨List.Nodup.sublist (List.take_sublist _ _) nf, nd, fun x hx y hy e => (wf x (List.mem_of_mem_take hx)).1 (e ▸ hy)⟩)
        have awf : ∀ x ∈ (fs.take (2 : Int).toNat ++ ss).take (6 : Int).toNat, Wd x := fun x hx => by
          rcases List.mem_append.mp (List.mem_of_mem_take hx) with z | z
          · exact (wf x (List.mem_of_mem_take z)).2
          · exact aw x z
        generalize (fs.take (2 : Int).toNat ++ ss).take (6 : Int).toNat = gs at lf ndf awf
        have b3 : But p H H3 := b2.trans (But.of sm)
        have hp3 := hp2.same sm
        refine ⟨_, rfl, _, rfl, p, q4, _, t2, rfl, ((hp3.new hq2).new hq3).new hq4, upd_same, ((hp3.new hq2).new hq3).ne hq4, by rw [List.length_map, lf]; decide, by omega, fun H5 R5 ys t5 b5 hR5 hy pm hp5 tt5 => ?_⟩
        obtain ⟨zs, rfl, pz⟩ := perm_str pm
        rw [List.length_map, lf] at tt5
        exact k H5 R5 zs t5 ((((b3.newt hq2).newt hq3).newt hq4).trans b5) ((((b3.newt hq2).newt hq3).newt hq4).fr hR5 ((((hp3.new hq2).new hq3).new hq4).ne hR5)) hy (by rw [pz.length_eq, lf]) (pz.nodup_iff.mpr ndf) (fun x hx => awf x (pz.mem_iff.mp hx)) hp5 (by omega)
    · refine ⟨_, rfl, _, rfl, p, R, _, t2, rfl, hp2, hS2, nRp, by rw [List.length_map, ls]; decide, by omega, fun H5 R5 ys t5 b5 hR5 hy pm hp5 tt5 => ?_⟩
      obtain ⟨zs, rfl, pz⟩ := perm_str pm
      rw [List.length_map, ls] at tt5
      exact k H5 R5 zs t5 (b2.trans b5) (b2.fr hR5 (hp2.ne hR5)) hy (by rw [pz.length_eq, ls]; rfl) (pz.nodup_iff.mpr nd) (fun x hx => aw x (pz.mem_iff.mp hx)) hp5 (by omega)
theorem scTu : FnScope ["_law_purse_here", "_law_states", "_law_words_here", "_law_at", "_law_top", "_law_many", "_law_found", "_law_word_here"] ["_law_purse_here", "_law_states", "_law_words_here", "_law_at", "_law_top"] (defScope sTurns) := ⟨rfl, rfl, rfl, by decide +kernel, rfl, by decide +kernel, by decide +kernel⟩
theorem ok_turns {f : Addr} {fd : FuncData} (F : Fun K "_law_turns" "_law_turns" sTurns f fd) (T : Free2 mg) (CD : CDraw P w K mg base) (CO : COne P w K mg base) (CS : CShuf P w K mg base) :
    FnOk P w K mg base CX0 4 f fd ["_law_purse_here", "_law_states", "_law_words_here", "_law_at", "_law_top"] spTurns := by
  refine F.ok scTu (fun vs H Q E h => ?_) (fun cdv A outer s H vs Q E hr h => ?_)
  · obtain ⟨p, S, W, ss, ws, a, b, t, rfl, _⟩ := h; rfl
  · obtain ⟨p, S, W, ss, ws, at', top', t, rfl, hp, hS, hW, nS, nW, s1, s2, w1, w2, wnd, a0, a1, p0, p1, t1, k⟩ := h
    have hu := hu_of hr
    refine ⟨_, pss_cons (ps_par (i := 5) (j := 6) rfl scTu.nd rfl rfl (by decide) rfl rfl (pa_cons (pe_op op_add pe_int (pe_cal CD (hr.mono (by decide)) rfl (pa_cons (pv 0) (pa_cons (pe_callB (call_max2 rfl) (by rfl) T.max (by decide +kernel) (pa_cons pe_int (pa_cons (pe_callB (call_min2 rfl) (by rfl) T.min (by decide +kernel) (pa_cons (pv 4) (pa_cons (pe_callB call_len_seq (by rfl) T.len PySem.boot_len (pa_cons (pv 2) pa_nil)) pa_nil))) pa_nil))) pa_nil)))) (pa_cons pe_dnewK pa_nil)) (by rfl))
      (pss_cons (ps_for PassesOwn.never rfl (pi_list (pe_slice sl_list (pe_cal CS (hr.mono (by decide)) rfl (pa_cons (pv 0) (pa_cons (pv 2) pa_nil))) po_none (po_some (pv 5)))) (pg_name (i := 7) scTu.nd rfl (Or.inl rfl))
        (pss_one (ps_dput hu (pv 6) (pv 7) (pe_cal CO (hr.mono (by decide)) rfl (pa_cons (pv 0) (pa_cons (pv 1) pa_nil))) rfl)))
      (pss_cons (ps_if (PW.pt (pw_and (pt_cmpR op_lt (pe_op op_add (pv 3) pe_int) (pe_callB call_len_seq (by rfl) T.len PySem.boot_len (pa_cons (pv 1) pa_nil)) (nomark _)) (pw_and1 (pt_cmpR op_gt (pe_cal CD (hr.mono (by decide)) rfl (pa_cons (pv 0) (pa_cons pe_int pa_nil))) pe_int (nomark _)))))
        (pss_one (ps_dput hu (pv 6) (pe_cal CO (hr.mono (by decide)) rfl (pa_cons (pv 0) (pa_cons (pe_callTy (call_listD rfl) (by rfl) T.list (by decide +kernel) (pa_cons (pv 6) pa_nil)) pa_nil))) (pe_cal CO (hr.mono (by decide)) rfl (pa_cons (pv 0) (pa_cons (pe_slice sl_list (pv 1) (po_some (pe_op op_add (pv 3) pe_int)) po_none) pa_nil))) rfl)) pss_nil)
      (pss_one (ps_ret (pv 6))))), ?_⟩
    refine ⟨_, rfl, _, rfl, _, rfl, W, _, rfl, .inl hW.sq, top', _, rfl, ?_⟩
    rw [List.length_map]
    refine ⟨1, _, rfl, ?_⟩
    generalize hM : (if (if (ws.length : Int) < top' then (ws.length : Int) else top') > 1 then (if (ws.length : Int) < top' then (ws.length : Int) else top') else (1 : Int)) = M
    have bM : 1 ≤ M ∧ M ≤ 20 := by
      rw [← hM]
      (repeat' split) <;> omega
    refine ⟨p, M, t, rfl, hp, bM.1, by omega, by omega, fun r t2 o r0 r1 tt2 hp2 => ?_⟩
    refine ⟨_, _, rfl, rfl, fun D hD => ⟨_, _, rfl, ?_⟩⟩
    have hS2 : SL (L2.upd H p o) S ss := by rw [SL, upd_ne nS]; exact hS
    have hW2 : SL (L2.upd H p o) W ws := by rw [SL, upd_ne nW]; exact hW
    have b2 := But.upd p H o
    generalize L2.upd H p o = H2 at hS2 hW2 hp2 b2 hD
    have hD0 := b2.fr hD (hp2.ne hD)
    refine ⟨_, rfl, _, rfl, p, W, _, t2, rfl, hp2.new hD, hW2.new hD, nW, by rw [List.length_map]; omega, by omega, fun H3 R ys t3 b3 hR hy pm hp3 tt3 => ?_⟩
    obtain ⟨zs, rfl, pz⟩ := perm_str pm
    refine ⟨_, rfl, _, rfl, R, _, rfl, SqL.of hy, fun q hq => ⟨q, rfl, ⟨_, SqL.of upd_same⟩, ?_⟩⟩
    rw [cutV_map, cutL_to _ (by omega)]
    have lz : zs.length = ws.length := pz.length_eq
    rw [List.length_map] at tt3
    have hm : 1 ≤ (1 + r).toNat := by omega
    generalize (1 + r).toNat = m at hm
    have lm : (zs.take m).length ≤ 20 ∧ 1 ≤ (zs.take m).length := by rw [List.length_take]; omega
    have mm : ∀ z ∈ zs.take m, z ∈ ws := fun z hz => pz.mem_iff.mp (List.mem_of_mem_take hz)
    generalize zs.take m = us at lm mm
    have nDp := hp2.ne hD
    have hS3 : SL H3 S ss := b3 _ _ nS (hS2.new hD)
    have hD3 : TurnsAt H3 D [] := b3 _ _ nDp upd_same
    have nqp := hp3.ne hq
    have nqD : D ≠ q := ne_of_none hD3 hq
    have b30 : But p H H3 := (b2.newt hD).trans b3
    refine for_list (K := K) (a := q) (xs := us.map V.str) (fun i σ H' => ∃ (v7 : Option V) (ts : List (Str × Str)) (t' : Int), σ = [some (.ref p), some (.ref S), some (.ref W), some (.int at'), some (.int top'), some (.int (1 + r)), some (.ref D), v7] ∧ But p H H' ∧ SL H' q us ∧ SL H' S ss ∧ TurnsAt H' D ts ∧ TOk ts ss ws ∧ (0 < i → ts ≠ []) ∧ Purse H' p t' ∧ t' ≤ t3 + i)
      ⟨none, [], t3, rfl, b30.newt hq, upd_same, hS3.new hq, hD3.same (Same.new hq), TOk.nil, fun c => absurd c (by decide), hp3.new hq, by omega⟩ (fun i σ H' _ ⟨v7, ts, t', _, _, z, _⟩ => z.sq) ?_ ?_
    · rintro i x σ H' hx ⟨v7, ts, t', rfl, b, hq', hS', hD', ok, ne, hp', tt'⟩
      obtain ⟨z, hz, rfl⟩ := get_map hx
      have hzm := mm z (List.mem_of_getElem? hz)
      have li : i < us.length := (List.getElem?_eq_some_iff.mp hz).1
      have lts := ok.len
      refine ⟨_, rfl, _, rfl, p, S, _, t', rfl, hp', hS', nS, by rw [List.length_map]; omega, by rw [List.length_map]; omega, by omega, fun j v t4 o4 hj tt4 hp4 => ?_⟩
      obtain ⟨g, hg, rfl⟩ := get_map hj
      have hgm := List.mem_of_getElem? hg
      refine ⟨_, rfl, _, rfl, D, _, rfl, DPut.k (k := Sum.inr z) (by rw [upd_ne nDp]; exact hD') (by rw [kT, List.length_map, sizeLine_eq]; omega), ?_⟩
      rw [putK_kT]
      have hDn : H D = none := hD0
      refine ⟨_, _, t4, rfl, But.ofL hDn (b.trans (But.upd p H' o4)), ?_, ?_, upd_same, ok.put hzm hgm, fun _ => putT_ne, hp4.upd nDp.symm, by omega⟩
      · rw [SL, upd_ne nqD.symm, upd_ne nqp]; exact hq'
      · have nSD : S ≠ D := fun e => by rw [e] at hS; rw [hS] at hDn; cases hDn
        rw [SL, upd_ne nSD, upd_ne nS]; exact hS'
    · rintro σ H' ⟨v7, ts, t', rfl, b, hq', hS', hD', ok, ne, hp', tt'⟩
      rw [List.length_map] at ne tt'
      have ne' := ne (by omega)
      have lts := ok.len
      refine ⟨_, rfl, _, _, rfl, rfl, _, rfl, S, _, rfl, .inl hS'.sq, _, _, rfl, rfl, _, rfl, ?_⟩
      rw [List.length_map]
      refine ite2 (fun c => ?_) (fun c => ?_)
      · refine ⟨_, rfl, p, 8, t', rfl, hp', by decide, by decide, by omega, fun r5 t5 o5 r50 r51 tt5 hp5 => ⟨_, _, rfl, rfl, _, rfl, ?_⟩⟩
        have hS5 : SL (L2.upd H' p o5) S ss := by rw [SL, upd_ne nS]; exact hS'
        have hD5 : TurnsAt (L2.upd H' p o5) D ts := by rw [TurnsAt, upd_ne nDp]; exact hD'
        have b5 := b.trans (But.upd p H' o5)
        generalize L2.upd H' p o5 = H5 at hS5 hD5 hp5 b5
        refine ite2 (fun c2 => ?_) (fun c2 => ?_)
        · have c' := of_decide_eq_true c
          refine ⟨_, rfl, _, rfl, _, rfl, _, _, rfl, rfl, _, rfl, S, _, rfl, hS5.sq, fun q6 hq6 => ?_⟩
          rw [cutV_map, cutL_from _ (by omega)]
          refine ⟨p, q6, _, t5, rfl, hp5.new hq6, upd_same, hp5.ne hq6, ?_, ?_, by omega, fun j v t6 o6 hj tt6 hp6 => ?_⟩
          · rw [List.length_map, List.length_drop]; omega
          · rw [List.length_map, List.length_drop]; omega
          obtain ⟨g, hg, rfl⟩ := get_map hj
          have hgm := List.mem_of_mem_drop (List.mem_of_getElem? hg)
          have hD6 : TurnsAt (L2.upd (L2.upd H5 q6 (.lst ((ss.drop (at' + 1).toNat).map V.str))) p o6) D ts := by
            rw [TurnsAt, upd_ne nDp]; exact hD5.same (Same.new hq6)
          have b6 := (b5.newt (o := .lst ((ss.drop (at' + 1).toNat).map V.str)) hq6).trans (But.upd p _ o6)
          generalize L2.upd (L2.upd H5 q6 (.lst ((ss.drop (at' + 1).toNat).map V.str))) p o6 = H6 at hp6 hD6 b6
          refine ⟨_, rfl, _, rfl, _, rfl, D, _, rfl, .inl hD6, fun q7 hq7 => ?_⟩
          have ek : (kT ts).map (fun kv => kV kv.1) = (ts.map (·.1)).map V.str := by
            rw [kT, List.map_map, List.map_map]; rfl
          rw [ek]
          refine ⟨p, q7, _, t6, rfl, hp6.new hq7, upd_same, hp6.ne hq7, ?_, ?_, by omega, fun j v t8 o8 hj tt8 hp8 => ?_⟩
          · rw [List.length_map, List.length_map]; have := List.length_pos_iff.mpr ne'; omega
          · rw [List.length_map, List.length_map]; omega
          obtain ⟨kk, hkk, rfl⟩ := get_map hj
          have hkm : kk ∈ ws := by
            obtain ⟨u, hu, e⟩ := List.mem_map.mp (List.mem_of_getElem? hkk)
            rw [← e]; exact ok.ks u hu
          refine ⟨D, _, rfl, DPut.k (k := Sum.inr kk) (by rw [upd_ne nDp]; exact hD6.same (Same.new hq7)) (by rw [kT, List.length_map, sizeLine_eq]; omega), ?_⟩
          rw [putK_kT]
          refine ⟨_, rfl, k _ D _ t8 (But.ofL hD0 ((b6.newt hq7).trans (But.upd p _ o8))) hD0 upd_same (ok.put hkm hgm) putT_ne (hp8.upd nDp.symm) (by omega)⟩
        · exact ⟨_, rfl, k H5 D ts t5 b5 hD0 hD5 ok ne' hp5 (by omega)⟩
      · exact ⟨_, rfl, k H' D ts t' b hD0 hD' ok ne' hp' (by omega)⟩
end
end D1
end L2
/-! books as they stand; world -/
namespace L2
namespace D1
open PySem PySem.Spec PyProof.Rows
abbrev RowD := Str × Str × List (Str × Str)
abbrev Bk := List RowD
def RowAt (H : Hp) (v : V) (k : Str) (ts : List (Str × Str)) : Prop := ∃ t a, v = .ref t ∧ H t = some (.tup [.str k, .ref a]) ∧ TurnsAt H a ts
theorem RowAt.same {H H' : Hp} {v : V} {k : Str} {ts : List (Str × Str)} (h : RowAt H v k ts) (s : Same H H') : RowAt H' v k ts := by
  obtain ⟨t, a, e, h1, h2⟩ := h; exact ⟨t, a, e, s _ _ h1, h2.same s⟩
def Rows (H : Hp) : List (Key × V) → Bk → Prop := Paired fun kv r => kv.1 = Sum.inr r.1 ∧ RowAt H kv.2 r.2.1 r.2.2
theorem Rows.same {H H' : Hp} {kvs : List (Key × V)} {bk : Bk} (h : Rows H kvs bk) (s : Same H H') : Rows H' kvs bk := by
  unfold Rows at h ⊢
  induction h with
  | nil => exact .nil
  | cons a b ih => exact .cons ⟨a.1, a.2.same s⟩ ih
theorem Rows.app {H : Hp} {kvs : List (Key × V)} {bk : Bk} {s : Str} {v : V} {k : Str} {ts : List (Str × Str)} (h : Rows H kvs bk) (r : RowAt H v k ts) : Rows H (kvs ++ [(.inr s, v)]) (bk ++ [(s, k, ts)]) := by
  unfold Rows at h ⊢
  induction h with
  | nil => exact .cons ⟨rfl, r⟩ .nil
  | cons a b ih => exact .cons a ih
theorem Rows.keys {H : Hp} {kvs : List (Key × V)} {bk : Bk} (h : Rows H kvs bk) : kvs.map (·.1) = bk.map fun r => Sum.inr r.1 := by
  unfold Rows at h
  induction h with
  | nil => rfl
  | cons a b ih => rw [List.map_cons, List.map_cons, ih, a.1]
theorem Rows.len {H : Hp} {kvs : List (Key × V)} {bk : Bk} (h : Rows H kvs bk) : kvs.length = bk.length := by
  have := congrArg List.length h.keys
  rwa [List.length_map, List.length_map] at this
theorem putK_new {kvs : List (Key × V)} {k : Key} {v : V} (n : k ∉ kvs.map (·.1)) : putK kvs k v = kvs ++ [(k, v)] := by
  unfold putK
  rw [if_neg]
  intro h
  obtain ⟨p, hp, e⟩ := List.any_eq_true.mp h
  exact n (List.mem_map.mpr ⟨p, hp, of_decide_eq_true e⟩)
theorem Rows.fresh {H : Hp} {kvs : List (Key × V)} {bk : Bk} {s : Str} (h : Rows H kvs bk) (n : s ∉ bk.map (·.1)) : (Sum.inr s : Key) ∉ kvs.map (·.1) := by
  rw [h.keys]
  intro z
  obtain ⟨r, hr, e⟩ := List.mem_map.mp z
  exact n (List.mem_map.mpr ⟨r, hr, Sum.inr.inj e⟩)
def BookAt (H : Hp) (b : Addr) (bk : Bk) : Prop := ∃ kvs, H b = some (.dK kvs) ∧ Rows H kvs bk
theorem BookAt.same {H H' : Hp} {b : Addr} {bk : Bk} (h : BookAt H b bk) (s : Same H H') : BookAt H' b bk := by
  obtain ⟨kvs, e, r⟩ := h; exact ⟨kvs, s _ _ e, r.same s⟩
def WorldAt (H : Hp) (R : Addr) (bk : Bk) (st : Str) : Prop := ∃ b, H R = some (.lst [.ref b, .str st]) ∧ BookAt H b bk
theorem WorldAt.same {H H' : Hp} {R : Addr} {bk : Bk} {st : Str} (h : WorldAt H R bk st) (s : Same H H') : WorldAt H' R bk st := by
  obtain ⟨b, e, r⟩ := h; exact ⟨b, s _ _ e, r.same s⟩
/-- a row of a book over the states ss -/
def ROk (ss ws : List Str) (r : RowD) : Prop := Wd r.1 ∧ ((r.2.1 = "done" ∧ r.2.2 = []) ∨ ((r.2.1 = "says" ∨ r.2.1 = "hears") ∧ r.2.2 ≠ [] ∧ TOk r.2.2 ss ws))
structure WF (bk : Bk) (st : Str) (ws : List Str) : Prop where
  nd : (bk.map (·.1)).Nodup
  rs : ∀ r ∈ bk, ROk (bk.map (·.1)) ws r
  st : st ∈ bk.map (·.1)
  len : bk.length ≤ 6
abbrev sWorld : Stmt := top 37
/-- a list of words -/
structure WsOk (ws : List Str) : Prop where
  lo : 1 ≤ ws.length
  hi : ws.length ≤ 6
  nd : ws.Nodup
  wd : ∀ x ∈ ws, Wd x
def spWorld : Sp := fun vs H Q _ => ∃ (p W : Addr) (ws : List Str) (n top' t : Int), vs = [.ref p, .int n, .ref W, .int top'] ∧ Purse H p t ∧ SL H W ws ∧ W ≠ p ∧ WsOk ws ∧ 1 ≤ n ∧ n ≤ 6 ∧ 1 ≤ top' ∧ top' < 2 ^ 20 ∧ t < 2 ^ 26 ∧
  ∀ (H' : Hp) (R : Addr) (bk : Bk) (st : Str) (t' : Int), But p H H' → H R = none → WorldAt (cut [p] H') R bk st → WF bk st ws → Purse H' p t' → t' ≤ t + 700 → Q (.ref R) H'
theorem first_at {x : Str} : ∀ {zs : List Str}, x ∈ zs → ∃ j, zs[j]? = some x ∧ ∀ m : Nat, m < j → zs[m]? ≠ some x
  | [], h => by cases h
  | y :: r, h => by
    by_cases e : y = x
    · exact ⟨0, by rw [e]; rfl, fun m hm => absurd hm (Nat.not_lt_zero _)⟩
    · rcases List.mem_cons.mp h with z | z
      · exact absurd z.symm e
      · obtain ⟨j, h1, h2⟩ := first_at z
        refine ⟨j + 1, h1, fun m hm => ?_⟩
        cases m with
        | zero => exact fun q => e (Option.some.inj q)
        | succ m => exact h2 m (by omega)
theorem row_step {p B T1 E1 : Addr} {H5 : Hp} {kvs : List (Key × V)} {bk : Bk} {x k : Str} {ts : List (Str × Str)} (hB : H5 B = some (.dK kvs)) (R : Rows (cut [p, B] H5) kvs bk) (n : x ∉ bk.map (·.1)) (hT : TurnsAt H5 E1 ts) (nE : E1 ≠ p) (nEB : E1 ≠ B)
    (nT : T1 ≠ p) (hT1 : H5 T1 = none) : ∃ kv2, (L2.upd (L2.upd H5 T1 (.tup [.str k, .ref E1])) B (.dK (putK kvs (.inr x) (.ref T1)))) B = some (.dK kv2) ∧ Rows (cut [p, B] (L2.upd (L2.upd H5 T1 (.tup [.str k, .ref E1])) B (.dK (putK kvs (.inr x) (.ref T1))))) kv2 (bk ++ [(x, k, ts)]) := by
  have nTB : T1 ≠ B := fun e => by rw [e, hB] at hT1; cases hT1
  have nET : E1 ≠ T1 := fun e => by rw [← e, hT] at hT1; cases hT1
  refine ⟨_, upd_same, ?_⟩
  rw [putK_new (R.fresh n), cut_upd (by simp)]
  refine (R.same (cut_new hT1)).app ⟨T1, E1, rfl, ?_, ?_⟩
  · rw [cut_out (by simp [nT, nTB])]; exact upd_same
  · rw [TurnsAt, cut_out (by simp [nE, nEB]), upd_ne nET]; exact hT
theorem pt_imp {X : Cx} {c : Expr} {t t' : TT} (h : PT X c t) (i : ∀ σ H Q, t' σ H Q → t σ H Q) : PT X c t' := ⟨fun pins s σ H Q I q => h.run pins s σ H Q I (i _ _ _ q)⟩
theorem pe_imp {X : Cx} {c : Expr} {t t' : TE} (h : PE X c t) (i : ∀ σ H Q, t' σ H Q → t σ H Q) : PE X c t' := ⟨fun pins s σ H Q I q => h.run pins s σ H Q I (i _ _ _ q)⟩
/-- any answer, whatever whole numbers the slots hold -/
def tAny (l : List Nat) : TT := fun σ H Q => (∀ i ∈ l, ∃ z, σ[i]? = some (some (.int z))) ∧ ∀ b, Q b H
def tKind (l : List Nat) : TE := fun σ H Q => (∀ i ∈ l, ∃ z, σ[i]? = some (some (.int z))) ∧ ∀ k : Str, k = "says" ∨ k = "hears" → Q (.str k) H
/-- one of the two lists that world begins with -/
def tBeg : TE := fun σ H Q => ∃ (p W : Addr) (n t : Int) (ws : List Str), σ[0]? = some (some (.ref p)) ∧ σ[1]? = some (some (.int n)) ∧ σ[2]? = some (some (.ref W)) ∧ Purse H p t ∧ SL H W ws ∧ W ≠ p ∧ (∀ x ∈ ws, Wd x) ∧ ws.length ≤ 6 ∧ 1 ≤ n ∧ n ≤ 6 ∧ t < 2 ^ 26 ∧
  ∀ (H' : Hp) (R : Addr) (zs : List Str) (t' : Int), But p H H' → R ≠ p → SL H' R zs → (∀ x ∈ zs, Wd x) → zs.length = n.toNat → Purse H' p t' → t' ≤ t + 301 → Q (.ref R) H'
section
variable {P : Program} {w : World} {K : PySem.W.Frag} {mg : Str → Option Value} {base : Heap}
abbrev CTurns (P : Program) (w : World) (K : PySem.W.Frag) (mg : Str → Option Value) (base : Heap) := Cal P w K mg base "_law_turns" 4 ["_law_purse_here", "_law_states", "_law_words_here", "_law_at", "_law_top"] spTurns
theorem scWo : FnScope ["_law_purse_here", "_law_many", "_law_words_here", "_law_top", "_law_states", "_law_at", "_law_book", "_law_last", "_law_way"] ["_law_purse_here", "_law_many", "_law_words_here", "_law_top"] (defScope sWorld) := ⟨rfl, rfl, rfl, by decide +kernel, rfl, by decide +kernel, by decide +kernel⟩
theorem ok_world {f : Addr} {fd : FuncData} (F : Fun K "_law_world" "_law_world" sWorld f fd) (T : Free2 mg) (CD : CDraw P w K mg base) (CW : CWords P w K mg base) (CS : CShuf P w K mg base) (CT : CTurns P w K mg base) :
    FnOk P w K mg base CX0 5 f fd ["_law_purse_here", "_law_many", "_law_words_here", "_law_top"] spWorld := by
  refine F.ok scWo (fun vs H Q E h => ?_) (fun cdv A outer s H vs Q E hr h => ?_)
  · obtain ⟨p, W, ws, n, top', t, rfl, _⟩ := h; rfl
  · obtain ⟨p, W, ws, n, top', t, rfl, hp, hW, nW, wok, n0, n1, p0, p1, t1, k⟩ := h
    have hu := hu_of hr
    refine ⟨_, pss_cons (ps_set (i := 4) scWo.nd rfl (Or.inr rfl) (pe_cal CS (hr.mono (by decide)) rfl (pa_cons (pv 0) (pa_cons (pe_imp (t' := tBeg) (pe_ifExp (pt_cmpR op_eq (pe_cal CD (hr.mono (by decide)) rfl (pa_cons (pv 0) (pa_cons pe_int pa_nil))) pe_int (nomark _))
          (pe_cal CW (hr.mono (by decide)) rfl (pa_cons (pv 0) (pa_cons (pv 1) pa_nil)))
          (pe_slice sl_list (pe_op op_cat (pv 2) (pe_cal CW (hr.mono (by decide)) rfl (pa_cons (pv 0) (pa_cons (pv 1) pa_nil)))) po_none (po_some (pv 1)))) ?sub1) pa_nil))))
      (pss_cons (ps_set (i := 4) scWo.nd rfl (Or.inr rfl) (pe_lc (own := [("_law_at", 5)]) (g := gName 5) (tt := tTest (tOp (rEq) (tBM K "list" (rIndex K) (tVar 4) (tCons (tOp (rIxL K) (tVar 4) (tVar 5)) tNil)) (tVar 5))) (te := tOp (rIxL K) (tVar 4) (tVar 5)) rfl scWo.nd
          (pi_range1 rfl T.range (pa_cons (pv 1) pa_nil))
          (blkOk_by (N := ["_law_purse_here", "_law_many", "_law_words_here", "_law_top", "_law_states", "_law_at", "_law_book", "_law_last", "_law_way"]) (sc := defScope sWorld) (by decide +kernel)) (fun _ _ _ _ _ => pg_name (i := 5) scWo.nd rfl (Or.inl rfl))
          (fun _ _ _ _ _ => pts_one (pt_cmpR op_eq (pe_bm PySem.F.plainAttrs_list PySem.F.slot_list_index PySem.F.type_list_index mt_index (pv 4) (pa_cons (pe_ix ix_list (pv 4) (pv 5) (fun _ _ => rfl)) pa_nil)) (pv 5) (nomark _))) (fun _ _ _ _ _ => pe_ix ix_list (pv 4) (pv 5) (fun _ _ => rfl))))
      (pss_cons (ps_par (i := 6) (j := 7) rfl scWo.nd rfl rfl (by decide) rfl rfl (pa_cons pe_dnewK (pa_cons (pe_op op_sub (pe_callB call_len_seq (by rfl) T.len PySem.boot_len (pa_cons (pv 4) pa_nil)) pe_int) pa_nil)) (by rfl))
      (pss_cons (ps_for PassesOwn.never rfl (pi_range1 rfl T.range (pa_cons (pe_callB call_len_seq (by rfl) T.len PySem.boot_len (pa_cons (pv 4) pa_nil)) pa_nil)) (pg_name (i := 5) scWo.nd rfl (Or.inl rfl))
        (pss_cons (ps_set (i := 8) scWo.nd rfl (Or.inl rfl) (pe_cal CD (hr.mono (by decide)) rfl (pa_cons (pv 0) (pa_cons pe_int pa_nil))))
        (pss_one (ps_if (pt_imp (t' := tAny [5, 7, 8]) (PW.pt (pw_or (PW.pt (pw_and (pt_cmpR op_eq (pv 5) (pv 7) (nomark _)) (pw_and1 (pt_cmpR op_gt (pv 8) pe_int (nomark _))))) (pw_or1 (PW.pt (pw_and (pt_cmpR op_eq (pv 8) pe_int (nomark _)) (pw_and1 (pt_cmpR op_gt (pv 5) pe_int (nomark _)))))))) ?sub2)
          (pss_one (ps_dput hu (pv 6) (pe_ix ix_list (pv 4) (pv 5) (fun _ _ => rfl)) (pe_tup (pa_cons pe_str (pa_cons pe_dnewK pa_nil))) rfl))
          (pss_one (ps_dput hu (pv 6) (pe_ix ix_list (pv 4) (pv 5) (fun _ _ => rfl)) (pe_tup (pa_cons (pe_imp (t' := tKind [8]) (pe_ifExp (pt_cmpR op_eq (pe_op op_mod (pv 8) pe_int) pe_int (nomark _)) pe_str pe_str) ?sub3) (pa_cons (pe_cal CT (hr.mono (by decide)) rfl (pa_cons (pv 0) (pa_cons (pv 4) (pa_cons (pv 2) (pa_cons (pv 5) (pa_cons (pv 3) pa_nil)))))) pa_nil))) rfl))))))
      (pss_one (ps_ret (pe_lst (pa_cons (pv 6) (pa_cons (pe_ix ix_list (pv 4) pe_int (fun _ _ => rfl)) pa_nil)))))))), ?_⟩
    case sub1 =>
      rintro σ H Q ⟨p, W, n, t, ws, e0, e1, e2, hp, hW, nW, aw, lw, n0, n1, t1, k⟩
      refine ⟨_, e0, p, 2, t, rfl, hp, by decide, by decide, by omega, fun r t2 o r0 r1 tt2 hp2 => ?_⟩
      have b2 := But.upd p H o
      have hW2 : SL (L2.upd H p o) W ws := by rw [SL, upd_ne nW]; exact hW
      generalize L2.upd H p o = H2 at b2 hW2 hp2
      refine ⟨rfl, _, rfl, ?_⟩
      refine ite2 (fun _ => ?_) (fun _ => ?_)
      · refine ⟨_, e0, _, e1, p, n, t2, rfl, hp2, by omega, by omega, by omega, fun H3 R ss t3 b3 hR hS ls nd aw hp3 tt3 => ?_⟩
        exact k H3 R ss t3 (b2.trans b3) (hp2.ne hR) hS aw ls hp3 (by omega)
      · refine ⟨_, e2, _, e0, _, e1, p, n, t2, rfl, hp2, by omega, by omega, by omega, fun H3 R ss t3 b3 hR hS ls nd aw2 hp3 tt3 => ?_⟩
        have hW3 : SL H3 W ws := b3 _ _ nW hW2
        refine ⟨W, R, _, _, rfl, rfl, hW3, hS, by rw [List.length_map, List.length_map, sizeLine_eq]; omega, fun q hq => ?_⟩
        refine ⟨_, e1, n, rfl, q, _, rfl, SqL.of upd_same, fun q2 hq2 => ?_⟩
        rw [← List.map_append, cutV_map, cutL_to _ (by omega)]
        rw [← List.map_append] at hq2
        refine k _ q2 _ t3 (((b2.trans b3).newt hq).newt hq2) ((hp3.new hq).ne hq2) upd_same (fun x hx => ?_) ?_ ((hp3.new hq).new hq2) (by omega)
        · rcases List.mem_append.mp (List.mem_of_mem_take hx) with z | z
          · exact aw x z
          · exact aw2 x z
        · rw [List.length_take, List.length_append]; omega
    case sub2 =>
      rintro σ H Q ⟨a, k⟩
      obtain ⟨z5, e5⟩ := a 5 (by simp)
      obtain ⟨z7, e7⟩ := a 7 (by simp)
      obtain ⟨z8, e8⟩ := a 8 (by simp)
      have two : ∃ a, σ[8]? = some (some a) ∧ rEq a (.int 10) H fun x H' => ∃ k, x = .bl k ∧ if k = true then (∃ a, σ[5]? = some (some a) ∧ rI0 (fun i j => V.bl (decide (j < i))) a (.int 0) H' fun x H' => ∃ k, x = .bl k ∧ Q k H') else Q false H' := by
        refine ⟨_, e8, rfl, _, rfl, ite2 (fun _ => ⟨_, e5, _, _, rfl, rfl, _, rfl, k _⟩) (fun _ => k _)⟩
      refine ⟨_, e5, _, e7, rfl, _, rfl, ?_⟩
      refine ite2 (fun _ => ⟨_, e8, _, _, rfl, rfl, _, rfl, ?_⟩) (fun _ => ?_)
      · exact ite2 (fun _ => k _) (fun _ => two)
      · exact iteF two
    case sub3 =>
      rintro σ H Q ⟨a, k⟩
      obtain ⟨z8, e8⟩ := a 8 (by simp)
      refine ⟨_, e8, _, _, rfl, rfl, (by show (0 : Int) < 2; decide), rfl, _, rfl, ?_⟩
      exact ite2 (fun _ => k _ (.inl rfl)) (fun _ => k _ (.inr rfl))
    refine ⟨_, rfl, p, W, n, t, ws, rfl, rfl, rfl, hp, hW, nW, wok.wd, wok.hi, n0, n1, t1, fun H3 R zs0 t3 b3 nR hS az0 lz0 hp3 tt3 => ?_⟩
    refine ⟨p, R, _, t3, rfl, hp3, hS, nR, by rw [List.length_map]; omega, by omega, fun H4 R4 ys t4 b4 hR4 hy pm hp4 tt4 => ?_⟩
    obtain ⟨zs, rfl, pz⟩ := perm_str pm
    rw [List.length_map, lz0] at tt4
    have lz : zs.length = n.toNat := by rw [pz.length_eq]; exact lz0
    have az : ∀ x ∈ zs, Wd x := fun x hx => az0 x (pz.mem_iff.mp hx)
    have bH4 := b3.trans b4
    have nR4 := hp3.ne hR4
    have hW4 : SL H4 W ws := bH4 _ _ nW hW
    clear b3 b4 hS pm az0 lz0 hp3 pz
    have hy : SL H4 R4 zs := hy
    refine ⟨_, rfl, n, rfl, by omega, by omega, fun D hD => ?_⟩
    refine lc_range (n := n.toNat) (fun i H' => ∃ rs : List Str, Same H4 H' ∧ SL H' D rs ∧ rs.Nodup ∧ (∀ x ∈ rs, x ∈ zs.take i) ∧ (0 < i → rs ≠ []) ∧ rs.length ≤ i)
      ⟨[], Same.new hD, upd_same, List.nodup_nil, by simp, fun c => absurd c (by decide), Nat.le_refl _⟩ ?_ ?_
    · rintro i H' hi ⟨rs, sm, hD', nd, sub, ne, ll⟩
      have hiz : i < zs.length := by omega
      have hx := List.getElem?_eq_getElem hiz
      have ha : atI (zs.map V.str) (0 + (i : Int)) = some (V.str zs[i]) := at_of (j := i) (by omega) (by rw [List.getElem?_map, hx]; rfl)
      obtain ⟨j, hj, no⟩ := first_at (List.getElem_mem hiz)
      generalize zs[i] = x at hx ha hj no
      have hy' := (hy.same sm).sq (K := K)
      refine ⟨rfl, _, rfl, .inl ⟨rfl, _, hy'⟩, _, rfl, _, rfl, R4, _, _, _, rfl, rfl, hy', ha, R4, _, .str x, j, .str x, rfl, rfl, hy', rfl, flat_strs zs, by rw [List.getElem?_map, hj]; rfl, ?_, fun m z' hm hz => ?_, ?_⟩
      · show (x == x) = true
        exact beq_self_eq_true x
      · obtain ⟨y, hyy, rfl⟩ := get_map hz
        show (y == x) = false
        exact beq_eq_false_iff_ne.mpr fun e => no m hm (by rw [hyy, e])
      refine ⟨_, rfl, rfl, _, rfl, ?_⟩
      have hji : j ≤ i := by
        rcases Nat.lt_or_ge i j with c | c
        · exact absurd hx (no i c)
        · exact c
      refine ite2 (fun c => ?_) (fun c => ?_)
      · have ej : j = i := by
          have := of_decide_eq_true c
          have e2 : (j : Int) = 0 + (i : Int) := by injection this
          omega
        have xn : x ∉ zs.take i := fun hm => by
          obtain ⟨m, hm1, hm2⟩ := List.mem_take_iff_getElem.mp hm
          have : m < j := by omega
          exact no m this (by rw [List.getElem?_eq_getElem (by omega), hm2])
        refine ⟨_, rfl, _, rfl, R4, _, _, _, rfl, rfl, hy', ha, _, hD', by rw [List.length_map, sizeLine_eq]; omega, rs ++ [x], ?_, by rw [SL, upd_same, List.map_append]; rfl, nodup_app nd fun z => xn (sub x z), fun z hz => ?_, fun _ e => by simp at e, by rw [List.length_append]; simp only [List.length_singleton]; omega⟩
        · intro b u e
          rw [upd_ne (ne_of_none e hD)]; exact sm _ _ e
        · rw [take_succ_get hx]
          rcases List.mem_append.mp hz with z1 | z1
          · exact List.mem_append_left _ (sub z z1)
          · exact List.mem_append_right _ z1
      · have ei : i ≠ 0 := fun e => by
          refine c (decide_eq_true ?_)
          have : j = i := by omega
          rw [this, Int.zero_add]
        exact ⟨rs, sm, hD', nd, fun z hz => by rw [take_succ_get hx]; exact List.mem_append_left _ (sub z hz), fun _ => ne (by omega), by omega⟩
    · rintro H5 ⟨rs, sm, hD', nd, sub, ne, ll⟩
      have ne' := ne (by omega)
      have ln : 1 ≤ rs.length := List.length_pos_iff.mpr ne'
      have ar : ∀ x ∈ rs, Wd x := fun x hx => az x (List.mem_of_mem_take (sub x hx))
      have b5 := bH4.trans (But.of sm)
      have hp5 := hp4.same sm
      have hW5 := hW4.same sm
      have nDp := hp4.ne hD
      clear hy sub ne hD
      refine fun B hB => ⟨_, rfl, D, _, rfl, .inl (hD'.new hB).sq, _, _, rfl, rfl, _, _, rfl, ?_⟩
      have nBp := hp5.ne hB
      have nDB : D ≠ B := ne_of_none hD' hB
      have nWB : W ≠ B := ne_of_none hW5 hB
      have hB0 : H B = none := b5.fr hB nBp
      refine ⟨_, rfl, D, _, rfl, .inl (hD'.new hB).sq, _, rfl, by rw [List.length_map]; omega, by rw [List.length_map]; omega, ?_⟩
      rw [List.length_map]
      refine for_range (n := rs.length) (fun i σ H' => ∃ (v5 v8 : Option V) (bk : Bk) (t' : Int), σ = [some (.ref p), some (.int n), some (.ref W), some (.int top'), some (.ref D), v5, some (.ref B), some (.int ((rs.length : Int) - 1)), v8] ∧ But p H H' ∧ SL H' D rs ∧ SL H' W ws ∧ (∃ kvs, H' B = some (.dK kvs) ∧ Rows (cut [p, B] H') kvs bk) ∧ bk.map (·.1) = rs.take i ∧ (∀ r ∈ bk, ROk rs ws r) ∧ Purse H' p t' ∧ t' ≤ t4 + 51 * i)
        ⟨none, none, [], t4, rfl, b5.newt hB, hD'.new hB, hW5.new hB, ⟨[], upd_same, .nil⟩, by simp, by simp, hp5.new hB, by omega⟩ ?_ ?_
      · rintro i σ H' hi ⟨v5, v8, bk, t', rfl, b, hDD, hWW, ⟨kvs, hBB, hR⟩, ek, ak, hp', tt'⟩
        have hx := List.getElem?_eq_getElem hi
        have hxm := List.getElem_mem hi
        have ha : atI (rs.map V.str) (0 + (i : Int)) = some (V.str rs[i]) := at_of (j := i) (by omega) (by rw [List.getElem?_map, hx]; rfl)
        generalize rs[i] = x at hx hxm ha
        have xn : x ∉ bk.map (·.1) := fun z => by
          rw [ek] at z
          obtain ⟨m, hm1, hm2⟩ := List.mem_take_iff_getElem.mp z
          have h1 : rs[m]? = some x := by rw [List.getElem?_eq_getElem (by omega), hm2]
          have := (List.getElem?_inj (by omega) nd).mp (h1.trans hx.symm)
          omega
        have lk : kvs.length ≤ 6 := by
          rw [hR.len, ← List.length_map (·.1), ek, List.length_take]; omega
        refine ⟨_, rfl, p, 11, t', rfl, hp', by decide, by decide, by omega, fun way t5 o r0 r1 tt5 hp5 => ?_⟩
        have hD5 : SL (L2.upd H' p o) D rs := by rw [SL, upd_ne nDp]; exact hDD
        have hW5 : SL (L2.upd H' p o) W ws := by rw [SL, upd_ne nW]; exact hWW
        have hB5 : (L2.upd H' p o) B = some (.dK kvs) := by rw [upd_ne nBp]; exact hBB
        have hR5 : Rows (cut [p, B] (L2.upd H' p o)) kvs bk := by rw [cut_upd (by simp)]; exact hR
        have b5 := b.trans (But.upd p H' o)
        generalize L2.upd H' p o = H5 at hD5 hW5 hB5 hR5 hp5 b5
        clear hDD hWW hBB hR b hp'
        refine ⟨fun j hj => ?_, fun bb => ?_⟩
        · simp only [List.mem_cons, List.not_mem_nil, or_false] at hj
          rcases hj with rfl | rfl | rfl
          · exact ⟨_, rfl⟩
          · exact ⟨_, rfl⟩
          · exact ⟨_, rfl⟩
        have fin : ∀ (H6 : Hp) (E1 T1 : Addr) (k0 : Str) (ts : List (Str × Str)) (t6 : Int), But p H5 H6 → E1 ≠ p → E1 ≠ B → TurnsAt H6 E1 ts → H6 T1 = none → Purse H6 p t6 → t6 ≤ t5 + 50 → ROk rs ws (x, k0, ts) →
            ∃ (v5 v8 : Option V) (bk2 : Bk) (t' : Int), [some (.ref p), some (.int n), some (.ref W), some (.int top'), some (.ref D), some (.int (0 + (i : Int))), some (.ref B), some (.int ((rs.length : Int) - 1)), some (.int way)] = [some (.ref p), some (.int n), some (.ref W), some (.int top'), some (.ref D), v5, some (.ref B), some (.int ((rs.length : Int) - 1)), v8] ∧ But p H (L2.upd (L2.upd H6 T1 (.tup [.str k0, .ref E1])) B (.dK (putK kvs (.inr x) (.ref T1)))) ∧ SL (L2.upd (L2.upd H6 T1 (.tup [.str k0, .ref E1])) B (.dK (putK kvs (.inr x) (.ref T1)))) D rs ∧ SL (L2.upd (L2.upd H6 T1 (.tup [.str k0, .ref E1])) B (.dK (putK kvs (.inr x) (.ref T1)))) W ws ∧
              (∃ kvs', (L2.upd (L2.upd H6 T1 (.tup [.str k0, .ref E1])) B (.dK (putK kvs (.inr x) (.ref T1)))) B = some (.dK kvs') ∧ Rows (cut [p, B] (L2.upd (L2.upd H6 T1 (.tup [.str k0, .ref E1])) B (.dK (putK kvs (.inr x) (.ref T1))))) kvs' bk2) ∧ bk2.map (·.1) = rs.take (i + 1) ∧ (∀ r ∈ bk2, ROk rs ws r) ∧ Purse (L2.upd (L2.upd H6 T1 (.tup [.str k0, .ref E1])) B (.dK (putK kvs (.inr x) (.ref T1)))) p t' ∧ t' ≤ t4 + 51 * ((i + 1 : Nat) : Int) := by
          intro H6 E1 T1 k0 ts t6 b6 nE nEB hT hT1 hp6 tt6 rok
          have hB6 : H6 B = some (.dK kvs) := b6 _ _ nBp hB5
          have nT := hp6.ne hT1
          refine ⟨_, _, bk ++ [(x, k0, ts)], t6, rfl, But.ofL hB0 ((b5.trans b6).newt hT1), ?_, ?_, row_step hB6 (hR5.same (cut_but b6 (by simp))) xn hT nE nEB nT hT1, ?_, fun r hr => ?_, (hp6.new hT1).upd nBp.symm, by omega⟩
          · rw [SL, upd_ne nDB]; exact SL.new (b6 _ _ nDp hD5) hT1
          · rw [SL, upd_ne nWB]; exact SL.new (b6 _ _ nW hW5) hT1
          · rw [List.map_append, ek, take_succ_get hx]; rfl
          · rcases List.mem_append.mp hr with z | z
            · exact ak r z
            · rw [List.mem_singleton.mp z]; exact rok
        refine ite2 (fun _ => ?_) (fun _ => ?_)
        · refine fun E1 hE1 => ⟨by show 2 ≤ sizeLine; decide, fun T1 hT1 => ?_⟩
          have hD6 := (hD5.new (o := .dK []) hE1).new (o := .tup [.str "done", .ref E1]) hT1
          refine ⟨_, rfl, _, rfl, _, rfl, D, _, _, _, rfl, rfl, hD6.sq, ha, B, _, rfl, DPut.k (kvs := kvs) (k := Sum.inr x) ?_ (by rw [sizeLine_eq]; omega), ?_⟩
          · exact Same.new hT1 _ _ (Same.new hE1 _ _ hB5)
          · exact fin _ E1 T1 "done" [] t5 (But.new hE1) (hp5.ne hE1) (ne_of_none hB5 hE1).symm upd_same hT1 (hp5.new hE1) (by omega) ⟨ar x hxm, .inl ⟨rfl, rfl⟩⟩
        · refine ⟨fun j hj => ?_, fun k0 hk0 => ?_⟩
          · simp only [List.mem_cons, List.not_mem_nil, or_false] at hj
            rw [hj]; exact ⟨_, rfl⟩
          refine ⟨_, rfl, _, rfl, _, rfl, _, rfl, _, rfl, p, D, W, rs, ws, _, top', t5, rfl, hp5, hD5, hW5, nDp, nW, ln, by omega, wok.lo, Nat.le_trans wok.hi (by decide), wok.nd, by omega, by omega, p0, p1, by omega, fun H6 E1 ts t6 b6 hE1 hT ok ne6 hp6 tt6 => ?_⟩
          refine ⟨by show 2 ≤ sizeLine; decide, fun T1 hT1 => ?_⟩
          have hD6 := SL.new (o := .tup [.str k0, .ref E1]) (b6 _ _ nDp hD5 : SL H6 D rs) hT1
          refine ⟨_, rfl, _, rfl, _, rfl, D, _, _, _, rfl, rfl, hD6.sq, ha, B, _, rfl, DPut.k (k := Sum.inr x) (Same.new hT1 _ _ (b6 _ _ nBp hB5)) (by rw [sizeLine_eq]; omega), ?_⟩
          exact fin H6 E1 T1 k0 ts t6 b6 (hp5.ne hE1) (ne_of_none hB5 hE1).symm hT hT1 hp6 tt6 ⟨ar x hxm, .inr ⟨hk0, ne6, ok⟩⟩
      · rintro σ H' ⟨v5, v8, bk, t', rfl, b, hDD, hWW, ⟨kvs, hBB, hR⟩, ek, ak, hp', tt'⟩
        rw [List.take_length] at ek
        have ha : atI (rs.map V.str) (0 : Int) = some (V.str rs[0]) := at_of (j := 0) (by omega) (by rw [List.getElem?_map, List.getElem?_eq_getElem ln]; rfl)
        have h0 : rs[0] ∈ rs := List.getElem_mem ln
        refine ⟨_, rfl, _, rfl, D, _, _, _, rfl, rfl, hDD.sq, ha, by show 2 ≤ sizeLine; decide, fun R hR1 => ?_⟩
        refine k _ R bk rs[0] t' (b.newt hR1) (b.fr hR1 (hp'.ne hR1)) ⟨B, ?_, kvs, ?_, hR.same ?_⟩ ⟨by rw [ek]; exact nd, by rw [ek]; exact ak, by rw [ek]; exact h0, ?_⟩ (hp'.new hR1) (by omega)
        · rw [cut_out (by simp [hp'.ne hR1])]; exact upd_same
        · rw [cut_out (by simp [nBp])]; exact Same.new hR1 _ _ hBB
        · exact fun c u e => cut_new hR1 _ _ (cut_mono (S := [p, B]) (S' := [p]) (by simp) _ _ e)
        · rw [← List.length_map (·.1), ek]; omega
end
end D1
end L2
/-! forms: is_name, is_names, is_state_of, is_row -/
namespace L2
namespace D1
open PySem PySem.Spec PyProof.Rows
abbrev sIsName : Stmt := top 3
abbrev sIsRow : Stmt := top 4
abbrev sIsState : Stmt := top 5
/-- the names of built-in classes, and the two numbers of forms -/
structure Free3 (mg : Str → Option Value) : Prop extends Free2 mg where
  lets : ∃ t, mg "LETTERS" = some (.str abc t)
  most : ∃ t, mg "MOST_LETTERS" = some (.int 8 t)
def spIsName : Sp := fun vs H Q _ => ∃ x : Str, vs = [.str x] ∧ Wd x ∧ ∀ H', Same H H' → Q (.bl true) H'
def spIsNames : Sp := fun vs H Q _ => ∃ (L : Addr) (ss : List Str), vs = [.ref L] ∧ SL H L ss ∧ ss.length ≤ 1000 ∧ (∀ x ∈ ss, Wd x) ∧ ∀ H', Same H H' → Q (.bl true) H'
def spIsState : Sp := fun vs H Q _ => ∃ (b : Addr) (kvs : List (Key × V)) (x : Str), vs = [.ref b, .str x] ∧ Rd H b (.dK kvs) ∧ (valV kvs (.inr x)).isSome = true ∧ Q (.bl true) H
/-- a row by its form -/
def RForm (k : Str) (ts : List (Str × Str)) : Prop := (k = "done" ∧ ts = []) ∨ ((k = "says" ∨ k = "hears") ∧ ts ≠ [] ∧ ts.length ≤ 1000 ∧ ∀ t ∈ ts, Wd t.1 ∧ Wd t.2)
def spIsRow : Sp := fun vs H Q _ => ∃ (v : V) (k : Str) (ts : List (Str × Str)), vs = [v] ∧ RowAt H v k ts ∧ RForm k ts ∧ ∀ H', Same H H' → Q (.bl true) H'
theorem Same.unlock {H H' : Hp} {b : Addr} {u f : HO} (e : H b = some u) (s : Same (L2.upd H b f) H') : Same H (L2.upd H' b u) := fun c o ec => by
  by_cases h : c = b
  · rw [h] at ec ⊢; rw [upd_same, ← ec, e]
  · rw [upd_ne h]; exact s _ _ (by rw [upd_ne h]; exact ec)
theorem all_true (n : Nat) : (List.replicate n true).all id = true := by
  induction n with
  | zero => rfl
  | succ n ih => rw [List.replicate_succ, List.all_cons, ih]; rfl
theorem repl_snoc (n : Nat) : (List.replicate n true).map V.bl ++ [V.bl true] = (List.replicate (n + 1) true).map V.bl := by
  rw [List.replicate_succ', List.map_append]; rfl
section
variable {P : Program} {w : World} {K : PySem.W.Frag} {mg : Str → Option Value} {base : Heap}
abbrev CIsName (P : Program) (w : World) (K : PySem.W.Frag) (mg : Str → Option Value) (base : Heap) := Cal P w K mg base "is_name" 1 ["value"] spIsName
theorem scIn : FnScope ["value", "letter"] ["value"] (defScope sIsName) := ⟨rfl, rfl, rfl, by decide +kernel, rfl, by decide +kernel, by decide +kernel⟩
theorem ok_isname {f : Addr} {fd : FuncData} (F : Fun K "is_name" "is_name" sIsName f fd) (T : Free3 mg) : FnOk P w K mg base CX0 1 f fd ["value"] spIsName := by
  obtain ⟨tL, eL⟩ := T.lets
  obtain ⟨tM, eM⟩ := T.most
  refine F.ok scIn (fun vs H Q E h => ?_) (fun cdv A outer s H vs Q E hr h => ?_)
  · obtain ⟨x, rfl, _⟩ := h; rfl
  · obtain ⟨x, rfl, wx, k⟩ := h
    refine ⟨_, pss_cons (ps_if (PW.pt (pw_or (pt_not (pt_val (pe_callB call_isi (by rfl) T.isi (by decide +kernel) (pa_cons (pv 0) (pa_cons (pe_bltn (v := .ty "str") rfl T.str (by decide +kernel) rfl) pa_nil))))) (pw_or1 (pt_not (pt_chain op_le op_le pe_int (pe_callB call_len_str (by rfl) T.len PySem.boot_len (pa_cons (pv 0) pa_nil)) (pe_glob (v := .int 8) rfl eM ⟨_, rfl⟩)))))) (pss_one (ps_ret pe_bl)) pss_nil)
      (pss_one (ps_ret (pe_callB (cr_all rfl) (by rfl) T.all (by decide +kernel) (pa_cons (pe_lc (own := [("letter", 1)]) (g := gName 1) (tt := tYes) rfl scIn.nd (pi_str (pv 0))
        (blkOk_by (N := ["value", "letter"]) (sc := defScope sIsName) (by decide +kernel)) (fun _ _ _ _ _ => pg_name (i := 1) scIn.nd rfl (Or.inl rfl)) (fun _ _ _ _ _ => pts_nil)
        (fun _ _ _ _ _ => pe_cmpR op_in_sign (pv 1) (pe_glob (v := .str abc) rfl eL ⟨_, rfl⟩) rfl)) pa_nil)))), ?_⟩
    have l1 := wx.lo
    have l2 := wx.hi
    refine ⟨_, rfl, _, .ty "str", .type "str", .type "str", true, rfl, .ty _, .base (.str _), kit_ty (by decide +kernel), _, rfl, ?_⟩
    refine iteF ?_
    refine ⟨_, rfl, x, rfl, by rw [sizeLine_eq]; omega, _, _, rfl, rfl, _, rfl, ?_⟩
    rw [decide_eq_true (show (1 : Int) ≤ x.length by omega)]
    refine iteT ⟨_, _, rfl, rfl, _, rfl, ?_⟩
    rw [decide_eq_true (show (x.length : Int) ≤ 8 by omega)]
    refine iteF ?_
    refine ⟨_, rfl, x, rfl, fun D hD => ?_⟩
    refine lc_it (walk_str (z := x)) (fun i H' => Same H H' ∧ H' D = some (.lst ((List.replicate i true).map V.bl))) ⟨Same.new hD, upd_same⟩ (fun _ _ _ _ => trivial) ?_ ?_
    · rintro i v H1 H2 hi ⟨sm, hl⟩ ⟨rfl, c, hc, rfl⟩
      refine ⟨rfl, ?_⟩
      dsimp only [tYes]
      rw [if_pos rfl]
      have hm : c ∈ tl x := by
        rw [tl, ← Array.getElem?_toList] at *
        exact List.mem_of_getElem? hc
      have hr' := wx.ok c hm
      have ha : ∀ c, 97 ≤ c → c ≤ 122 → c ∈ abc.cps.toList := by
        have h : ∀ j : Fin 26, (97 + j.val) ∈ abc.cps.toList := by decide +kernel
        intro c h1 h2
        have := h ⟨c - 97, by omega⟩
        rwa [show 97 + (c - 97) = c by omega] at this
      refine ⟨_, rfl, c, abc, rfl, rfl, _, hl, by rw [List.length_map, List.length_replicate, sizeLine_eq]; have : x.cps.size = x.length := rfl; omega, ?_, ?_⟩
      · intro b u e
        rw [upd_ne (ne_of_none e hD)]; exact sm _ _ e
      · rw [upd_same, decide_eq_true (ha c hr'.1 hr'.2), repl_snoc]
    · rintro H1 ⟨sm, hl⟩
      refine ⟨D, _, rfl, SqL.of hl, ?_⟩
      rw [all_true]
      exact k H1 sm
theorem scIst : FnScope ["book", "value"] ["book", "value"] (defScope sIsState) := ⟨rfl, rfl, rfl, by decide +kernel, rfl, by decide +kernel, by decide +kernel⟩
theorem ok_isstate {f : Addr} {fd : FuncData} (F : Fun K "is_state_of" "is_state_of" sIsState f fd) (T : Free3 mg) : FnOk P w K mg base CX0 1 f fd ["book", "value"] spIsState := by
  refine F.ok scIst (fun vs H Q E h => ?_) (fun cdv A outer s H vs Q E hr h => ?_)
  · obtain ⟨b, kvs, x, rfl, _⟩ := h; rfl
  · obtain ⟨b, kvs, x, rfl, hb, hx, k⟩ := h
    have hu := hu_of hr
    refine ⟨_, pss_one (ps_ret (pe_and (pe_callB call_isi (by rfl) T.isi (by decide +kernel) (pa_cons (pv 1) (pa_cons (pe_bltn (v := .ty "str") rfl T.str (by decide +kernel) rfl) pa_nil))) (pe_one (pe_cmp (pc_din hu (pv 1) (pv 0)) rfl)))), ?_⟩
    refine ⟨_, rfl, _, .ty "str", .type "str", .type "str", true, rfl, .ty _, .base (.str _), kit_ty (by decide +kernel), _, rfl, ?_⟩
    refine iteT ⟨_, rfl, _, rfl, b, _, rfl, .inl ⟨kvs, .inr x, hb, rfl, rfl⟩, ?_⟩
    rw [hx]
    exact k
abbrev CIsRow (P : Program) (w : World) (K : PySem.W.Frag) (mg : Str → Option Value) (base : Heap) := Cal P w K mg base "is_row" 2 ["value"] spIsRow
theorem scIr : FnScope ["value", "kind", "turns", "word", "goal"] ["value"] (defScope sIsRow) := ⟨rfl, rfl, rfl, by decide +kernel, rfl, by decide +kernel, by decide +kernel⟩
theorem ok_isrow {f : Addr} {fd : FuncData} (F : Fun K "is_row" "is_row" sIsRow f fd) (T : Free3 mg) (CN : CIsName P w K mg base) : FnOk P w K mg base CX0 2 f fd ["value"] spIsRow := by
  refine F.ok scIr (fun vs H Q E h => ?_) (fun cdv A outer s H vs Q E hr h => ?_)
  · obtain ⟨v, k, ts, rfl, _⟩ := h; rfl
  · obtain ⟨v, kd, ts, rfl, ⟨t, a, rfl, ht, ha⟩, rf, k⟩ := h
    have hu := hu_of hr
    refine ⟨_, pss_cons (ps_if (PW.pt (pw_or (pt_not (pt_val (pe_callB call_isi (by rfl) T.isi (by decide +kernel) (pa_cons (pv 0) (pa_cons (pe_bltn (v := .ty "tuple") rfl T.tuple (by decide +kernel) rfl) pa_nil))))) (pw_or1 (pt_cmpR op_ne (pe_callB call_len_seq (by rfl) T.len PySem.boot_len (pa_cons (pv 0) pa_nil)) pe_int (nomark _))))) (pss_one (ps_ret pe_bl)) pss_nil)
      (pss_cons (ps_asg (pv 0) (pg_tup rfl (pgs_cons (pg_name (i := 1) scIr.nd rfl (Or.inl rfl)) (pgs_cons (pg_name (i := 2) scIr.nd rfl (Or.inl rfl)) pgs_nil))))
      (pss_cons (ps_if (pt_not (pt_val (pe_callB call_isi (by rfl) T.isi (by decide +kernel) (pa_cons (pv 2) (pa_cons (pe_bltn (v := .ty "dict") rfl T.dict (by decide +kernel) rfl) pa_nil))))) (pss_one (ps_ret pe_bl)) pss_nil)
      (pss_cons (ps_if (pt_cmpR op_eq (pv 1) pe_str (nomark _)) (pss_one (ps_ret (pe_cmpR op_eq (pe_callB call_lenD (by rfl) T.len PySem.boot_len (pa_cons (pv 2) pa_nil)) pe_int (nomark _)))) pss_nil)
      (pss_cons (ps_if (PW.pt (pw_and (pt_cmpR op_ne (pv 1) pe_str (nomark _)) (pw_and1 (pt_cmpR op_ne (pv 1) pe_str (nomark _))))) (pss_one (ps_ret pe_bl)) pss_nil)
      (pss_one (ps_ret (pe_and (pe_cmpR op_gt (pe_callB call_lenD (by rfl) T.len PySem.boot_len (pa_cons (pv 2) pa_nil)) pe_int (nomark _)) (pe_one (pe_callB (cr_all rfl) (by rfl) T.all (by decide +kernel) (pa_cons (pe_lock (pe_lc (own := [("word", 3), ("goal", 4)]) (g := gTup K 2 (gCons (gName 3) (gCons (gName 4) gNil))) (tt := tYes) rfl scIr.nd (pi_items (pv 2))
        (blkOk_by (N := ["value", "kind", "turns", "word", "goal"]) (sc := defScope sIsRow) (by decide +kernel)) (fun _ _ _ _ _ => pg_tup rfl (pgs_cons (pg_name (i := 3) scIr.nd rfl (Or.inl rfl)) (pgs_cons (pg_name (i := 4) scIr.nd rfl (Or.inl rfl)) pgs_nil))) (fun _ _ _ _ _ => pts_nil)
        (fun _ _ _ _ _ => pe_and (pe_cal CN (hr.mono (by decide)) rfl (pa_cons (pv 3) pa_nil)) (pe_one (pe_cal CN (hr.mono (by decide)) rfl (pa_cons (pv 4) pa_nil)))))) pa_nil)))))))))), ?_⟩
    refine ⟨_, rfl, _, .ty "tuple", .type "tuple", .type "tuple", true, rfl, .ty _, .base (.tup ht), kit_ty (by decide +kernel), _, rfl, ?_⟩
    refine iteF ⟨_, rfl, t, _, rfl, .inr (SqT.of ht), ?_⟩
    refine ⟨rfl, _, rfl, ?_⟩
    refine iteF ⟨_, rfl, t, _, rfl, SqT.of ht, rfl, _, _, rfl, _, _, rfl, rfl, ?_⟩
    refine ⟨_, rfl, _, .ty "dict", .type "dict", .type "dict", true, rfl, .ty _, .base (.dK ha), kit_ty (by decide +kernel), _, rfl, ?_⟩
    refine iteF ⟨_, rfl, rfl, _, rfl, ?_⟩
    rcases rf with ⟨rfl, rfl⟩ | ⟨hk, ne, ll, aw⟩
    · refine iteT ⟨_, rfl, a, [], rfl, ha, rfl, ?_⟩
      exact k H (Same.refl H)
    · have nk : (decide (V.str kd = V.str "done")) = false := by
        refine decide_eq_false fun e => ?_
        have e : kd = "done" := by injection e
        rcases hk with h | h <;> rw [h] at e <;> exact absurd e (by decide)
      rw [nk]
      refine iteF ⟨_, rfl, rfl, _, rfl, ?_⟩
      have bad : (!decide (V.str kd = V.str "says")) = true → (!decide (V.str kd = V.str "hears")) = true → False := fun c1 c2 => by
        rcases hk with h | h
        · rw [h] at c1; simp at c1
        · rw [h] at c2; simp at c2
      refine ite2 (fun c1 => ⟨_, rfl, rfl, _, rfl, ite2 (fun c2 => (bad c1 c2).elim) (fun _ => ?_)⟩) (fun _ => iteF ?_)
      all_goals
        refine ⟨_, rfl, a, _, rfl, ha, _, _, rfl, rfl, _, rfl, ?_⟩
        have lp : 0 < (kT ts).length := by rw [kT, List.length_map]; exact List.length_pos_iff.mpr ne
        rw [decide_eq_true (show (0 : Int) < ((kT ts).length : Int) by omega)]
        refine iteT ⟨a, _, ha, trivial, fun od => ?_⟩
        refine ⟨_, rfl, a, od, kT ts, rfl, upd_same, fun D hD => ?_⟩
        have nD : a ≠ D := fun e => by rw [← e, upd_same] at hD; cases hD
        have hD0 := upd_none' hD
        refine lc_it (walk_items (d := a) (o := od) (kvs := kT ts)) (fun i H' => Same (L2.upd H a (.frz od (.dK (kT ts)))) H' ∧ H' D = some (.lst ((List.replicate i true).map V.bl))) ⟨Same.new hD, upd_same⟩ (fun i H' _ z => z.1 _ _ upd_same) ?_ ?_
        · rintro i v H1 H2 hi ⟨sm, hl⟩ ⟨T1, x, y, rfl, hT1, rfl, ex, ey⟩
          have hi' : i < ts.length := by rw [kT, List.length_map] at hi; exact hi
          have hk1 : (kT ts)[i]? = some (.inr ts[i].1, .str ts[i].2) := by rw [kT, List.getElem?_map, List.getElem?_eq_getElem hi']; rfl
          dsimp only at ex ey
          rw [hk1] at ex ey
          cases ex; cases ey
          have hw := aw ts[i] (List.getElem_mem hi')
          have nTD : D ≠ T1 := ne_of_none hl hT1
          refine ⟨T1, _, rfl, SqT.of upd_same, rfl, _, _, rfl, _, _, rfl, rfl, rfl, ?_⟩
          dsimp only [tYes]
          rw [if_pos rfl]
          refine ⟨_, rfl, _, rfl, hw.1, fun H3 s3 => ⟨_, rfl, iteT ⟨_, rfl, _, rfl, hw.2, fun H4 s4 => ?_⟩⟩⟩
          refine ⟨_, s4 _ _ (s3 _ _ (by rw [upd_ne nTD]; exact hl)), by rw [List.length_map, List.length_replicate, sizeLine_eq]; omega, ?_, ?_⟩
          · intro b u e
            rw [upd_ne (ne_of_none e hD)]; exact s4 _ _ (s3 _ _ (Same.new hT1 _ _ (sm _ _ e)))
          · rw [upd_same, repl_snoc]
        · rintro H1 ⟨sm, hl⟩
          refine ⟨sm _ _ upd_same, D, _, rfl, SqL.of (by rw [upd_ne nD.symm]; exact hl), ?_⟩
          rw [all_true]
          exact k _ (Same.unlock ha sm)
end
end D1
end L2
/-! ordered turns and books -/
namespace L2
namespace D1
open PySem PySem.Spec PyProof.Rows
def leC (a b : List Nat) : Prop := ltCps b a = false
theorem leC_trans : ∀ {a b c : List Nat}, leC a b → leC b c → leC a c
  | [], _, [], _, _ => rfl
  | [], _, _ :: _, _, _ => rfl
  | _ :: _, [], _, h, _ => by cases h
  | _ :: _, _ :: _, [], _, h => by cases h
  | x :: a, y :: b, z :: c, h1, h2 => by
    unfold leC at *
    unfold ltCps at *
    simp only [Bool.or_eq_false_iff, decide_eq_false_iff_not, Bool.and_eq_false_iff, beq_eq_false_iff_ne] at *
    obtain ⟨p1, q1⟩ := h1
    obtain ⟨p2, q2⟩ := h2
    refine ⟨by omega, ?_⟩
    by_cases e : z = x
    · right
      have e1 : y = x := by omega
      have e2 : z = y := by omega
      have r1 := q1.resolve_left fun n => n e1
      have r2 := q2.resolve_left fun n => n e2
      exact leC_trans (a := a) (b := b) (c := c) r1 r2
    · exact .inl e
theorem leC_anti : ∀ {a b : List Nat}, leC a b → leC b a → a = b
  | [], [], _, _ => rfl
  | [], _ :: _, _, h => by cases h
  | _ :: _, [], h, _ => by cases h
  | x :: a, y :: b, h1, h2 => by
    unfold leC at *
    unfold ltCps at *
    simp only [Bool.or_eq_false_iff, decide_eq_false_iff_not, Bool.and_eq_false_iff, beq_eq_false_iff_ne] at *
    have e : x = y := by omega
    have r1 := h1.2.resolve_left fun n => n e.symm
    have r2 := h2.2.resolve_left fun n => n e
    rw [e, leC_anti (a := a) (b := b) r1 r2]
theorem leC_total : ∀ (a b : List Nat), leC a b ∨ leC b a
  | [], [] => .inl rfl
  | [], _ :: _ => .inl rfl
  | _ :: _, [] => .inr rfl
  | x :: a, y :: b => by
    unfold leC
    unfold ltCps
    simp only [Bool.or_eq_false_iff, decide_eq_false_iff_not, Bool.and_eq_false_iff, beq_eq_false_iff_ne]
    rcases Nat.lt_trichotomy x y with h | h | h
    · exact .inl ⟨by omega, .inl (by omega)⟩
    · rcases leC_total a b with r | r
      · exact .inl ⟨by omega, .inr r⟩
      · exact .inr ⟨by omega, .inr r⟩
    · exact .inr ⟨by omega, .inl (by omega)⟩
def leS (x y : Str) : Prop := leC (tl x) (tl y)
theorem rising_pw : ∀ (l : List Str) (p : Str), risingS p l = true → (p :: l).Pairwise leS
  | [], p, _ => List.pairwise_singleton _ _
  | x :: r, p, h => by
    unfold risingS at h
    rw [Bool.and_eq_true, Bool.not_eq_true'] at h
    have ih := rising_pw r x h.2
    refine List.pairwise_cons.mpr ⟨fun y hy => ?_, ih⟩
    rcases List.mem_cons.mp hy with e | e
    · rw [e]; exact h.1
    · exact leC_trans (show leC (tl p) (tl x) from h.1) ((List.pairwise_cons.mp ih).1 y e)
theorem sorted_pw : ∀ {l : List Str}, sortedS l = true → l.Pairwise leS
  | [], _ => List.Pairwise.nil
  | x :: r, h => rising_pw r x h
theorem pw_unique : ∀ {ys zs : List Str}, ys.Perm zs → ys.Pairwise leS → zs.Pairwise leS → ys = zs
  | [], zs, p, _, _ => (List.nil_perm.mp p).symm
  | y :: r, [], p, _, _ => by have := p.length_eq; simp at this
  | y :: r, z :: s, p, h1, h2 => by
    have e : y = z := by
      rcases List.mem_cons.mp (p.mem_iff.mp List.mem_cons_self) with e | e
      · exact e
      · rcases List.mem_cons.mp (p.mem_iff.mpr List.mem_cons_self) with e2 | e2
        · exact e2.symm
        · exact tl_ext (leC_anti ((List.pairwise_cons.mp h1).1 z e2) ((List.pairwise_cons.mp h2).1 y e))
    subst e
    rw [pw_unique (List.Perm.cons_inv p) (List.pairwise_cons.mp h1).2 (List.pairwise_cons.mp h2).2]
instance (x y : Str) : Decidable (leS x y) := inferInstanceAs (Decidable (_ = false))
def insS (x : Str) : List Str → List Str
  | [] => [x]
  | y :: r => if leS x y then x :: y :: r else y :: insS x r
def srt : List Str → List Str
  | [] => []
  | x :: r => insS x (srt r)
theorem ins_perm (x : Str) : ∀ l : List Str, (insS x l).Perm (x :: l)
  | [] => List.Perm.refl _
  | y :: r => by
    unfold insS
    split
    · exact List.Perm.refl _
    · exact ((ins_perm x r).cons y).trans (List.Perm.swap x y r)
theorem srt_perm : ∀ l : List Str, (srt l).Perm l
  | [] => List.Perm.refl _
  | x :: r => (ins_perm x (srt r)).trans ((srt_perm r).cons x)
theorem ins_pw (x : Str) : ∀ {l : List Str}, l.Pairwise leS → (insS x l).Pairwise leS
  | [], _ => List.pairwise_singleton _ _
  | y :: r, h => by
    unfold insS
    split
    · rename_i c
      refine List.pairwise_cons.mpr ⟨fun z hz => ?_, h⟩
      rcases List.mem_cons.mp hz with e | e
      · rw [e]; exact c
      · exact leC_trans c ((List.pairwise_cons.mp h).1 z e)
    · rename_i c
      have hy : leS y x := (leC_total (tl x) (tl y)).resolve_left c
      refine List.pairwise_cons.mpr ⟨fun z hz => ?_, ins_pw x (List.pairwise_cons.mp h).2⟩
      rcases List.mem_cons.mp ((ins_perm x r).mem_iff.mp hz) with e | e
      · rw [e]; exact hy
      · exact (List.pairwise_cons.mp h).1 z e
theorem srt_pw : ∀ l : List Str, (srt l).Pairwise leS
  | [] => List.Pairwise.nil
  | x :: r => ins_pw x (srt_pw r)
theorem srt_of {ys ks : List Str} (p : ys.Perm ks) (s : sortedS ys = true) : ys = srt ks := pw_unique (p.trans (srt_perm ks).symm) (sorted_pw s) (srt_pw ks)
theorem srt_congr {ks ls : List Str} (p : ks.Perm ls) : srt ks = srt ls := pw_unique ((srt_perm ks).trans (p.trans (srt_perm ls).symm)) (srt_pw ks) (srt_pw ls)
/-- the goal of a word -/
def goalT (ts : List (Str × Str)) (k : Str) : Str := ((ts.find? fun t => decide (t.1 = k)).map (·.2)).getD ""
def ordT (ts : List (Str × Str)) : List (Str × Str) := (srt (ts.map (·.1))).map fun k => (k, goalT ts k)
theorem valV_kT (ts : List (Str × Str)) (k : Str) : valV (kT ts) (.inr k) = (ts.find? fun t => decide (t.1 = k)).map fun t => V.str t.2 := by
  induction ts with
  | nil => rfl
  | cons a r ih =>
    rw [List.find?_cons]
    by_cases h : a.1 = k
    · rw [show valV (kT (a :: r)) (.inr k) = some (V.str a.2) from valV_pos (p := (Sum.inr a.1, V.str a.2)) (congrArg _ h), decide_eq_true h]; rfl
    · rw [show valV (kT (a :: r)) (.inr k) = valV (kT r) (.inr k) from valV_neg (p := (Sum.inr a.1, V.str a.2)) (fun e => h (Sum.inr.inj e)), decide_eq_false h, ih]
theorem find_some {ts : List (Str × Str)} {k : Str} (h : k ∈ ts.map (·.1)) : ∃ t, (ts.find? fun t => decide (t.1 = k)) = some t ∧ t.1 = k ∧ t ∈ ts := by
  obtain ⟨t, ht, e⟩ := List.mem_map.mp h
  cases z : ts.find? fun t => decide (t.1 = k) with
  | none => exact absurd (decide_eq_true e) (List.find?_eq_none.mp z t ht)
  | some u =>
    have e1 := List.find?_some z
    exact ⟨u, rfl, of_decide_eq_true e1, List.mem_of_find?_eq_some z⟩
theorem valV_goal {ts : List (Str × Str)} {k : Str} (h : k ∈ ts.map (·.1)) : valV (kT ts) (.inr k) = some (.str (goalT ts k)) := by
  obtain ⟨t, e, _⟩ := find_some h
  rw [valV_kT, goalT, e]; rfl
theorem ordT_keys (ts : List (Str × Str)) : (ordT ts).map (·.1) = srt (ts.map (·.1)) := by
  rw [ordT, List.map_map]
  exact List.map_id'' (fun _ => rfl) _
/-- a dict comprehension over a walk -/
theorem dc_it {J : It} {n : Nat} {G : Hp → Prop} {Y : Nat → Hp → V → Hp → Prop} (w : Walk J n G Y) {g : TG} {tt : TT} {tk tv : TE} {vs : List Nat} {σ : L2.St} {H1 : Hp} {D : Addr} {Qd : Hp → Prop} (Pv : Nat → Hp → Prop) (h0 : Pv 0 (L2.upd H1 D (.dK []))) (hG : ∀ i H, i ≤ n → Pv i H → G H)
    (hs : ∀ i x H H', i < n → Pv i H → Y i H x H' → g x (wipe σ vs) H' fun σ2 H2 => wipe σ2 vs = wipe σ vs ∧ tt σ2 H2 fun b H3 =>
      if b = true then tk σ2 H3 fun y H4 => tv σ2 H4 fun z H5 => ∃ kvs k, y = kV k ∧ H5 D = some (.dK kvs) ∧ kvs.length < sizeLine ∧ Pv (i + 1) (L2.upd H5 D (.dK (putK kvs k z))) else Pv (i + 1) H3) (hd : ∀ H, Pv n H → Qd H) :
    ∃ W : Nat → Nat → Hp → Prop, (∃ m, W 0 m (L2.upd H1 D (.dK []))) ∧ ∀ i m H, W i m H →
      (J.stop i H ∧ Qd H) ∨ (J.go i H ∧ ∃ Nx : Hp → Prop, (∀ H', Nx H' → ∃ m', m' < m ∧ W (i + 1) m' H') ∧ ∀ x H', J.yld i H x H' → g x (wipe σ vs) H' fun σ2 H2 => wipe σ2 vs = wipe σ vs ∧ tt σ2 H2 fun b H3 =>
        if b = true then tk σ2 H3 fun y H4 => tv σ2 H4 fun z H5 => ∃ kvs k, y = kV k ∧ H5 D = some (.dK kvs) ∧ kvs.length < sizeLine ∧ Nx (L2.upd H5 D (.dK (putK kvs k z))) else Nx H3) := by
  refine ⟨fun i m H => m = n - i ∧ i ≤ n ∧ Pv i H, ⟨n, by simp, Nat.zero_le _, h0⟩, ?_⟩
  rintro i m H ⟨rfl, hi, p⟩
  have q := hG i H hi p
  by_cases hlt : i < n
  · refine .inr ⟨w.goes i H hlt q, Pv (i + 1), fun H' p' => ⟨n - (i + 1), by omega, rfl, hlt, p'⟩, fun x H' y => hs i x H H' hlt p (w.yields i H x H' hlt q y)⟩
  · have e : i = n := by omega
    subst e
    exact .inl ⟨w.stops H q, hd H p⟩
/-- a book's row -/
def rowOf (bk : Bk) (s : Str) : Str × List (Str × Str) := ((bk.find? fun r => decide (r.1 = s)).map (·.2)).getD ("", [])
def ordB (bk : Bk) : Bk := (srt (bk.map (·.1))).map fun s => (s, (rowOf bk s).1, ordT (rowOf bk s).2)
theorem Rows.look {H : Hp} {kvs : List (Key × V)} {bk : Bk} {s : Str} (h : Rows H kvs bk) (m : s ∈ bk.map (·.1)) : ∃ v, valV kvs (.inr s) = some v ∧ RowAt H v (rowOf bk s).1 (rowOf bk s).2 ∧ (s, rowOf bk s) ∈ bk := by
  unfold Rows at h
  induction h with
  | nil => cases m
  | @cons a r kvs bk h1 _ ih =>
    by_cases e : r.1 = s
    · refine ⟨a.2, valV_pos (by rw [h1.1, e]), ?_, ?_⟩
      · rw [rowOf, List.find?_cons, decide_eq_true e]; exact h1.2
      · rw [rowOf, List.find?_cons, decide_eq_true e, ← e]; exact List.mem_cons_self
    · have m' : s ∈ bk.map (·.1) := by
        rcases List.mem_cons.mp m with z | z
        · exact absurd z.symm e
        · exact z
      obtain ⟨v, h2, h3, h4⟩ := ih m'
      have er : rowOf (r :: bk) s = rowOf bk s := by rw [rowOf, List.find?_cons, decide_eq_false e]; rfl
      refine ⟨v, by rw [valV_neg (by rw [h1.1]; exact fun z => e (Sum.inr.inj z))]; exact h2, by rw [er]; exact h3, by rw [er]; exact List.mem_cons_of_mem _ h4⟩
/-- what is new in H' -/
def newH (H H' : Hp) : Hp := fun a => if (H a).isSome then none else H' a
theorem new_out {H H' : Hp} {a : Addr} (n : H a = none) : newH H H' a = H' a := by unfold newH; rw [n]; rfl
theorem new_some {H H' : Hp} {a : Addr} {o : HO} (e : newH H H' a = some o) : H a = none ∧ H' a = some o := by
  unfold newH at e
  cases h : H a with
  | none => rw [h] at e; exact ⟨rfl, e⟩
  | some u => rw [h] at e; cases e
theorem new_le {H H' : Hp} : Same (newH H H') H' := fun _ _ e => (new_some e).2
theorem new_same {H H1 H2 : Hp} (s : Same H1 H2) : Same (newH H H1) (newH H H2) := fun _ _ e => let ⟨n, e⟩ := new_some e; by rw [new_out n]; exact s _ _ e
theorem new_mono {H Hq H' : Hp} (s : Same H Hq) : Same (newH Hq H') (newH H H') := fun a _ e => by
  obtain ⟨n, e⟩ := new_some e
  have n2 : H a = none := by
    cases h : H a with
    | none => rfl
    | some u => rw [s _ _ h] at n; cases n
  rw [new_out n2]; exact e
theorem cut_new_upd {H X : Hp} {D : Addr} {o : HO} : cut [D] (newH H (L2.upd X D o)) = cut [D] (newH H X) := by
  funext a
  by_cases h : a = D
  · rw [cut, cut, if_pos (List.mem_singleton.mpr h), if_pos (List.mem_singleton.mpr h)]
  · have e : newH H (L2.upd X D o) a = newH H X a := by unfold newH; rw [upd_ne h]
    rw [cut_out (by simpa using h), cut_out (by simpa using h), e]
/-- a book that may stand locked -/
def BookR (H : Hp) (b : Addr) (bk : Bk) : Prop := ∃ kvs, Rd H b (.dK kvs) ∧ Rows H kvs bk
theorem rd_same {H H' : Hp} {a : Addr} {o : HO} (h : Rd H a o) (s : Same H H') : Rd H' a o := by
  rcases h with h | ⟨od, h⟩
  · exact .inl (s _ _ h)
  · exact .inr ⟨od, s _ _ h⟩
theorem BookAt.r {H : Hp} {b : Addr} {bk : Bk} (h : BookAt H b bk) : BookR H b bk := let ⟨kvs, e, r⟩ := h; ⟨kvs, .inl e, r⟩
theorem BookR.same {H H' : Hp} {b : Addr} {bk : Bk} (h : BookR H b bk) (s : Same H H') : BookR H' b bk := let ⟨kvs, e, r⟩ := h; ⟨kvs, rd_same e s, r.same s⟩
abbrev sOrdT : Stmt := top 14
abbrev sOrdB : Stmt := top 15
def spOrdT : Sp := fun vs H Q _ => ∃ (a : Addr) (ts : List (Str × Str)), vs = [.ref a] ∧ TurnsAt H a ts ∧ (ts.map (·.1)).Nodup ∧ ts.length < 64 ∧ ∀ H' R, Same H H' → H R = none → TurnsAt H' R (ordT ts) → Q (.ref R) H'
/-- a book that may be put in order -/
structure BOk (bk : Bk) : Prop where
  nd : (bk.map (·.1)).Nodup
  len : bk.length < 64
  rs : ∀ r ∈ bk, (r.2.2.map (·.1)).Nodup ∧ r.2.2.length < 64
def spOrdB : Sp := fun vs H Q _ => ∃ (b : Addr) (bk : Bk), vs = [.ref b] ∧ BookR H b bk ∧ BOk bk ∧ ∀ H' R, Same H H' → H R = none → BookAt (newH H H') R (ordB bk) → Q (.ref R) H'
section
variable {P : Program} {w : World} {K : PySem.W.Frag} {mg : Str → Option Value} {base : Heap}
theorem scOt : FnScope ["turns", "word"] ["turns"] (defScope sOrdT) := ⟨rfl, rfl, rfl, by decide +kernel, rfl, by decide +kernel, by decide +kernel⟩
theorem ok_ordT {f : Addr} {fd : FuncData} (F : Fun K "ordered_turns" "ordered_turns" sOrdT f fd) (T : Free3 mg) : FnOk P w K mg base CX0 1 f fd ["turns"] spOrdT := by
  refine F.ok scOt (fun vs H Q E h => ?_) (fun cdv A outer s H vs Q E hr h => ?_)
  · obtain ⟨a, ts, rfl, _⟩ := h; rfl
  · obtain ⟨a, ts, rfl, ha, nd, l64, k⟩ := h
    have hu := hu_of hr
    refine ⟨_, pss_one (ps_ret (pe_dc (own := [("word", 1)]) (g := gName 1) (tt := tYes) (tk := tVar 1) (tv := tDGet (tVar 0) (tVar 1)) rfl scOt.nd (pi_list (pe_callB (call_sortedD rfl) (by rfl) T.sorted (by decide +kernel) (pa_cons (pv 0) pa_nil)))
        (blkOk_by (N := ["turns", "word"]) (sc := defScope sOrdT) (by decide +kernel)) (fun _ _ _ _ _ => pg_name (i := 1) scOt.nd rfl (Or.inl rfl)) (fun _ _ _ _ _ => pts_nil) (fun _ _ _ _ _ => pv 1) (fun _ _ _ _ _ => pe_dget hu (pv 0) (pv 1) (fun _ _ => rfl)))), ?_⟩
    have ek : (kT ts).map (·.1) = (ts.map (·.1)).map Sum.inr := by rw [kT, List.map_map, List.map_map]; rfl
    refine ⟨_, rfl, a, kT ts, ts.map (·.1), rfl, .inl ha, ek, by rw [List.length_map]; exact l64, fun ys q pm so hq => ?_⟩
    have ey := srt_of pm so
    have lq : ys.length < 64 := by rw [pm.length_eq, List.length_map]; exact l64
    have am : ∀ y ∈ ys, y ∈ ts.map (·.1) := fun y hy => pm.mem_iff.mp hy
    have ndy : ys.Nodup := pm.nodup_iff.mpr nd
    refine ⟨q, rfl, ⟨_, SqL.of upd_same⟩, fun D hD => ?_⟩
    have nqD : q ≠ D := fun e => by rw [← e, upd_same] at hD; cases hD
    have hD0 := upd_none' hD
    refine dc_it (walk_list (K := K) (a := q) (xs := ys.map V.str)) (fun i H' => Same H H' ∧ SL H' q ys ∧ TurnsAt H' D ((ys.take i).map fun k => (k, goalT ts k)))
      ⟨fun b u e => by rw [upd_ne (ne_of_none e hD0), upd_ne (ne_of_none e hq)]; exact e, by rw [SL, upd_ne nqD, upd_same], by rw [TurnsAt, upd_same]; rfl⟩ (fun i H' _ z => z.2.1.sq) ?_ ?_
    · rintro i v H1 H2 hi ⟨sm, hl, hT⟩ ⟨rfl, hx⟩
      obtain ⟨z, hz, rfl⟩ := get_map hx
      have hzm := am z (List.mem_of_getElem? hz)
      refine ⟨rfl, ?_⟩
      dsimp only [tYes]
      rw [if_pos rfl]
      have hn : (Sum.inr z : Key) ∉ (kT ((ys.take i).map fun k => (k, goalT ts k))).map (·.1) := fun hm => by
        obtain ⟨p1, hp1, e1⟩ := List.mem_map.mp hm
        obtain ⟨p2, hp2, e2⟩ := List.mem_map.mp hp1
        obtain ⟨p3, hp3, e3⟩ := List.mem_map.mp hp2
        subst e3; subst e2
        have e1 : p3 = z := Sum.inr.inj e1
        rw [e1] at hp3
        obtain ⟨m, hm1, hm2⟩ := List.mem_take_iff_getElem.mp hp3
        have h1 : ys[m]? = some z := by rw [List.getElem?_eq_getElem (by omega), hm2]
        have := (List.getElem?_inj (by omega) ndy).mp (h1.trans hz.symm)
        omega
      refine ⟨_, rfl, _, rfl, _, rfl, a, _, rfl, .inl ⟨kT ts, .inr z, .inl (ha.same sm), rfl, (valV_goal hzm).symm⟩, _, .inr z, rfl, hT, ?_, ?_, ?_, ?_⟩
      · rw [kT, List.length_map, List.length_map, List.length_take, sizeLine_eq]; omega
      · intro b u e
        rw [upd_ne (ne_of_none e hD0)]; exact sm _ _ e
      · rw [SL, upd_ne nqD]; exact hl
      · rw [TurnsAt, upd_same, putK_new hn, take_succ_get hz, List.map_append, kT, kT, List.map_append]; rfl
    · rintro H1 ⟨sm, hl, hT⟩
      refine k H1 D sm hD0 ?_
      rw [List.length_map, List.take_length, ey] at hT
      exact hT
end
end D1
end L2
/-! is_book -/
namespace L2
namespace D1
open PySem PySem.Spec PyProof.Rows
theorem lp_it {J : It} {n : Nat} {G : Hp → Prop} {Y : Nat → Hp → V → Hp → Prop} (w : Walk J n G Y) {body : V → Hp → (Hp → Prop) → Prop} {H0 : Hp} {Qd : Hp → Prop} (Pv : Nat → Hp → Prop) (h0 : Pv 0 H0) (hG : ∀ i H, i ≤ n → Pv i H → G H)
    (hs : ∀ i x H H', i < n → Pv i H → Y i H x H' → body x H' (Pv (i + 1))) (hd : ∀ H, Pv n H → Qd H) :
    ∃ W : Nat → Nat → Hp → Prop, (∃ m, W 0 m H0) ∧ ∀ i m H, W i m H → (J.stop i H ∧ Qd H) ∨ (J.go i H ∧ ∃ Nx : Hp → Prop, (∀ H', Nx H' → ∃ m', m' < m ∧ W (i + 1) m' H') ∧ ∀ x H', J.yld i H x H' → body x H' Nx) := by
  refine ⟨fun i m H => m = n - i ∧ i ≤ n ∧ Pv i H, ⟨n, by simp, Nat.zero_le _, h0⟩, ?_⟩
  rintro i m H ⟨rfl, hi, p⟩
  have q := hG i H hi p
  by_cases hlt : i < n
  · refine .inr ⟨w.goes i H hlt q, Pv (i + 1), fun H' p' => ⟨n - (i + 1), by omega, rfl, hlt, p'⟩, fun x H' y => hs i x H H' hlt p (w.yields i H x H' hlt q y)⟩
  · have e : i = n := by omega
    subst e
    exact .inl ⟨w.stops H q, hd H p⟩
def tLk : Nat → TE → TE
  | 0, t => t
  | n + 1, t => tLockE (tLk n t)
theorem pe_lkN {X : Cx} {e : Expr} {t : TE} (h : PE X e t) : ∀ n, PE X e (tLk n t)
  | 0 => h
  | n + 1 => pe_lock (pe_lkN h n)
theorem pe_lkAny {X : Cx} {e : Expr} {t : TE} (h : PE X e t) : PE X e (fun σ H Q => ∃ n, tLk n t σ H Q) := ⟨fun pins s σ H Q I ⟨n, q⟩ => (pe_lkN h n).run pins s σ H Q I q⟩
def Lk (ds : List Addr) (H H2 : Hp) : Prop := (∀ c, c ∉ ds → H2 c = H c) ∧ ∀ d ∈ ds, ∃ od u, H d = some u ∧ H2 d = some (.frz od u)
theorem lk_all (t : TE) (σ : L2.St) (Post : V → Hp → Prop) : ∀ (ds : List Addr) (H : Hp) (Q : VK), ds.Nodup → (∀ d ∈ ds, ∃ u, H d = some u ∧ Mut (some u)) →
    (∀ H2 Q2, Lk ds H H2 → (∀ v H3, Same H2 H3 → Post v H3 → Q2 v H3) → t σ H2 Q2) →
    (∀ v H3, Post v H3 → ∀ H4, Same H H4 → (∀ c, c ∉ ds → H4 c = H3 c) → Q v H4) → tLk ds.length t σ H Q
  | [], H, Q, _, _, h, k => h H Q ⟨fun _ _ => rfl, by simp⟩ fun v H3 s p => k v H3 p H3 s fun _ _ => rfl
  | d :: ds, H, Q, nd, hm, h, k => by
    obtain ⟨u, hu, mu⟩ := hm d List.mem_cons_self
    have nd' := List.nodup_cons.mp nd
    refine ⟨d, u, hu, mu, fun od => ?_⟩
    refine lk_all t σ Post ds _ _ nd'.2 (fun d' hd' => ?_) (fun H2 Q2 lk k2 => h H2 Q2 ⟨fun c hc => ?_, fun d' hd' => ?_⟩ k2) fun v H3 p H4 s4 e4 => ⟨s4 _ _ upd_same, k v H3 p _ (Same.unlock hu s4) fun c hc => ?_⟩
    · rw [upd_ne fun e => nd'.1 (by rw [← e]; exact hd')]; exact hm d' (List.mem_cons_of_mem _ hd')
    · rw [lk.1 c fun z => hc (List.mem_cons_of_mem _ z), upd_ne fun e => hc (by rw [e]; exact List.mem_cons_self)]
    · rcases List.mem_cons.mp hd' with e | e
      · rw [e]; exact ⟨od, u, hu, by rw [lk.1 d nd'.1]; exact upd_same⟩
      · obtain ⟨o2, u2, h1, h2⟩ := lk.2 d' e
        rw [upd_ne fun z => nd'.1 (by rw [← z]; exact e)] at h1
        exact ⟨o2, u2, h1, h2⟩
    · rw [upd_ne fun e => hc (by rw [e]; exact List.mem_cons_self)]
      exact e4 c fun z => hc (List.mem_cons_of_mem _ z)
theorem dedup (as : List Addr) : ∃ ds : List Addr, ds.Nodup ∧ ∀ a, a ∈ ds ↔ a ∈ as := by
  induction as with
  | nil => exact ⟨[], List.nodup_nil, fun _ => Iff.rfl⟩
  | cons x r ih =>
    obtain ⟨ds, nd, h⟩ := ih
    by_cases e : x ∈ ds
    · refine ⟨ds, nd, fun a => ⟨fun z => List.mem_cons_of_mem _ ((h a).mp z), fun z => ?_⟩⟩
      rcases List.mem_cons.mp z with q | q
      · rw [q]; exact e
      · exact (h a).mpr q
    · refine ⟨x :: ds, List.nodup_cons.mpr ⟨e, nd⟩, fun a => ?_⟩
      rw [List.mem_cons, List.mem_cons, h a]
/-- a row with its dict of turns told -/
def RowA (H : Hp) (v : V) (a : Addr) (k : Str) (ts : List (Str × Str)) : Prop := ∃ t, v = .ref t ∧ H t = some (.tup [.str k, .ref a]) ∧ TurnsAt H a ts
theorem rows_addrs {H : Hp} {kvs : List (Key × V)} {bk : Bk} (h : Rows H kvs bk) : ∀ l : List Str, (∀ s ∈ l, s ∈ bk.map (·.1)) → ∃ as : List Addr, (∀ a ∈ as, ∃ ts, TurnsAt H a ts) ∧ ∀ s ∈ l, ∃ v a, valV kvs (.inr s) = some v ∧ a ∈ as ∧ RowA H v a (rowOf bk s).1 (rowOf bk s).2
  | [], _ => ⟨[], by simp, by simp⟩
  | s :: l, hl => by
    obtain ⟨as, h1, h2⟩ := rows_addrs h l fun x hx => hl x (List.mem_cons_of_mem _ hx)
    obtain ⟨v, e, ⟨t, a, ev, ht, ha⟩, _⟩ := h.look (hl s List.mem_cons_self)
    refine ⟨a :: as, fun b hb => ?_, fun x hx => ?_⟩
    · rcases List.mem_cons.mp hb with z | z
      · rw [z]; exact ⟨_, ha⟩
      · exact h1 b z
    · rcases List.mem_cons.mp hx with z | z
      · rw [z]; exact ⟨v, a, e, List.mem_cons_self, t, ev, ht, ha⟩
      · obtain ⟨v', a', h3, h4, h5⟩ := h2 x z
        exact ⟨v', a', h3, List.mem_cons_of_mem _ h4, h5⟩
/-- a book's dict is no dict of turns -/
theorem book_ne {H : Hp} {b a : Addr} {kvs : List (Key × V)} {bk : Bk} {ts : List (Str × Str)} (hb : H b = some (.dK kvs)) (h : Rows H kvs bk) (ne : bk ≠ []) (ha : TurnsAt H a ts) : a ≠ b := fun e => by
  rw [TurnsAt, e, hb] at ha
  have ek : kvs = kT ts := by injection ha with z; injection z
  cases h with
  | nil => exact ne rfl
  | @cons x r kv2 bk2 h1 _ =>
    cases ts with
    | nil => cases ek
    | cons y ys =>
      have e1 : x = (Sum.inr y.1, V.str y.2) := (List.cons.inj ek).1
      obtain ⟨_, t, a', e2, _⟩ := h1
      rw [e1] at e2
      cases e2
theorem Rows.lock {H : Hp} {b : Addr} {kvs : List (Key × V)} {bk : Bk} {o : HO} (hb : H b = some (.dK kvs)) (h : Rows H kvs bk) (ne : bk ≠ []) : Rows (L2.upd H b o) kvs bk := by
  have key : ∀ (kv2 : List (Key × V)) (bk2 : Bk), Rows H kv2 bk2 → Rows (L2.upd H b o) kv2 bk2 := fun kv2 bk2 h2 => by
    unfold Rows at h2 ⊢
    induction h2 with
    | nil => exact .nil
    | cons h1 _ ih =>
      obtain ⟨e, t, a, ev, ht, ha⟩ := h1
      refine .cons ⟨e, t, a, ev, ?_, ?_⟩ ih
      · rw [upd_ne fun z => by rw [z, hb] at ht; cases ht]; exact ht
      · rw [TurnsAt, upd_ne (book_ne hb h ne ha)]; exact ha
  exact key kvs bk h
abbrev sIsBook : Stmt := top 13
structure BWf (bk : Bk) : Prop where
  ne : bk ≠ []
  nd : (bk.map (·.1)).Nodup
  len : bk.length ≤ 60
  rs : ∀ r ∈ bk, Wd r.1 ∧ RForm r.2.1 r.2.2 ∧ ∀ t ∈ r.2.2, t.2 ∈ bk.map (·.1)
  len2 : ∀ r ∈ bk, r.2.2.length ≤ 60
def spIsBook : Sp := fun vs H Q _ => ∃ (b : Addr) (bk : Bk), vs = [.ref b] ∧ BookAt H b bk ∧ BWf bk ∧ ∀ H', Same H H' → Q (.bl true) H'
theorem rowOf_self {bk : Bk} (nd : (bk.map (·.1)).Nodup) {r : RowD} (h : r ∈ bk) : rowOf bk r.1 = r.2 := by
  induction bk with
  | nil => cases h
  | cons x bk ih =>
    have nd' := List.nodup_cons.mp nd
    by_cases e : x.1 = r.1
    · rcases List.mem_cons.mp h with z | z
      · rw [rowOf, List.find?_cons, decide_eq_true e, z]; rfl
      · exact absurd (List.mem_map.mpr ⟨r, z, e.symm⟩) nd'.1
    · have hr : r ∈ bk := by
        rcases List.mem_cons.mp h with z | z
        · exact absurd (by rw [z]) e
        · exact z
      have er : rowOf (x :: bk) r.1 = rowOf bk r.1 := by rw [rowOf, List.find?_cons, decide_eq_false e]; rfl
      rw [er]; exact ih nd'.2 hr
section
variable {P : Program} {w : World} {K : PySem.W.Frag} {mg : Str → Option Value} {base : Heap}
theorem scIb : FnScope ["value", "state", "goal"] ["value"] (defScope sIsBook) := ⟨rfl, rfl, rfl, by decide +kernel, rfl, by decide +kernel, by decide +kernel⟩
theorem ok_isbook {f : Addr} {fd : FuncData} (F : Fun K "is_book" "is_book" sIsBook f fd) (T : Free3 mg) (CN : CIsName P w K mg base) (CR : CIsRow P w K mg base) : FnOk P w K mg base CX0 3 f fd ["value"] spIsBook := by
  refine F.ok scIb (fun vs H Q E h => ?_) (fun cdv A outer s H vs Q E hr h => ?_)
  · obtain ⟨a, bk, rfl, _⟩ := h; rfl
  · obtain ⟨b, bk, rfl, ⟨kvs, hb, hRw⟩, wf, k⟩ := h
    have hu := hu_of hr
    refine ⟨_, pss_cons (ps_if (PW.pt (pw_or (pt_not (pt_val (pe_callB call_isi (by rfl) T.isi (by decide +kernel) (pa_cons (pv 0) (pa_cons (pe_bltn (v := .ty "dict") rfl T.dict (by decide +kernel) rfl) pa_nil))))) (pw_or1 (pt_cmpR op_eq (pe_callB call_lenD (by rfl) T.len PySem.boot_len (pa_cons (pv 0) pa_nil)) pe_int (nomark _))))) (pss_one (ps_ret pe_bl)) pss_nil)
      (pss_cons (ps_if (pt_not (pt_val (pe_callB (cr_all rfl) (by rfl) T.all (by decide +kernel) (pa_cons (pe_lock (pe_lc (own := [("state", 1)]) (g := gName 1) (tt := tYes) (te := tAndV (tCall spIsName [] E0 (tCons (tVar 1) tNil)) (tCall spIsRow [] E0 (tCons (tDGet (tVar 0) (tVar 1)) tNil))) rfl scIb.nd (pi_keys (pv 0))
          (blkOk_by (N := ["value", "state", "goal"]) (sc := defScope sIsBook) (by decide +kernel)) (fun _ _ _ _ _ => pg_name (i := 1) scIb.nd rfl (Or.inl rfl)) (fun _ _ _ _ _ => pts_nil)
          (fun _ _ _ _ _ => pe_and (pe_cal CN (hr.mono (by decide)) rfl (pa_cons (pv 1) pa_nil)) (pe_one (pe_cal CR (hr.mono (by decide)) rfl (pa_cons (pe_dget hu (pv 0) (pv 1) (fun _ _ => rfl)) pa_nil)))))) pa_nil)))) (pss_one (ps_ret pe_bl)) pss_nil)
      (pss_one (ps_ret (pe_callB (cr_all rfl) (by rfl) T.all (by decide +kernel) (pa_cons (pe_lkAny (pe_lc2 (own := [("state", 1), ("goal", 2)]) (vs1 := [2]) (g := gName 1) (tt := tYes) (g1 := gName 2) (tt1 := tYes) (wi1 := iVals (tOp (rIxT K) (tDGet (tVar 0) (tVar 1)) (tC (.int 1)))) (te := tDIn (tVar 2) (tVar 0)) rfl scIb.nd (pi_keys (pv 0))
          (blkOk_by (N := ["value", "state", "goal"]) (sc := defScope sIsBook) (by decide +kernel)) (by decide) (fun _ _ _ _ _ => pg_name (i := 1) scIb.nd rfl (Or.inl rfl)) (fun _ _ _ _ _ => pts_nil)
          (fun _ _ _ _ _ => pi_values (pe_ix ix_tup (pe_dget hu (pv 0) (pv 1) (fun _ _ => rfl)) pe_int (fun _ _ => rfl))) (fun _ _ _ _ _ => pg_name (i := 2) scIb.nd rfl (Or.inl rfl)) (fun _ _ _ _ _ => pts_nil)
          (fun _ _ _ _ _ => pe_cmp (pc_din hu (pv 2) (pv 0)) rfl))) pa_nil))))), ?_⟩
    have lk0 : kvs.length = bk.length := hRw.len
    have lpos : 0 < bk.length := List.length_pos_iff.mpr wf.ne
    have at_row : ∀ {i : Nat} {kk : Key} {v : V}, kvs[i]? = some (kk, v) → ∃ s, kk = .inr s ∧ s ∈ bk.map (·.1) := fun {i kk v} e => by
      have e1 : (kvs.map (·.1))[i]? = some kk := by rw [List.getElem?_map, e]; rfl
      rw [hRw.keys] at e1
      obtain ⟨r, hr, e2⟩ := get_map e1
      exact ⟨r.1, e2, List.mem_map_of_mem (List.mem_of_getElem? hr)⟩
    refine ⟨_, rfl, _, .ty "dict", .type "dict", .type "dict", true, rfl, .ty _, .base (.dK hb), kit_ty (by decide +kernel), _, rfl, ?_⟩
    refine iteF ⟨_, rfl, b, kvs, rfl, hb, rfl, _, rfl, ?_⟩
    have nz : decide (V.int (kvs.length : Int) = V.int 0) = false := decide_eq_false fun e => by
      have : (kvs.length : Int) = 0 := by injection e
      omega
    rw [nz]
    refine iteF ⟨b, _, hb, trivial, fun od => ?_⟩
    have hR1 := hRw.lock (o := .frz od (.dK kvs)) hb wf.ne
    refine ⟨_, rfl, b, od, rfl, .inl ⟨kvs, upd_same, fun D hD => ?_⟩⟩
    have nD : b ≠ D := fun e => by rw [← e, upd_same] at hD; cases hD
    have hD0 := upd_none' hD
    refine lc_it (walk_keys (d := b) (o := od) (kvs := kvs)) (fun i H' => Same (L2.upd H b (.frz od (.dK kvs))) H' ∧ H' D = some (.lst ((List.replicate i true).map V.bl))) ⟨Same.new hD, upd_same⟩ (fun i H' _ z => z.1 _ _ upd_same) ?_ ?_
    · rintro i x H1 H2 hi ⟨sm, hl⟩ ⟨rfl, kk, v0, hkv, rfl⟩
      obtain ⟨s', rfl, hs⟩ := at_row hkv
      obtain ⟨v, e2, hrow, hm⟩ := (hR1.same sm).look hs
      have wr := wf.rs _ hm
      refine ⟨rfl, ?_⟩
      dsimp only [tYes]
      rw [if_pos rfl]
      refine ⟨_, rfl, s', rfl, wr.1, fun H3 s3 => ⟨true, rfl, iteT ⟨_, rfl, _, rfl, b, v, rfl, .inl ⟨kvs, .inr s', .inr ⟨od, s3 _ _ (sm _ _ upd_same)⟩, rfl, e2.symm⟩, v, _, _, rfl, hrow.same s3, wr.2.1, fun H4 s4 => ?_⟩⟩⟩
      refine ⟨_, s4 _ _ (s3 _ _ hl), by rw [List.length_map, List.length_replicate, sizeLine_eq]; have := wf.len; omega, ?_, ?_⟩
      · intro c u e
        rw [upd_ne (ne_of_none e hD)]; exact s4 _ _ (s3 _ _ (sm _ _ e))
      · rw [upd_same, repl_snoc]
    rintro H1 ⟨sm, hl⟩
    refine ⟨sm _ _ upd_same, D, _, rfl, SqL.of (by rw [upd_ne nD.symm]; exact hl), ?_⟩
    rw [all_true]
    refine ⟨_, rfl, ?_⟩
    have s5 : Same H (L2.upd H1 b (.dK kvs)) := Same.unlock hb sm
    have hb5 := s5 _ _ hb
    have hR5 := hRw.same s5
    generalize L2.upd H1 b (.dK kvs) = H5 at s5 hb5 hR5
    clear sm hl hD hD0 hR1
    refine iteF ?_
    obtain ⟨as, ha1, ha2⟩ := rows_addrs hR5 (bk.map (·.1)) fun s hs => hs
    obtain ⟨ds, nds, hds⟩ := dedup as
    have nb : b ∉ ds := fun z => by
      obtain ⟨ts, hts⟩ := ha1 b ((hds b).mp z)
      exact book_ne hb5 hR5 wf.ne hts rfl
    refine ⟨(b :: ds).length, lk_all _ _ (fun v H3 => ∃ D n, v = .ref D ∧ D ∉ b :: ds ∧ H3 D = some (.lst ((List.replicate n true).map V.bl))) (b :: ds) H5 _ (List.nodup_cons.mpr ⟨nb, nds⟩) (fun d hd => ?_) ?_ ?_⟩
    · rcases List.mem_cons.mp hd with e | e
      · rw [e]; exact ⟨_, hb5, trivial⟩
      · obtain ⟨ts, hts⟩ := ha1 d ((hds d).mp e)
        exact ⟨_, hts, trivial⟩
    · intro H2 Q2 lk k2
      obtain ⟨od, u, h1, hb2⟩ := lk.2 b List.mem_cons_self
      rw [hb5] at h1
      cases h1
      refine ⟨_, rfl, b, od, rfl, .inl ⟨kvs, hb2, fun D hD => ?_⟩⟩
      have nDd : D ∉ b :: ds := fun z => by
        obtain ⟨_, _, _, h3⟩ := lk.2 D z
        rw [h3] at hD; cases hD
      refine lp_it (walk_keys (d := b) (o := od) (kvs := kvs)) (fun i H' => Same H2 H' ∧ ∃ n, n ≤ 60 * i ∧ H' D = some (.lst ((List.replicate n true).map V.bl))) ⟨Same.new hD, 0, Nat.le_refl _, upd_same⟩ (fun i H' _ z => z.1 _ _ hb2) ?_ ?_
      · rintro i x H6 H7 hi ⟨sm, n, hn, hl⟩ ⟨rfl, kk, v0, hkv, rfl⟩
        obtain ⟨s', rfl, hs⟩ := at_row hkv
        obtain ⟨v, a, e2, haa, t, rfl, ht, hta⟩ := ha2 s' hs
        obtain ⟨_, _, _, hm⟩ := hR5.look hs
        have wr := wf.rs _ hm
        have l60 : (rowOf bk s').2.length ≤ 60 := wf.len2 _ hm
        have ht2 : H2 t = some (.tup [.str (rowOf bk s').1, .ref a]) := by
          rw [lk.1 t fun z => by
            rcases List.mem_cons.mp z with e | e
            · rw [e, hb5] at ht; cases ht
            · obtain ⟨ts, hts⟩ := ha1 t ((hds t).mp e)
              rw [hts] at ht; cases ht]
          exact ht
        obtain ⟨oa, ua, h3, ha3⟩ := lk.2 a (List.mem_cons_of_mem _ ((hds a).mpr haa))
        rw [hta] at h3
        cases h3
        refine ⟨rfl, ?_⟩
        dsimp only [tYes]
        rw [if_pos rfl]
        refine ⟨_, rfl, _, rfl, b, _, rfl, .inl ⟨kvs, .inr s', .inr ⟨od, sm _ _ hb2⟩, rfl, e2.symm⟩, t, _, _, _, rfl, rfl, SqT.of (sm _ _ ht2), atI_nat (j := 1) rfl, a, oa, kT (rowOf bk s').2, rfl, sm _ _ ha3, ?_⟩
        refine lp_it (walk_values (d := a) (o := oa) (kvs := kT (rowOf bk s').2)) (fun j H' => Same H2 H' ∧ ∃ n, n ≤ 60 * i + j ∧ H' D = some (.lst ((List.replicate n true).map V.bl))) ⟨sm, n, hn, hl⟩ (fun j H' _ z => z.1 _ _ ha3) ?_ ?_
        · rintro j x H8 H9 hj ⟨sm8, n8, hn8, hl8⟩ ⟨rfl, k9, hk9⟩
          rw [kT, List.getElem?_map] at hk9
          obtain ⟨tt, htt, e9⟩ := Option.map_eq_some_iff.mp hk9
          cases e9
          have hg := wr.2.2 tt (List.mem_of_getElem? htt)
          obtain ⟨vg, eg, _⟩ := hR5.look hg
          have lj : j < 60 := by rw [kT, List.length_map] at hj; omega
          have li : i < 60 := by have := wf.len; omega
          refine ⟨rfl, ?_⟩
          rw [if_pos rfl]
          refine ⟨_, rfl, _, rfl, b, _, rfl, .inl ⟨kvs, .inr tt.2, .inr ⟨od, sm8 _ _ hb2⟩, rfl, rfl⟩, _, hl8, by rw [List.length_map, List.length_replicate, sizeLine_eq]; omega, ?_, n8 + 1, by omega, ?_⟩
          · intro c u e
            rw [upd_ne (ne_of_none e hD)]; exact sm8 _ _ e
          · rw [upd_same, eg, ← repl_snoc]; rfl
        · rintro H8 ⟨sm8, n8, hn8, hl8⟩
          refine ⟨sm8, n8, ?_, hl8⟩
          rw [kT, List.length_map] at hn8
          have : (rowOf bk s').2.length ≤ 60 := l60
          omega
      · rintro H6 ⟨sm, n, hn, hl⟩
        exact k2 _ _ sm ⟨D, n, rfl, nDd, hl⟩
    · rintro v H3 ⟨D, n, rfl, nDd, hl⟩ H4 s4 e4
      refine ⟨D, _, rfl, SqL.of (by rw [e4 D nDd]; exact hl), ?_⟩
      rw [all_true]
      exact k H4 (Same.trans s5 s4)
end
end D1
end L2
/-! the class Desk: __init__, book, start; need_desk, graph_of -/
namespace L2
namespace D1
open PySem PySem.Spec PyProof.Rows
abbrev sDInit : Stmt := inClass (top 16) 0
abbrev sDEq : Stmt := inClass (top 16) 1
abbrev sDBook : Stmt := inClass (top 16) 2
abbrev sDStart : Stmt := inClass (top 16) 3
abbrev sNeed : Stmt := top 17
abbrev sGraph : Stmt := top 19
theorem kbs : ¬ (("_book" : Str) = "_start") := by decide +kernel
def dflds (b : Addr) (st : Str) : List (Str × V) := putF "_start" (.str st) (putF "_book" (.ref b) [])
theorem dflds_book (b : Addr) (st : Str) : (dflds b st).lookup ("_book" : Str) = some (.ref b) := by
  unfold dflds
  rw [lookup_putF, if_neg kbs, lookup_putF, if_pos rfl]
theorem dflds_start (b : Addr) (st : Str) : (dflds b st).lookup ("_start" : Str) = some (.str st) := by
  unfold dflds
  rw [lookup_putF, if_pos rfl]
theorem dflds_no (b : Addr) (st : Str) {m : Str} (h1 : ¬ m = "_start") (h2 : ¬ m = "_book") : (dflds b st).lookup m = none := by
  unfold dflds
  rw [lookup_putF, if_neg h1, lookup_putF, if_neg h2]
  all_goals rfl
/-- a desk -/
def DeskAt (C : Addr) (H : Hp) (q : Addr) (bk : Bk) (st : Str) : Prop := ∃ dx b, H q = some (.ins C dx (dflds b st)) ∧ BookR H b (ordB bk)
theorem DeskAt.same {C : Addr} {H H' : Hp} {q : Addr} {bk : Bk} {st : Str} (h : DeskAt C H q bk st) (s : Same H H') : DeskAt C H' q bk st := by
  obtain ⟨dx, b, e, r⟩ := h; exact ⟨dx, b, s _ _ e, r.same s⟩
/-- a book and a start that make a desk -/
structure DOk (bk : Bk) (st : Str) : Prop extends BWf bk where
  tk : ∀ r ∈ bk, (r.2.2.map (·.1)).Nodup
  st : st ∈ bk.map (·.1)
theorem DOk.bok {bk : Bk} {st : Str} (h : DOk bk st) : BOk bk := ⟨h.nd, by have := h.len; omega, fun r hr => ⟨h.tk r hr, by have := h.len2 r hr; omega⟩⟩
theorem WF.dok {bk : Bk} {st : Str} {ws : List Str} (h : WF bk st ws) (w : WsOk ws) : DOk bk st := by
  have hw : ∀ x ∈ bk.map (·.1), Wd x := fun x hx => by
    obtain ⟨r, hr, rfl⟩ := List.mem_map.mp hx
    exact (h.rs r hr).1
  have wl := w.hi
  refine { ne := ?_, nd := h.nd, len := ?_, rs := fun r hr => ?_, len2 := fun r hr => ?_, tk := fun r hr => ?_, st := h.st }
  · intro e
    have := h.st
    rw [e] at this; cases this
  · have := h.len; omega
  · obtain ⟨h1, h2⟩ := h.rs r hr
    rcases h2 with ⟨e1, e2⟩ | ⟨e1, e2, e3⟩
    · exact ⟨h1, .inl ⟨e1, e2⟩, by rw [e2]; simp⟩
    · exact ⟨h1, .inr ⟨e1, e2, by have := e3.len; omega, fun t ht => ⟨w.wd _ (e3.ks t ht), hw _ (e3.gs t ht)⟩⟩, fun t ht => e3.gs t ht⟩
  · obtain ⟨h1, h2⟩ := h.rs r hr
    rcases h2 with ⟨e1, e2⟩ | ⟨e1, e2, e3⟩
    · rw [e2]; exact Nat.zero_le _
    · have := e3.len; omega
  · obtain ⟨h1, h2⟩ := h.rs r hr
    rcases h2 with ⟨e1, e2⟩ | ⟨e1, e2, e3⟩
    · rw [e2]; exact List.nodup_nil
    · exact e3.nd
/-- what is asked of the class -/
structure DTxt (K : PySem.W.Frag) (mg : Str → Option Value) (C : Addr) : Prop where
  cl : Cls K C
  nB : NoAttr K C "_book"
  nS : NoAttr K C "_start"
  mgC : mg "Desk" = some (.ref C)
/-- a desk whose book is new -/
def DeskN (C : Addr) (H H' : Hp) (q : Addr) (bk : Bk) (st : Str) : Prop := ∃ dx b, H' q = some (.ins C dx (dflds b st)) ∧ BookR (newH H H') b (ordB bk)
def spDInit (C : Addr) : Sp := fun vs H Q _ => ∃ (q dx b : Addr) (bk : Bk) (st : Str), vs = [.ref q, .ref b, .str st] ∧ H q = some (.ins C dx []) ∧ BookAt H b bk ∧ DOk bk st ∧
  ∀ H', But q H H' → DeskAt C H' q bk st → DeskN C H H' q bk st → Q .non H'
def spDBook (C : Addr) : Sp := fun vs H Q _ => ∃ (q : Addr) (bk : Bk) (st : Str), vs = [.ref q] ∧ DeskAt C H q bk st ∧ DOk bk st ∧ ∀ H' R, Same H H' → H R = none → BookAt H' R (ordB bk) → BookAt (newH H H') R (ordB bk) → Q (.ref R) H'
def spDStart (C : Addr) : Sp := fun vs H Q _ => ∃ (q : Addr) (bk : Bk) (st : Str), vs = [.ref q] ∧ DeskAt C H q bk st ∧ Q (.str st) H
theorem ordB_names (bk : Bk) : (ordB bk).map (·.1) = srt (bk.map (·.1)) := by
  rw [ordB, List.map_map]
  exact List.map_id'' (fun _ => rfl) _
theorem mem_ordB {bk : Bk} (nd : (bk.map (·.1)).Nodup) {r : RowD} : r ∈ ordB bk → ∃ r0 ∈ bk, r.1 = r0.1 ∧ r.2.1 = r0.2.1 ∧ r.2.2 = ordT r0.2.2 := fun h => by
  obtain ⟨s, hs, rfl⟩ := List.mem_map.mp h
  obtain ⟨r0, hr0, e⟩ := List.mem_map.mp ((srt_perm _).mem_iff.mp hs)
  refine ⟨r0, hr0, e.symm, ?_, ?_⟩
  · show (rowOf bk s).1 = _
    rw [← e, rowOf_self nd hr0]
  · show ordT (rowOf bk s).2 = _
    rw [← e, rowOf_self nd hr0]
theorem ordT_nd {ts : List (Str × Str)} (h : (ts.map (·.1)).Nodup) : ((ordT ts).map (·.1)).Nodup := by
  rw [ordT_keys]; exact (srt_perm _).nodup_iff.mpr h
theorem ordT_len (ts : List (Str × Str)) : (ordT ts).length = ts.length := by
  rw [← List.length_map (·.1), ordT_keys, (srt_perm _).length_eq, List.length_map]
theorem ordB_len (bk : Bk) : (ordB bk).length = bk.length := by
  rw [← List.length_map (·.1), ordB_names, (srt_perm _).length_eq, List.length_map]
theorem DOk.obok {bk : Bk} {st : Str} (h : DOk bk st) : BOk (ordB bk) := by
  refine ⟨by rw [ordB_names]; exact (srt_perm _).nodup_iff.mpr h.nd, by rw [ordB_len]; have := h.len; omega, fun r hr => ?_⟩
  obtain ⟨r0, h0, _, _, e⟩ := mem_ordB h.nd hr
  rw [e]
  exact ⟨ordT_nd (h.tk r0 h0), by rw [ordT_len]; have := h.len2 r0 h0; omega⟩
theorem srt_srt (l : List Str) : srt (srt l) = srt l := srt_congr (srt_perm l)
theorem goalT_ordT {ts : List (Str × Str)} {k : Str} (h : k ∈ ts.map (·.1)) : goalT (ordT ts) k = goalT ts k := by
  have hk : k ∈ (ordT ts).map (·.1) := by rw [ordT_keys]; exact (srt_perm _).mem_iff.mpr h
  obtain ⟨t, e, e1, ht⟩ := find_some hk
  obtain ⟨k2, _, rfl⟩ := List.mem_map.mp ht
  have : k2 = k := e1
  subst this
  rw [goalT, e]; rfl
theorem ordT_ordT (ts : List (Str × Str)) : ordT (ordT ts) = ordT ts := by
  show (srt ((ordT ts).map (·.1))).map (fun k => (k, goalT (ordT ts) k)) = _
  rw [ordT_keys, srt_srt]
  refine List.map_congr_left fun k hk => ?_
  rw [goalT_ordT ((srt_perm _).mem_iff.mp hk)]
theorem ordB_ordB {bk : Bk} (nd : (bk.map (·.1)).Nodup) : ordB (ordB bk) = ordB bk := by
  have nd2 : ((ordB bk).map (·.1)).Nodup := by rw [ordB_names]; exact (srt_perm _).nodup_iff.mpr nd
  show (srt ((ordB bk).map (·.1))).map (fun s => (s, (rowOf (ordB bk) s).1, ordT (rowOf (ordB bk) s).2)) = _
  rw [ordB_names, srt_srt]
  refine List.map_congr_left fun s hs => ?_
  have hm : (s, (rowOf bk s).1, ordT (rowOf bk s).2) ∈ ordB bk := List.mem_map.mpr ⟨s, hs, rfl⟩
  have := rowOf_self nd2 hm
  rw [show rowOf (ordB bk) s = ((rowOf bk s).1, ordT (rowOf bk s).2) from this]
  show (s, (rowOf bk s).1, ordT (ordT (rowOf bk s).2)) = _
  rw [ordT_ordT]
theorem updd2 {H : Hp} {a : Addr} {o o' : HO} : L2.upd (L2.upd H a o) a o' = L2.upd H a o' := by
  funext b
  by_cases h : b = a
  · rw [h, upd_same, upd_same]
  · rw [upd_ne h, upd_ne h, upd_ne h]
theorem Rows.updI {H : Hp} {q C dx : Addr} {fs : List (Str × V)} {kvs : List (Key × V)} {bk : Bk} {o : HO} (h : Rows H kvs bk) (hq : H q = some (.ins C dx fs)) : Rows (L2.upd H q o) kvs bk := by
  unfold Rows at h ⊢
  induction h with
  | nil => exact .nil
  | cons h1 _ ih =>
    obtain ⟨e, t, a, ev, ht, ha⟩ := h1
    refine .cons ⟨e, t, a, ev, ?_, ?_⟩ ih
    · rw [upd_ne fun z => by rw [z, hq] at ht; cases ht]; exact ht
    · rw [TurnsAt, upd_ne fun z => by rw [TurnsAt, z, hq] at ha; cases ha]; exact ha
section
variable {P : Program} {w : World} {K : PySem.W.Frag} {mg : Str → Option Value} {base : Heap}
abbrev CIsBook (P : Program) (w : World) (K : PySem.W.Frag) (mg : Str → Option Value) (base : Heap) := Cal P w K mg base "is_book" 3 ["value"] spIsBook
abbrev CIsState (P : Program) (w : World) (K : PySem.W.Frag) (mg : Str → Option Value) (base : Heap) := Cal P w K mg base "is_state_of" 1 ["book", "value"] spIsState
abbrev COrdB (P : Program) (w : World) (K : PySem.W.Frag) (mg : Str → Option Value) (base : Heap) := Cal P w K mg base "ordered_book" 2 ["book"] spOrdB
theorem scDi : FnScope ["self", "book", "start"] ["self", "book", "start"] (defScope sDInit) := ⟨rfl, rfl, rfl, by decide +kernel, rfl, by decide +kernel, by decide +kernel⟩
theorem ok_dinit {f C : Addr} {fd : FuncData} (F : Fun K "__init__" "Desk.__init__" sDInit f fd) (D : DTxt K mg C) (CB : CIsBook P w K mg base) (CS : CIsState P w K mg base) (CO : COrdB P w K mg base) : FnOk P w K mg base CX0 4 f fd ["self", "book", "start"] (spDInit C) := by
  refine F.ok scDi (fun vs H Q E h => ?_) (fun cdv A outer s H vs Q E hr h => ?_)
  · obtain ⟨q, dx, b, bk, st, rfl, _⟩ := h; rfl
  · obtain ⟨q, dx, b, bk, st, rfl, hq, hb, ok, k⟩ := h
    refine ⟨_, pss_cons (ps_if (pt_not (pt_val (pe_cal CB (hr.mono (by decide)) rfl (pa_cons (pv 1) pa_nil)))) (pss_one ps_never) pss_nil)
      (pss_cons (ps_if (pt_not (pt_val (pe_cal CS (hr.mono (by decide)) rfl (pa_cons (pv 1) (pa_cons (pv 2) pa_nil))))) (pss_one ps_never) pss_nil)
      (pss_cons (ps_fld (pv 0) (pe_cal CO (hr.mono (by decide)) rfl (pa_cons (pv 1) pa_nil)) rfl)
      (pss_one (ps_fld (pv 0) (pv 2) rfl)))), ?_⟩
    refine ⟨_, rfl, b, bk, rfl, hb, ok.toBWf, fun H1 s1 => ⟨_, rfl, iteF ?_⟩⟩
    obtain ⟨kvs, hk1, hR1⟩ := hb.same s1
    obtain ⟨v, ev, _⟩ := hR1.look ok.st
    refine ⟨_, rfl, _, rfl, b, kvs, st, rfl, .inl hk1, by rw [ev]; rfl, ⟨_, rfl, iteF ?_⟩⟩
    refine ⟨_, rfl, b, bk, rfl, (hb.same s1).r, ok.bok, fun H2 R s2 hR hO => ?_⟩
    have s12 := Same.trans s1 s2
    have hq2 := s12 _ _ hq
    have nqR : q ≠ R := ne_of_none (s1 _ _ hq) hR
    refine ⟨_, rfl, q, C, dx, [], rfl, hq2, D.cl, D.nB, (by show 0 < 1000; decide), _, rfl, _, rfl, q, C, dx, _, rfl, upd_same, D.cl, D.nS, (by show 1 < 1000; decide), ?_⟩
    rw [updd2]
    have sN : ∀ o, Same (newH H1 H2) (newH H (L2.upd H2 q o)) := fun o c u e => by
      obtain ⟨n, e⟩ := new_some (new_mono s1 _ _ e)
      rw [new_out n, upd_ne fun z => by rw [z, hq] at n; cases n]; exact e
    refine k _ (fun c u nc e => ?_) ⟨dx, R, upd_same, (hO.same (sN _)).r.same new_le⟩ ⟨dx, R, upd_same, (hO.same (sN _)).r⟩
    rw [upd_ne nc]; exact s12 _ _ e
theorem scDb : FnScope ["self"] ["self"] (defScope sDBook) := ⟨rfl, rfl, rfl, by decide +kernel, rfl, by decide +kernel, by decide +kernel⟩
theorem ok_dbook {f C : Addr} {fd : FuncData} (F : Fun K "book" "Desk.book" sDBook f fd) (D : DTxt K mg C) (CO : COrdB P w K mg base) : FnOk P w K mg base CX0 3 f fd ["self"] (spDBook C) := by
  refine F.ok scDb (fun vs H Q E h => ?_) (fun cdv A outer s H vs Q E hr h => ?_)
  · obtain ⟨q, bk, st, rfl, _⟩ := h; rfl
  · obtain ⟨q, bk, st, rfl, ⟨dx, b, hq, hb⟩, ok, k⟩ := h
    refine ⟨_, pss_one (ps_ret (pe_cal CO (hr.mono (by decide)) rfl (pa_cons (pe_fld (pv 0) rfl) pa_nil))), ?_⟩
    refine ⟨_, rfl, q, C, dx, _, _, rfl, hq, D.cl, D.nB, dflds_book _ _, b, ordB bk, rfl, hb, ok.obok, fun H' R s' hR hO => ?_⟩
    rw [ordB_ordB ok.nd] at hO
    exact k H' R s' hR (hO.same new_le) hO
theorem scDs : FnScope ["self"] ["self"] (defScope sDStart) := ⟨rfl, rfl, rfl, by decide +kernel, rfl, by decide +kernel, by decide +kernel⟩
theorem ok_dstart {f C : Addr} {fd : FuncData} (F : Fun K "start" "Desk.start" sDStart f fd) (D : DTxt K mg C) : FnOk P w K mg base CX0 1 f fd ["self"] (spDStart C) := by
  refine F.ok scDs (fun vs H Q E h => ?_) (fun cdv A outer s H vs Q E hr h => ?_)
  · obtain ⟨q, bk, st, rfl, _⟩ := h; rfl
  · obtain ⟨q, bk, st, rfl, ⟨dx, b, hq, hb⟩, k⟩ := h
    refine ⟨_, pss_one (ps_ret (pe_fld (pv 0) rfl)), ?_⟩
    exact ⟨_, rfl, q, C, dx, _, _, rfl, hq, D.cl, D.nS, dflds_start _ _, k⟩
end
end D1
end L2
/-! need_desk, graph_of, node_behind, the talks' small defs -/
namespace L2
namespace D1
open PySem PySem.Spec PyProof.Rows
/-- a method that keeps a promise -/
structure CalM (P : Program) (w : World) (K : PySem.W.Frag) (mg : Str → Option Value) (base : Heap) (C : Addr) (m : Str) (k : Nat) (ps : List Str) (sp : Sp) : Prop where
  ex : ∃ f fd, Meth K C m f ∧ FnOk P w K mg base CX0 k f fd ps sp ∧ Binds K fd ps []
def spNeed (C : Addr) : Sp := fun vs H Q _ => ∃ (q dx : Addr) (fs : List (Str × V)), vs = [.ref q] ∧ H q = some (.ins C dx fs) ∧ Q .non H
/-- a graph's rows -/
def GRows (H : Hp) : List (Key × V) → Bk → Prop := Paired fun kv r => kv.1 = Sum.inr r.1 ∧ ∃ a, kv.2 = .ref a ∧ TurnsAt H a r.2.2
theorem GRows.same {H H' : Hp} {kvs : List (Key × V)} {bk : Bk} (h : GRows H kvs bk) (s : Same H H') : GRows H' kvs bk := by
  unfold GRows at h ⊢
  induction h with
  | nil => exact .nil
  | cons a b ih => obtain ⟨e, c, e2, h3⟩ := a; exact .cons ⟨e, c, e2, h3.same s⟩ ih
theorem GRows.app {H : Hp} {kvs : List (Key × V)} {bk : Bk} {s k : Str} {a : Addr} {ts : List (Str × Str)} (h : GRows H kvs bk) (r : TurnsAt H a ts) : GRows H (kvs ++ [(.inr s, .ref a)]) (bk ++ [(s, k, ts)]) := by
  unfold GRows at h ⊢
  induction h with
  | nil => exact .cons ⟨rfl, a, rfl, r⟩ .nil
  | cons a b ih => exact .cons a ih
theorem GRows.keys {H : Hp} {kvs : List (Key × V)} {bk : Bk} (h : GRows H kvs bk) : kvs.map (·.1) = bk.map fun r => Sum.inr r.1 := by
  unfold GRows at h
  induction h with
  | nil => rfl
  | cons a b ih => rw [List.map_cons, List.map_cons, ih, a.1]
theorem GRows.look {H : Hp} {kvs : List (Key × V)} {bk : Bk} {s : Str} (h : GRows H kvs bk) (m : s ∈ bk.map (·.1)) : ∃ a, valV kvs (.inr s) = some (.ref a) ∧ TurnsAt H a (rowOf bk s).2 := by
  unfold GRows at h
  induction h with
  | nil => cases m
  | @cons x r kvs bk h1 _ ih =>
    obtain ⟨e1, a, e2, h3⟩ := h1
    by_cases e : r.1 = s
    · refine ⟨a, (valV_pos (by rw [e1, e])).trans (congrArg some e2), ?_⟩
      rw [rowOf, List.find?_cons, decide_eq_true e]; exact h3
    · have m' : s ∈ bk.map (·.1) := by
        rcases List.mem_cons.mp m with z | z
        · exact absurd z.symm e
        · exact z
      obtain ⟨a', h4, h5⟩ := ih m'
      have er : rowOf (r :: bk) s = rowOf bk s := by rw [rowOf, List.find?_cons, decide_eq_false e]; rfl
      exact ⟨a', by rw [valV_neg (by rw [e1]; exact fun z => e (Sum.inr.inj z))]; exact h4, by rw [er]; exact h5⟩
def GraphAt (H : Hp) (g : Addr) (bk : Bk) : Prop := ∃ kvs, H g = some (.dK kvs) ∧ GRows H kvs bk
theorem GraphAt.same {H H' : Hp} {g : Addr} {bk : Bk} (h : GraphAt H g bk) (s : Same H H') : GraphAt H' g bk := by
  obtain ⟨kvs, e, r⟩ := h; exact ⟨kvs, s _ _ e, r.same s⟩
def spGraph (C : Addr) : Sp := fun vs H Q _ => ∃ (q : Addr) (bk : Bk) (st : Str), vs = [.ref q] ∧ DeskAt C H q bk st ∧ DOk bk st ∧ ∀ H' R, Same H H' → GraphAt H' R (ordB bk) → Q (.ref R) H'
/-- where a word leads -/
def nextT (ts : List (Str × Str)) (x : Str) : Option Str := (ts.find? fun t => decide (t.1 = x)).map (·.2)
def walkB (bk : Bk) : Str → List Str → Option Str
  | s, [] => some s
  | s, x :: r => match nextT (rowOf bk s).2 x with
    | none => none
    | some g => walkB bk g r
def optV : Option Str → V
  | none => .non
  | some s => .str s
theorem nextT_none {ts : List (Str × Str)} {x : Str} : nextT ts x = none ↔ x ∉ ts.map (·.1) := by
  constructor
  · intro h m
    obtain ⟨t, e, _⟩ := find_some m
    rw [nextT, e] at h; cases h
  · intro h
    cases e : nextT ts x with
    | none => rfl
    | some g =>
      obtain ⟨t, e1, _⟩ := Option.map_eq_some_iff.mp e
      have e2 := List.find?_some e1
      exact absurd (List.mem_map.mpr ⟨t, List.mem_of_find?_eq_some e1, of_decide_eq_true e2⟩) h
theorem nextT_ord (ts : List (Str × Str)) (x : Str) : nextT (ordT ts) x = nextT ts x := by
  by_cases h : x ∈ ts.map (·.1)
  · have h' : x ∈ (ordT ts).map (·.1) := by rw [ordT_keys]; exact (srt_perm _).mem_iff.mpr h
    have g := goalT_ordT h
    obtain ⟨t, e, _⟩ := find_some h
    obtain ⟨t', e', _⟩ := find_some h'
    rw [goalT, goalT, e, e'] at g
    rw [nextT, nextT, e, e']
    exact congrArg some g
  · have h' : x ∉ (ordT ts).map (·.1) := by rw [ordT_keys]; exact fun z => h ((srt_perm _).mem_iff.mp z)
    rw [nextT_none.mpr h, nextT_none.mpr h']
theorem nextT_mem {ts : List (Str × Str)} {x g : Str} (h : nextT ts x = some g) : ∃ t ∈ ts, t.1 = x ∧ t.2 = g := by
  obtain ⟨t, e1, e2⟩ := Option.map_eq_some_iff.mp h
  have e3 := List.find?_some e1
  exact ⟨t, List.mem_of_find?_eq_some e1, of_decide_eq_true e3, e2⟩
theorem valV_next (ts : List (Str × Str)) (x : Str) : valV (kT ts) (.inr x) = (nextT ts x).map V.str := by
  rw [valV_kT, nextT, Option.map_map]; rfl
theorem rowOf_ord {bk : Bk} (nd : (bk.map (·.1)).Nodup) {s : Str} (h : s ∈ bk.map (·.1)) : rowOf (ordB bk) s = ((rowOf bk s).1, ordT (rowOf bk s).2) := by
  have nd2 : ((ordB bk).map (·.1)).Nodup := by rw [ordB_names]; exact (srt_perm _).nodup_iff.mpr nd
  have hm : (s, (rowOf bk s).1, ordT (rowOf bk s).2) ∈ ordB bk := List.mem_map.mpr ⟨s, (srt_perm _).mem_iff.mpr h, rfl⟩
  exact rowOf_self nd2 hm
theorem row_mem {bk : Bk} {s : Str} (h : s ∈ bk.map (·.1)) : (s, rowOf bk s) ∈ bk := by
  obtain ⟨r, hr, e⟩ := List.mem_map.mp h
  cases z : bk.find? fun r => decide (r.1 = s) with
  | none => exact absurd (decide_eq_true e) (List.find?_eq_none.mp z r hr)
  | some u =>
    have e1 : u.1 = s := of_decide_eq_true (by have := List.find?_some z; exact this)
    have : rowOf bk s = u.2 := by rw [rowOf, z]; rfl
    rw [this, ← e1]
    exact List.mem_of_find?_eq_some z
def spNode : Sp := fun vs H Q _ => ∃ (g L : Addr) (bk : Bk) (st : Str) (way : List Str), vs = [.ref g, .str st, .ref L] ∧ GraphAt H g (ordB bk) ∧ DOk bk st ∧ SL H L way ∧ Q (optV (walkB bk st way)) H
def spIsTalk : Sp := spIsNames
def spNeedT : Sp := fun vs H Q _ => ∃ (L : Addr) (ss : List Str), vs = [.ref L] ∧ SL H L ss ∧ ss.length ≤ 1000 ∧ (∀ x ∈ ss, Wd x) ∧ ∀ H', Same H H' → Q .non H'
def spSB (C : Addr) : Sp := fun vs H Q _ => ∃ (q L : Addr) (bk : Bk) (st : Str) (way : List Str), vs = [.ref q, .ref L] ∧ DeskAt C H q bk st ∧ DOk bk st ∧ SL H L way ∧ way.length ≤ 1000 ∧ (∀ x ∈ way, Wd x) ∧ ∀ H', Same H H' → Q (optV (walkB bk st way)) H'
section
variable {P : Program} {w : World} {K : PySem.W.Frag} {mg : Str → Option Value} {base : Heap}
theorem scNd : FnScope ["desk"] ["desk"] (defScope sNeed) := ⟨rfl, rfl, rfl, by decide +kernel, rfl, by decide +kernel, by decide +kernel⟩
theorem ok_need {f C : Addr} {fd : FuncData} (F : Fun K "need_desk" "need_desk" sNeed f fd) (T : Free3 mg) (D : DTxt K mg C) (c : C8.InsC K C) : FnOk P w K mg base CX0 1 f fd ["desk"] (spNeed C) := by
  refine F.ok scNd (fun vs H Q E h => ?_) (fun cdv A outer s H vs Q E hr h => ?_)
  · obtain ⟨q, dx, fs, rfl, _⟩ := h; rfl
  · obtain ⟨q, dx, fs, rfl, hq, k⟩ := h
    refine ⟨_, pss_one (ps_if (pt_not (pt_val (pe_callB (C8.call_isC c) (by rfl) T.isi (by decide +kernel) (pa_cons (pv 0) (pa_cons (pe_glob (v := .ref C) rfl D.mgC rfl) pa_nil))))) (pss_one ps_never) pss_nil), ?_⟩
    exact ⟨_, rfl, q, dx, fs, rfl, hq, _, rfl, iteF k⟩
abbrev CNode (P : Program) (w : World) (K : PySem.W.Frag) (mg : Str → Option Value) (base : Heap) := Cal P w K mg base "node_behind" 1 ["graph", "start", "way"] spNode
end
end D1
end L2
/-! graph_of, is_talk, need_talk, done_states, state_behind, is_whole -/
namespace L2
namespace D1
open PySem PySem.Spec PyProof.Rows
theorem Rows.at {H : Hp} {kvs : List (Key × V)} {bk : Bk} (h : Rows H kvs bk) : ∀ {i : Nat} {k : Key} {v : V}, kvs[i]? = some (k, v) → ∃ r, bk[i]? = some r ∧ k = Sum.inr r.1 ∧ RowAt H v r.2.1 r.2.2 := by
  unfold Rows at h
  induction h with
  | nil => intro i k v e; simp at e
  | @cons x r kvs bk h1 _ ih =>
    intro i k v e
    cases i with
    | zero => cases e; exact ⟨r, rfl, h1.1, h1.2⟩
    | succ i => exact ih e
def isDone (r : RowD) : Bool := decide (r.2.1 = "done")
def spDone (C : Addr) : Sp := fun vs H Q _ => ∃ (q : Addr) (bk : Bk) (st : Str), vs = [.ref q] ∧ DeskAt C H q bk st ∧ DOk bk st ∧ ∀ H' R, Same H H' → SL H' R (((ordB bk).filter isDone).map (·.1)) → Q (.ref R) H'
/-- whether a talk leads to an end -/
def wholeB (bk : Bk) (st : Str) (way : List Str) : Bool := match walkB bk st way with
  | none => false
  | some s => decide ((rowOf bk s).1 = "done")
def spWhole (C : Addr) : Sp := fun vs H Q _ => ∃ (q L : Addr) (bk : Bk) (st : Str) (way : List Str), vs = [.ref q, .ref L] ∧ DeskAt C H q bk st ∧ DOk bk st ∧ SL H L way ∧ way.length ≤ 1000 ∧ (∀ x ∈ way, Wd x) ∧ ∀ H', Same H H' → Q (.bl (wholeB bk st way)) H'
theorem DOk.ond {bk : Bk} {st : Str} (h : DOk bk st) : ((ordB bk).map (·.1)).Nodup := by rw [ordB_names]; exact (srt_perm _).nodup_iff.mpr h.nd
theorem ordB_ne {bk : Bk} (h : bk ≠ []) : ordB bk ≠ [] := fun e => by
  have := ordB_len bk
  rw [e] at this
  exact h (List.length_eq_zero_iff.mp this.symm)
theorem walk_mem {bk : Bk} {st0 : Str} (ok : DOk bk st0) : ∀ {way : List Str} {st s : Str}, st ∈ bk.map (·.1) → walkB bk st way = some s → s ∈ bk.map (·.1)
  | [], st, s, h, e => by cases e; exact h
  | x :: r, st, s, h, e => by
    rw [walkB] at e
    cases en : nextT (rowOf bk st).2 x with
    | none => rw [en] at e; cases e
    | some g =>
      rw [en] at e
      obtain ⟨t, ht, _, e3⟩ := nextT_mem en
      exact walk_mem ok (by rw [← e3]; exact (ok.rs _ (row_mem h)).2.2 t ht) e
section
variable {P : Program} {w : World} {K : PySem.W.Frag} {mg : Str → Option Value} {base : Heap} {C : Addr}
abbrev CMBook (P : Program) (w : World) (K : PySem.W.Frag) (mg : Str → Option Value) (base : Heap) (C : Addr) := CalM P w K mg base C "book" 3 ["self"] (spDBook C)
abbrev CMStart (P : Program) (w : World) (K : PySem.W.Frag) (mg : Str → Option Value) (base : Heap) (C : Addr) := CalM P w K mg base C "start" 1 ["self"] (spDStart C)
abbrev CNeed (P : Program) (w : World) (K : PySem.W.Frag) (mg : Str → Option Value) (base : Heap) (C : Addr) := Cal P w K mg base "need_desk" 1 ["desk"] (spNeed C)
abbrev CGraph (P : Program) (w : World) (K : PySem.W.Frag) (mg : Str → Option Value) (base : Heap) (C : Addr) := Cal P w K mg base "graph_of" 4 ["desk"] (spGraph C)
abbrev CIsTalk (P : Program) (w : World) (K : PySem.W.Frag) (mg : Str → Option Value) (base : Heap) := Cal P w K mg base "is_talk" 3 ["value"] spIsTalk
abbrev CNeedT (P : Program) (w : World) (K : PySem.W.Frag) (mg : Str → Option Value) (base : Heap) := Cal P w K mg base "need_talk" 4 ["talk"] spNeedT
abbrev CIsNames (P : Program) (w : World) (K : PySem.W.Frag) (mg : Str → Option Value) (base : Heap) := Cal P w K mg base "is_names" 2 ["value"] spIsNames
theorem scGr : FnScope ["desk", "book", "state"] ["desk"] (defScope sGraph) := ⟨rfl, rfl, rfl, by decide +kernel, rfl, by decide +kernel, by decide +kernel⟩
theorem ok_graph {f : Addr} {fd : FuncData} (F : Fun K "graph_of" "graph_of" sGraph f fd) (D : DTxt K mg C) (MB : CMBook P w K mg base C) : FnOk P w K mg base CX0 4 f fd ["desk"] (spGraph C) := by
  obtain ⟨fB, fdB, mB, FB, bB⟩ := MB.ex
  refine F.ok scGr (fun vs H Q E h => ?_) (fun cdv A outer s H vs Q E hr h => ?_)
  · obtain ⟨q, bk, st, rfl, _⟩ := h; rfl
  · obtain ⟨q, bk, st, rfl, hq, ok, k⟩ := h
    have hu := hu_of hr
    refine ⟨_, pss_cons (ps_set (i := 1) scGr.nd rfl (Or.inr rfl) (pe_meth0 (pv 0) D.cl mB FB (hr.mono (by decide)) bB .nil pass0))
      (pss_one (ps_ret (pe_lock (pe_dc (own := [("state", 2)]) (g := gName 2) (tt := tYes) (tk := tVar 2) (tv := tOp (rIxT K) (tDGet (tVar 1) (tVar 2)) (tC (.int 1))) rfl scGr.nd (pi_keys (pv 1))
        (blkOk_by (N := ["desk", "book", "state"]) (sc := defScope sGraph) (by decide +kernel)) (fun _ _ _ _ _ => pg_name (i := 2) scGr.nd rfl (Or.inl rfl)) (fun _ _ _ _ _ => pts_nil) (fun _ _ _ _ _ => pv 2)
        (fun _ _ _ _ _ => pe_ix ix_tup (pe_dget hu (pv 1) (pv 2) (fun _ _ => rfl)) pe_int (fun _ _ => rfl)))))), ?_⟩
    obtain ⟨dx, b0, e0, hb0⟩ := id hq
    refine ⟨_, rfl, q, dx, _, rfl, e0, dflds_no _ _ (by decide +kernel) (by decide +kernel), q, bk, st, rfl, hq, ok, fun H1 B s1 hB ⟨kvs, hk, hR⟩ _ => ?_⟩
    refine ⟨B, _, hk, trivial, fun od => ?_⟩
    refine ⟨_, rfl, B, od, rfl, .inl ⟨kvs, upd_same, fun D hD => ?_⟩⟩
    have nD : B ≠ D := fun e => by rw [← e, upd_same] at hD; cases hD
    have hD0 := upd_none' hD
    have hRL := hR.lock (o := .frz od (.dK kvs)) hk (ordB_ne ok.ne)
    refine dc_it (walk_keys (d := B) (o := od) (kvs := kvs)) (fun i H' => Same (L2.upd H1 B (.frz od (.dK kvs))) H' ∧ ∃ kv2, H' D = some (.dK kv2) ∧ GRows H1 kv2 ((ordB bk).take i)) ⟨Same.new hD, [], upd_same, .nil⟩ (fun i H' _ z => z.1 _ _ upd_same) ?_ ?_
    · rintro i x H2 H3 hi ⟨sm, kv2, hk2, hG⟩ ⟨rfl, kk, v0, hkv, rfl⟩
      obtain ⟨r, hr', rfl, _⟩ := hR.at hkv
      have hrm : r ∈ ordB bk := List.mem_of_getElem? hr'
      have hs : r.1 ∈ (ordB bk).map (·.1) := List.mem_map_of_mem hrm
      obtain ⟨v, ev, ⟨t, a, rfl, ht, ha⟩, _⟩ := hR.look hs
      obtain ⟨v', ev', hrow', _⟩ := hRL.look hs
      rw [ev] at ev'
      cases ev'
      obtain ⟨t', a', et, ht', ha'⟩ := hrow'
      cases et
      have ht2 := sm _ _ ht'
      rw [rowOf_self ok.ond hrm] at ht ha ht2 ha' ht'
      have ea : a' = a := by
        have nt : t ≠ B := fun e => by rw [e, hk] at ht; cases ht
        rw [upd_ne nt, ht] at ht'
        have := HO.tup.inj (Option.some.inj ht')
        injection this with _ h2
        injection h2 with h3
        injection h3 with h4
        exact h4.symm
      subst ea
      refine ⟨rfl, ?_⟩
      dsimp only [tYes]
      rw [if_pos rfl]
      have hn : (Sum.inr r.1 : Key) ∉ kv2.map (·.1) := fun hm => by
        rw [hG.keys] at hm
        obtain ⟨r2, hr2, e2⟩ := List.mem_map.mp hm
        have e2 : r2.1 = r.1 := Sum.inr.inj e2
        obtain ⟨m, hm1, hm2⟩ := List.mem_take_iff_getElem.mp hr2
        have h1 : ((ordB bk).map (·.1))[m]? = some r.1 := by rw [List.getElem?_map, List.getElem?_eq_getElem (by omega), hm2, ← e2]; rfl
        have h2 : ((ordB bk).map (·.1))[i]? = some r.1 := by rw [List.getElem?_map, hr']; rfl
        have hil : i < (ordB bk).length := (List.getElem?_eq_some_iff.mp hr').1
        have := (List.getElem?_inj (by rw [List.length_map]; omega) ok.ond).mp (h1.trans h2.symm)
        omega
      have l2 : kv2.length ≤ 60 := by
        have := congrArg List.length hG.keys
        rw [List.length_map, List.length_map, List.length_take, ordB_len] at this
        have := ok.len; omega
      refine ⟨_, rfl, _, rfl, _, rfl, B, _, rfl, .inl ⟨kvs, .inr r.1, .inr ⟨od, sm _ _ upd_same⟩, rfl, ev.symm⟩, t, _, _, _, rfl, rfl, SqT.of ht2, atI_nat (j := 1) rfl, kv2, .inr r.1, rfl, hk2, by rw [sizeLine_eq]; omega, ?_, _, upd_same, ?_⟩
      · intro c u e
        rw [upd_ne (ne_of_none e hD)]; exact sm _ _ e
      · rw [putK_new hn, take_succ_get hr']
        exact hG.app ha
    · rintro H2 ⟨sm, kv2, hk2, hG⟩
      have hl : kvs.length = (ordB bk).length := hR.len
      rw [hl, List.take_length] at hG
      have su := Same.unlock hk sm
      exact ⟨sm _ _ upd_same, k _ D (Same.trans s1 su) ⟨kv2, by rw [upd_ne nD.symm]; exact hk2, hG.same su⟩⟩
end
end D1
end L2
/-! exact -/
namespace L2
namespace D1
open PySem PySem.Spec PyProof.Rows
inductive Leaf : V → Prop
  | non : Leaf .non
  | bl (b : Bool) : Leaf (.bl b)
  | str (x : Str) : Leaf (.str x)
/-- alike data, at most n deep -/
def EqX : Nat → Hp → V → V → Prop
  | 0, _, x, y => Leaf x ∧ y = x
  | n + 1, H, x, y => EqX n H x y ∨ (∃ a b xs ys, x = .ref a ∧ y = .ref b ∧ H a = some (.lst xs) ∧ H b = some (.lst ys) ∧ xs.length ≤ 10000 ∧ Paired (EqX n H) xs ys) ∨
      (∃ a b xs ys, x = .ref a ∧ y = .ref b ∧ H a = some (.tup xs) ∧ H b = some (.tup ys) ∧ xs.length ≤ 10000 ∧ Paired (EqX n H) xs ys) ∨
      (1 ≤ n ∧ ∃ (a b : Addr) (ks ls : List (Key × V)) (ss : List Str), x = .ref a ∧ y = .ref b ∧ H a = some (.dK ks) ∧ H b = some (.dK ls) ∧ ks.map (·.1) = ss.map Sum.inr ∧ ls.map (·.1) = ss.map Sum.inr ∧ ss.Nodup ∧ ss.length ≤ 10000 ∧ Paired (fun p q => EqX n (cut [a] H) p.2 q.2) ks ls)
theorem paired_imp {α β : Type} {R R' : α → β → Prop} (h : ∀ a b, R a b → R' a b) : ∀ {xs : List α} {ys : List β}, Paired R xs ys → Paired R' xs ys
  | _, _, .nil => .nil
  | _, _, .cons a b => .cons (h _ _ a) (paired_imp h b)
theorem paired_at {α β : Type} {R : α → β → Prop} : ∀ {xs : List α} {ys : List β} {i : Nat} {x : α} {y : β}, Paired R xs ys → xs[i]? = some x → ys[i]? = some y → R x y
  | _, _, i, x, y, .nil, h, _ => by simp at h
  | _, _, 0, x, y, .cons a _, h1, h2 => by cases h1; cases h2; exact a
  | _, _, i + 1, x, y, .cons _ b, h1, h2 => paired_at (i := i) b h1 h2
theorem paired_len {α β : Type} {R : α → β → Prop} : ∀ {xs : List α} {ys : List β}, Paired R xs ys → xs.length = ys.length
  | _, _, .nil => rfl
  | _, _, .cons _ b => by rw [List.length_cons, List.length_cons, paired_len b]
theorem EqX.same : ∀ (n : Nat) {H H' : Hp} {x y : V}, Same H H' → EqX n H x y → EqX n H' x y
  | 0, _, _, _, _, _, h => h
  | n + 1, H, H', x, y, s, h => by
    rcases h with h | ⟨a, b, xs, ys, h1, h2, h3, h4, h5, h6⟩ | ⟨a, b, xs, ys, h1, h2, h3, h4, h5, h6⟩ | ⟨h0, a, b, ks, ls, ss, h1, h2, h3, h4, h5, h6, h7, h8, h9⟩
    · exact .inl (EqX.same n s h)
    · exact .inr (.inl ⟨a, b, xs, ys, h1, h2, s _ _ h3, s _ _ h4, h5, paired_imp (fun _ _ => EqX.same n s) h6⟩)
    · exact .inr (.inr (.inl ⟨a, b, xs, ys, h1, h2, s _ _ h3, s _ _ h4, h5, paired_imp (fun _ _ => EqX.same n s) h6⟩))
    · exact .inr (.inr (.inr ⟨h0, a, b, ks, ls, ss, h1, h2, s _ _ h3, s _ _ h4, h5, h6, h7, h8, paired_imp (fun _ _ => EqX.same n (cut_same s)) h9⟩))
theorem EqX.up {H : Hp} {m n : Nat} {x y : V} (h : EqX m H x y) (l : m ≤ n) : EqX n H x y := by
  induction l with
  | refl => exact h
  | step _ ih => exact .inl ih
theorem eqx_str {H : Hp} {n : Nat} (x : Str) : EqX n H (.str x) (.str x) := EqX.up (m := 0) ⟨.str x, rfl⟩ (Nat.zero_le _)
theorem eqx_strs {H : Hp} {n : Nat} : ∀ ss : List Str, Paired (EqX n H) (ss.map V.str) (ss.map V.str)
  | [] => .nil
  | x :: r => .cons (eqx_str x) (eqx_strs r)
abbrev sExact : Stmt := top 32
def spExact (n : Nat) : Sp := fun vs H Q _ => ∃ x y, vs = [x, y] ∧ EqX n H x y ∧ ∀ H', Same H H' → Q (.bl true) H'
def spDeep (n : Nat) : Sp := fun vs H Q _ => ∃ x y, vs = [x, y] ∧ ((∃ a b xs ys, x = .ref a ∧ y = .ref b ∧ H a = some (.lst xs) ∧ H b = some (.lst ys) ∧ xs.length ≤ 10000 ∧ Paired (EqX n H) xs ys) ∨
      (∃ a b xs ys, x = .ref a ∧ y = .ref b ∧ H a = some (.tup xs) ∧ H b = some (.tup ys) ∧ xs.length ≤ 10000 ∧ Paired (EqX n H) xs ys) ∨
      (1 ≤ n ∧ ∃ (a b : Addr) (ks ls : List (Key × V)) (ss : List Str), x = .ref a ∧ y = .ref b ∧ H a = some (.dK ks) ∧ H b = some (.dK ls) ∧ ks.map (·.1) = ss.map Sum.inr ∧ ls.map (·.1) = ss.map Sum.inr ∧ ss.Nodup ∧ ss.length ≤ 10000 ∧ Paired (fun p q => EqX n (cut [a] H) p.2 q.2) ks ls)) ∧ ∀ H', Same H H' → Q (.bl true) H'
theorem fnok_or {P : Program} {w : World} {K : PySem.W.Frag} {mg : Str → Option Value} {base : Heap} {k : Nat} {f : Addr} {fd : FuncData} {ps : List Str} {sp sp1 sp2 : Sp} (h1 : FnOk P w K mg base CX0 k f fd ps sp1) (h2 : FnOk P w K mg base CX0 k f fd ps sp2)
    (h : ∀ vs H Q E, sp vs H Q E → sp1 vs H Q E ∨ sp2 vs H Q E) : FnOk P w K mg base CX0 k f fd ps sp :=
  ⟨fun vs H Q E q => (h vs H Q E q).elim (h1.len vs H Q E) (h2.len vs H Q E), fun A outer s H args us vs Q E hr he hb hv hs => (h _ _ _ _ hs).elim (fun q => h1.run A outer s H args us vs Q E hr he hb hv q) fun q => h2.run A outer s H args us vs Q E hr he hb hv q⟩
theorem val_at {kvs : List (Key × V)} (nd : (kvs.map (·.1)).Nodup) : ∀ {i : Nat} {k : Key} {v : V}, kvs[i]? = some (k, v) → valV kvs k = some v := by
  induction kvs with
  | nil => intro i k v e; simp at e
  | cons p r ih =>
    intro i k v e
    have nd' := List.nodup_cons.mp nd
    cases i with
    | zero => cases e; exact valV_pos (p := (k, v)) rfl
    | succ i =>
      rw [valV_neg fun z => nd'.1 (List.mem_map.mpr ⟨(k, v), List.mem_of_getElem? e, z.symm⟩)]
      exact ih nd'.2 e
theorem inr_nd' {l : List Str} (h : l.Nodup) : (l.map (Sum.inr : Str → Key)).Nodup := by
  induction l with
  | nil => exact List.nodup_nil
  | cons a r ih =>
    have h' := List.nodup_cons.mp h
    refine List.nodup_cons.mpr ⟨fun z => ?_, ih h'.2⟩
    obtain ⟨b, hb, e⟩ := List.mem_map.mp z
    exact h'.1 (by rw [← Sum.inr.inj e]; exact hb)
theorem walk_zipT {K : PySem.W.Frag} {a b : Addr} {xs ys : List V} {n : Nat} (hn : n = min xs.length ys.length) : Walk (RZ.ItzT K a b) n (fun H => SqT K H a xs ∧ SqT K H b ys) (YPair (fun i => xs[i]?) (fun i => ys[i]?)) := by
  subst hn
  refine ⟨fun i H hi q => ?_, fun H q => ⟨xs, ys, q.1, q.2, by omega⟩, fun i H v H' hi q y => ?_⟩
  · have h1 : i < xs.length := by omega
    have h2 : i < ys.length := by omega
    exact ⟨xs, ys, xs[i], ys[i], q.1, q.2, by simp [h1], by simp [h2]⟩
  · obtain ⟨T, x, z, h1, h2, h3, h4, h5⟩ := y
    exact ⟨T, x, z, h1, h2, h3, h4 xs q.1, h5 ys q.2⟩
theorem kitTwo {K : PySem.W.Frag} {t : String} {b1 b2 : Bool} (h1 : kitB t "list" = some b1) (h2 : kitB t "tuple" = some b2) : PySem.W.kitAny K (.type t) [.type "list", .type "tuple"] = some (b1 || b2) := by
  refine kitAny_cons (kit_ty h1) (fun e => ?_) (fun e => by rw [e]; rfl)
  rw [e]
  exact kitAny_cons (kit_ty h2) (fun e2 => by rw [e2]; exact kitAny_nil) (fun e2 => by rw [e2]; rfl)
theorem leaf_ty {x : V} (lx : Leaf x) : ∃ (t : String) (b : Bool), (∀ (K : PySem.W.Frag) (H : Hp), TyX K H x (.type t)) ∧ kitB t "list" = some false ∧ kitB t "tuple" = some false ∧ kitB t "dict" = some false ∧ kitB t "bool" = some b := by
  cases lx with
  | non => exact ⟨"NoneType", _, fun _ _ => .base .non, by decide +kernel, by decide +kernel, by decide +kernel, (by decide +kernel : kitB "NoneType" "bool" = some false)⟩
  | bl v => exact ⟨"bool", _, fun _ _ => .base (.bl v), by decide +kernel, by decide +kernel, by decide +kernel, (by decide +kernel : kitB "bool" "bool" = some true)⟩
  | str v => exact ⟨"str", _, fun _ _ => .base (.str v), by decide +kernel, by decide +kernel, by decide +kernel, (by decide +kernel : kitB "str" "bool" = some false)⟩
section
variable {P : Program} {w : World} {K : PySem.W.Frag} {mg : Str → Option Value} {base : Heap}
theorem scEx : FnScope ["_law_mine", "_law_theirs", "_law_alike", "_law_a", "_law_b", "_law_key"] ["_law_mine", "_law_theirs"] (defScope sExact) := ⟨rfl, rfl, rfl, by decide +kernel, rfl, by decide +kernel, by decide +kernel⟩
theorem ok_exact {f : Addr} {fd : FuncData} (F : Fun K "_law_exact" "_law_exact" sExact f fd) (T : Free3 mg) (gE : mg "_law_exact" = some (.ref f)) (bE : Binds K fd ["_law_mine", "_law_theirs"] []) : ∀ n : Nat, FnOk P w K mg base CX0 (n + 1) f fd ["_law_mine", "_law_theirs"] (spExact n) := by
  intro n
  induction n with
  | zero =>
    refine F.ok scEx (fun vs H Q E h => ?_) (fun cdv A outer s H vs Q E hr h => ?_)
    · obtain ⟨x, y, rfl, _⟩ := h; rfl
    · obtain ⟨x, y, rfl, ⟨lx, e⟩, k⟩ := h
      have e := e.symm
      subst e
      have hu := hu_of hr
      refine ⟨_, pss_cons (ps_if (pt_val (pe_callB call_isiT (by rfl) T.isi (by decide +kernel) (pa_cons (pv 0) (pa_cons (pe_tup (pa_cons (pe_bltn (v := .ty "list") rfl T.list (by decide +kernel) rfl) (pa_cons (pe_bltn (v := .ty "tuple") rfl T.tuple (by decide +kernel) rfl) pa_nil))) pa_nil)))) pss_never pss_nil)
        (pss_cons (ps_if (pt_val (pe_callB call_isi (by rfl) T.isi (by decide +kernel) (pa_cons (pv 0) (pa_cons (pe_bltn (v := .ty "dict") rfl T.dict (by decide +kernel) rfl) pa_nil)))) pss_never pss_nil)
        (pss_one (ps_ret (pe_and (pe_cmpR op_eq (pe_callB call_isi (by rfl) T.isi (by decide +kernel) (pa_cons (pv 0) (pa_cons (pe_bltn (v := .ty "bool") rfl T.bool (by decide +kernel) rfl) pa_nil))) (pe_callB call_isi (by rfl) T.isi (by decide +kernel) (pa_cons (pv 1) (pa_cons (pe_bltn (v := .ty "bool") rfl T.bool (by decide +kernel) rfl) pa_nil))) (nomark _)) (pe_one (pe_cmpR op_eq (pv 0) (pv 1) (nomark _))))))), ?_⟩
      obtain ⟨t, b, ty, e1, e2, e3, e4⟩ := leaf_ty lx
      refine ⟨_, rfl, by show 2 ≤ sizeLine; decide, fun T1 hT1 => ?_⟩
      refine ⟨x, T1, [.ty "list", .ty "tuple"], .type t, [.type "list", .type "tuple"], false, rfl, upd_same, .cons (.ty _) (.cons (.ty _) .nil), ty _ _, kitTwo e1 e2, _, rfl, iteF ?_⟩
      refine ⟨_, rfl, _, .ty "dict", .type t, .type "dict", false, rfl, .ty _, ty _ _, kit_ty e3, _, rfl, iteF ?_⟩
      refine ⟨_, rfl, _, .ty "bool", .type t, .type "bool", b, rfl, .ty _, ty _ _, kit_ty e4, _, rfl, _, .ty "bool", .type t, .type "bool", b, rfl, .ty _, ty _ _, kit_ty e4, rfl, _, rfl, ?_⟩
      rw [decide_eq_true rfl]
      refine iteT ⟨_, rfl, _, rfl, by cases lx <;> rfl, ?_⟩
      rw [decide_eq_true rfl]
      exact k _ (Same.new hT1)
  | succ n ih =>
    have CE : Cal P w K mg base "_law_exact" (n + 1) ["_law_mine", "_law_theirs"] (spExact n) := Cal.of gE F.kp ih bE
    have deep : FnOk P w K mg base CX0 (n + 2) f fd ["_law_mine", "_law_theirs"] (spDeep n) := by
     refine F.ok scEx (fun vs H Q E h => ?_) (fun cdv A outer s H vs Q E hr h => ?_)
     · obtain ⟨x, y, rfl, _⟩ := h; rfl
     · obtain ⟨x, y, rfl, hx, k⟩ := h
       have hu := hu_of hr
       refine ⟨_, pss_cons (ps_if (pt_val (pe_callB call_isiT (by rfl) T.isi (by decide +kernel) (pa_cons (pv 0) (pa_cons (pe_tup (pa_cons (pe_bltn (v := .ty "list") rfl T.list (by decide +kernel) rfl) (pa_cons (pe_bltn (v := .ty "tuple") rfl T.tuple (by decide +kernel) rfl) pa_nil))) pa_nil)))) (pss_cons (ps_set (i := 2) scEx.nd rfl (Or.inl rfl) (pe_and (pe_cmpR op_eq (pe_callB call_isi (by rfl) T.isi (by decide +kernel) (pa_cons (pv 1) (pa_cons (pe_bltn (v := .ty "list") rfl T.list (by decide +kernel) rfl) pa_nil))) (pe_callB call_isi (by rfl) T.isi (by decide +kernel) (pa_cons (pv 0) (pa_cons (pe_bltn (v := .ty "list") rfl T.list (by decide +kernel) rfl) pa_nil))) (nomark _)) (pe_one (pe_cmpR op_eq (pe_callB call_isi (by rfl) T.isi (by decide +kernel) (pa_cons (pv 1) (pa_cons (pe_bltn (v := .ty "tuple") rfl T.tuple (by decide +kernel) rfl) pa_nil))) (pe_callB call_isi (by rfl) T.isi (by decide +kernel) (pa_cons (pv 0) (pa_cons (pe_bltn (v := .ty "tuple") rfl T.tuple (by decide +kernel) rfl) pa_nil))) (nomark _)))))
           (pss_one (ps_ret (pe_and (pv 2) (pe_and (pe_cmpR op_eq (pe_callB call_len_seq (by rfl) T.len PySem.boot_len (pa_cons (pv 0) pa_nil)) (pe_callB call_len_seq (by rfl) T.len PySem.boot_len (pa_cons (pv 1) pa_nil)) (nomark _)) (pe_one (pe_callB (cr_all rfl) (by rfl) T.all (by decide +kernel) (pa_cons (pe_lc (own := [("_law_a", 3), ("_law_b", 4)]) (g := gTup K 2 (gCons (gName 3) (gCons (gName 4) gNil))) (tt := tYes) (te := tCall (spExact n) [] E0 (tCons (tVar 3) (tCons (tVar 4) tNil))) rfl scEx.nd (RZ.pi_zipA (by rfl) T.zip (pa_cons (pv 0) (pa_cons (pv 1) pa_nil)))
             (blkOk_by (N := ["_law_mine", "_law_theirs", "_law_alike", "_law_a", "_law_b", "_law_key"]) (sc := defScope sExact) (by decide +kernel)) (fun _ _ _ _ _ => pg_tup rfl (pgs_cons (pg_name (i := 3) scEx.nd rfl (Or.inl rfl)) (pgs_cons (pg_name (i := 4) scEx.nd rfl (Or.inl rfl)) pgs_nil))) (fun _ _ _ _ _ => pts_nil)
             (fun _ _ _ _ _ => pe_cal CE (hr.mono (by omega)) rfl (pa_cons (pv 3) (pa_cons (pv 4) pa_nil)))) pa_nil)))))))) pss_nil)
         (pss_cons (ps_if (pt_val (pe_callB call_isi (by rfl) T.isi (by decide +kernel) (pa_cons (pv 0) (pa_cons (pe_bltn (v := .ty "dict") rfl T.dict (by decide +kernel) rfl) pa_nil)))) (pss_cons (ps_set (i := 2) scEx.nd rfl (Or.inl rfl) (pe_and (pe_callB call_isi (by rfl) T.isi (by decide +kernel) (pa_cons (pv 1) (pa_cons (pe_bltn (v := .ty "dict") rfl T.dict (by decide +kernel) rfl) pa_nil))) (pe_one (pe_cal CE (hr.mono (by omega)) rfl (pa_cons (pe_callTy (call_listD rfl) (by rfl) T.list (by decide +kernel) (pa_cons (pv 0) pa_nil)) (pa_cons (pe_callTy (call_listD rfl) (by rfl) T.list (by decide +kernel) (pa_cons (pv 1) pa_nil)) pa_nil))))))
           (pss_one (ps_ret (pe_and (pv 2) (pe_one (pe_callB (cr_all rfl) (by rfl) T.all (by decide +kernel) (pa_cons (pe_lock (pe_lc (own := [("_law_key", 5)]) (g := gName 5) (tt := tYes) (te := tCall (spExact n) [] E0 (tCons (tDGet (tVar 0) (tVar 5)) (tCons (tDGet (tVar 1) (tVar 5)) tNil))) rfl scEx.nd (pi_keys (pv 0))
             (blkOk_by (N := ["_law_mine", "_law_theirs", "_law_alike", "_law_a", "_law_b", "_law_key"]) (sc := defScope sExact) (by decide +kernel)) (fun _ _ _ _ _ => pg_name (i := 5) scEx.nd rfl (Or.inl rfl)) (fun _ _ _ _ _ => pts_nil)
             (fun _ _ _ _ _ => pe_cal CE (hr.mono (by omega)) rfl (pa_cons (pe_dget hu (pv 0) (pv 5) (fun _ _ => rfl)) (pa_cons (pe_dget hu (pv 1) (pv 5) (fun _ _ => rfl)) pa_nil))))) pa_nil))))))) pss_nil)
         pss_never), ?_⟩
       rcases hx with ⟨a, b, xs, ys, rfl, rfl, ha, hb, l0, hp⟩ | ⟨a, b, xs, ys, rfl, rfl, ha, hb, l0, hp⟩ | ⟨h1n, a, b, ks, ls, ss, rfl, rfl, ha, hb, e1, e2, nd, l0, hp⟩
       · refine ⟨_, rfl, by show 2 ≤ sizeLine; decide, fun T1 hT1 => ?_⟩
         have ha1 := Same.new (o := .tup [.ty "list", .ty "tuple"]) hT1 _ _ ha
         have hb1 := Same.new (o := .tup [.ty "list", .ty "tuple"]) hT1 _ _ hb
         have hp1 := paired_imp (fun _ _ => EqX.same n (Same.new (o := .tup [.ty "list", .ty "tuple"]) hT1)) hp
         have s1 := Same.new (o := .tup [.ty "list", .ty "tuple"]) hT1
         refine ⟨.ref a, T1, [.ty "list", .ty "tuple"], .type "list", [.type "list", .type "tuple"], true, rfl, upd_same, .cons (.ty _) (.cons (.ty _) .nil), .base (.lst (by assumption)), kitTwo (b1 := true) (b2 := false) (by decide +kernel) (by decide +kernel), _, rfl, iteT ?_⟩
         generalize L2.upd H T1 (.tup [.ty "list", .ty "tuple"]) = H1 at ha1 hb1 hp1 s1
         refine ⟨_, rfl, _, .ty "list", .type "list", .type "list", true, rfl, .ty _, .base (.lst (by assumption)), kit_ty (by decide +kernel), _, rfl, _, .ty "list", .type "list", .type "list", true, rfl, .ty _, .base (.lst (by assumption)), kit_ty (by decide +kernel), rfl, _, rfl, ?_⟩
         refine iteT ⟨_, rfl, _, .ty "tuple", .type "list", .type "tuple", false, rfl, .ty _, .base (.lst (by assumption)), kit_ty (by decide +kernel), _, rfl, _, .ty "tuple", .type "list", .type "tuple", false, rfl, .ty _, .base (.lst (by assumption)), kit_ty (by decide +kernel), rfl, ?_⟩
         refine ⟨_, rfl, _, rfl, iteT ⟨_, rfl, a, xs, rfl, .inl (SqL.of ha1), _, rfl, b, ys, rfl, .inl (SqL.of hb1), rfl, _, rfl, ?_⟩⟩
         have le := paired_len hp
         rw [le, decide_eq_true rfl]
         refine iteT ⟨_, rfl, _, rfl, a, b, xs, ys, rfl, .inl ⟨SqL.of ha1, SqL.of hb1, fun D hD => ?_⟩⟩
         refine lc_it (walk_zip (K := K) (a := a) (b := b) (xs := xs) (ys := ys) (n := xs.length) (by omega)) (fun i H' => Same H1 H' ∧ H' D = some (.lst ((List.replicate i true).map V.bl))) ⟨Same.new hD, upd_same⟩ (fun i H' _ z => ⟨SqL.of (z.1 _ _ ha1), SqL.of (z.1 _ _ hb1)⟩) ?_ ?_
         · rintro i v H2 H3 hi ⟨sm, hl⟩ ⟨T2, x, y, rfl, hT2, rfl, ex, ey⟩
           have exy := paired_at hp1 ex ey
           have nDT : D ≠ T2 := ne_of_none hl hT2
           refine ⟨T2, _, rfl, SqT.of upd_same, rfl, _, _, rfl, _, _, rfl, rfl, rfl, ?_⟩
           dsimp only [tYes]
           rw [if_pos rfl]
           refine ⟨_, rfl, _, rfl, x, y, rfl, EqX.same n (fun c u e => Same.new hT2 _ _ (sm _ _ e)) exy, fun H4 s4 => ?_⟩
           refine ⟨_, s4 _ _ (by rw [upd_ne nDT]; exact hl), by rw [List.length_map, List.length_replicate, sizeLine_eq]; omega, fun c u e => ?_, by rw [upd_same, repl_snoc]⟩
           rw [upd_ne (ne_of_none e hD)]; exact s4 _ _ (Same.new hT2 _ _ (sm _ _ e))
         · rintro H2 ⟨sm, hl⟩
           refine ⟨D, _, rfl, SqL.of hl, ?_⟩
           rw [all_true]
           exact k H2 (Same.trans s1 sm)
       · refine ⟨_, rfl, by show 2 ≤ sizeLine; decide, fun T1 hT1 => ?_⟩
         have ha1 := Same.new (o := .tup [.ty "list", .ty "tuple"]) hT1 _ _ ha
         have hb1 := Same.new (o := .tup [.ty "list", .ty "tuple"]) hT1 _ _ hb
         have hp1 := paired_imp (fun _ _ => EqX.same n (Same.new (o := .tup [.ty "list", .ty "tuple"]) hT1)) hp
         have s1 := Same.new (o := .tup [.ty "list", .ty "tuple"]) hT1
         refine ⟨.ref a, T1, [.ty "list", .ty "tuple"], .type "tuple", [.type "list", .type "tuple"], true, rfl, upd_same, .cons (.ty _) (.cons (.ty _) .nil), .base (.tup (by assumption)), kitTwo (b1 := false) (b2 := true) (by decide +kernel) (by decide +kernel), _, rfl, iteT ?_⟩
         generalize L2.upd H T1 (.tup [.ty "list", .ty "tuple"]) = H1 at ha1 hb1 hp1 s1
         refine ⟨_, rfl, _, .ty "list", .type "tuple", .type "list", false, rfl, .ty _, .base (.tup (by assumption)), kit_ty (by decide +kernel), _, rfl, _, .ty "list", .type "tuple", .type "list", false, rfl, .ty _, .base (.tup (by assumption)), kit_ty (by decide +kernel), rfl, _, rfl, ?_⟩
         refine iteT ⟨_, rfl, _, .ty "tuple", .type "tuple", .type "tuple", true, rfl, .ty _, .base (.tup (by assumption)), kit_ty (by decide +kernel), _, rfl, _, .ty "tuple", .type "tuple", .type "tuple", true, rfl, .ty _, .base (.tup (by assumption)), kit_ty (by decide +kernel), rfl, ?_⟩
         refine ⟨_, rfl, _, rfl, iteT ⟨_, rfl, a, xs, rfl, .inr (SqT.of ha1), _, rfl, b, ys, rfl, .inr (SqT.of hb1), rfl, _, rfl, ?_⟩⟩
         have le := paired_len hp
         rw [le, decide_eq_true rfl]
         refine iteT ⟨_, rfl, _, rfl, a, b, xs, ys, rfl, .inr ⟨SqT.of ha1, SqT.of hb1, fun D hD => ?_⟩⟩
         refine lc_it (walk_zipT (K := K) (a := a) (b := b) (xs := xs) (ys := ys) (n := xs.length) (by omega)) (fun i H' => Same H1 H' ∧ H' D = some (.lst ((List.replicate i true).map V.bl))) ⟨Same.new hD, upd_same⟩ (fun i H' _ z => ⟨SqT.of (z.1 _ _ ha1), SqT.of (z.1 _ _ hb1)⟩) ?_ ?_
         · rintro i v H2 H3 hi ⟨sm, hl⟩ ⟨T2, x, y, rfl, hT2, rfl, ex, ey⟩
           have exy := paired_at hp1 ex ey
           have nDT : D ≠ T2 := ne_of_none hl hT2
           refine ⟨T2, _, rfl, SqT.of upd_same, rfl, _, _, rfl, _, _, rfl, rfl, rfl, ?_⟩
           dsimp only [tYes]
           rw [if_pos rfl]
           refine ⟨_, rfl, _, rfl, x, y, rfl, EqX.same n (fun c u e => Same.new hT2 _ _ (sm _ _ e)) exy, fun H4 s4 => ?_⟩
           refine ⟨_, s4 _ _ (by rw [upd_ne nDT]; exact hl), by rw [List.length_map, List.length_replicate, sizeLine_eq]; omega, fun c u e => ?_, by rw [upd_same, repl_snoc]⟩
           rw [upd_ne (ne_of_none e hD)]; exact s4 _ _ (Same.new hT2 _ _ (sm _ _ e))
         · rintro H2 ⟨sm, hl⟩
           refine ⟨D, _, rfl, SqL.of hl, ?_⟩
           rw [all_true]
           exact k H2 (Same.trans s1 sm)
       · refine ⟨_, rfl, by show 2 ≤ sizeLine; decide, fun T1 hT1 => ?_⟩
         have s1 := Same.new (o := .tup [.ty "list", .ty "tuple"]) hT1
         have ha1 := s1 _ _ ha
         have hb1 := s1 _ _ hb
         have hp1 := paired_imp (fun _ _ => EqX.same n (cut_same s1)) hp
         refine ⟨.ref a, T1, [.ty "list", .ty "tuple"], .type "dict", [.type "list", .type "tuple"], false, rfl, upd_same, .cons (.ty _) (.cons (.ty _) .nil), .base (.dK ha1), kitTwo (b1 := false) (b2 := false) (by decide +kernel) (by decide +kernel), _, rfl, iteF ?_⟩
         generalize L2.upd H T1 (.tup [.ty "list", .ty "tuple"]) = H1 at ha1 hb1 hp1 s1
         refine ⟨_, rfl, _, .ty "dict", .type "dict", .type "dict", true, rfl, .ty _, .base (.dK ha1), kit_ty (by decide +kernel), _, rfl, iteT ?_⟩
         refine ⟨_, rfl, _, .ty "dict", .type "dict", .type "dict", true, rfl, .ty _, .base (.dK hb1), kit_ty (by decide +kernel), _, rfl, iteT ?_⟩
         have eks : ks.map (fun kv => kV kv.1) = ss.map V.str := by
           have : ks.map (fun kv => kV kv.1) = (ks.map (·.1)).map kV := by rw [List.map_map]; rfl
           rw [this, e1, List.map_map]; rfl
         have els : ls.map (fun kv => kV kv.1) = ss.map V.str := by
           have : ls.map (fun kv => kV kv.1) = (ls.map (·.1)).map kV := by rw [List.map_map]; rfl
           rw [this, e2, List.map_map]; rfl
         refine ⟨_, rfl, a, ks, rfl, .inl ha1, fun M1 hM1 => ⟨_, rfl, b, ls, rfl, .inl (Same.new hM1 _ _ hb1), fun M2 hM2 => ?_⟩⟩
         rw [eks, els] at *
         have nM : M1 ≠ M2 := fun e => by rw [← e, upd_same] at hM2; cases hM2
         refine ⟨_, _, rfl, ?_, fun H2 s2 => ?_⟩
         · refine EqX.up (m := 1) (.inr (.inl ⟨M1, M2, ss.map V.str, ss.map V.str, rfl, rfl, by rw [upd_ne nM, upd_same], by rw [upd_same], by rw [List.length_map]; exact l0, ?_⟩)) h1n
           exact paired_imp (fun _ _ z => z) (eqx_strs (n := 0) ss)
         have s12 : Same H1 H2 := fun c u e => s2 _ _ (Same.new hM2 _ _ (Same.new hM1 _ _ e))
         have ha2 := s12 _ _ ha1
         have hb2 := s12 _ _ hb1
         have hp2 := paired_imp (fun _ _ => EqX.same n (cut_same s12)) hp1
         refine ⟨_, rfl, _, rfl, iteT ⟨a, _, ha2, trivial, fun od => ?_⟩⟩
         refine ⟨_, rfl, a, od, rfl, .inl ⟨ks, upd_same, fun D hD => ?_⟩⟩
         have nD : a ≠ D := fun e => by rw [← e, upd_same] at hD; cases hD
         have sL : Same (cut [a] H2) (L2.upd H2 a (.frz od (.dK ks))) := fun c u e => by
           obtain ⟨nc, e⟩ := cut_some e
           rw [upd_ne (by simpa using nc)]; exact e
         have le := paired_len hp
         have lks : ks.length = ss.length := by rw [← List.length_map (·.1), e1, List.length_map]
         refine lc_it (walk_keys (d := a) (o := od) (kvs := ks)) (fun i H' => Same (L2.upd H2 a (.frz od (.dK ks))) H' ∧ H' D = some (.lst ((List.replicate i true).map V.bl))) ⟨Same.new hD, upd_same⟩ (fun i H' _ z => z.1 _ _ upd_same) ?_ ?_
         · rintro i v H3 H4 hi ⟨sm, hl⟩ ⟨rfl, kk, v0, hkv, rfl⟩
           have hli : i < ls.length := by omega
           have hlv := List.getElem?_eq_getElem hli
           have exy := paired_at hp2 hkv hlv
           have ek : (ks.map (·.1))[i]? = some kk := by rw [List.getElem?_map, hkv]; rfl
           have el : (ls.map (·.1))[i]? = some (ls[i].1) := by rw [List.getElem?_map, hlv]; rfl
           rw [e1] at ek
           rw [e2, ek] at el
           have el : kk = ls[i].1 := Option.some.inj el
           have v1 : valV ks kk = some v0 := val_at (by rw [e1]; exact inr_nd' nd) hkv
           have v2 : valV ls kk = some ls[i].2 := val_at (by rw [e2]; exact inr_nd' nd) (by rw [hlv, el])
           have rb : Rd H4 b (.dK ls) := by
             by_cases c : b = a
             · subst c
               rw [ha2] at hb2
               have : ks = ls := by injection hb2 with z; injection z
               rw [← this]
               exact .inr ⟨od, sm _ _ upd_same⟩
             · exact .inl (sm _ _ (by rw [upd_ne c]; exact hb2))
           refine ⟨rfl, ?_⟩
           dsimp only [tYes]
           rw [if_pos rfl]
           refine ⟨_, rfl, _, rfl, a, v0, rfl, .inl ⟨ks, kk, .inr ⟨od, sm _ _ upd_same⟩, rfl, v1.symm⟩, _, rfl, _, rfl, b, _, rfl, .inl ⟨ls, kk, rb, rfl, v2.symm⟩, _, _, rfl, EqX.same n (fun c u e => sm _ _ (sL _ _ e)) exy, fun H5 s5 => ?_⟩
           refine ⟨_, s5 _ _ hl, by rw [List.length_map, List.length_replicate, sizeLine_eq]; omega, fun c u e => ?_, by rw [upd_same, repl_snoc]⟩
           rw [upd_ne (ne_of_none e hD)]; exact s5 _ _ (sm _ _ e)
         · rintro H3 ⟨sm, hl⟩
           refine ⟨sm _ _ upd_same, D, _, rfl, SqL.of (by rw [upd_ne nD.symm]; exact hl), ?_⟩
           rw [all_true]
           exact k _ (Same.trans (Same.trans s1 s12) (Same.unlock ha2 sm))
    exact fnok_or (ih.mono (by omega)) deep fun vs H Q E ⟨x, y, e, h, k⟩ => by
      rcases h with h | h
      · exact .inl ⟨x, y, e, h, k⟩
      · exact .inr ⟨x, y, e, h, k⟩
end
end D1
end L2
/-! == of alike dicts; == of desks; a desk of a world -/
namespace L2
namespace D1
open PySem PySem.Spec PyProof.Rows
theorem tree_up {prog : Program} {w : World} {s : Shared} {n : Nat} {v y : Value} {b : Bool} (t : PySem.W.EqTree prog w s n v y b) : PySem.W.EqTree prog w s (n + 1) v y b := by
  induction t with
  | leaf h => exact .leaf fun A hu => h A (by omega)
  | same => exact .same
  | lists h1 h2 h3 h4 _ ih => exact .lists h1 h2 h3 h4 ih
  | listsLen h1 h2 h3 h4 => exact .listsLen h1 h2 h3 h4
  | tuples h1 h2 h3 _ ih => exact .tuples h1 h2 h3 ih
  | dicts h1 h2 h3 h4 h5 _ ih => exact .dicts h1 h2 h3 h4 h5 ih
/-- the values of two dicts with the same keys, by their keys -/
theorem kv_tree {X : Cx} {s : Shared} {n : Nat} {R : V → V → Prop} {ks ls : List (Key × V)} {va vb : List (Key × Value)} (ra : KV ks va) (rb : KV ls vb) (nd : (ls.map (·.1)).Nodup) (e : ks.map (·.1) = ls.map (·.1))
    (h : Paired (fun p q => R p.2 q.2) ks ls) (f : ∀ x y u v, R x y → RelV x u → RelV y v → PySem.W.EqTree X.prog X.w s n u v true) : ∀ k v y, (k, v) ∈ va → valueAt vb k = some y → PySem.W.EqTree X.prog X.w s n v y true := by
  intro k v y hm hv
  obtain ⟨i, hi, e1⟩ := List.getElem_of_mem hm
  have hva : va[i]? = some (k, v) := by rw [List.getElem?_eq_getElem hi, e1]
  have lk : ks.length = va.length := paired_len ra
  have ll : ks.length = ls.length := paired_len h
  have h1 := List.getElem?_eq_getElem (l := ks) (i := i) (by omega)
  have h2 := List.getElem?_eq_getElem (l := ls) (i := i) (by omega)
  have a1 := paired_at (show Paired _ ks va from ra) h1 hva
  have a2 := paired_at h h1 h2
  have ek : (ks.map (·.1))[i]? = some ks[i].1 := by rw [List.getElem?_map, h1]; rfl
  rw [e, List.getElem?_map, h2] at ek
  have ek : ls[i].1 = ks[i].1 := Option.some.inj ek
  have ek2 : ls[i].1 = k := by rw [ek]; exact a1.1
  have v2 : valV ls k = some ls[i].2 := val_at nd (by rw [h2, ← ek2])
  have r := rb.val k
  rw [v2] at r
  obtain ⟨w', ew, rw'⟩ := RelO.some_of r
  rw [hv] at ew
  cases ew
  exact f _ _ _ _ a2 a1.2 rw'
theorem all_some {ls : List (Key × V)} {va vb : List (Key × Value)} (rb : KV ls vb) (h : ∀ p ∈ va, p.1 ∈ ls.map (·.1)) : (va.all fun p => (valueAt vb p.1).isSome && true) = true := by
  refine List.all_eq_true.mpr fun p hp => ?_
  rw [Bool.and_true, ← RelO.isSome_eq (rb.val p.1), ← valV_any]
  obtain ⟨q, hq, e⟩ := List.mem_map.mp (h p hp)
  exact List.any_eq_true.mpr ⟨q, hq, decide_eq_true e⟩
theorem eqx_tree {X : Cx} {pins : List (Addr × Obj)} {σ : L2.St} {s : Shared} : ∀ (n : Nat) {H : Hp} {x y : V} {u v : Value}, Inv X pins σ H s → EqX n H x y → RelV x u → RelV y v → PySem.W.EqTree X.prog X.w s n u v true
  | 0, H, x, y, u, v, I, h, ru, rv => by
    obtain ⟨lx, e⟩ := h
    subst e
    exact .leaf fun A _ => eqAt_same ru rv (by cases lx <;> rfl)
  | n + 1, H, x, y, u, v, I, h, ru, rv => by
    rcases h with h | ⟨a, b, xs, ys, rfl, rfl, h3, h4, h5, h6⟩ | ⟨a, b, xs, ys, rfl, rfl, h3, h4, h5, h6⟩ | ⟨h0, a, b, ks, ls, ss, rfl, rfl, h3, h4, h5, h6, h7, h8, h9⟩
    · exact tree_up (eqx_tree n I h ru rv)
    · cases ru; cases rv
      by_cases hab : a = b
      · subst hab; exact .same
      obtain ⟨its, r, pl, _⟩ := I.list (SqL.of h3)
      obtain ⟨its2, r2, pl2, _⟩ := I.list (SqL.of h4)
      have l1 := r.length
      have l2 := r2.length
      have l3 := paired_len h6
      have t := PySem.W.EqTree.lists (prog := X.prog) (w := X.w) (n := n) (e := fun _ => true) hab pl.isList pl2.isList (by simp only [List.size_toArray]; omega) fun j h1 h2 => by
        simp only [List.size_toArray] at h1 h2
        have e1 : xs[j]? = some xs[j] := List.getElem?_eq_getElem (by omega)
        have e2 : ys[j]? = some ys[j] := List.getElem?_eq_getElem (by omega)
        obtain ⟨u1, q1, p1⟩ := r.get e1
        obtain ⟨u2, q2, p2⟩ := r2.get e2
        have q1 : its.toArray[j] = u1 := by
          have : its[j]? = some its[j] := List.getElem?_eq_getElem h1
          rw [this] at q1; simpa using Option.some.inj q1
        have q2 : its2.toArray[j] = u2 := by
          have : its2[j]? = some its2[j] := List.getElem?_eq_getElem h2
          rw [this] at q2; simpa using Option.some.inj q2
        rw [q1, q2]
        exact eqx_tree n I (paired_at h6 e1 e2) p1 p2
      have e : (List.range its.toArray.size).all (fun _ => true) = true := by simp
      rwa [e] at t
    · cases ru; cases rv
      by_cases hab : a = b
      · subst hab; exact .same
      obtain ⟨its, r, pl, _⟩ := I.tuple (SqT.of h3)
      obtain ⟨its2, r2, pl2, _⟩ := I.tuple (SqT.of h4)
      have l1 := r.length
      have l2 := r2.length
      have l3 := paired_len h6
      have t := PySem.W.EqTree.tuples (prog := X.prog) (w := X.w) (n := n) (e := fun _ => true) hab pl pl2 fun j h1 h2 => by
        simp only [List.size_toArray] at h1 h2
        have e1 : xs[j]? = some xs[j] := List.getElem?_eq_getElem (by omega)
        have e2 : ys[j]? = some ys[j] := List.getElem?_eq_getElem (by omega)
        obtain ⟨u1, q1, p1⟩ := r.get e1
        obtain ⟨u2, q2, p2⟩ := r2.get e2
        have q1 : its.toArray[j] = u1 := by
          have : its[j]? = some its[j] := List.getElem?_eq_getElem h1
          rw [this] at q1; simpa using Option.some.inj q1
        have q2 : its2.toArray[j] = u2 := by
          have : its2[j]? = some its2[j] := List.getElem?_eq_getElem h2
          rw [this] at q2; simpa using Option.some.inj q2
        rw [q1, q2]
        exact eqx_tree n I (paired_at h6 e1 e2) p1 p2
      have e : ((List.range (min its.toArray.size its2.toArray.size)).all (fun _ => true) && its.toArray.size == its2.toArray.size) = true := by
        simp only [List.size_toArray]
        simp; omega
      rwa [e] at t
    · cases ru; cases rv
      by_cases hab : a = b
      · subst hab; exact .same
      obtain ⟨_, ya, va, ra, da⟩ := (show ObjOk X.prog X.w H s.heap a (.dK ks) from I.hok a _ h3)
      obtain ⟨_, yb, vb, rb, db⟩ := (show ObjOk X.prog X.w H s.heap b (.dK ls) from I.hok b _ h4)
      have ndl : (ls.map (·.1)).Nodup := by rw [h6]; exact inr_nd' h7
      have ekl : ks.map (·.1) = ls.map (·.1) := h5.trans h6.symm
      have t := PySem.W.EqTree.dicts (knd := mixKind X.prog X.w) (n := n) (e := fun _ => true) hab ya yb da db (kv_tree ra rb ndl ekl h9 fun x y u v z r1 r2 => eqx_tree n I (EqX.same n cut_le z) r1 r2)
      have l1 : va.length = vb.length := by rw [← paired_len ra, ← paired_len rb]; exact paired_len h9
      have e : (va.length == vb.length && va.all fun p => (valueAt vb p.1).isSome && true) = true := by
        rw [all_some rb, l1]
        · simp
        · intro p hp
          rw [← ekl, KV.keys ra]
          exact List.mem_map_of_mem hp
      rwa [e] at t
/-- == of two alike dicts -/
theorem op_eqDX {X : Cx} (n : Nat) (hu : X.A.units + (n + 1) < cLine) : OpR X (compareOp .Eq) (fun x y H Q => ∃ (a b : Addr) (ks ls : List (Key × V)) (ss : List Str), x = .ref a ∧ y = .ref b ∧ Rd H a (.dK ks) ∧ Rd H b (.dK ls) ∧ ks.map (·.1) = ss.map Sum.inr ∧ ls.map (·.1) = ss.map Sum.inr ∧ ss.Nodup ∧ Paired (fun p q => EqX n H p.2 q.2) ks ls ∧ Q (.bl true) H) := by
  intro pins s σ H x y v u Q I rx ry h
  obtain ⟨a, b, ks, ls, ss, rfl, rfl, h3, h4, h5, h6, h7, h9, q⟩ := h
  obtain rfl : v = Value.ref a := rx
  obtain rfl : u = Value.ref b := ry
  obtain ⟨_, ya, va, ra, da⟩ := dk_rd I.hok h3
  obtain ⟨_, yb, vb, rb, db⟩ := dk_rd I.hok h4
  have ndl : (ls.map (·.1)).Nodup := by rw [h6]; exact inr_nd' h7
  have ekl : ks.map (·.1) = ls.map (·.1) := h5.trans h6.symm
  have l1 : va.length = vb.length := by rw [← paired_len ra, ← paired_len rb]; exact paired_len h9
  have e : (va.length == vb.length && va.all fun p => (valueAt vb p.1).isSome && true) = true := by
    rw [all_some rb, l1]
    · simp
    · intro p hp
      rw [← ekl, KV.keys ra]
      exact List.mem_map_of_mem hp
  exact PySem.W.eq_dictsT (knd := mixKind X.prog X.w) (n := n) (e := fun _ => true) ya yb da db (kv_tree ra rb ndl ekl h9 fun x y u v z r1 r2 => eqx_tree n I z r1 r2) hu (fin_bl I q e.symm)
abbrev CExact (P : Program) (w : World) (K : PySem.W.Frag) (mg : Str → Option Value) (base : Heap) (n : Nat) := Cal P w K mg base "_law_exact" (n + 1) ["_law_mine", "_law_theirs"] (spExact n)
theorem eqx_rows {H : Hp} : ∀ {ks ls : List (Key × V)} {bk : Bk}, Rows H ks bk → Rows H ls bk → (∀ r ∈ bk, (r.2.2.map (·.1)).Nodup ∧ r.2.2.length ≤ 10000) → Paired (fun p q => EqX 3 H p.2 q.2) ks ls
  | _, _, _, .nil, .nil, _ => .nil
  | _, _, _, .cons (b := r) h1 t1, .cons h2 t2, hb => by
    refine .cons ?_ (eqx_rows t1 t2 fun r hr => hb r (List.mem_cons_of_mem _ hr))
    obtain ⟨_, t, a, e1, g1, g2⟩ := h1
    obtain ⟨_, t', a', e1', g1', g2'⟩ := h2
    rw [e1, e1']
    obtain ⟨nd, ll⟩ := hb r List.mem_cons_self
    refine .inr (.inr (.inl ⟨t, t', _, _, rfl, rfl, g1, g1', by show 2 ≤ 10000; decide, .cons (eqx_str _) (.cons ?_ .nil)⟩))
    have ek : (kT r.2.2).map (·.1) = (r.2.2.map (·.1)).map Sum.inr := by rw [kT, List.map_map, List.map_map]; rfl
    refine .inr (.inr (.inr ⟨Nat.le_refl _, a, a', kT r.2.2, kT r.2.2, r.2.2.map (·.1), rfl, rfl, g2, g2', ek, ek, nd, by rw [List.length_map]; exact ll, ?_⟩))
    have : ∀ l : List (Str × Str), Paired (fun (p q : Key × V) => EqX 1 (cut [a] H) p.2 q.2) (kT l) (kT l) := fun l => by
      induction l with
      | nil => exact .nil
      | cons p l ih => exact .cons (eqx_str p.2) ih
    exact this _
theorem rows_cut {H : Hp} {a : Addr} {ks : List (Key × V)} {bk : Bk} (h1 : H a = some (.dK ks)) (r1 : Rows H ks bk) (ne : bk ≠ []) : ∀ {kv2 : List (Key × V)} {bk2 : Bk}, Rows H kv2 bk2 → Rows (cut [a] H) kv2 bk2 := fun {kv2 bk2} h2 => by
  unfold Rows at h2 ⊢
  induction h2 with
  | nil => exact .nil
  | cons g _ ih =>
    obtain ⟨e, t, a', ev, ht, ha⟩ := g
    have n1 : t ≠ a := fun z => by rw [z, h1] at ht; cases ht
    have n2 : a' ≠ a := book_ne h1 r1 ne ha
    exact .cons ⟨e, t, a', ev, by rw [cut_out (by simpa using n1)]; exact ht, by rw [TurnsAt, cut_out (by simpa using n2)]; exact ha⟩ ih
/-- two books that read alike -/
theorem eqx_book {H : Hp} {a b : Addr} {bk : Bk} (ha : BookAt H a bk) (hb : BookAt H b bk) (ok : BOk bk) (ne : bk ≠ []) : EqX 4 H (.ref a) (.ref b) := by
  obtain ⟨ks, h1, r1⟩ := ha
  obtain ⟨ls, h2, r2⟩ := hb
  have e1 : ks.map (·.1) = (bk.map (·.1)).map Sum.inr := by rw [r1.keys, List.map_map]; rfl
  have e2 : ls.map (·.1) = (bk.map (·.1)).map Sum.inr := by rw [r2.keys, List.map_map]; rfl
  have hrs : ∀ r ∈ bk, (r.2.2.map (·.1)).Nodup ∧ r.2.2.length ≤ 10000 := fun r hr => ⟨(ok.rs r hr).1, by have := (ok.rs r hr).2; omega⟩
  refine .inr (.inr (.inr ⟨by decide, a, b, ks, ls, bk.map (·.1), rfl, rfl, h1, h2, e1, e2, ok.nd, by rw [List.length_map]; have := ok.len; omega, ?_⟩))
  exact eqx_rows (rows_cut h1 r1 ne r1) (rows_cut h1 r1 ne r2) hrs
section
variable {P : Program} {w : World} {K : PySem.W.Frag} {mg : Str → Option Value} {base : Heap} {C : Addr}
/-- two desks that read alike -/
def REq (C : Addr) : Addr → Addr → Hp → Prop := fun q r H => ∃ bk st, DeskAt C H q bk st ∧ DeskAt C H r bk st ∧ DOk bk st
theorem scDe : FnScope ["self", "other"] ["self", "other"] (defScope sDEq) := ⟨rfl, rfl, rfl, by decide +kernel, rfl, by decide +kernel, by decide +kernel⟩
theorem pair_app {α β : Type} {R : α → β → Prop} {xs : List α} {ys : List β} {x : α} {y : β} (h : Paired R xs ys) (e : R x y) : Paired R (xs ++ [x]) (ys ++ [y]) := by
  induction h with
  | nil => exact .cons e .nil
  | cons a _ ih => exact .cons a ih
theorem unl_at {H : Hp} {b p : Addr} {u o : HO} {od : Obj} {xs : List V} (h : H b = some (.frz od u)) (e : H p = some (.tup xs)) : (L2.upd H b o) p = some (.tup xs) := by
  rw [upd_ne fun z => by rw [z, h] at e; cases e]; exact e
theorem merge_id2 {kvs : List (Key × V)} (nd : (kvs.map (·.1)).Nodup) : mergeK [] kvs = kvs := by
  have h : ∀ (more acc : List (Key × V)), (∀ p ∈ more, p.1 ∉ acc.map (·.1)) → (more.map (·.1)).Nodup → mergeK acc more = acc ++ more := by
    intro more
    induction more with
    | nil => intro acc _ _; exact (List.append_nil _).symm
    | cons p r ih =>
      intro acc h nd
      have nd' := List.nodup_cons.mp nd
      show mergeK (putK acc p.1 p.2) r = _
      rw [D1.putK_new (h p List.mem_cons_self), ih _ ?_ nd'.2, List.append_assoc]
      · rfl
      · intro q hq z
        rw [List.map_append] at z
        rcases List.mem_append.mp z with z | z
        · exact h q (List.mem_cons_of_mem _ hq) z
        · have : q.1 = p.1 := List.mem_singleton.mp z
          exact nd'.1 (by show p.1 ∈ _; rw [← this]; exact List.mem_map_of_mem hq)
  rw [h kvs [] (by simp) nd]; rfl
theorem rows_unl {H : Hp} {b : Addr} {u o : HO} {od : Obj} {kvs : List (Key × V)} {bk : Bk} (hb : H b = some (.frz od u)) (h : Rows H kvs bk) : Rows (L2.upd H b o) kvs bk := by
  unfold Rows at h ⊢
  induction h with
  | nil => exact .nil
  | cons h1 _ ih =>
    obtain ⟨e, t, a, ev, ht, ha⟩ := h1
    refine .cons ⟨e, t, a, ev, ?_, ?_⟩ ih
    · rw [upd_ne fun z => by rw [z, hb] at ht; cases ht]; exact ht
    · rw [TurnsAt, upd_ne fun z => by rw [TurnsAt, z, hb] at ha; cases ha]; exact ha
/-- the law's desk of a world -/
abbrev sLDesk : Stmt := top 39
def spLDesk (C : Addr) : Sp := fun vs H Q _ => ∃ (W : Addr) (bk : Bk) (st : Str), vs = [.ref W] ∧ WorldAt H W bk st ∧ DOk bk st ∧ ∀ H' q, Same H H' → H q = none → DeskAt C H' q bk st → Q (.ref q) H'
abbrev CMInit (P : Program) (w : World) (K : PySem.W.Frag) (mg : Str → Option Value) (base : Heap) (C : Addr) : Prop := ∃ f fd, Mk K C f ∧ FnOk P w K mg base CX0 4 f fd ["self", "book", "start"] (spDInit C) ∧ Binds K fd ["self", "book", "start"] []
theorem scLd : FnScope ["_law_world_here", "_law_state"] ["_law_world_here"] (defScope sLDesk) := ⟨rfl, rfl, rfl, by decide +kernel, rfl, by decide +kernel, by decide +kernel⟩
theorem ok_ldesk {f : Addr} {fd : FuncData} (F : Fun K "_law_desk" "_law_desk" sLDesk f fd) (T : Free3 mg) (D : DTxt K mg C) (MI : CMInit P w K mg base C) : FnOk P w K mg base CX0 6 f fd ["_law_world_here"] (spLDesk C) := by
  obtain ⟨fI, fdI, mI, FI, bI⟩ := MI
  refine F.ok scLd (fun vs H Q E h => ?_) (fun cdv A outer s H vs Q E hr h => ?_)
  · obtain ⟨W, bk, st, rfl, _⟩ := h; rfl
  · obtain ⟨W, bk, st, rfl, ⟨b, hW, ⟨kvs, hb, hR⟩⟩, ok, k⟩ := h
    have hu := hu_of hr
    refine ⟨_, pss_one (ps_ret (pe_make mI FI (hr.mono (by decide)) rfl D.mgC bI .nil pass0 (pa_cons (pe_callTy (call_dictP rfl) (by rfl) T.dict (by decide +kernel) (pa_cons (pe_lock (pe_lc (own := [("_law_state", 1)]) (g := gName 1) (tt := tYes)
        (te := tTup (tCons (tVar 1) (tCons (tTup (tCons (tOp (rIxT K) (tDGet (tOp (rIxL K) (tVar 0) (tC (.int 0))) (tVar 1)) (tC (.int 0))) (tCons (tCB (fun xs H Q => ∃ (a : Addr) (kvs : List (Key × V)), xs = [.ref a] ∧ Rd H a (.dK kvs) ∧ ∀ p, H p = none → Q (.ref p) (L2.upd H p (.dK kvs))) (tCons (tOp (rIxT K) (tDGet (tOp (rIxL K) (tVar 0) (tC (.int 0))) (tVar 1)) (tC (.int 1))) tNil)) tNil))) tNil)))
        rfl scLd.nd (pi_keys (pe_ix ix_list (pv 0) pe_int (fun _ _ => rfl)))
        (blkOk_by (N := ["_law_world_here", "_law_state"]) (sc := defScope sLDesk) (by decide +kernel)) (fun _ _ _ _ _ => pg_name (i := 1) scLd.nd rfl (Or.inl rfl)) (fun _ _ _ _ _ => pts_nil)
        (fun _ _ _ _ _ => pe_tup (pa_cons (pv 1) (pa_cons (pe_tup (pa_cons (pe_ix ix_tup (pe_dget hu (pe_ix ix_list (pv 0) pe_int (fun _ _ => rfl)) (pv 1) (fun _ _ => rfl)) pe_int (fun _ _ => rfl)) (pa_cons (pe_callTy call_dictD (by rfl) T.dict (by decide +kernel) (pa_cons (pe_ix ix_tup (pe_dget hu (pe_ix ix_list (pv 0) pe_int (fun _ _ => rfl)) (pv 1) (fun _ _ => rfl)) pe_int (fun _ _ => rfl)) pa_nil)) pa_nil))) pa_nil))))) pa_nil))
        (pa_cons (pe_ix ix_list (pv 0) pe_int (fun _ _ => rfl)) pa_nil)))), ?_⟩
    have a0 : ∀ {H' : Hp}, Same H H' → ∃ xs, xs = ([.ref b, .str st] : List V) ∧ H' W = some (.lst xs) := fun s => ⟨_, rfl, s _ _ hW⟩
    refine ⟨b, _, hb, trivial, fun od => ?_⟩
    have nWb : W ≠ b := fun e => by rw [e, hb] at hW; cases hW
    have hWL : (L2.upd H b (.frz od (.dK kvs))) W = some (.lst [.ref b, .str st]) := by rw [upd_ne nWb]; exact hW
    have hRL := hR.lock (o := .frz od (.dK kvs)) hb ok.ne
    refine ⟨_, rfl, W, _, _, _, rfl, rfl, SqL.of hWL, atI_nat (j := 0) rfl, b, od, rfl, .inl ⟨kvs, upd_same, fun M hM => ?_⟩⟩
    have nM : b ≠ M := fun e => by rw [← e, upd_same] at hM; cases hM
    have lb := ok.len
    refine lc_it (walk_keys (d := b) (o := od) (kvs := kvs)) (fun i H' => Same (L2.upd H b (.frz od (.dK kvs))) H' ∧ ∃ (ps : List Addr) (kv2 : List (Key × V)), H' M = some (.lst (ps.map V.ref)) ∧ Paired (fun p (kv : Key × V) => (cut [M] H') p = some (.tup [kV kv.1, kv.2])) ps kv2 ∧ Rows (cut [M] H') kv2 (bk.take i)) ⟨Same.new hM, [], [], upd_same, .nil, .nil⟩ (fun i H' _ z => z.1 _ _ upd_same) ?_ ?_
    · rintro i x H2 H3 hi ⟨sm, ps, kv2, hM2, hp, hR2⟩ ⟨rfl, kk, v0, hkv, rfl⟩
      obtain ⟨r, hr', rfl, _⟩ := hR.at hkv
      have hrm : r ∈ bk := List.mem_of_getElem? hr'
      have hs : r.1 ∈ bk.map (·.1) := List.mem_map_of_mem hrm
      obtain ⟨v, ev, ⟨t, a, rfl, ht, ha⟩, _⟩ := (hRL.same sm).look hs
      rw [rowOf_self ok.nd hrm] at ht ha
      have hW3 := SqL.of (K := K) (sm _ _ hWL)
      have hil : i < bk.length := (List.getElem?_eq_some_iff.mp hr').1
      have dg : ∀ {H4 : Hp}, Same H3 H4 → DGet H4 b (V.str r.1) (some (.ref t)) := fun s => .inl ⟨kvs, .inr r.1, .inr ⟨od, s _ _ (sm _ _ upd_same)⟩, rfl, ev.symm⟩
      refine ⟨rfl, ?_⟩
      dsimp only [tYes]
      rw [if_pos rfl]
      refine ⟨_, rfl, _, rfl, W, _, _, _, rfl, rfl, hW3, atI_nat (j := 0) rfl, _, rfl, b, _, rfl, dg (Same.refl _), t, _, _, _, rfl, rfl, SqT.of ht, atI_nat (j := 0) rfl, ?_⟩
      refine ⟨_, rfl, W, _, _, _, rfl, rfl, hW3, atI_nat (j := 0) rfl, _, rfl, b, _, rfl, dg (Same.refl _), t, _, _, _, rfl, rfl, SqT.of ht, atI_nat (j := 1) rfl, a, kT r.2.2, rfl, .inl ha, fun E1 hE1 => ?_⟩
      refine ⟨by show 2 ≤ sizeLine; decide, fun T1 hT1 => ⟨by show 2 ≤ sizeLine; decide, fun T2 hT2 => ?_⟩⟩
      have g1 := Same.new (o := .dK (kT r.2.2)) hE1
      have g2 := Same.new (o := .tup [.str r.2.1, .ref E1]) hT1
      have g3 := Same.new (o := .tup [.str r.1, .ref T1]) hT2
      have g := Same.trans (Same.trans g1 g2) g3
      have nE : E1 ≠ M := fun e => by rw [e, hM2] at hE1; cases hE1
      have nT : T1 ≠ M := fun e => by rw [e, g1 _ _ hM2] at hT1; cases hT1
      have nT2 : T2 ≠ M := fun e => by rw [e, g2 _ _ (g1 _ _ hM2)] at hT2; cases hT2
      have lps : ps.length = kv2.length := paired_len hp
      have lkv : kv2.length = i := by rw [hR2.len, List.length_take]; omega
      refine ⟨_, g _ _ hM2, by rw [List.length_map, lps, lkv, sizeLine_eq]; omega, fun c u e => ?_, ps ++ [T2], kv2 ++ [(.inr r.1, .ref T1)], by rw [upd_same, List.map_append]; rfl, ?_, ?_⟩
      · rw [upd_ne (ne_of_none e hM)]; exact g _ _ (sm _ _ e)
      · rw [cut_upd (by simp)]
        have hp' := paired_imp (R' := fun p (kv : Key × V) => (cut [M] (L2.upd (L2.upd (L2.upd H3 E1 (.dK (kT r.2.2))) T1 (.tup [.str r.2.1, .ref E1])) T2 (.tup [.str r.1, .ref T1]))) p = some (.tup [kV kv.1, kv.2])) (fun p kv e => cut_same g _ _ e) hp
        exact pair_app hp' (by rw [cut_out (by simpa using nT2)]; exact upd_same)
      · rw [cut_upd (by simp), take_succ_get hr']
        refine (hR2.same (cut_same g)).app ⟨T1, E1, rfl, ?_, ?_⟩
        · rw [cut_out (by simpa using nT)]; exact g3 _ _ upd_same
        · rw [TurnsAt, cut_out (by simpa using nE)]; exact g3 _ _ (g2 _ _ upd_same)
    · rintro H2 ⟨sm, ps, kv2, hM2, hp, hR2⟩
      have hl : kvs.length = bk.length := hR.len
      rw [hl, List.take_length] at hR2
      have su := Same.unlock hb sm
      have hp3 : Paired (fun p (kv : Key × V) => SqT K (L2.upd H2 b (.dK kvs)) p [kV kv.1, kv.2]) ps kv2 := paired_imp (fun p kv e => SqT.of (unl_at (sm _ _ upd_same) (cut_le _ _ e))) hp
      refine ⟨sm _ _ upd_same, M, ps, kv2, rfl, SqL.of (by rw [upd_ne nM.symm]; exact hM2), hp3, fun B hB => ?_⟩
      have e1 : kv2.map (·.1) = (bk.map (·.1)).map Sum.inr := by rw [hR2.keys, List.map_map]; rfl
      rw [merge_id2 (by rw [e1]; exact inr_nd' ok.nd)]
      have hR3 : Rows (L2.upd H2 b (.dK kvs)) kv2 bk := rows_unl (sm _ _ upd_same) (hR2.same cut_le)
      have s3 := Same.new (o := .dK kv2) hB
      refine ⟨_, rfl, W, _, _, _, rfl, rfl, SqL.of (s3 _ _ (su _ _ hW)), atI_nat (j := 1) rfl, fun q dx hq hdx ndx => ?_⟩
      have s4 : Same H (L2.upd (L2.upd (L2.upd (L2.upd H2 b (.dK kvs)) B (.dK kv2)) dx (.own q)) q (.ins C dx [])) := fun c u e => by
        have e3 := s3 _ _ (su _ _ e)
        rw [upd_ne (ne_of_none e3 hq), upd_ne (ne_of_none e3 hdx)]; exact e3
      have hq0 : H q = none := (Same.trans su s3).free hq
      refine ⟨q, dx, B, bk, st, rfl, upd_same, ⟨kv2, ?_, ?_⟩, ok, fun H5 b5 hd _ => ⟨rfl, k H5 q (fun c u e => ?_) hq0 hd⟩⟩
      · have z := upd_same (H := L2.upd H2 b (.dK kvs)) (a := B) (o := .dK kv2)
        rw [upd_ne (ne_of_none z hq), upd_ne (ne_of_none z hdx)]; exact z
      · refine (hR3.same s3).same fun c u e => ?_
        rw [upd_ne (ne_of_none e hq), upd_ne (ne_of_none e hdx)]; exact e
      · exact b5 _ _ (ne_of_none e hq0) (s4 _ _ e)
end
end D1
end L2
/-! == and != of desks, also of such as start elsewhere -/
namespace L2
namespace D2
open PySem PySem.Spec PyProof.Rows D1
/-- an own == that tells r -/
def spEqB (R : Addr → Addr → Bool → Hp → Prop) : Sp := fun vs H Q _ => ∃ a b r, vs = [.ref a, .ref b] ∧ R a b r H ∧ Q (.bl r) H
/-- every object of the class has this ==, and no own != -/
structure NeF (K : PySem.W.Frag) (C f : Addr) : Prop where
  ne : ∀ (h : Heap) (x : Addr) (o : Obj), K.In h → h.get? x = some o → o.cls = .ref C → h.OwnEqNoNe x C f "object" [.type "object"]
def rEqB (C : Addr) (R : Addr → Addr → Bool → Hp → Prop) (w : Bool → Bool) : R2 := fun x y H Q => ∃ a b dx dy fs gs r, x = .ref a ∧ y = .ref b ∧ H a = some (.ins C dx fs) ∧ H b = some (.ins C dy gs) ∧ R a b r H ∧ Q (.bl (w r)) H
section
variable {X : Cx} {n : Nat}
theorem call_eqB {CX : CXT} {f : Addr} {fd : FuncData} {ps : List PySem.Str} {R : Addr → Addr → Bool → Hp → Prop} {E : XK} (F : FnOk X.prog X.w X.K X.mg X.base CX n f fd ps (spEqB R)) (hb : Binds X.K fd ps []) (hx : Passes CX X E)
    {A : Around} (rm : Room n A) (fr : A.frames = X.A.frames) {pins : List (Addr × Obj)} {σ : L2.St} {H : Hp} {s : Shared} (I : Inv X pins σ H s) {a b : Addr} {r : Bool} (hr : R a b r H) :
    wpAny (model X.prog X.w) A (call (.ref f) [.ref a, .ref b]) (fun v s' => v = .bool r ∧ Inv X pins σ H s') X.xe s := by
  have hsp : spEqB R [.ref a, .ref b] H (fun v H' => v = .bl r ∧ H' = H) E := ⟨a, b, r, rfl, hr, rfl, rfl⟩
  have e0 : Env0 X.prog X.w X.K X.mg X.base A X.stack s H := by
    have e := I.env0
    exact ⟨by rw [fr]; exact e.frames, e.mod, e.bs, e.bsz, e.funs, e.frf, e.hok, e.bare⟩
  have hl := F.len _ _ _ _ hsp
  have bn := hb s [.ref a, .ref b] I.kIn (by simpa using hl)
  refine wpAny_call (codeAny_mono (F.run A X.stack s H ⟨[.ref a, .ref b], []⟩ [.ref a, .ref b] [.ref a, .ref b] _ E rm e0 (by simpa using bn) (.cons rfl (.cons rfl .nil)) hsp) fun r' s' hq => ?_)
  match r' with
  | .error e => exact hx pins σ H s e s' I hq
  | .ok (.ret w) =>
    obtain ⟨z, H', I', rz, ez, ex⟩ := I.after hq
    subst ez ex
    cases rz
    exact ⟨rfl, I'⟩
  | .ok .next => exact False.elim hq
  | .ok .brk => exact False.elim hq
  | .ok .cont => exact False.elim hq
theorem op_eqB {CX : CXT} {C f : Addr} {fd : FuncData} {ps : List PySem.Str} {R : Addr → Addr → Bool → Hp → Prop} {E : XK} (F : FnOk X.prog X.w X.K X.mg X.base CX n f fd ps (spEqB R)) (hb : Binds X.K fd ps []) (hx : Passes CX X E)
    (hs : PySem.W.findIn X.K (.ref C) "__eq__" = some (some (.ref f))) (hf : PySem.W.isFn X.K (.ref f) = true) (rm : Room n X.A) : OpR X (compareOp .Eq) (rEqB C R id) := by
  intro pins s σ H x y v u Q I rx ry hq
  obtain ⟨a, b, dx, dy, fs, gs, r, rfl, rfl, ha, hb', hr, q⟩ := hq
  obtain rfl : v = Value.ref a := rx
  obtain rfl : u = Value.ref b := ry
  obtain ⟨mA, J, _⟩ := ins_get I.hok ha
  obtain ⟨mB, J', _⟩ := ins_get I.hok hb'
  obtain ⟨od, J, _⟩ := J.look
  obtain ⟨od', J', _⟩ := J'.look
  obtain ⟨m, hF⟩ := I.fr
  show wpAny (model X.prog X.w) X.A (richCompare .Eq (.ref a) (.ref b)) (EP X pins σ Q) X.xe s
  refine PySem.W.cmp_K (op := .Eq) (tb := .ref C) rm.units0 hF I.ok.mod.kin J J'.type (by simp [PySem.W.notFirst]) hs hf (wpAny_mono (call_eqB F hb hx rm rfl I hr) (fun v' s' hv => ?_) fun _ _ z => z)
  obtain ⟨rfl, I'⟩ := hv
  exact ⟨.bl r, H, I', rfl, q⟩
theorem op_neB {CX : CXT} {C f : Addr} {fd : FuncData} {ps : List PySem.Str} {R : Addr → Addr → Bool → Hp → Prop} {E : XK} (F : FnOk X.prog X.w X.K X.mg X.base CX n f fd ps (spEqB R)) (hb : Binds X.K fd ps []) (hx : Passes CX X E)
    (N : NeF X.K C f) (rm : Room (n + 1) X.A) : OpR X (compareOp .NotEq) (rEqB C R not) := by
  intro pins s σ H x y v u Q I rx ry hq
  obtain ⟨a, b, dx, dy, fs, gs, r, rfl, rfl, ha, hb', hr, q⟩ := hq
  obtain rfl : v = Value.ref a := rx
  obtain rfl : u = Value.ref b := ry
  obtain ⟨_, _, _, e1, _⟩ := (show ObjOk X.prog X.w H s.heap a (.ins C dx fs) from I.hok a _ ha)
  obtain ⟨_, _, _, e2, _⟩ := (show ObjOk X.prog X.w H s.heap b (.ins C dy gs) from I.hok b _ hb')
  have own := N.ne s.heap a _ I.kIn e1 rfl
  refine compareOp_ne_ownEq PySem.F.cmp_object own e2 rfl ?_ (wpAny_mono (call_eqB (s := s) F hb hx rm.in1 rfl I hr) (fun v' s' hv => ?_) fun _ _ z => z)
  · exact Nat.lt_of_le_of_lt (Nat.add_le_add_left (by decide : 1 ≤ 64) _) rm.units
  · obtain ⟨rfl, I'⟩ := hv
    exact ⟨r, rfl, .bl (!r), H, I', rfl, q⟩
end
end D2
end L2
/-! Desk.__eq__ of desks with the same book -/
namespace L2
namespace D2
open PySem PySem.Spec PyProof.Rows D1
/-- two desks of one book; r: whether they start alike -/
def RD (C : Addr) : Addr → Addr → Bool → Hp → Prop := fun q p r H => ∃ bk bk' st st', DeskAt C H q bk st ∧ DeskAt C H p bk' st' ∧ ordB bk = ordB bk' ∧ DOk bk st ∧ r = decide (st = st')
theorem RD.same {C q p : Addr} {r : Bool} {H H' : Hp} (h : RD C q p r H) (s : Same H H') : RD C q p r H' := by
  obtain ⟨bk, bk', st, st', h1, h2, h3, h4, h5⟩ := h
  exact ⟨bk, bk', st, st', h1.same s, h2.same s, h3, h4, h5⟩
section
variable {P : Program} {w : World} {K : PySem.W.Frag} {mg : Str → Option Value} {base : Heap} {C : Addr}
theorem ok_deqB {f : Addr} {fd : FuncData} (F : Fun K "__eq__" "Desk.__eq__" sDEq f fd) (T : Free3 mg) (D : DTxt K mg C) (c : C8.InsC K C) : FnOk P w K mg base CX0 1 f fd ["self", "other"] (spEqB (RD C)) := by
  refine F.ok scDe (fun vs H Q E h => ?_) (fun cdv A outer s H vs Q E hr h => ?_)
  · obtain ⟨a, b, r, rfl, _⟩ := h; rfl
  · obtain ⟨q, p, r0, rfl, ⟨bk, bk', st, st', ⟨dx, b, hq, hb⟩, ⟨dy, b', hr2, hb'⟩, eo, ok, rfl⟩, k⟩ := h
    rw [← eo] at hb'
    refine ⟨_, pss_one (ps_ret (pe_and (pe_callB (C8.call_isC c) (by rfl) T.isi (by decide +kernel) (pa_cons (pv 1) (pa_cons (pe_glob (v := .ref C) rfl D.mgC rfl) pa_nil))) (pe_and (pe_cmpR (op_eqDX 3 (Nat.lt_of_le_of_lt (Nat.add_le_add_left (by decide : 4 ≤ 64) _) hr.units)) (pe_fld (pv 0) rfl) (pe_fld (pv 1) rfl) (nomark _)) (pe_one (pe_cmpR op_eq (pe_fld (pv 0) rfl) (pe_fld (pv 1) rfl) (nomark _)))))), ?_⟩
    have ob := ok.obok
    obtain ⟨ks, h1, r1⟩ := hb
    obtain ⟨ls, h2, r2⟩ := hb'
    have e1 : ks.map (·.1) = ((ordB bk).map (·.1)).map Sum.inr := by rw [r1.keys, List.map_map]; rfl
    have e2 : ls.map (·.1) = ((ordB bk).map (·.1)).map Sum.inr := by rw [r2.keys, List.map_map]; rfl
    have hrs : ∀ r ∈ ordB bk, (r.2.2.map (·.1)).Nodup ∧ r.2.2.length ≤ 10000 := fun r hr => ⟨(ob.rs r hr).1, by have := (ob.rs r hr).2; omega⟩
    refine ⟨_, rfl, p, dy, _, rfl, hr2, true, rfl, iteT ?_⟩
    refine ⟨_, rfl, q, C, dx, _, _, rfl, hq, D.cl, D.nB, dflds_book _ _, _, rfl, p, C, dy, _, _, rfl, hr2, D.cl, D.nB, dflds_book _ _, ?_⟩
    refine ⟨b, b', ks, ls, _, rfl, rfl, h1, h2, e1, e2, ob.nd, eqx_rows r1 r2 hrs, true, rfl, iteT ?_⟩
    refine ⟨_, rfl, q, C, dx, _, _, rfl, hq, D.cl, D.nS, dflds_start _ _, _, rfl, p, C, dy, _, _, rfl, hr2, D.cl, D.nS, dflds_start _ _, rfl, ?_⟩
    have ed : decide (V.str st = V.str st') = decide (st = st') := by
      by_cases h : st = st'
      · rw [h, decide_eq_true rfl, decide_eq_true rfl]
      · rw [decide_eq_false h, decide_eq_false fun z => h (V.str.inj z)]
    rw [ed]
    exact k
/-- the desk's ==, wherever it is used -/
structure EqD (P : Program) (w : World) (K : PySem.W.Frag) (mg : Str → Option Value) (base : Heap) (C : Addr) : Prop where
  ex : ∃ f fd ps, FnOk P w K mg base CX0 1 f fd ps (spEqB (RD C)) ∧ Binds K fd ps [] ∧ PySem.W.findIn K (.ref C) "__eq__" = some (some (.ref f)) ∧ PySem.W.isFn K (.ref f) = true ∧ NeF K C f
end
section
variable {X : Cx} {C : Addr}
theorem eqD (e : EqD X.prog X.w X.K X.mg X.base C) (rm : Room 1 X.A) : OpR X (compareOp .Eq) (rEqB C (RD C) id) := by
  obtain ⟨f, fd, ps, F, b, hs, hf, _⟩ := e.ex
  exact op_eqB F b pass0 hs hf rm
theorem neD (e : EqD X.prog X.w X.K X.mg X.base C) (rm : Room 2 X.A) : OpR X (compareOp .NotEq) (rEqB C (RD C) not) := by
  obtain ⟨f, fd, ps, F, b, _, _, N⟩ := e.ex
  exact op_neB F b pass0 N rm
/-- the fields of two desks -/
theorem rEqB_of {C q p : Addr} {r : Bool} {H : Hp} {w : Bool → Bool} {Q : VK} (h : RD C q p r H) (k : Q (.bl (w r)) H) : rEqB C (RD C) w (.ref q) (.ref p) H Q := by
  obtain ⟨bk, bk', st, st', ⟨dx, b, h1, _⟩, ⟨dy, b', h2, _⟩, _⟩ := id h
  exact ⟨q, p, dx, dy, _, _, r, rfl, rfl, h1, h2, h, k⟩
end
end D2
end L2
/-! small facts -/
namespace L2
namespace D1
open PySem PySem.Spec PyProof.Rows D2
theorem goalT_at {ts : List (Str × Str)} (nd : (ts.map (·.1)).Nodup) {t : Str × Str} (h : t ∈ ts) : goalT ts t.1 = t.2 := by
  obtain ⟨u, e, e1, hu⟩ := find_some (List.mem_map_of_mem (f := (·.1)) h)
  rw [goalT, e]
  show u.2 = t.2
  obtain ⟨i, hi, ei⟩ := List.getElem_of_mem hu
  obtain ⟨j, hj, ej⟩ := List.getElem_of_mem h
  have a1 : (ts.map (·.1))[i]? = some t.1 := by rw [List.getElem?_map, List.getElem?_eq_getElem hi, ei, ← e1]; rfl
  have a2 : (ts.map (·.1))[j]? = some t.1 := by rw [List.getElem?_map, List.getElem?_eq_getElem hj, ej]; rfl
  have := (List.getElem?_inj (by rw [List.length_map]; omega) nd).mp (a1.trans a2.symm)
  subst this
  rw [← ei, ej]
theorem mem_ordT {ts : List (Str × Str)} (nd : (ts.map (·.1)).Nodup) {t : Str × Str} : t ∈ ordT ts ↔ t ∈ ts := by
  constructor
  · intro h
    obtain ⟨k, hk, rfl⟩ := List.mem_map.mp h
    obtain ⟨u, hu, e⟩ := List.mem_map.mp ((srt_perm _).mem_iff.mp hk)
    rw [← e, goalT_at nd hu]; exact hu
  · intro h
    refine List.mem_map.mpr ⟨t.1, (srt_perm _).mem_iff.mpr (List.mem_map_of_mem h), ?_⟩
    rw [goalT_at nd h]
theorem nd_take {ys : List Str} (nd : ys.Nodup) {i : Nat} {z : Str} (h : ys[i]? = some z) : z ∉ ys.take i := fun hm => by
  obtain ⟨m, hm1, hm2⟩ := List.mem_take_iff_getElem.mp hm
  have h1 : ys[m]? = some z := by rw [List.getElem?_eq_getElem (by omega), hm2]
  have := (List.getElem?_inj (by omega) nd).mp (h1.trans h.symm)
  omega
theorem kT_app (a b : List (Str × Str)) : kT (a ++ b) = kT a ++ kT b := List.map_append
/-- Desk(book, start) -/
theorem make_ok {C : Addr} {H2 : Hp} {B : Addr} {bk : Bk} {st : Str} {Q : VK} {E : XK} (hB : BookAt H2 B bk) (ok : DOk bk st) (k : ∀ H' q, Same H2 H' → H2 q = none → DeskAt C H' q bk st → DeskN C H2 H' q bk st → Q (.ref q) H') (q dx : Addr) (hq : H2 q = none) (hdx : H2 dx = none) :
    spDInit C [.ref q, .ref B, .str st] (L2.upd (L2.upd H2 dx (.own q)) q (.ins C dx [])) (fun v H' => v = .non ∧ Q (.ref q) H') E := by
  have s4 : Same H2 (L2.upd (L2.upd H2 dx (.own q)) q (.ins C dx [])) := fun c u e => by
    rw [upd_ne (ne_of_none e hq), upd_ne (ne_of_none e hdx)]; exact e
  refine ⟨q, dx, B, bk, st, rfl, upd_same, hB.same s4, ok, fun H5 b5 hd ⟨dy, c, e1, h1⟩ => ⟨rfl, k H5 q (fun c u e => ?_) hq hd ⟨dy, c, e1, h1.same (new_mono s4)⟩⟩⟩
  exact b5 _ _ (ne_of_none e hq) (s4 _ _ e)
end D1
end L2
/-! sets of texts that can be walked -/
namespace L2
namespace X3
open PySem PySem.Spec PyProof.Rows PySem.Froz
section
variable {P : Program} {w : World} {h h' : Heap} {a : Addr} {l : List Str}
/-- the set at a: l its members, in some order; its table rises and can be walked -/
def SetT (P : Program) (w : World) (h : Heap) (a : Addr) (l : List Str) : Prop :=
  ∃ D : SD, h.get? a = some (sObj "set" D) ∧ TxOk P w D l ∧ l.Nodup ∧ l.length < scanBound ∧ Ris D.2.2.place.toList ∧ (w.params.followText "set-order" = true ∨ D.2.2.led = true)
theorem SetT.at (R : SetT P w h a l) (k : ∀ o, h.get? a = some o → h'.get? a = some o) : SetT P w h' a l := by
  obtain ⟨D, e, r⟩ := R
  exact ⟨D, k _ e, r⟩
theorem setT_fresh : SetT P w (h.push { cls := .type "set", dict := none, data := .set #[] 0 (.fresh 0 0 (!w.params.followText "set-order")) }) h.objs.size [] := by
  refine ⟨(#[], 0, .fresh 0 0 (!w.params.followText "set-order")), Heap.get?_push_size _ rfl, TxOk.nil (by rfl), List.nodup_nil, by decide, List.Pairwise.nil, ?_⟩
  show _ ∨ (!w.params.followText "set-order") = true
  cases w.params.followText "set-order"
  · exact .inr rfl
  · exact .inl rfl
theorem off_ris {t : SetTable} (r : Ris t.place.toList) : Ris (if t.plain = true then { t with plain := false } else t).place.toList := by
  split <;> exact r
theorem off_led {t : SetTable} : (if t.plain = true then { t with plain := false } else t).led = t.led := by
  split <;> rfl
theorem tailTx_ris {ep : Nat} {es1 : Array (Int × Value)} {t2 : SetTable} {b : Bool} (r : Ris t2.place.toList) : Ris (tailTx ep es1 t2 b).2.2.place.toList := by
  unfold tailTx
  by_cases c : (!b && t2.tooFull) = true
  · rw [if_pos c]
    exact relayAll_ris _ _ _
  · rw [if_neg c]
    exact r
theorem tailTx_led {ep : Nat} {es1 : Array (Int × Value)} {t2 : SetTable} {b : Bool} : (tailTx ep es1 t2 b).2.2.led = t2.led := by
  unfold tailTx
  by_cases c : (!b && t2.tooFull) = true
  · rw [if_pos c]
    exact relayAll_led _ _ _
  · rw [if_neg c]
theorem addTx_ris {v : Value} {z : Int} {D : SD} (r : Ris D.2.2.place.toList) : Ris (addTx z v D).2.2.place.toList :=
  tailTx_ris (off_ris (layNew_ris _ _ _ _ r))
theorem addTx_led {v : Value} {z : Int} {D : SD} : (addTx z v D).2.2.led = D.2.2.led :=
  tailTx_led.trans (off_led.trans (layNew_led _ _ _ _))
end
section
variable {P : Program} {w : World} {A : Around} {E : Value → Shared → Prop} {s : Shared} {a : Addr} {l : List Str} {k : Str} {u : Tok}
/-- a text that is in the set already -/
theorem add_old {D : SD} {Q : Bool → Shared → Prop} (at_ : s.heap.get? a = some (sObj "set" D)) (F : TxOk P w D l) (hk : k ∈ l) (room : l.length < scanBound) (q : Q false s) : wpAny (model P w) A (setAddHashed a (.str k u) (hashStr w k)) Q E s := by
  obtain ⟨es, ep, t⟩ := D
  have small : es.size < scanBound := by rw [show es.size = l.length from F.sz]; exact room
  have kk : (strKind P w).is k (.str k u) = true := is_str k u
  obtain ⟨e, he, ke⟩ := (F.mem k).mp hk
  unfold setAddHashed setAddHashedIn
  refine wpAny_holding (wpAny_bind (wpAny_setState_of at_ (show (sObj "set" (es, ep, t)).data = .set es ep t from rfl) F.fit ?_))
  dsimp only
  rw [byScan_of rfl small F.el]
  simp only [↓reduceIte]
  unfold setAddByScan
  refine wpAny_bind (wpAny_bind (wpAny_rule (wpAny_bind (wpAny_setScan_of (knd := strKind P w) (k := k) kk at_ rfl F.fit F.el ?_))))
  cases hi : List.findIdx? (fun e => (strKind P w).is k e.2) es.toList with
  | some j =>
    dsimp only
    exact wpAny_pure (wpAny_pure q)
  | none =>
    have no := List.findIdx?_eq_none_iff.mp hi e he
    rw [ke] at no
    cases no
/-- found.add(k) -/
theorem setT_add {Q : Value → Shared → Prop} (R : SetT P w s.heap a l) (room : l.length + 1 < scanBound)
    (q : ∀ h', Heap.SameBut a s.heap h' → SetT P w h' a (if k ∈ l then l else k :: l) → Q .none { s with heap := h', toks := s.toks + 1 }) : wpAny (model P w) A (call (.builtin "set.add") [.ref a, .str k u]) Q E s := by
  obtain ⟨D, at_, F', nd, lt, ri, le⟩ := R
  refine wpAny_call_entry F.slot_set_add ⟨_, at_, rfl⟩ F.entry_set_add ?_ (F.args_set_add_2 _ _)
  unfold Builtin.«set.add» Builtin.Frozenset.oneOther
  simp only [List.isEmpty_nil, bind_assoc]
  unfold Builtin.Frozenset.addrOf setAdd
  refine wpAny_bind (wpAny_pure ?_)
  try dsimp only
  refine wpAny_bind (wpAny_pure ?_)
  try dsimp only
  refine wpAny_bind (wpAny_holding (wpAny_bind ((strKind P w).pyHash (is_str k u) ?_)))
  by_cases c : k ∈ l
  · refine add_old (s := { s with toks := s.toks + 1 }) at_ F' c lt (wpAny_pure ⟨_, rfl, ?_⟩)
    have z := q s.heap (Heap.SameBut.refl a s.heap)
    rw [if_pos c] at z
    exact z ⟨D, at_, F', nd, lt, ri, le⟩
  · refine add_x (s := { s with toks := s.toks + 1 }) at_ F' c room (wpAny_pure ⟨_, rfl, ?_⟩)
    have z := q (s.heap.update a fun _ => sObj "set" (addTx (hashStr w k) (.str k u) D)) (Heap.SameBut.update s.heap a _)
    rw [if_neg c] at z
    exact z ⟨_, get_upd _ at_ rfl, add_ok u F', List.nodup_cons.mpr ⟨c, nd⟩, room, addTx_ris ri, by rw [addTx_led]; exact le⟩
/-! ### sorted -/
def txv : Value → Str
  | .str x _ => x
  | _ => ⟨#[]⟩
def ltTx (v u : Value) : Bool := ltCps (txv v).cps.toList (txv u).cps.toList
theorem strs_txv : ∀ {vs : List Value}, (∀ v ∈ vs, ∃ x t, v = Value.str x t) → StrsAre vs (vs.map txv)
  | [], _ => .nil
  | v :: vs, h => by
    obtain ⟨x, t, rfl⟩ := h v (.head _)
    exact .cons x t (strs_txv fun u hu => h u (.tail _ hu))
theorem tx_sortable {vs : List Value} (hs : ∀ v ∈ vs, ∃ x t, v = Value.str x t) (h2 : 2 ≤ vs.length) : SrtO.SortableO P w A s a vs ltTx := by
  intro h' _
  refine ⟨oneType', fun Q E hq => ?_, fun p q hp hq => ?_⟩
  · match vs, hs, h2 with
    | v1 :: v2 :: rest, hs, _ =>
      rw [keyKind_strs (strs_txv hs)]
      exact wpAny_pure hq
    | [], _, h => exact absurd h (by decide)
    | [v], _, h => exact absurd h (by simp)
  · obtain ⟨x, t, e⟩ := hs _ hp
    obtain ⟨y, t', e'⟩ := hs _ hq
    show wpAny (model P w) A (keyLt' oneType' p.1 q.1) (fun r s' => s' = { s with heap := h' } ∧ r = ltTx p.1 q.1) (fun _ _ => False) { s with heap := h' }
    rw [e, e']
    exact PySem.W.kas_lt_str ⟨rfl, (ltCps_eq _ _).symm⟩
theorem perm_of_nodup {α : Type} [DecidableEq α] : ∀ {l m : List α}, l.Nodup → (∀ x ∈ l, x ∈ m) → m.length = l.length → m.Perm l
  | [], m, _, _, e => by
    have z : m = [] := List.eq_nil_of_length_eq_zero e
    rw [z]
  | x :: r, m, nd, h, e => by
    have nd' := List.nodup_cons.mp nd
    have hx := h x (.head _)
    refine (List.perm_cons_erase hx).trans (.cons x (perm_of_nodup nd'.2 (fun y hy => (List.mem_erase_of_ne (fun z => nd'.1 (by rw [← z]; exact hy))).mpr (h y (.tail _ hy))) ?_))
    rw [List.length_erase_of_mem hx, e, List.length_cons]
    omega
theorem mem_vals {D : SD} (F : TxOk P w D l) : ∀ v ∈ D.1.toList.map (·.2), ∃ x t, v = Value.str x t := fun v hv => by
  obtain ⟨e, he, rfl⟩ := List.mem_map.mp hv
  obtain ⟨⟨x, hx, _⟩, _⟩ := F.el e he
  have hx' : Value.isStrOf x e.2 = true := hx
  cases h : e.2 <;> rw [h] at hx' <;> first | exact ⟨_, _, rfl⟩ | (simp [Value.isStrOf] at hx')
theorem txv_perm {D : SD} (F : TxOk P w D l) (nd : l.Nodup) : ((D.1.toList.map (·.2)).map txv).Perm l := by
  refine perm_of_nodup nd (fun x hx => ?_) ?_
  · obtain ⟨e, he, ke⟩ := (F.mem x).mp hx
    obtain ⟨y, t, hy⟩ := mem_vals F e.2 (List.mem_map_of_mem he)
    have ke' : Value.isStrOf x e.2 = true := ke
    rw [hy] at ke'
    have exy : y = x := by simpa [Value.isStrOf] using ke'
    refine List.mem_map.mpr ⟨e.2, List.mem_map_of_mem he, ?_⟩
    rw [hy]
    exact exy
  · rw [List.length_map, List.length_map, Array.length_toList]
    exact F.sz
theorem sorted_setT {Q : Value → Shared → Prop} (O : SrtO.Swo ltTx) (R : SetT P w s.heap a l) (hh : A.handled = none)
    (q : ∀ s' p (out : List Value) (c : Nat), (∀ b o, s.heap.get? b = some o → s'.heap.get? b = some o) → s'.gens = s.gens → s'.os = s.os → s.heap.objs.size ≤ p → s'.heap.get? p = some (seqObj "list" out.toArray c) →
      StrsAre out (out.map txv) → (out.map txv).Perm l → (out.map txv).Pairwise (fun x y => ltCps y.cps.toList x.cps.toList = false) → Q (.ref p) s') :
    wpAny (model P w) A (call (.builtin "sorted") [.ref a]) Q E s := by
  obtain ⟨D, at_, F, nd, lt, ri, le⟩ := R
  obtain ⟨es, ep, t⟩ := D
  have small : es.size < scanBound := by rw [show es.size = l.length from F.sz]; exact lt
  refine Calls.call_function_entry kind_sorted plain_sorted entry_sorted (args_sorted1 _) ?_
  unfold Builtin.«sorted»
  refine wpAny_bind (m := checkCount "sorted" 1 1 _) (wpAny_pure (wpAny_bind (collect_set (A := A.in1) (es := es) (ep := ep) (t := t) hh ⟨_, at_, rfl, rfl⟩ F.fit small ri le fun s1 vs k1 hz g1 o1 pm => ?_)))
  have hv : ∀ v ∈ vs, ∃ x t, v = Value.str x t := fun v hv => mem_vals F v (pm.mem_iff.mp hv)
  have pv : (vs.map txv).Perm l := (pm.map txv).trans (txv_perm F nd)
  have lv : vs.length ≤ sizeLine := by
    have e := pv.length_eq
    rw [List.length_map] at e
    rw [e]
    exact fits_of_scanBound lt
  refine wpAny_bind (wpAny_newList ?_ lv)
  have lst : (s1.heap.push (seqObj "list" vs.toArray 0)).get? s1.heap.objs.size = some (seqObj "list" vs.toArray 0) := Heap.get?_push_size _ rfl
  refine wpAny_bind (wpAny_holding (wpAny_call_entry slot_list_sort ⟨_, lst, rfl⟩ entry_list_sort (SrtO.list_sort_ord O lst lv (fun two => tx_sortable hv two) fun out srtd stb => ⟨_, rfl, ?_⟩) (args_list_sort _)))
  obtain ⟨c, hc⟩ := sortedHeap_at (vs := vs) (out := out.toArray) lst
  refine wpAny_pure ⟨_, rfl, q _ s1.heap.objs.size out c (fun b u e => ?_) g1 o1 hz hc (strs_txv fun v h => hv v (stb.perm.mem_iff.mp h)) ((stb.perm.map txv).trans pv) (List.pairwise_map.mpr srtd)⟩
  have z := k1 b u e
  have bl := Heap.lt_size z
  exact (sortedHeap_old (Nat.ne_of_lt bl) (by rw [size_push']; exact Nat.lt_succ_of_lt bl)).trans (Heap.get?_push_of_some _ z)
end
/-! ### as tracked things -/
def SetTO (P : Program) (w : World) (a : Addr) (l : List Str) : HO := .ext fun h => SetT P w h a l
theorem setTO_new {P : Program} {w : World} {H : Hp} {h : Heap} {a : Addr} {l : List Str} (R : SetT P w h a l) : ObjOk P w H h a (SetTO P w a l) := by
  have ⟨D, e, _⟩ := R
  exact ⟨R, ⟨_, e⟩, fun h1 h2 p k => SetT.at p k⟩
section
variable {X : Cx}
theorem setTO_get {pins : List (Addr × Obj)} {σ : L2.St} {H : Hp} {s : Shared} {a : Addr} {l : List Str} (I : Inv X pins σ H s) (ha : H a = some (SetTO X.prog X.w a l)) : SetT X.prog X.w s.heap a l := (I.hok a _ ha).1
theorem addT_ok {pins : List (Addr × Obj)} {σ : L2.St} {H : Hp} {s : Shared} {E : Value → Shared → Prop} {D : Addr} {l : List Str} {k : Str} {u : Tok} {Q : Value → Shared → Prop} (I : Inv X pins σ H s) (hD : H D = some (SetTO X.prog X.w D l)) (room : l.length + 1 < scanBound)
    (q : ∀ s', Inv X pins σ (upd H D (SetTO X.prog X.w D (if k ∈ l then l else k :: l))) s' → Q .none s') : wpAny (model X.prog X.w) X.A (call (.builtin "set.add") [.ref D, .str k u]) Q E s := by
  refine setT_add (setTO_get I hD) room fun h' sb new => q _ (I.write (e := D) (t' := s.toks + 1) (by rw [hD]; trivial) (.inl rfl) (fun b o hb ho => (sb.2 b hb).trans ho) ?_ (setTO_new new))
  obtain ⟨D', e, _⟩ := new
  exact ⟨_, e⟩
/-- sorted(found), a set of texts -/
def rSortSetT (P : Program) (w : World) : List V → Hp → VK → Prop := fun vs H Q => ∃ (a : Addr) (l : List Str), vs = [V.ref a] ∧ H a = some (SetTO P w a l) ∧
  ∀ (ys : List Str) (p : Addr), ys.Perm l → ys.Pairwise (fun x y => ltCps y.cps.toList x.cps.toList = false) → H p = none → Q (.ref p) (upd H p (.lst (ys.map V.str)))
theorem cr_sortSetT (O : SrtO.Swo ltTx) (hc : X.calm = true) : CallR X (.builtin "sorted") (rSortSetT X.prog X.w) := by
  intro pins s σ H xs us Q I r h
  obtain ⟨a, l, rfl, ha, q⟩ := h
  obtain rfl := Vals.ref1 r
  have R := setTO_get I ha
  refine sorted_setT O R (I.ok.hd hc) fun s' p out c kk hg ho hp hl st pm pw => ?_
  have np : H p = none := I.hok.fresh hp
  have I1 : Inv X pins σ H s' := I.call' (ch := []) ho (Un.kept kk) (I.hok.kept kk) (by rw [hg]; exact I.bare) (fun _ z => nomatch z)
  have vals : ∀ {us : List Value} {xs : List Str}, StrsAre us xs → Vals (xs.map V.str) us := fun {us xs} z => by
    induction z with
    | nil => exact .nil
    | cons x t _ ih => exact .cons ⟨t, rfl⟩ ih
  have len : ((out.map txv).map V.str).length ≤ sizeLine := by
    obtain ⟨_, _, _, _, lt, _⟩ := R
    rw [List.length_map, pm.length_eq]
    exact fits_of_scanBound lt
  have f : FpOk X pins H p := I.fpOk hp np
  exact ⟨.ref p, _, I1.take (h' := s'.heap) (t' := s'.toks) (o := .lst ((out.map txv).map V.str)) (fun b o _ e => e) f (show ObjOk X.prog X.w _ _ _ (.lst ((out.map txv).map V.str)) from ⟨len, out, c, vals st, hl⟩), rfl, q _ p pm pw np⟩
end
end X3
end L2
/-! {e for a in A for b in B}, the members texts -/
namespace L2
namespace X4
open PySem PySem.Spec PyProof.Rows PySem.Froz X3
abbrev CC (e tA iA tB iB : Expr) (fA fB : List Expr) (sc : Scope) (ps : Pos) : Expr := .SetComp e [⟨tA, iA, fA, 0⟩, ⟨tB, iB, fB, 0⟩] sc ps
theorem turn_a (e tA iA tB iB : Expr) (fA fB : List Expr) (sc : Scope) (ps : Pos) (it acc : Value) (en : Env) :
    compTurn (CC e tA iA tB iB fA fB sc ps) 0 it acc en = (do
      standAt iA.pos
      match ← pyNext it with
      | none => pure (.done .next)
      | some got =>
        letOwnedTupleGo tA it got
        assign tA en got
        let mut go := true
        for q in fA do
          if go then go ← isTrue q en (eval q en)
        if go then
          let src ← eval iB en
          standAt iB.pos
          let src ← foldedSetIterable iB en src
          let _ ← runOwn (.compStart (CC e tA iA tB iB fA fB sc ps) 1 (← holding [src] (pyIter src)) acc en) en
        again (.compLoop (CC e tA iA tB iB fA fB sc ps) 0 it acc en)) := by rfl
theorem turn_b (e tA iA tB iB : Expr) (fA fB : List Expr) (sc : Scope) (ps : Pos) (it acc : Value) (en : Env) :
    compTurn (CC e tA iA tB iB fA fB sc ps) 1 it acc en = (do
      standAt iB.pos
      match ← pyNext it with
      | none => pure (.done .next)
      | some got =>
        letOwnedTupleGo tB it got
        assign tB en got
        let mut go := true
        for q in fB do
          if go then go ← isTrue q en (eval q en)
        if go then
          (do let y ← eval e en; standAt e.pos; let _ ← call (.builtin "set.add") [acc, y])
        again (.compLoop (CC e tA iA tB iB fA fB sc ps) 1 it acc en)) := by rfl
section
variable {P : Program} {w : World} {A : Around} {R : Result → Shared → Prop} {s : Shared} {e tA iA tB iB : Expr} {sc : Scope} {ps : Pos} {it acc : Value} {en : Env}
abbrev Er (P : Program) (w : World) (A : Around) (en : Env) (R : Result → Shared → Prop) : Value → Shared → Prop := notedBy (model P w) A en fun e s' => R (.error e) s'
theorem loop_a (hs : ∀ y, foldedSetIterable iB en y = pure y) (J : Nat → Shared → Prop)
    (turn : ∀ n s, J n s → wpAny (model P w) A (pyNext it) (fun r s1 => match r with
      | none => R (.ok .next) s1
      | some v => wpAny (model P w) A (letOwnedTupleGo tA it v) (fun _ s2 => wpAny (model P w) A (assign tA en v) (fun _ s3 => wpAny (model P w) A (eval iB en) (fun y s4 => wpAny (model P w) A (pyIter y) (fun it1 s5 =>
          codeAny (model P w) A (.compStart (CC e tA iA tB iB [] [] sc ps) 1 it1 acc en) (fun r s' => match r with
            | .ok _ => ∃ m, m < n ∧ J m s'
            | .error _ => False) s5) (Er P w A en R) s4) (Er P w A en R) s3) (Er P w A en R) s2) (Er P w A en R) s1) (Er P w A en R) s)
    (n : Nat) (h : J n s) : codeAny (model P w) A (.compLoop (CC e tA iA tB iB [] [] sc ps) 0 it acc en) R s := by
  refine codeAny_loop rfl J (fun n s hJ => ?_) n h
  show wpAny _ A ((compTurn (CC e tA iA tB iB [] [] sc ps) 0 it acc en).onRaise (fun x => do noteFrame x en; theTreesLotGoes x)) _ _ s
  refine wpAny_noted ?_; rw [turn_a]
  refine wpAny_bind (wpAny_standAt (wpAny_bind (wpAny_mono (turn n s hJ) (fun r s1 h1 => ?_) fun _ _ z => z)))
  match r with
  | none => exact wpAny_pure h1
  | some v =>
    refine wpAny_bind (wpAny_mono h1 (fun _ s2 h2 => wpAny_bind (wpAny_mono h2 (fun _ s3 h3 => ?_) fun _ _ z => z)) fun _ _ z => z)
    refine wpAny_bind (wpAny_pure ?_)
    refine wpAny_bind (wpAny_mono h3 (fun y s4 h4 => wpAny_bind (wpAny_standAt (wpAny_bind (wpAny_of_eq (hs y) (wpAny_bind (wpAny_holding (wpAny_mono h4 (fun it1 s5 h5 => ?_) fun _ _ z => z))))))) fun _ _ z => z)
    refine wpAny_bind (wpAny_runOwn ?_); rw [Around.mark_none]
    refine codeAny_mono h5 fun r s' hr => ?_
    match r with
    | .ok f => first | exact wpAny_pure ⟨rfl, hr⟩ | exact wpAny_bind (wpAny_pure (wpAny_pure ⟨rfl, hr⟩))
    | .error e => exact hr.elim
theorem loop_b (J : Nat → Shared → Prop)
    (turn : ∀ n s, J n s → wpAny (model P w) A (pyNext it) (fun r s1 => match r with
      | none => R (.ok .next) s1
      | some v => wpAny (model P w) A (letOwnedTupleGo tB it v) (fun _ s2 => wpAny (model P w) A (assign tB en v) (fun _ s3 => wpAny (model P w) A (eval e en) (fun y s4 => wpAny (model P w) A (call (.builtin "set.add") [acc, y]) (fun _ s5 => ∃ m, m < n ∧ J m s5)
          (Er P w A en R) s4) (Er P w A en R) s3) (Er P w A en R) s2) (Er P w A en R) s1) (Er P w A en R) s)
    (n : Nat) (h : J n s) : codeAny (model P w) A (.compLoop (CC e tA iA tB iB [] [] sc ps) 1 it acc en) R s := by
  refine codeAny_loop rfl J (fun n s hJ => ?_) n h
  show wpAny _ A ((compTurn (CC e tA iA tB iB [] [] sc ps) 1 it acc en).onRaise (fun x => do noteFrame x en; theTreesLotGoes x)) _ _ s
  refine wpAny_noted ?_; rw [turn_b]
  refine wpAny_bind (wpAny_standAt (wpAny_bind (wpAny_mono (turn n s hJ) (fun r s1 h1 => ?_) fun _ _ z => z)))
  match r with
  | none => exact wpAny_pure h1
  | some v =>
    refine wpAny_bind (wpAny_mono h1 (fun _ s2 h2 => wpAny_bind (wpAny_mono h2 (fun _ s3 h3 => ?_) fun _ _ z => z)) fun _ _ z => z)
    refine wpAny_bind (wpAny_pure ?_)
    exact wpAny_bind (wpAny_bind (wpAny_mono h3 (fun y s4 h4 => wpAny_bind (wpAny_standAt (wpAny_bind (wpAny_mono h4 (fun _ s5 h5 => wpAny_pure (wpAny_pure ⟨rfl, h5⟩)) fun _ _ z => z)))) fun _ _ z => z))
theorem start_b (h0 : codeAny (model P w) A (.compLoop (CC e tA iA tB iB [] [] sc ps) 1 it acc en) R s)
    (h : wpAny (model P w) A (pyIter it) (fun it' s' => codeAny (model P w) A (.compLoop (CC e tA iA tB iB [] [] sc ps) 1 it' acc en) R s') (Er P w A en R) s) :
    codeAny (model P w) A (.compStart (CC e tA iA tB iB [] [] sc ps) 1 it acc en) R s := by
  refine codeAny_of_tree ?_
  show wpAny _ _ ((compStart (CC e tA iA tB iB [] [] sc ps) 1 it acc en).onRaise (fun x => do noteFrame x en; standAt theWindowsPlace)) _ _ s
  refine wpAny_notedAt ?_; unfold compStart
  show wpAny _ _ (ask >>= _) _ _ s
  refine wpAny_bind (wpAny_askSetting (wpAny_ite ?_))
  split
  · first | exact wpAny_bind (wpAny_pure (wpAny_pure (And.intro rfl h0))) | exact wpAny_pure (And.intro rfl h0)
  · first
    | exact wpAny_bind (wpAny_rule (wpAny_bind (wpAny_standAt (wpAny_bind (wpAny_mono h (fun _ _ z => wpAny_pure (And.intro rfl z)) fun _ _ x => x)))))
    | (refine wpAny_bind (wpAny_rule ?_); show wpAny _ _ (standAt iB.pos >>= _) _ _ s; exact wpAny_bind (wpAny_standAt (wpAny_bind (wpAny_mono h (fun _ _ z => wpAny_pure (And.intro rfl z)) fun _ _ x => x))))
end
end X4
end L2
/-! {e for a in A for b in B} read: D the new set -/
namespace L2
namespace X4
open PySem PySem.Spec PyProof.Rows PySem.Froz X3
section
variable {X : Cx}
def tSc2 (P : Program) (w : World) (wA : TI) (gA : TG) (wB : TI) (gB : TG) (te : TE) (vs vB : List Nat) : TE := fun σ H Q => wA σ H fun J H1 => ∀ D, H1 D = none → ∃ W : Nat → Nat → Hp → Prop, (∃ m, W 0 m (upd H1 D (SetTO P w D []))) ∧
  ∀ i m H, W i m H → (J.stop i H ∧ Q (.ref D) H) ∨ (J.go i H ∧ ∃ Nx : Hp → Prop, (∀ H', Nx H' → ∃ m', m' < m ∧ W (i + 1) m' H') ∧
    ∀ x H', J.yld i H x H' → gA x (wipe σ vs) H' fun σ2 H2 => wipe σ2 vs = wipe σ vs ∧ wB σ2 H2 fun J1 H4 => ∃ V : Nat → Nat → Hp → Prop, (∃ m, V 0 m H4) ∧
      ∀ j k H, V j k H → (J1.stop j H ∧ Nx H) ∨ (J1.go j H ∧ ∃ Ny : Hp → Prop, (∀ H', Ny H' → ∃ k', k' < k ∧ V (j + 1) k' H') ∧
        ∀ x H', J1.yld j H x H' → gB x (wipe σ2 vB) H' fun σ3 H5 => wipe σ3 vB = wipe σ2 vB ∧ te σ3 H5 fun y H7 => ∃ l t, y = .str t ∧ H7 D = some (SetTO P w D l) ∧ l.length + 1 < scanBound ∧ Ny (upd H7 D (SetTO P w D (if t ∈ l then l else t :: l)))))
abbrev Blks (X : Cx) (sc : Scope) (q : Cx → Prop) : Prop := ∀ (s : Shared) (H : Hp) (C : Addr) (cl : List (PySem.Str × Addr)) (fp : List Addr), q (X.blk s H sc (compEnvC sc cl C X.env) fp)
theorem core2 {pins : List (Addr × Obj)} {s : Shared} {σ : L2.St} {H : Hp} {Q : VK} {e tA iA tB iB : Expr} {sc : Scope} {own : List (PySem.Str × Nat)} {vB : List Nat} {ps ps' : Pos} {wA wB : TI} {gA gB : TG} {te : TE} {use : Option (Value → Sem Unit)} {Qf : Value → Shared → Prop}
    (hc : X.calm = true) (hN : X.N.Nodup) (I : Inv X pins σ H s) (hA : PI X tA iA wA) (ok : BlkOk X.N X.env.scope sc own) (hv : ∀ i ∈ vB, i ∈ own.map (·.2))
    (hgA : Blks X sc fun X => PG X tA gA) (hB : Blks X sc fun X => PI X tB iB wB) (hgB : Blks X sc fun X => PG X tB gB) (he : Blks X sc fun X => PE X e te)
    (hsA : ∀ x, foldedSetIterable iA X.env x = pure x) (hsB : ∀ en x, foldedSetIterable iB en x = pure x)
    (h : tSc2 X.prog X.w wA gA wB gB te (own.map (·.2)) vB σ H Q)
    (out : ∀ D C s' m H', Inv X pins σ H' s' → Q (.ref D) H' → s'.heap.Ns C m → FpOk X pins H' C → compPost (model X.prog X.w) X.A X.xe use Qf (.ref D) C (.ok .next) s') :
    wpAny (model X.prog X.w) X.A (comprehension (CC e tA iA tB iB [] [] sc ps) sc X.env ps' (newSet (.type "set")) false (eval iA X.env) use) Qf X.xe s := by
  have fr : ∀ y ∈ sc.names, y.2 = .free → ∃ c, X.env.cells.lookup y.1 = some c := fun y hy e => (ok.free y hy e).elim (fun k => I.ok.has _ (.inl k)) (fun k => I.ok.has _ (.inr k))
  refine wpAny_comprehension_free (use := use) rfl hsA (closure_ok fr) ok.kind (fun y hy e => by rw [ok.uniq y hy, e]) (thn (hA.run pins s σ H _ I h) fun xv s1 hx => thn hx fun itv s2 h2 => ?_)
  obtain ⟨it, fp, tn, J, H2, ev, I2, T, st2, f2, q⟩ := h2
  subst ev
  refine PpSet.newSet_ok (newEnv_comp ?_)
  generalize hD : s2.heap.objs.size = D
  obtain ⟨W, ⟨m0, w0⟩, turn⟩ := q D (I2.hok.fresh (Nat.le_of_eq hD))
  generalize hs3 : ({ s2 with heap := s2.heap.push { cls := .type "set", dict := none, data := .set #[] 0 (.fresh 0 0 (!X.w.params.followText "set-order")) } } : Shared) = s3
  have I3 : Inv X pins σ (upd H2 D (SetTO X.prog X.w D [])) s3 := by
    rw [← hs3]; refine I2.laid (t' := s2.toks) (fun b o e => Heap.get?_push_of_some _ e) (Nat.le_of_eq hD) ?_
    rw [← hD]; exact setTO_new setT_fresh
  have h3 : s3.heap = s2.heap.push { cls := .type "set", dict := none, data := .set #[] 0 (.fresh 0 0 (!X.w.params.followText "set-order")) } := by rw [← hs3]
  have sz : ∀ b ∈ fp, b < s2.heap.objs.size := fun b hb => let ⟨_, e, _⟩ := T.obj _ _ st2 b hb; Heap.lt_size e
  have f3 : ∀ b ∈ fp, FpOk X pins (upd H2 D (SetTO X.prog X.w D [])) b ∧ b < s3.heap.objs.size := fun b hb =>
    ⟨⟨by rw [upd_ne (by rw [← hD]; exact Nat.ne_of_lt (sz b hb))]; exact (f2 b hb).1, (f2 b hb).2⟩, by rw [h3, Heap.size_push]; exact Nat.lt_succ_of_lt (sz b hb)⟩
  have st3 : tn 0 s3.heap := T.keep _ _ _ st2 fun b _ o e => by rw [h3]; exact Heap.get?_push_of_some _ e
  have I4 := block_start I3 ok hN f3
  generalize hH3 : upd H2 D (SetTO X.prog X.w D []) = H3 at I3 I4 w0 f3
  have pgA := hgA s3 H3 s3.heap.objs.size (cellsFrom (s3.heap.objs.size + 1) sc.names (cloFrom X.env.cells sc.names [])) fp
  have piB := hB s3 H3 s3.heap.objs.size (cellsFrom (s3.heap.objs.size + 1) sc.names (cloFrom X.env.cells sc.names [])) fp
  have pgB := hgB s3 H3 s3.heap.objs.size (cellsFrom (s3.heap.objs.size + 1) sc.names (cloFrom X.env.cells sc.names [])) fp
  have pe := he s3 H3 s3.heap.objs.size (cellsFrom (s3.heap.objs.size + 1) sc.names (cloFrom X.env.cells sc.names [])) fp
  show codeAny _ _ (.compStart (CC e tA iA tB iB [] [] sc ps) 0 (.ref it) (.ref D) (compEnvC sc (cellsFrom (s3.heap.objs.size + 1) sc.names (cloFrom X.env.cells sc.names [])) s3.heap.objs.size X.env)) (compPost (model X.prog X.w) X.A X.xe use Qf (.ref D) s3.heap.objs.size) { s3 with heap := pushCells (s3.heap.push { cls := .type "dict", data := .dict #[] }) sc.names }
  generalize hce : compEnvC sc (cellsFrom (s3.heap.objs.size + 1) sc.names (cloFrom X.env.cells sc.names [])) s3.heap.objs.size X.env = ce at I4 pgA piB pgB pe ⊢
  have cL : ce.locals = s3.heap.objs.size := by rw [← hce]; rfl
  generalize hs4 : ({ s3 with heap := pushCells (s3.heap.push { cls := .type "dict", data := .dict #[] }) sc.names } : Shared) = s4 at I4 ⊢
  have st4 : tn 0 s4.heap := T.keep _ _ _ st3 fun b _ o e => by rw [← hs4]; exact pushCells_keeps _ _ _ _ (Heap.get?_push_of_some _ e)
  generalize hX' : X.blk s3 H3 sc ce fp = X' at I4 pgA piB pgB pe
  have e1 : X'.prog = X.prog := by rw [← hX']
  have e2 : X'.w = X.w := by rw [← hX']
  have e3 : X'.K = X.K := by rw [← hX']
  have e4 : X'.calm = true := by rw [← hX']; exact hc
  subst hX'
  have stat : ∀ {σ' : L2.St} {H' : Hp} {s' : Shared}, Inv (X.blk s3 H3 sc ce fp) [] σ' H' s' → (∀ b ∈ fp, H' b = none) → ∀ b ∈ fp, FpOk (X.blk s3 H3 sc ce fp) [] H' b := fun I' hn b hb =>
    ⟨hn b hb, (I'.ok.exf b hb).1, I'.ok.exfs b hb, .inl hb, fun x c e => (I'.ok.exf b hb).2 x c e, fun p hp => absurd (show p ∈ ([] : List (Addr × Obj)) ++ [] from hp) (by simp)⟩
  have loop : codeAny (model X.prog X.w) X.A (.compLoop (CC e tA iA tB iB [] [] sc ps) 0 (.ref it) (.ref D) ce) (compPost (model X.prog X.w) X.A X.xe use Qf (.ref D) s3.heap.objs.size) s4 := by
    refine loop_a (hsB ce) (fun n s' => ∃ i H', Inv (X.blk s3 H3 sc ce fp) [] (wipe σ (own.map (·.2))) H' s' ∧ tn i s'.heap ∧ (∀ b ∈ fp, H' b = none) ∧ W i n H') ?_ m0 ⟨0, H3, I4, st4, fun b hb => (f3 b hb).1.1, w0⟩
    rintro n s5 ⟨i, H5, I5, st5, n5, w5⟩
    rcases turn i n H5 w5 with ⟨stop, qq⟩ | ⟨go, Nx, hNx, step⟩
    · refine thnF (T.done (X.blk s3 H3 sc ce fp) e1 e2 e3 e4 i [] s5 _ H5 (fun _ _ => False) I5 (stat I5 n5) st5 stop) fun r s6 ⟨hr, I6⟩ => ?_
      subst hr
      have I7 : Inv X pins σ H5 s6 := I3.call' (ch := fp) I6.os I6.base I6.hok I6.bare fun b hb => ⟨(f3 b hb).1.2.2.2.1, (f3 b hb).1.2.1, (f3 b hb).1.2.2.2.2.1, (f3 b hb).1.2.2.2.2.2⟩
      have nC : H5 s3.heap.objs.size = none := by have z : H5 ce.locals = none := I6.free; rw [cL] at z; exact z
      obtain ⟨m, hn, _⟩ := I6.loc
      have hn : s6.heap.Ns ce.locals m := hn
      rw [cL] at hn
      exact out D s3.heap.objs.size s6 m H5 I7 qq hn (I3.fpOk (Nat.le_refl _) nC)
    · refine thnF (T.item (X.blk s3 H3 sc ce fp) e1 e2 e3 e4 i [] s5 _ H5 (fun _ _ => False) I5 (stat I5 n5) st5 go) fun r s6 ⟨u, hr, h6⟩ => ?_
      subst hr
      refine thnF h6 fun _ s7 ⟨x, H7, I7, r7, y7, st7, n7⟩ => ?_
      refine thnF (pgA.run _ s7 _ H7 x u _ (I7.pinned (stat I7 n7) (T.obj _ _ st7)) r7 (step x H7 y7)) fun _ s8 ⟨σ8, H8, I8, hw8, q8⟩ => ?_
      have fin : ∀ {σ9 : L2.St} {s' : Shared} {H' : Hp}, Inv (X.blk s3 H3 sc ce fp) ([] ++ pinsAt fp s7.heap) σ9 H' s' → (wipe σ (own.map (·.2))).length = σ9.length → (∀ (j : Nat) v, (wipe σ (own.map (·.2)))[j]? = some (some v) → σ9[j]? = some (some v)) → Nx H' →
          ∃ m, m < n ∧ ∃ i H', Inv (X.blk s3 H3 sc ce fp) [] (wipe σ (own.map (·.2))) H' s' ∧ tn i s'.heap ∧ (∀ b ∈ fp, H' b = none) ∧ W i m H' := fun {σ9 s' H'} I' hl hk nx => by
        obtain ⟨m', hm, w'⟩ := hNx H' nx
        have pin : ∀ b ∈ fp, ∀ o, s7.heap.get? b = some o → s'.heap.get? b = some o ∧ H' b = none := fun b hb o e => let z := I'.pin (b, o) (List.mem_append_right _ (List.mem_append_right _ (mem_pinsAt hb e))); ⟨z.1, z.2.1⟩
        exact ⟨m', hm, i + 1, H', (I'.unpinned (pins := [])).weak hl hk, T.keep _ _ _ st7 fun b hb o e => (pin b hb o e).1, fun b hb => let ⟨o, e, _⟩ := T.obj _ _ st7 b hb; (pin b hb o e).2, w'⟩
      have l8 : (wipe σ (own.map (·.2))).length = σ8.length := by rw [← hw8, wipe_length]
      have k9 : ∀ (j : Nat) v, (wipe σ (own.map (·.2)))[j]? = some (some v) → (wipe σ8 vB)[j]? = some (some v) := fun j v e => by
        rw [← hw8] at e; obtain ⟨a1, a2⟩ := wipe_some e; rw [wipe_out fun z => a2 (hv j z)]; exact a1
      refine thnF (piB.run _ s8 σ8 H8 _ I8 q8) fun xv s10 hx => thnF hx fun itv s11 h11 => ?_
      obtain ⟨it1, fp1, tn1, J1, H11, ev1, I11, T1, st11, f11, V, ⟨m1, w1⟩, turn1⟩ := h11
      subst ev1
      have stat1 : ∀ {H' : Hp}, (∀ b ∈ fp1, H' b = none) → ∀ b ∈ fp1, FpOk (X.blk s3 H3 sc ce fp) ([] ++ pinsAt fp s7.heap) H' b := fun hn b hb => ⟨hn b hb, (f11 b hb).2⟩
      have inner : codeAny (model X.prog X.w) X.A (.compLoop (CC e tA iA tB iB [] [] sc ps) 1 (.ref it1) (.ref D) ce)
          (fun r s' => match r with
            | .ok _ => ∃ m, m < n ∧ ∃ i H', Inv (X.blk s3 H3 sc ce fp) [] (wipe σ (own.map (·.2))) H' s' ∧ tn i s'.heap ∧ (∀ b ∈ fp, H' b = none) ∧ W i m H'
            | .error _ => False) s11 := by
        refine loop_b (fun k s' => ∃ j H', Inv (X.blk s3 H3 sc ce fp) ([] ++ pinsAt fp s7.heap) (wipe σ8 vB) H' s' ∧ tn1 j s'.heap ∧ (∀ b ∈ fp1, H' b = none) ∧ V j k H') ?_ m1 ⟨0, H11, I11.weak (wipe_length _ _) (fun j v e => (wipe_some e).1), st11, fun b hb => (f11 b hb).1, w1⟩
        rintro k s12 ⟨j, H12, I12, st12, n12, w12⟩
        rcases turn1 j k H12 w12 with ⟨stop1, nx1⟩ | ⟨go1, Ny, hNy, step1⟩
        · refine thnF (T1.done (X.blk s3 H3 sc ce fp) rfl rfl rfl hc j _ s12 (wipe σ8 vB) H12 (fun _ _ => False) I12 (stat1 n12) st12 stop1) fun r s13 ⟨hr, I13⟩ => ?_
          subst hr
          exact fin I13 (l8.trans (wipe_length σ8 vB).symm) k9 nx1
        · refine thnF (T1.item (X.blk s3 H3 sc ce fp) rfl rfl rfl hc j _ s12 (wipe σ8 vB) H12 (fun _ _ => False) I12 (stat1 n12) st12 go1) fun r s13 ⟨u1, hr, h13⟩ => ?_
          subst hr
          refine thnF h13 fun _ s14 ⟨x1, H14, I14, r14, y14, st14, n14⟩ => ?_
          refine thnF (pgB.run _ s14 (wipe σ8 vB) H14 x1 u1 _ (I14.pinned (stat1 n14) (T1.obj _ _ st14)) r14 (step1 x1 H14 y14)) fun _ s15 ⟨σ15, H15, I15, hw15, q15⟩ => ?_
          refine thnF (pe.run _ s15 σ15 H15 _ I15 q15) fun z s17 ⟨yv, H17, I17, r17, l, t, ey, hD17, room, ny⟩ => ?_
          subst ey
          obtain ⟨tk, rfl⟩ : ∃ tk, z = .str t tk := r17
          refine addT_ok (X := X.blk s3 H3 sc ce fp) I17 hD17 room fun s18 I18 => ?_
          obtain ⟨m', hm, w'⟩ := hNy _ ny
          have pin : ∀ b ∈ fp1, ∀ o, s14.heap.get? b = some o → s18.heap.get? b = some o ∧ _ := fun b hb o e => let z := I18.pin (b, o) (List.mem_append_right _ (List.mem_append_right _ (mem_pinsAt hb e))); ⟨z.1, z.2.1⟩
          exact ⟨m', hm, j + 1, _, I18.unpinned.weak (by rw [← hw15, wipe_length]) (fun j v e => by rw [← hw15] at e; exact (wipe_some e).1), T1.keep _ _ _ st14 fun b hb o e => (pin b hb o e).1, fun b hb => let ⟨o, e, _⟩ := T1.obj _ _ st14 b hb; (pin b hb o e).2, w'⟩
      exact start_b inner (T1.self X.A 0 _ _ _ st11 inner)
  exact codeAny_compStart_set loop (T.self X.A 0 _ _ _ st4 loop)
theorem pe_sc2 {e tA iA tB iB : Expr} {sc : Scope} {own : List (PySem.Str × Nat)} {vB : List Nat} {ps : Pos} {wA wB : TI} {gA gB : TG} {te : TE} (hc : X.calm = true) (hN : X.N.Nodup) (hA : PI X tA iA wA) (ok : BlkOk X.N X.env.scope sc own) (hv : ∀ i ∈ vB, i ∈ own.map (·.2))
    (hgA : Blks X sc fun X => PG X tA gA) (hB : Blks X sc fun X => PI X tB iB wB) (hgB : Blks X sc fun X => PG X tB gB) (he : Blks X sc fun X => PE X e te)
    (hsA : ∀ x, foldedSetIterable iA X.env x = pure x := by intro _; rfl) (hsB : ∀ en x, foldedSetIterable iB en x = pure x := by intro _ _; rfl) :
    PE X (.SetComp e [⟨tA, iA, [], 0⟩, ⟨tB, iB, [], 0⟩] sc ps) (tSc2 X.prog X.w wA gA wB gB te (own.map (·.2)) vB) := by
  refine ⟨fun pins s σ H Q I h => ?_⟩
  rw [PpSet.eval_SetComp]
  refine core2 hc hN I hA ok hv hgA hB hgB he hsA hsB h fun D C s' m H' I' q hn f => ⟨m, hn, fun h'' sb => ?_⟩
  obtain ⟨f0, f1, f2, f3, f4, f5⟩ := f
  exact ⟨.ref D, H', I'.turned (t' := s'.toks) (fun b o hb e => (sb.2 b hb).trans e) f0 f1 f3 f4 f5, rfl, q⟩
end
end X4
end L2
/-! come_to, trimmed, begun; when two books are kept alike -/
namespace L2
namespace D1
open PySem PySem.Spec PyProof.Rows D2
theorem ordB_eq {bk bk' : Bk} (h1 : (bk.map (·.1)).Perm (bk'.map (·.1))) (h2 : ∀ s ∈ bk.map (·.1), (rowOf bk s).1 = (rowOf bk' s).1 ∧ ordT (rowOf bk s).2 = ordT (rowOf bk' s).2) : ordB bk = ordB bk' := by
  unfold ordB
  rw [← srt_congr h1]
  refine List.map_congr_left fun s hs => ?_
  obtain ⟨a, b⟩ := h2 s ((srt_perm _).mem_iff.mp hs)
  rw [a, b]
theorem DeskAt.congr {C : Addr} {H : Hp} {q : Addr} {bk bk' : Bk} {st : Str} (h : DeskAt C H q bk st) (e : ordB bk = ordB bk') : DeskAt C H q bk' st := by
  obtain ⟨dx, b, h1, h2⟩ := h
  exact ⟨dx, b, h1, e ▸ h2⟩
theorem RForm.ord {k : Str} {ts : List (Str × Str)} (nd : (ts.map (·.1)).Nodup) (h : RForm k ts) : RForm k (ordT ts) := by
  rcases h with ⟨a, b⟩ | ⟨a, b, c, d⟩
  · exact .inl ⟨a, by rw [b]; rfl⟩
  · refine .inr ⟨a, fun e => b ?_, by rw [ordT_len]; exact c, fun t ht => d t ((mem_ordT nd).mp ht)⟩
    have := ordT_len ts
    rw [e] at this
    exact List.length_eq_zero_iff.mp this.symm
theorem DOk.ord {bk : Bk} {st : Str} (h : DOk bk st) : DOk (ordB bk) st := by
  refine ⟨⟨ordB_ne h.ne, h.ond, by rw [ordB_len]; exact h.len, fun r hr => ?_, fun r hr => ?_⟩, fun r hr => ?_, by rw [ordB_names]; exact (srt_perm _).mem_iff.mpr h.st⟩
  · obtain ⟨r0, h0, e1, e2, e3⟩ := mem_ordB h.nd hr
    obtain ⟨a, b, c⟩ := h.rs r0 h0
    rw [e1, e2, e3]
    refine ⟨a, b.ord (h.tk r0 h0), fun t ht => ?_⟩
    rw [ordB_names]
    exact (srt_perm _).mem_iff.mpr (c t ((mem_ordT (h.tk r0 h0)).mp ht))
  · obtain ⟨r0, h0, _, _, e3⟩ := mem_ordB h.nd hr
    rw [e3, ordT_len]; exact h.len2 r0 h0
  · obtain ⟨r0, h0, _, _, e3⟩ := mem_ordB h.nd hr
    rw [e3]; exact ordT_nd (h.tk r0 h0)
end D1
end L2
/-! the law's ordered books -/
namespace L2
namespace D1
open PySem PySem.Spec PyProof.Rows D2
abbrev sRowOrd : Stmt := top 45
abbrev sOrdered : Stmt := top 46
def spRowOrd : Sp := fun vs H Q _ => ∃ (v : V) (k : Str) (ts : List (Str × Str)), vs = [v] ∧ RowAt H v k ts ∧ (ts.map (·.1)).Nodup ∧ ts.length < 64 ∧ ∀ H' T a, Same H H' → H T = none → H a = none → H' T = some (.tup [.str k, .ref a]) → TurnsAt H' a (ordT ts) → Q (.ref T) H'
def spOrdered : Sp := fun vs H Q _ => ∃ (b : Addr) (bk : Bk), vs = [.ref b] ∧ BookR H b bk ∧ BOk bk ∧ ∀ H' R, Same H H' → H R = none → BookAt H' R (ordB bk) → Q (.ref R) H'
theorem kT_keys (ts : List (Str × Str)) : (kT ts).map (·.1) = (ts.map (·.1)).map Sum.inr := by rw [kT, List.map_map, List.map_map]; rfl
section
variable {P : Program} {w : World} {K : PySem.W.Frag} {mg : Str → Option Value} {base : Heap} {C : Addr}
abbrev CRowOrd (P : Program) (w : World) (K : PySem.W.Frag) (mg : Str → Option Value) (base : Heap) := Cal P w K mg base "_law_row_ordered" 1 ["_law_row"] spRowOrd
abbrev COrdered (P : Program) (w : World) (K : PySem.W.Frag) (mg : Str → Option Value) (base : Heap) := Cal P w K mg base "_law_ordered" 2 ["_law_book"] spOrdered
theorem scRwo : FnScope ["_law_row", "_law_word_here"] ["_law_row"] (defScope sRowOrd) := ⟨rfl, rfl, rfl, by decide +kernel, rfl, by decide +kernel, by decide +kernel⟩
theorem ok_roword {f : Addr} {fd : FuncData} (F : Fun K "_law_row_ordered" "_law_row_ordered" sRowOrd f fd) (T : Free3 mg) : FnOk P w K mg base CX0 1 f fd ["_law_row"] spRowOrd := by
  refine F.ok scRwo (fun vs H Q E h => ?_) (fun cdv A outer s H vs Q E hr h => ?_)
  · obtain ⟨v, k, ts, rfl, _⟩ := h; rfl
  · obtain ⟨v, kd, ts, rfl, ⟨t, a, rfl, ht, ha⟩, nd, l64, k⟩ := h
    have hu := hu_of hr
    refine ⟨_, pss_one (ps_ret (pe_tup (pa_cons (pe_ix ix_tup (pv 0) pe_int (fun _ _ => rfl)) (pa_cons (pe_callTy (call_dictP rfl) (by rfl) T.dict (by decide +kernel) (pa_cons (pe_lc (own := [("_law_word_here", 1)]) (g := gName 1) (tt := tYes)
        (te := tTup (tCons (tVar 1) (tCons (tDGet (tOp (rIxT K) (tVar 0) (tC (.int 1))) (tVar 1)) tNil))) rfl scRwo.nd (pi_list (pe_callB (call_sortedD rfl) (by rfl) T.sorted (by decide +kernel) (pa_cons (pe_ix ix_tup (pv 0) pe_int (fun _ _ => rfl)) pa_nil)))
        (blkOk_by (N := ["_law_row", "_law_word_here"]) (sc := defScope sRowOrd) (by decide +kernel)) (fun _ _ _ _ _ => pg_name (i := 1) scRwo.nd rfl (Or.inl rfl)) (fun _ _ _ _ _ => pts_nil)
        (fun _ _ _ _ _ => pe_tup (pa_cons (pv 1) (pa_cons (pe_dget hu (pe_ix ix_tup (pv 0) pe_int (fun _ _ => rfl)) (pv 1) (fun _ _ => rfl)) pa_nil)))) pa_nil)) pa_nil)))), ?_⟩
    refine ⟨_, rfl, t, _, _, _, rfl, rfl, SqT.of ht, atI_nat (j := 0) rfl, ?_⟩
    refine ⟨_, rfl, t, _, _, _, rfl, rfl, SqT.of ht, atI_nat (j := 1) rfl, a, kT ts, ts.map (·.1), rfl, .inl ha, kT_keys ts, by rw [List.length_map]; exact l64, fun ys q pm so hq => ?_⟩
    have ey := srt_of pm so
    have lq : ys.length < 64 := by rw [pm.length_eq, List.length_map]; exact l64
    have am : ∀ y ∈ ys, y ∈ ts.map (·.1) := fun y hy => pm.mem_iff.mp hy
    have ndy : ys.Nodup := pm.nodup_iff.mpr nd
    have s1 := Same.new (o := .lst (ys.map V.str)) hq
    have hy1 : SL (L2.upd H q (.lst (ys.map V.str))) q ys := upd_same
    generalize L2.upd H q (.lst (ys.map V.str)) = H1 at s1 hy1
    refine ⟨q, rfl, ⟨_, hy1.sq⟩, fun M hM => ?_⟩
    refine lc_it (walk_list (K := K) (a := q) (xs := ys.map V.str)) (fun i H' => Same H1 H' ∧ ∃ ps : List Addr, H' M = some (.lst (ps.map V.ref)) ∧ Paired (fun p (kv : Key × V) => (cut [M] H') p = some (.tup [kV kv.1, kv.2])) ps (kT ((ys.take i).map fun k => (k, goalT ts k)))) ⟨Same.new hM, [], upd_same, .nil⟩ (fun i H' _ z => (hy1.same z.1).sq) ?_ ?_
    · rintro i v H2 H3 hi ⟨sm, ps, hM2, hp⟩ ⟨rfl, hx⟩
      obtain ⟨z, hz, rfl⟩ := get_map hx
      have hzm := am z (List.mem_of_getElem? hz)
      have s13 := Same.trans s1 sm
      have il : i < ys.length := (List.getElem?_eq_some_iff.mp hz).1
      refine ⟨rfl, ?_⟩
      dsimp only [tYes]
      rw [if_pos rfl]
      refine ⟨_, rfl, _, rfl, t, _, _, _, rfl, rfl, SqT.of (s13 _ _ ht), atI_nat (j := 1) rfl, _, rfl, a, _, rfl, .inl ⟨kT ts, .inr z, .inl (s13 _ _ ha), rfl, (valV_goal hzm).symm⟩, by show 2 ≤ sizeLine; decide, fun T1 hT1 => ?_⟩
      have g := Same.new (o := .tup [.str z, .str (goalT ts z)]) hT1
      have nT : T1 ≠ M := fun e => by rw [e, hM2] at hT1; cases hT1
      have lps : ps.length ≤ 64 := by rw [paired_len hp, kT, List.length_map, List.length_map, List.length_take]; omega
      refine ⟨_, g _ _ hM2, by rw [List.length_map, sizeLine_eq]; omega, fun c u e => ?_, ps ++ [T1], by rw [upd_same, List.map_append]; rfl, ?_⟩
      · rw [upd_ne (ne_of_none e hM)]; exact g _ _ (sm _ _ e)
      · rw [cut_upd (by simp), take_succ_get hz, List.map_append, kT_app]
        exact pair_app (paired_imp (fun p kv e => cut_same g _ _ e) hp) (by rw [cut_out (by simpa using nT)]; exact upd_same)
    · rintro H2 ⟨sm, ps, hM2, hp⟩
      rw [List.length_map, List.take_length, ey, show (srt (ts.map (·.1))).map (fun k => (k, goalT ts k)) = ordT ts from rfl] at hp
      have s12 := Same.trans s1 sm
      refine ⟨M, ps, kT (ordT ts), rfl, SqL.of hM2, paired_imp (fun p kv e => SqT.of (cut_le _ _ e)) hp, fun B hB => ?_⟩
      rw [merge_id2 (by rw [kT_keys]; exact inr_nd' (ordT_nd nd))]
      have s3 := Same.new (o := .dK (kT (ordT ts))) hB
      have hB3 : TurnsAt (L2.upd H2 B (.dK (kT (ordT ts)))) B (ordT ts) := upd_same
      generalize L2.upd H2 B (.dK (kT (ordT ts))) = H3 at s3 hB3
      refine ⟨by show 2 ≤ sizeLine; decide, fun T1 hT1 => ?_⟩
      exact k _ _ _ (Same.trans (Same.trans s12 s3) (Same.new hT1)) ((Same.trans s12 s3).free hT1) (s12.free hB) upd_same (hB3.same (Same.new hT1))
theorem scOr : FnScope ["_law_book", "_law_state"] ["_law_book"] (defScope sOrdered) := ⟨rfl, rfl, rfl, by decide +kernel, rfl, by decide +kernel, by decide +kernel⟩
theorem ok_ordered {f : Addr} {fd : FuncData} (F : Fun K "_law_ordered" "_law_ordered" sOrdered f fd) (T : Free3 mg) (CR : CRowOrd P w K mg base) : FnOk P w K mg base CX0 2 f fd ["_law_book"] spOrdered := by
  refine F.ok scOr (fun vs H Q E h => ?_) (fun cdv A outer s H vs Q E hr h => ?_)
  · obtain ⟨b, bk, rfl, _⟩ := h; rfl
  · obtain ⟨b, bk, rfl, ⟨kvs, hb, hR⟩, ok, k⟩ := h
    have hu := hu_of hr
    refine ⟨_, pss_one (ps_ret (pe_callTy (call_dictP rfl) (by rfl) T.dict (by decide +kernel) (pa_cons (pe_lc (own := [("_law_state", 1)]) (g := gName 1) (tt := tYes)
        (te := tTup (tCons (tVar 1) (tCons (tCall spRowOrd [] E0 (tCons (tDGet (tVar 0) (tVar 1)) tNil)) tNil))) rfl scOr.nd (pi_list (pe_callB (call_sortedD rfl) (by rfl) T.sorted (by decide +kernel) (pa_cons (pv 0) pa_nil)))
        (blkOk_by (N := ["_law_book", "_law_state"]) (sc := defScope sOrdered) (by decide +kernel)) (fun _ _ _ _ _ => pg_name (i := 1) scOr.nd rfl (Or.inl rfl)) (fun _ _ _ _ _ => pts_nil)
        (fun _ _ _ _ _ => pe_tup (pa_cons (pv 1) (pa_cons (pe_cal CR (hr.mono (by decide)) rfl (pa_cons (pe_dget hu (pv 0) (pv 1) (fun _ _ => rfl)) pa_nil)) pa_nil)))) pa_nil))), ?_⟩
    have ek : kvs.map (·.1) = (bk.map (·.1)).map Sum.inr := by rw [hR.keys, List.map_map]; rfl
    refine ⟨_, rfl, b, kvs, bk.map (·.1), rfl, hb, ek, by rw [List.length_map]; exact ok.len, fun ys q pm so hq => ?_⟩
    have ey := srt_of pm so
    have lq : ys.length < 64 := by rw [pm.length_eq, List.length_map]; exact ok.len
    have am : ∀ y ∈ ys, y ∈ bk.map (·.1) := fun y hy => pm.mem_iff.mp hy
    have ndy : ys.Nodup := pm.nodup_iff.mpr ok.nd
    have s1 := Same.new (o := .lst (ys.map V.str)) hq
    have hy1 : SL (L2.upd H q (.lst (ys.map V.str))) q ys := upd_same
    generalize L2.upd H q (.lst (ys.map V.str)) = H1 at s1 hy1
    refine ⟨q, rfl, ⟨_, hy1.sq⟩, fun M hM => ?_⟩
    refine lc_it (walk_list (K := K) (a := q) (xs := ys.map V.str)) (fun i H' => Same H1 H' ∧ ∃ (ps : List Addr) (kv2 : List (Key × V)), H' M = some (.lst (ps.map V.ref)) ∧ Paired (fun p (kv : Key × V) => (cut [M] H') p = some (.tup [kV kv.1, kv.2])) ps kv2 ∧ Rows (cut [M] H') kv2 ((ys.take i).map fun s => (s, (rowOf bk s).1, ordT (rowOf bk s).2))) ⟨Same.new hM, [], [], upd_same, .nil, .nil⟩ (fun i H' _ z => (hy1.same z.1).sq) ?_ ?_
    · rintro i v H2 H3 hi ⟨sm, ps, kv2, hM2, hp, hR2⟩ ⟨rfl, hx⟩
      obtain ⟨z, hz, rfl⟩ := get_map hx
      have hzm := am z (List.mem_of_getElem? hz)
      have s13 := Same.trans s1 sm
      have il : i < ys.length := (List.getElem?_eq_some_iff.mp hz).1
      obtain ⟨v, ev, hrow, hmem⟩ := (hR.same s13).look hzm
      refine ⟨rfl, ?_⟩
      dsimp only [tYes]
      rw [if_pos rfl]
      refine ⟨_, rfl, _, rfl, _, rfl, b, v, rfl, .inl ⟨kvs, .inr z, rd_same hb s13, rfl, ev.symm⟩, v, _, _, rfl, hrow, (ok.rs _ hmem).1, (ok.rs _ hmem).2, fun H4 T0 a0 s4 nT0 na0 hT0 ha0 => ?_⟩
      refine ⟨by show 2 ≤ sizeLine; decide, fun T1 hT1 => ?_⟩
      have g2 := Same.new (o := .tup [.str z, .ref T0]) hT1
      have g := Same.trans s4 g2
      have nT : T1 ≠ M := fun e => by rw [e, s4 _ _ hM2] at hT1; cases hT1
      have n0 : T0 ≠ M := fun e => by rw [e, hM2] at nT0; cases nT0
      have na : a0 ≠ M := fun e => by rw [e, hM2] at na0; cases na0
      have lps : ps.length ≤ 64 := by rw [paired_len hp, hR2.len, List.length_map, List.length_take]; omega
      refine ⟨_, g _ _ hM2, by rw [List.length_map, sizeLine_eq]; omega, fun c u e => ?_, ps ++ [T1], kv2 ++ [(.inr z, .ref T0)], by rw [upd_same, List.map_append]; rfl, ?_, ?_⟩
      · rw [upd_ne (ne_of_none e hM)]; exact g _ _ (sm _ _ e)
      · rw [cut_upd (by simp)]
        exact pair_app (paired_imp (fun p kv e => cut_same g _ _ e) hp) (by rw [cut_out (by simpa using nT)]; exact upd_same)
      · rw [cut_upd (by simp), take_succ_get hz, List.map_append]
        refine (hR2.same (cut_same g)).app ⟨T0, a0, rfl, ?_, ?_⟩
        · rw [cut_out (by simpa using n0)]; exact g2 _ _ hT0
        · rw [TurnsAt, cut_out (by simpa using na)]; exact g2 _ _ ha0
    · rintro H2 ⟨sm, ps, kv2, hM2, hp, hR2⟩
      rw [List.length_map, List.take_length, ey, show (srt (bk.map (·.1))).map (fun s => (s, (rowOf bk s).1, ordT (rowOf bk s).2)) = ordB bk from rfl] at hR2
      have s12 := Same.trans s1 sm
      refine ⟨M, ps, kv2, rfl, SqL.of hM2, paired_imp (fun p kv e => SqT.of (cut_le _ _ e)) hp, fun B hB => ?_⟩
      have e1 : kv2.map (·.1) = ((ordB bk).map (·.1)).map Sum.inr := by rw [hR2.keys, List.map_map]; rfl
      rw [merge_id2 (by rw [e1]; exact inr_nd' (by rw [ordB_names]; exact (srt_perm _).nodup_iff.mpr ok.nd))]
      exact k _ _ (Same.trans s12 (Same.new hB)) (s12.free hB) ⟨kv2, upd_same, (hR2.same cut_le).same (Same.new hB)⟩
end
end D1
end L2
/-! the law's mixed_up -/
namespace L2
namespace D1
open PySem PySem.Spec PyProof.Rows D2 X3
abbrev sMixed2 : Stmt := top 47
theorem kT_keys2 (ts : List (Str × Str)) : (kT ts).map (·.1) = (ts.map (·.1)).map Sum.inr := by rw [kT, List.map_map, List.map_map]; rfl
/-- a row of a mixed book -/
def RowMix (bk : Bk) (r : RowD) : Prop := r.1 ∈ bk.map (·.1) ∧ r.2.1 = (rowOf bk r.1).1 ∧ (r.2.2.map (·.1)).Perm ((rowOf bk r.1).2.map (·.1)) ∧ ∀ t ∈ r.2.2, t.2 = goalT (rowOf bk r.1).2 t.1
/-- a book, its rows and words in another order -/
structure Mix (bk cl : Bk) : Prop where
  nm : (cl.map (·.1)).Perm (bk.map (·.1))
  rs : ∀ r ∈ cl, RowMix bk r
theorem Mix.row {bk cl : Bk} (m : Mix bk cl) {s : Str} (h : s ∈ cl.map (·.1)) : (rowOf cl s).1 = (rowOf bk s).1 ∧ ((rowOf cl s).2.map (·.1)).Perm ((rowOf bk s).2.map (·.1)) ∧ ∀ t ∈ (rowOf cl s).2, t.2 = goalT (rowOf bk s).2 t.1 := (m.rs _ (row_mem h)).2
theorem Mix.tk {bk cl : Bk} (m : Mix bk cl) (tk : ∀ r ∈ bk, (r.2.2.map (·.1)).Nodup) : ∀ r ∈ cl, (r.2.2.map (·.1)).Nodup := fun r hr => by
  obtain ⟨a, _, b, _⟩ := m.rs r hr
  exact b.nodup_iff.mpr (tk _ (row_mem a))
theorem Mix.ord {bk cl : Bk} (m : Mix bk cl) (nd : (bk.map (·.1)).Nodup) (tk : ∀ r ∈ bk, (r.2.2.map (·.1)).Nodup) : ordB cl = ordB bk := by
  refine ordB_eq m.nm fun s hs => ?_
  obtain ⟨a, b, c⟩ := m.row hs
  refine ⟨a, ?_⟩
  have n1 := m.tk tk _ (row_mem hs)
  unfold ordT
  rw [srt_congr b]
  refine List.map_congr_left fun k hk => ?_
  have hk := b.mem_iff.mpr ((srt_perm _).mem_iff.mp hk)
  obtain ⟨t, ht, rfl⟩ := List.mem_map.mp hk
  rw [goalT_at n1 ht, c t ht]
theorem Mix.dok {bk cl : Bk} {st : Str} (m : Mix bk cl) (ok : DOk bk st) : DOk cl st := by
  have l := m.nm.length_eq
  rw [List.length_map, List.length_map] at l
  have f : ∀ r ∈ cl, ∃ r0 ∈ bk, r.1 = r0.1 ∧ r.2.1 = r0.2.1 ∧ (r.2.2.map (·.1)).Perm (r0.2.2.map (·.1)) ∧ ∀ t ∈ r.2.2, t ∈ r0.2.2 := fun r hr => by
    obtain ⟨a, b, c, d⟩ := m.rs r hr
    refine ⟨_, row_mem a, rfl, b, c, fun t ht => ?_⟩
    have hk := c.mem_iff.mp (List.mem_map_of_mem (f := (·.1)) ht)
    obtain ⟨u, hu, e⟩ := List.mem_map.mp hk
    have := d t ht
    rw [← e, goalT_at (ok.tk _ (row_mem a)) hu] at this
    rw [show t = u from Prod.ext e.symm this]; exact hu
  refine ⟨⟨fun e => ?_, m.nm.nodup_iff.mpr ok.nd, by have := ok.len; omega, fun r hr => ?_, fun r hr => ?_⟩, m.tk ok.tk, m.nm.mem_iff.mpr ok.st⟩
  · have := ok.ne; rw [e] at l; exact this (List.length_eq_zero_iff.mp l.symm)
  · obtain ⟨r0, h0, e1, e2, e3, e4⟩ := f r hr
    obtain ⟨a, b, c⟩ := ok.rs r0 h0
    rw [e1]
    refine ⟨a, ?_, fun t ht => m.nm.mem_iff.mpr (c t (e4 t ht))⟩
    have l3 := e3.length_eq
    rw [List.length_map, List.length_map] at l3
    rw [e2]
    rcases b with ⟨b1, b2⟩ | ⟨b1, b2, b3, b4⟩
    · exact .inl ⟨b1, by rw [b2] at l3; exact List.length_eq_zero_iff.mp l3⟩
    · exact .inr ⟨b1, fun e => b2 (by rw [e] at l3; exact List.length_eq_zero_iff.mp l3.symm), by omega, fun t ht => b4 t (e4 t ht)⟩
  · obtain ⟨r0, h0, _, _, e3, _⟩ := f r hr
    have l3 := e3.length_eq
    rw [List.length_map, List.length_map] at l3
    have := ok.len2 r0 h0; omega
/-- pairs of a state and its row -/
def PairRows (H : Hp) (ps : List Addr) (cl : Bk) : Prop := Paired (fun q (r : RowD) => ∃ t a, H q = some (.tup [.str r.1, .ref t]) ∧ H t = some (.tup [.str r.2.1, .ref a]) ∧ TurnsAt H a r.2.2) ps cl
theorem PairRows.same {H H' : Hp} {ps : List Addr} {cl : Bk} (h : PairRows H ps cl) (s : Same H H') : PairRows H' ps cl := paired_imp (fun _ _ ⟨t, a, e1, e2, e3⟩ => ⟨t, a, s _ _ e1, s _ _ e2, s _ _ e3⟩) h
theorem PairRows.rows {K : PySem.W.Frag} {H G : Hp} (s : Same G H) : ∀ {ps : List Addr} {cl : Bk}, PairRows G ps cl → ∃ kvs : List (Key × V), Paired (fun p (kv : Key × V) => SqT K H p [kV kv.1, kv.2]) ps kvs ∧ Rows G kvs cl
  | _, _, .nil => ⟨[], .nil, .nil⟩
  | _, _, .cons (b := r) ⟨t, a, e1, e2, e3⟩ h => by
    obtain ⟨kvs, i1, i2⟩ := PairRows.rows s h
    exact ⟨(.inr r.1, .ref t) :: kvs, .cons (SqT.of (s _ _ e1)) i1, .cons ⟨rfl, t, a, rfl, e2, e3⟩ i2⟩
def spMixed2 : Sp := fun vs H Q _ => ∃ (p b : Addr) (bk : Bk) (t : Int), vs = [.ref p, .ref b] ∧ Purse H p t ∧ BookAt (cut [p] H) b bk ∧ (bk.map (·.1)).Nodup ∧ bk.length ≤ 60 ∧ (∀ r ∈ bk, (r.2.2.map (·.1)).Nodup ∧ r.2.2.length ≤ 60) ∧ t < 2 ^ 27 ∧
  ∀ (H' : Hp) (R : Addr) (cl : Bk) (t' : Int), But p H H' → Purse H' p t' → t' ≤ t + 4000 → H R = none → BookAt (newH H H') R cl → Mix bk cl → Q (.ref R) H'
section
variable {P : Program} {w : World} {K : PySem.W.Frag} {mg : Str → Option Value} {base : Heap}
abbrev mxN : List Str := ["_law_purse_here", "_law_book", "_law_found", "_law_state", "_law_kind", "_law_turns_here", "_law_word_here"]
theorem scMx : FnScope mxN ["_law_purse_here", "_law_book"] (defScope sMixed2) := ⟨rfl, rfl, rfl, by decide +kernel, rfl, by decide +kernel, by decide +kernel⟩
theorem ok_mixed2 {f : Addr} {fd : FuncData} (F : Fun K "_law_mixed_up" "_law_mixed_up" sMixed2 f fd) (T : Free3 mg) (CS : CShuf P w K mg base) : FnOk P w K mg base CX0 4 f fd ["_law_purse_here", "_law_book"] spMixed2 := by
  refine F.ok scMx (fun vs H Q E h => ?_) (fun cdv A outer s H vs Q E0' hr h => ?_)
  · obtain ⟨p, b, bk, t, rfl, _⟩ := h; rfl
  · obtain ⟨p, b, bk, t, rfl, hp, hbc, nd, l60, tk, t1, k⟩ := h
    have hu := hu_of hr
    refine ⟨_, pss_cons (ps_set (i := 2) scMx.nd rfl (Or.inl rfl) (pe_lst pa_nil))
      (pss_cons (ps_for PassesOwn.never rfl (pi_list (pe_cal CS (hr.mono (by decide)) rfl (pa_cons (pv 0) (pa_cons (pe_callB (call_sortedD rfl) (by rfl) T.sorted (by decide +kernel) (pa_cons (pv 1) pa_nil)) pa_nil)))) (pg_name (i := 3) scMx.nd rfl (Or.inl rfl))
        (pss_cons (ps_asg (pe_dget hu (pv 1) (pv 3) (fun _ _ => rfl)) (pg_tup rfl (pgs_cons (pg_name (i := 4) scMx.nd rfl (Or.inl rfl)) (pgs_cons (pg_name (i := 5) scMx.nd rfl (Or.inr rfl)) pgs_nil))))
        (pss_one (ps_expr (pe_bm PySem.F.plainAttrs_list PySem.F.slot_list_append PySem.F.type_list_append mt_append (pv 2) (pa_cons (pe_tup (pa_cons (pv 3) (pa_cons (pe_tup (pa_cons (pv 4) (pa_cons (pe_callTy (call_dictP rfl) (by rfl) T.dict (by decide +kernel) (pa_cons (pe_lc (own := [("_law_word_here", 6)]) (g := gName 6) (tt := tYes) (te := tTup (tCons (tVar 6) (tCons (tDGet (tVar 5) (tVar 6)) tNil))) rfl scMx.nd
            (pi_list (pe_cal CS (hr.mono (by decide)) rfl (pa_cons (pv 0) (pa_cons (pe_callB (call_sortedD rfl) (by rfl) T.sorted (by decide +kernel) (pa_cons (pv 5) pa_nil)) pa_nil))))
            (blkOk_by (N := mxN) (sc := defScope sMixed2) (by decide +kernel)) (fun _ _ _ _ _ => pg_name (i := 6) scMx.nd rfl (Or.inl rfl)) (fun _ _ _ _ _ => pts_nil) (fun _ _ _ _ _ => pe_tup (pa_cons (pv 6) (pa_cons (pe_dget hu (pv 5) (pv 6) (fun _ _ => rfl)) pa_nil)))) pa_nil)) pa_nil))) pa_nil))) pa_nil))))))
      (pss_one (ps_ret (pe_callTy (call_dictP rfl) (by rfl) T.dict (by decide +kernel) (pa_cons (pv 2) pa_nil))))), ?_⟩
    obtain ⟨kvs, hb0, hR0⟩ := id hbc
    have nbp : b ≠ p := fun e => by rw [e, cut_in (by simp)] at hb0; cases hb0
    have ek : kvs.map (·.1) = (bk.map (·.1)).map Sum.inr := by rw [hR0.keys, List.map_map]; rfl
    refine ⟨by show 0 ≤ sizeLine; decide, fun F hF => ?_⟩
    have nFp := hp.ne hF
    have g0 := Same.new (o := .lst []) hF
    have eF : (L2.upd H F (.lst [])) F = some (.lst []) := upd_same
    have hp0 := hp.new (o := .lst []) hF
    generalize L2.upd H F (.lst []) = H0 at g0 eF hp0
    refine ⟨_, rfl, _, rfl, b, kvs, bk.map (·.1), rfl, .inl (g0 _ _ (cut_le _ _ hb0)), ek, by rw [List.length_map]; omega, fun ys S pm so hS => ?_⟩
    have nSp := hp0.ne hS
    have g1 := Same.new (o := .lst (ys.map V.str)) hS
    refine ⟨p, S, _, t, rfl, hp0.new hS, upd_same, nSp, by rw [List.length_map, pm.length_eq, List.length_map]; omega, by omega, fun H2 R2 zs t2 b2 nR2 hz pm2 hp2 tt2 => ?_⟩
    obtain ⟨ss, rfl, pz⟩ := perm_str pm2
    have hz : SL H2 R2 ss := hz
    have b02 : But p H H2 := (But.of (Same.trans g0 g1)).trans b2
    have nSF : F ≠ S := ne_of_none eF hS
    have eF2 : H2 F = some (.lst []) := b2 _ _ nFp (g1 _ _ eF)
    have pmS := pz.trans pm
    have lss : ss.length = bk.length := by rw [pmS.length_eq, List.length_map]
    rw [List.length_map, pm.length_eq, List.length_map] at tt2
    refine ⟨R2, rfl, ⟨_, hz.sq⟩, ?_⟩
    have hpz : R2 ≠ p := fun e => by
      have := hp.some
      obtain ⟨g, bb, z, ep, _⟩ := hp0
      rw [e] at nR2; rw [g1 _ _ ep] at nR2; cases nR2
    have nRF : R2 ≠ F := fun e => by rw [e, g1 _ _ eF] at nR2; cases nR2
    refine for_list (K := K) (a := R2) (xs := ss.map V.str) (fun i σ H' => ∃ (v3 v4 v5 : Option V) (t' : Int) (cl : Bk) (ps : List Addr), σ = [some (.ref p), some (.ref b), some (.ref F), v3, v4, v5, none] ∧ But p H H' ∧ Purse H' p t' ∧ t' ≤ t + 60 + 60 * i ∧ SL H' R2 ss ∧ H' F = some (.lst (ps.map V.ref)) ∧ PairRows (cut [p, F] (newH H H')) ps cl ∧ cl.map (·.1) = ss.take i ∧ ∀ r ∈ cl, RowMix bk r)
      ⟨none, none, none, t2, [], [], rfl, b02, hp2, by omega, hz, eF2, .nil, rfl, fun r hr => by cases hr⟩ (fun i σ H' _ ⟨_, _, _, _, _, _, _, _, _, _, z, _⟩ => z.sq) ?_ ?_
    · rintro i x σ H3 hx ⟨v3, v4, v5, t3, cl, ps, rfl, b03, hp3, tt3, hz3, eF3, hPR, ecl, hmx⟩
      obtain ⟨z, hzi, rfl⟩ := get_map hx
      have il : i < ss.length := (List.getElem?_eq_some_iff.mp hzi).1
      have zm : z ∈ bk.map (·.1) := pmS.mem_iff.mp (List.mem_of_getElem? hzi)
      have hR3 : Rows (cut [p] H3) kvs bk := hR0.same b03.cut
      have hb3 : H3 b = some (.dK kvs) := cut_le _ _ (b03.cut _ _ hb0)
      obtain ⟨v, ev, ⟨tu, a, rfl, htu, ha⟩, hmm⟩ := hR3.look zm
      have htu := cut_le _ _ htu
      have ha : TurnsAt H3 a (rowOf bk z).2 := cut_le _ _ ha
      obtain ⟨tkz, tlz⟩ := tk _ (row_mem zm)
      have tkz : ((rowOf bk z).2.map (·.1)).Nodup := tkz
      have tlz : (rowOf bk z).2.length ≤ 60 := tlz
      refine ⟨_, rfl, _, rfl, b, _, rfl, .inl ⟨kvs, .inr z, .inl hb3, rfl, ev.symm⟩, tu, _, rfl, SqT.of htu, rfl, _, _, rfl, _, _, rfl, rfl, ?_⟩
      refine ⟨_, rfl, .inl ⟨rfl, _, SqL.of eF3⟩, _, rfl, _, rfl, _, rfl, _, rfl, a, kT (rowOf bk z).2, (rowOf bk z).2.map (·.1), rfl, .inl ha, kT_keys2 _, by rw [List.length_map]; omega, fun ws S3 pm3 so3 hS3 => ?_⟩
      have nS3p := hp3.ne hS3
      have g3 := Same.new (o := .lst (ws.map V.str)) hS3
      refine ⟨p, S3, _, t3, rfl, hp3.new hS3, upd_same, nS3p, by rw [List.length_map, pm3.length_eq, List.length_map]; omega, by omega, fun H4 R4 us t4 b4 nR4 hu4 pm4 hp4 tt4 => ?_⟩
      obtain ⟨xs, rfl, px⟩ := perm_str pm4
      have hu4 : SL H4 R4 xs := hu4
      have b34 : But p H3 H4 := (But.of g3).trans b4
      have pmX := px.trans pm3
      rw [List.length_map, pm3.length_eq, List.length_map] at tt4
      have nap : a ≠ p := fun e => by
        obtain ⟨g, bb, z, ep, _⟩ := hp3
        rw [TurnsAt, e, ep] at ha; cases ha
      have ha4 : TurnsAt H4 a (rowOf bk z).2 := b34 _ _ nap ha
      have ndx : xs.Nodup := pmX.nodup_iff.mpr tkz
      have lx : xs.length ≤ 60 := by rw [pmX.length_eq, List.length_map]; omega
      have mx : ∀ x ∈ xs, x ∈ (rowOf bk z).2.map (·.1) := fun x hx => pmX.mem_iff.mp hx
      refine ⟨R4, rfl, ⟨_, hu4.sq⟩, fun D hD => ?_⟩
      refine lc_list (K := K) (a := R4) (xs := xs.map V.str) (fun j H' => Same H4 H' ∧ ∃ qs : List Addr, H' D = some (.lst (qs.map V.ref)) ∧ Paired (fun a (kv : Key × V) => (cut [D] H') a = some (.tup [kV kv.1, kv.2])) qs (kT ((xs.take j).map fun x => (x, goalT (rowOf bk z).2 x)))) ⟨Same.new hD, [], upd_same, .nil⟩ (fun j H' _ z => (hu4.same z.1).sq) ?_ ?_
      · rintro j v H5 hx0 ⟨sm, qs, hD5, hpr⟩
        obtain ⟨x, hxj, rfl⟩ := get_map hx0
        have xm := mx x (List.mem_of_getElem? hxj)
        refine ⟨rfl, ?_⟩
        dsimp only [tYes]
        rw [if_pos rfl]
        refine ⟨_, rfl, _, rfl, _, rfl, a, _, rfl, .inl ⟨kT (rowOf bk z).2, .inr x, .inl (ha4.same sm), rfl, (valV_goal xm).symm⟩, by show 2 ≤ sizeLine; decide, fun T1 hT1 => ?_⟩
        have g := Same.new (o := .tup [.str x, .str (goalT (rowOf bk z).2 x)]) hT1
        have nT : T1 ≠ D := fun e => by rw [e, hD5] at hT1; cases hT1
        have lqs : qs.length ≤ 60 := by rw [paired_len hpr, kT, List.length_map, List.length_map, List.length_take]; omega
        refine ⟨_, g _ _ hD5, by rw [List.length_map, sizeLine_eq]; omega, fun c u e => ?_, qs ++ [T1], by rw [upd_same, List.map_append]; rfl, ?_⟩
        · rw [upd_ne (ne_of_none e hD)]; exact g _ _ (sm _ _ e)
        · rw [cut_upd (by simp), take_succ_get hxj, List.map_append, kT_app]
          exact pair_app (paired_imp (fun p kv e => cut_same g _ _ e) hpr) (by rw [cut_out (by simpa using nT)]; exact upd_same)
      rintro H5 ⟨s45, qs, hD5, hpr⟩
      rw [List.length_map, List.take_length] at hpr
      let zt : List (Str × Str) := xs.map fun x => (x, goalT (rowOf bk z).2 x)
      have ztk : zt.map (·.1) = xs := by rw [List.map_map]; exact List.map_id'' (fun _ => rfl) _
      refine ⟨D, qs, kT zt, rfl, SqL.of hD5, paired_imp (fun p kv e => SqT.of (cut_le _ _ e)) hpr, fun T hT => ?_⟩
      rw [merge_id2 (by rw [kT_keys2, ztk]; exact inr_nd' ndx)]
      have g6 := Same.new (o := .dK (kT zt)) hT
      have hT6 : TurnsAt (L2.upd H5 T (.dK (kT zt))) T zt := upd_same
      generalize L2.upd H5 T (.dK (kT zt)) = H6 at g6 hT6
      refine ⟨by show 2 ≤ sizeLine; decide, fun T1 hT1 => ?_⟩
      have g7 := Same.new (o := .tup [.str (rowOf bk z).1, .ref T]) hT1
      have e7 : (L2.upd H6 T1 (.tup [.str (rowOf bk z).1, .ref T])) T1 = some (.tup [.str (rowOf bk z).1, .ref T]) := upd_same
      generalize L2.upd H6 T1 (.tup [.str (rowOf bk z).1, .ref T]) = H7 at g7 e7
      refine ⟨by show 2 ≤ sizeLine; decide, fun T2 hT2 => ?_⟩
      have g8 := Same.new (o := .tup [.str z, .ref T1]) hT2
      have e8 : (L2.upd H7 T2 (.tup [.str z, .ref T1])) T2 = some (.tup [.str z, .ref T1]) := upd_same
      generalize L2.upd H7 T2 (.tup [.str z, .ref T1]) = H8 at g8 e8
      have s46 := Same.trans s45 g6
      have s48 := Same.trans (Same.trans s46 g7) g8
      have b38 := b34.trans (But.of s48)
      have eF8 : H8 F = some (.lst (ps.map V.ref)) := b38 _ _ nFp eF3
      have lps : ps.length ≤ 60 := by rw [paired_len hPR, ← List.length_map (·.1), ecl, List.length_take]; omega
      refine ⟨F, _, _, rfl, rfl, eF8, by rw [List.length_map, sizeLine_eq]; omega, ?_⟩
      have b08 := b03.trans b38
      have hp8 := hp4.same s48
      have fr : ∀ {c : Addr} {G : Hp}, But p H G → Purse G p t4 → G c = none → H c = none ∧ c ≠ p := fun {c G} bb pp e => ⟨bb.fr e (pp.ne e), pp.ne e⟩
      have b04 : But p H H4 := b03.trans b34
      obtain ⟨oT, nTp⟩ := fr (b04.trans (But.of s45)) (hp4.same s45) hT
      obtain ⟨oT1, nT1p⟩ := fr (b04.trans (But.of s46)) (hp4.same s46) hT1
      obtain ⟨oT2, nT2p⟩ := fr (b04.trans (But.of (Same.trans s46 g7))) (hp4.same (Same.trans s46 g7)) hT2
      have neF : ∀ {c : Addr} {G : Hp}, But p H3 G → G c = none → c ≠ F := fun {c G} bb e z => by rw [z, bb _ _ nFp eF3] at e; cases e
      have nTF := neF (b34.trans (But.of s45)) hT
      have nT1F := neF (b34.trans (But.of s46)) hT1
      have nT2F := neF (b34.trans (But.of (Same.trans s46 g7))) hT2
      refine ⟨_, _, _, t4, cl ++ [(z, (rowOf bk z).1, zt)], ps ++ [T2], rfl, fun c u nc e => ?_, hp8.upd nFp.symm, by omega, ?_, by rw [upd_same, List.map_append]; rfl, ?_, ?_, ?_⟩
      · rw [upd_ne (ne_of_none e hF)]; exact b08 _ _ nc e
      · rw [SL, upd_ne nRF]; exact b38 _ _ hpz hz3
      · have sC : Same (cut [p, F] (newH H H3)) (cut [p, F] (newH H (L2.upd H8 F (.lst ((ps ++ [T2]).map V.ref))))) := fun c u e => by
          obtain ⟨nc, e⟩ := cut_some e
          obtain ⟨n, e⟩ := new_some e
          have nc1 : c ≠ p := fun z => nc (by rw [z]; simp)
          have nc2 : c ≠ F := fun z => nc (by rw [z]; simp)
          rw [cut_out nc, new_out n, upd_ne nc2]
          exact b38 _ _ nc1 e
        have at_ : ∀ {c : Addr} {u : HO}, H c = none → c ≠ p → c ≠ F → H8 c = some u → (cut [p, F] (newH H (L2.upd H8 F (.lst ((ps ++ [T2]).map V.ref))))) c = some u := fun {c u} n n1 n2 e => by
          rw [cut_out (by simp [n1, n2]), new_out n, upd_ne n2]; exact e
        rw [show (ps.map V.ref ++ [V.ref T2]) = (ps ++ [T2]).map V.ref by rw [List.map_append]; rfl]
        exact pair_app (hPR.same sC) ⟨T1, T, at_ oT2 nT2p nT2F e8, at_ oT1 nT1p nT1F (g8 _ _ e7), at_ oT nTp nTF (g8 _ _ (g7 _ _ hT6))⟩
      · rw [List.map_append, ecl, take_succ_get hzi]; rfl
      · intro r hr
        rcases List.mem_append.mp hr with h | h
        · exact hmx r h
        · rw [List.mem_singleton.mp h]
          refine ⟨zm, rfl, by rw [ztk]; exact pmX, fun t ht => ?_⟩
          obtain ⟨x, _, rfl⟩ := List.mem_map.mp ht
          rfl
    rintro σ H3 ⟨v3, v4, v5, t3, cl, ps, rfl, b03, hp3, tt3, hz3, eF3, hPR, ecl, hmx⟩
    rw [List.length_map] at tt3 ecl
    rw [List.take_length] at ecl
    obtain ⟨kvs2, q1, q2⟩ := PairRows.rows (K := K) (Same.trans (cut_le (S := [p, F])) new_le) hPR
    refine ⟨_, rfl, F, ps, kvs2, rfl, SqL.of eF3, q1, fun R hR => ?_⟩
    have nd2 : (kvs2.map (·.1)).Nodup := by
      rw [q2.keys, show (cl.map fun r => (Sum.inr r.1 : Key)) = (cl.map (·.1)).map Sum.inr by rw [List.map_map]; rfl, ecl]
      exact inr_nd' (pmS.nodup_iff.mpr nd)
    rw [merge_id2 nd2]
    have gR := Same.new (o := .dK kvs2) hR
    have nRp := hp3.ne hR
    have oR : H R = none := b03.fr hR nRp
    refine k _ R cl t3 (b03.trans (But.of gR)) (hp3.new hR) (by omega) oR ⟨kvs2, by rw [new_out oR]; exact upd_same, ?_⟩ ⟨by rw [ecl]; exact pmS, hmx⟩
    exact q2.same (fun c u e => new_same gR _ _ (cut_le _ _ e))
end
end D1
end L2
/-! what is asked of a desk: book_with, states, kinds, turns, words -/
namespace L2
namespace D2
open PySem PySem.Spec PyProof.Rows D1 X3 X4
abbrev sBookWith : Stmt := top 18
abbrev sStates : Stmt := top 20
abbrev sKind : Stmt := top 21
abbrev sTurnsOf : Stmt := top 22
abbrev sWordsOf : Stmt := top 23
theorem tx_asym (x y : Value) (h : ltTx x y = true) : ltTx y x = false := by
  rcases leC_total (txv x).cps.toList (txv y).cps.toList with z | z
  · exact z
  · have z : ltTx x y = false := z
    rw [z] at h; cases h
theorem swo_tx : SrtO.Swo ltTx := ⟨tx_asym, fun x y z h1 h2 => leC_trans (a := (txv x).cps.toList) (b := (txv y).cps.toList) (c := (txv z).cps.toList) h1 h2⟩
def spBookWith (C : Addr) : Sp := fun vs H Q _ => ∃ (q : Addr) (bk : Bk) (st s : Str), vs = [.ref q, .str s] ∧ DeskAt C H q bk st ∧ DOk bk st ∧ s ∈ bk.map (·.1) ∧ ∀ H' R, Same H H' → H R = none → BookAt H' R (ordB bk) → BookAt (newH H H') R (ordB bk) → Q (.ref R) H'
def spStates (C : Addr) : Sp := fun vs H Q _ => ∃ (q : Addr) (bk : Bk) (st : Str), vs = [.ref q] ∧ DeskAt C H q bk st ∧ DOk bk st ∧ ∀ H' R, Same H H' → H R = none → SL H' R (srt (bk.map (·.1))) → Q (.ref R) H'
def spKind (C : Addr) : Sp := fun vs H Q _ => ∃ (q : Addr) (bk : Bk) (st s : Str), vs = [.ref q, .str s] ∧ DeskAt C H q bk st ∧ DOk bk st ∧ s ∈ bk.map (·.1) ∧ ∀ H', Same H H' → Q (.str (rowOf bk s).1) H'
def spTurnsOf (C : Addr) : Sp := fun vs H Q _ => ∃ (q : Addr) (bk : Bk) (st s : Str), vs = [.ref q, .str s] ∧ DeskAt C H q bk st ∧ DOk bk st ∧ s ∈ bk.map (·.1) ∧ ∀ H' R, Same H H' → H R = none → TurnsAt H' R (ordT (rowOf bk s).2) → Q (.ref R) H'
/-- the words of a book, ascending -/
structure WordsOf (bk : Bk) (ys : List Str) : Prop where
  nd : ys.Nodup
  so : ys.Pairwise leS
  mem : ∀ x, x ∈ ys ↔ ∃ r ∈ bk, x ∈ r.2.2.map (·.1)
theorem WordsOf.one {bk bk' : Bk} {ys zs : List Str} (h : WordsOf bk ys) (g : WordsOf bk' zs) (e : ∀ x, (∃ r ∈ bk, x ∈ r.2.2.map (·.1)) ↔ ∃ r ∈ bk', x ∈ r.2.2.map (·.1)) : ys = zs := by
  refine pw_unique ?_ h.so g.so
  refine perm_of_nodup g.nd (fun x hx => (h.mem x).mpr ((e x).mpr ((g.mem x).mp hx))) ?_
  have a := pigeon ys zs h.nd fun x hx => (g.mem x).mpr ((e x).mp ((h.mem x).mp hx))
  have b := pigeon zs ys g.nd fun x hx => (h.mem x).mpr ((e x).mpr ((g.mem x).mp hx))
  omega
def spWordsOf (C : Addr) : Sp := fun vs H Q _ => ∃ (q : Addr) (bk : Bk) (st : Str), vs = [.ref q] ∧ DeskAt C H q bk st ∧ DOk bk st ∧ ∀ H' R ys, Same H H' → H R = none → SL H' R ys → WordsOf bk ys → Q (.ref R) H'
section
variable {P : Program} {w : World} {K : PySem.W.Frag} {mg : Str → Option Value} {base : Heap} {C : Addr}
abbrev CBookWith (P : Program) (w : World) (K : PySem.W.Frag) (mg : Str → Option Value) (base : Heap) (C : Addr) := Cal P w K mg base "book_with" 4 ["desk", "state"] (spBookWith C)
theorem scBw : FnScope ["desk", "state", "book"] ["desk", "state"] (defScope sBookWith) := ⟨rfl, rfl, rfl, by decide +kernel, rfl, by decide +kernel, by decide +kernel⟩
theorem ok_bookwith {f : Addr} {fd : FuncData} (F : Fun K "book_with" "book_with" sBookWith f fd) (D : DTxt K mg C) (MB : CMBook P w K mg base C) (CN : CNeed P w K mg base C) (CS : CIsState P w K mg base) : FnOk P w K mg base CX0 4 f fd ["desk", "state"] (spBookWith C) := by
  obtain ⟨fB, fdB, mB, FB, bB⟩ := MB.ex
  refine F.ok scBw (fun vs H Q E h => ?_) (fun cdv A outer s H vs Q E hr h => ?_)
  · obtain ⟨q, bk, st, s, rfl, _⟩ := h; rfl
  · obtain ⟨q, bk, st, s0, rfl, hq, ok, hs, k⟩ := h
    refine ⟨_, pss_cons (ps_expr (pe_cal CN (hr.mono (by decide)) rfl (pa_cons (pv 0) pa_nil)))
      (pss_cons (ps_set (i := 2) scBw.nd rfl (Or.inl rfl) (pe_meth0 (pv 0) D.cl mB FB (hr.mono (by decide)) bB .nil pass0))
      (pss_cons (ps_if (pt_not (pt_val (pe_cal CS (hr.mono (by decide)) rfl (pa_cons (pv 2) (pa_cons (pv 1) pa_nil))))) (pss_one ps_never) pss_nil)
      (pss_one (ps_ret (pv 2))))), ?_⟩
    obtain ⟨dx, b0, e0, hb0⟩ := id hq
    refine ⟨_, rfl, q, dx, _, rfl, e0, ?_⟩
    refine ⟨_, rfl, q, dx, _, rfl, e0, dflds_no _ _ (by decide +kernel) (by decide +kernel), q, bk, st, rfl, hq, ok, fun H1 B s1 nB hB hBN => ?_⟩
    obtain ⟨kvs, hk, hR⟩ := id hB
    obtain ⟨v, ev, _⟩ := hR.look (s := s0) (by rw [ordB_names]; exact (srt_perm _).mem_iff.mpr hs)
    refine ⟨_, rfl, _, rfl, B, kvs, s0, rfl, .inl hk, by rw [ev]; rfl, _, rfl, iteF ?_⟩
    exact ⟨_, rfl, k H1 B s1 nB hB hBN⟩
theorem scSt : FnScope ["desk"] ["desk"] (defScope sStates) := ⟨rfl, rfl, rfl, by decide +kernel, rfl, by decide +kernel, by decide +kernel⟩
theorem ok_states {f : Addr} {fd : FuncData} (F : Fun K "states_of" "states_of" sStates f fd) (T : Free3 mg) (D : DTxt K mg C) (MB : CMBook P w K mg base C) (CN : CNeed P w K mg base C) : FnOk P w K mg base CX0 4 f fd ["desk"] (spStates C) := by
  obtain ⟨fB, fdB, mB, FB, bB⟩ := MB.ex
  refine F.ok scSt (fun vs H Q E h => ?_) (fun cdv A outer s H vs Q E hr h => ?_)
  · obtain ⟨q, bk, st, rfl, _⟩ := h; rfl
  · obtain ⟨q, bk, st, rfl, hq, ok, k⟩ := h
    refine ⟨_, pss_cons (ps_expr (pe_cal CN (hr.mono (by decide)) rfl (pa_cons (pv 0) pa_nil)))
      (pss_one (ps_ret (pe_callTy (call_listD rfl) (by rfl) T.list (by decide +kernel) (pa_cons (pe_meth0 (pv 0) D.cl mB FB (hr.mono (by decide)) bB .nil pass0) pa_nil)))), ?_⟩
    obtain ⟨dx, b0, e0, hb0⟩ := id hq
    refine ⟨_, rfl, q, dx, _, rfl, e0, ?_⟩
    refine ⟨_, rfl, q, dx, _, rfl, e0, dflds_no _ _ (by decide +kernel) (by decide +kernel), q, bk, st, rfl, hq, ok, fun H1 B s1 nB hB hBN => ?_⟩
    obtain ⟨kvs, hk, hR⟩ := id hB
    refine ⟨B, kvs, rfl, .inl hk, fun p hp => k _ p (Same.trans s1 (Same.new hp)) (s1.free hp) ?_⟩
    have e : kvs.map (fun kv => kV kv.1) = (srt (bk.map (·.1))).map V.str := by
      have := congrArg (List.map kV) hR.keys
      rw [List.map_map, List.map_map] at this
      rw [← ordB_names, List.map_map]
      exact this
    rw [SL, upd_same, e]
theorem scKi : FnScope ["desk", "state", "book"] ["desk", "state"] (defScope sKind) := ⟨rfl, rfl, rfl, by decide +kernel, rfl, by decide +kernel, by decide +kernel⟩
theorem ok_kind {f : Addr} {fd : FuncData} (F : Fun K "kind_of" "kind_of" sKind f fd) (CB : CBookWith P w K mg base C) : FnOk P w K mg base CX0 5 f fd ["desk", "state"] (spKind C) := by
  refine F.ok scKi (fun vs H Q E h => ?_) (fun cdv A outer s H vs Q E hr h => ?_)
  · obtain ⟨q, bk, st, s, rfl, _⟩ := h; rfl
  · obtain ⟨q, bk, st, s0, rfl, hq, ok, hs, k⟩ := h
    have hu := hu_of hr
    refine ⟨_, pss_cons (ps_set (i := 2) scKi.nd rfl (Or.inl rfl) (pe_cal CB (hr.mono (by decide)) rfl (pa_cons (pv 0) (pa_cons (pv 1) pa_nil))))
      (pss_one (ps_ret (pe_ix ix_tup (pe_dget hu (pv 2) (pv 1) (fun _ _ => rfl)) pe_int (fun _ _ => rfl)))), ?_⟩
    refine ⟨_, rfl, _, rfl, q, bk, st, s0, rfl, hq, ok, hs, fun H1 B s1 nB ⟨kvs, hk, hR⟩ hBN => ?_⟩
    obtain ⟨v, ev, ⟨t, a, rfl, ht, ha⟩, _⟩ := hR.look (s := s0) (by rw [ordB_names]; exact (srt_perm _).mem_iff.mpr hs)
    rw [rowOf_ord ok.nd hs] at ht ha
    refine ⟨_, rfl, _, rfl, B, _, rfl, .inl ⟨kvs, .inr s0, .inl hk, rfl, ev.symm⟩, t, _, _, _, rfl, rfl, SqT.of ht, atI_nat (j := 0) rfl, k H1 s1⟩
theorem scTo : FnScope ["desk", "state", "book"] ["desk", "state"] (defScope sTurnsOf) := ⟨rfl, rfl, rfl, by decide +kernel, rfl, by decide +kernel, by decide +kernel⟩
theorem ok_turnsof {f : Addr} {fd : FuncData} (F : Fun K "turns_of" "turns_of" sTurnsOf f fd) (CB : CBookWith P w K mg base C) : FnOk P w K mg base CX0 5 f fd ["desk", "state"] (spTurnsOf C) := by
  refine F.ok scTo (fun vs H Q E h => ?_) (fun cdv A outer s H vs Q E hr h => ?_)
  · obtain ⟨q, bk, st, s, rfl, _⟩ := h; rfl
  · obtain ⟨q, bk, st, s0, rfl, hq, ok, hs, k⟩ := h
    have hu := hu_of hr
    refine ⟨_, pss_cons (ps_set (i := 2) scTo.nd rfl (Or.inl rfl) (pe_cal CB (hr.mono (by decide)) rfl (pa_cons (pv 0) (pa_cons (pv 1) pa_nil))))
      (pss_one (ps_ret (pe_ix ix_tup (pe_dget hu (pv 2) (pv 1) (fun _ _ => rfl)) pe_int (fun _ _ => rfl)))), ?_⟩
    refine ⟨_, rfl, _, rfl, q, bk, st, s0, rfl, hq, ok, hs, fun H1 B s1 nB ⟨kvs, hk, hR⟩ hBN => ?_⟩
    obtain ⟨v, ev, ⟨t, a, rfl, ht, ha⟩, _⟩ := hR.look (s := s0) (by rw [ordB_names]; exact (srt_perm _).mem_iff.mpr hs)
    rw [rowOf_ord ok.nd hs] at ht ha
    have na : H a = none := by
      obtain ⟨kvs9, hk9, hR9⟩ := hBN
      obtain ⟨v9, ev9, ⟨t9, a9, e9, ht9, ha9⟩, _⟩ := hR9.look (s := s0) (by rw [ordB_names]; exact (srt_perm _).mem_iff.mpr hs)
      have z := (new_some hk9).2
      rw [hk] at z
      have z : kvs = kvs9 := by injection (Option.some.inj z)
      subst z
      rw [ev] at ev9
      cases ev9
      cases e9
      have z2 := (new_some ht9).2
      rw [ht] at z2
      have z2 := HO.tup.inj (Option.some.inj z2)
      injection z2 with _ z3
      injection z3 with z4
      injection z4 with z5
      rw [z5]; exact (new_some ha9).1
    refine ⟨_, rfl, _, rfl, B, _, rfl, .inl ⟨kvs, .inr s0, .inl hk, rfl, ev.symm⟩, t, _, _, _, rfl, rfl, SqT.of ht, atI_nat (j := 1) rfl, k H1 a s1 na ha⟩
end
end D2
end L2
/-! words_of -/
namespace L2
namespace D2
open PySem PySem.Spec PyProof.Rows D1 X3 X4
theorem graph_ne {H : Hp} {g a : Addr} {kvs : List (Key × V)} {bk : Bk} {ts : List (Str × Str)} (hg : H g = some (.dK kvs)) (h : GRows H kvs bk) (ne : bk ≠ []) (ha : TurnsAt H a ts) : a ≠ g := fun e => by
  rw [TurnsAt, e, hg] at ha
  have ek : kvs = kT ts := by injection ha with z; injection z
  cases h with
  | nil => exact ne rfl
  | @cons x r kv2 bk2 h1 _ =>
    cases ts with
    | nil => cases ek
    | cons y ys =>
      have e1 : x = (Sum.inr y.1, V.str y.2) := (List.cons.inj ek).1
      obtain ⟨_, a', e2, _⟩ := h1
      rw [e1] at e2
      cases e2
theorem grows_addrs {H : Hp} {kvs : List (Key × V)} {bk : Bk} (h : GRows H kvs bk) : ∃ as : List Addr, (∀ a ∈ as, ∃ ts, TurnsAt H a ts) ∧ ∀ (i : Nat) kk v, kvs[i]? = some (kk, v) → ∃ r a, bk[i]? = some r ∧ kk = Sum.inr r.1 ∧ v = .ref a ∧ a ∈ as ∧ TurnsAt H a r.2.2 := by
  unfold GRows at h
  induction h with
  | nil => exact ⟨[], by simp, fun i kk v e => by simp at e⟩
  | @cons x r kvs bk h1 _ ih =>
    obtain ⟨as, g1, g2⟩ := ih
    obtain ⟨e1, a, e2, h3⟩ := h1
    refine ⟨a :: as, fun b hb => ?_, fun i kk v e => ?_⟩
    · rcases List.mem_cons.mp hb with z | z
      · rw [z]; exact ⟨_, h3⟩
      · exact g1 b z
    · cases i with
      | zero =>
        have e : x = (kk, v) := Option.some.inj e
        refine ⟨r, a, rfl, ?_, ?_, List.mem_cons_self, h3⟩
        · rw [← e1, e]
        · rw [← e2, e]
      | succ i =>
        obtain ⟨r', a', q1, q2, q3, q4, q5⟩ := g2 i kk v e
        exact ⟨r', a', q1, q2, q3, List.mem_cons_of_mem _ q4, q5⟩
theorem mem_ins {l : List Str} {t x : Str} : x ∈ (if t ∈ l then l else t :: l) ↔ x ∈ l ∨ x = t := by
  by_cases c : t ∈ l
  · rw [if_pos c]
    exact ⟨.inl, fun h => h.elim id fun e => e ▸ c⟩
  · rw [if_neg c, List.mem_cons]
    exact ⟨fun h => h.elim .inr .inl, fun h => h.elim .inr .inl⟩
theorem nd_ins {l : List Str} {t : Str} (nd : l.Nodup) : (if t ∈ l then l else t :: l).Nodup := by
  by_cases c : t ∈ l
  · rw [if_pos c]; exact nd
  · rw [if_neg c]; exact List.nodup_cons.mpr ⟨c, nd⟩
theorem len_ins {l : List Str} {t : Str} : (if t ∈ l then l else t :: l).length ≤ l.length + 1 := by
  by_cases c : t ∈ l
  · rw [if_pos c]; omega
  · rw [if_neg c]; exact Nat.le_refl _
theorem keys_ord {bk : Bk} (nd : (bk.map (·.1)).Nodup) (x : Str) : (∃ r ∈ ordB bk, x ∈ r.2.2.map (·.1)) ↔ ∃ r ∈ bk, x ∈ r.2.2.map (·.1) := by
  constructor
  · rintro ⟨r, hr, hx⟩
    obtain ⟨r0, h0, _, _, e⟩ := mem_ordB nd hr
    rw [e, ordT_keys] at hx
    exact ⟨r0, h0, (srt_perm _).mem_iff.mp hx⟩
  · rintro ⟨r, hr, hx⟩
    have hm : r.1 ∈ bk.map (·.1) := List.mem_map_of_mem hr
    refine ⟨(r.1, (rowOf bk r.1).1, ordT (rowOf bk r.1).2), List.mem_map.mpr ⟨r.1, (srt_perm _).mem_iff.mpr hm, rfl⟩, ?_⟩
    show x ∈ (ordT (rowOf bk r.1).2).map (·.1)
    rw [ordT_keys, rowOf_self nd hr]
    exact (srt_perm _).mem_iff.mpr hx
section
variable {P : Program} {w : World} {K : PySem.W.Frag} {mg : Str → Option Value} {base : Heap} {C : Addr}
theorem scWf : FnScope ["desk", "graph", "state", "word"] ["desk"] (defScope sWordsOf) := ⟨rfl, rfl, rfl, by decide +kernel, rfl, by decide +kernel, by decide +kernel⟩
theorem ok_wordsof {f : Addr} {fd : FuncData} (F : Fun K "words_of" "words_of" sWordsOf f fd) (T : Free3 mg) (CN : CNeed P w K mg base C) (CG : CGraph P w K mg base C) : FnOk P w K mg base CX0 5 f fd ["desk"] (spWordsOf C) := by
  refine F.ok scWf (fun vs H Q E h => ?_) (fun cdv A outer s H vs Q E hr h => ?_)
  · obtain ⟨q, bk, st, rfl, _⟩ := h; rfl
  · obtain ⟨q, bk, st, rfl, hq, ok, k⟩ := h
    have hu := hu_of hr
    refine ⟨_, pss_cons (ps_expr (pe_cal CN (hr.mono (by decide)) rfl (pa_cons (pv 0) pa_nil)))
      (pss_cons (ps_set (i := 1) scWf.nd rfl (Or.inr rfl) (pe_cal CG (hr.mono (by decide)) rfl (pa_cons (pv 0) pa_nil)))
      (pss_one (ps_ret (pe_callB (cr_sortSetT swo_tx rfl) (by rfl) T.sorted (by decide +kernel) (pa_cons (pe_lkAny (pe_sc2 (own := [("state", 2), ("word", 3)]) (vB := [3]) (gA := gName 2) (gB := gName 3) (wB := iKeys (tDGet (tVar 1) (tVar 2))) (te := tVar 3) rfl scWf.nd (pi_keys (pv 1))
          (blkOk_by (N := ["desk", "graph", "state", "word"]) (sc := defScope sWordsOf) (by decide +kernel)) (by decide) (fun _ _ _ _ _ => pg_name (i := 2) scWf.nd rfl (Or.inl rfl))
          (fun _ _ _ _ _ => pi_keys (pe_dget hu (pv 1) (pv 2) (fun _ _ => rfl))) (fun _ _ _ _ _ => pg_name (i := 3) scWf.nd rfl (Or.inl rfl)) (fun _ _ _ _ _ => pv 3))) pa_nil))))), ?_⟩
    obtain ⟨dx, b0, e0, hb0⟩ := id hq
    refine ⟨_, rfl, q, dx, _, rfl, e0, ?_⟩
    refine ⟨_, rfl, q, bk, st, rfl, hq, ok, fun H1 G s1 ⟨kvs, hk, hG⟩ => ?_⟩
    obtain ⟨as, ga1, ga2⟩ := grows_addrs hG
    obtain ⟨ds, nds, hds⟩ := dedup as
    have nG : G ∉ ds := fun z => by
      obtain ⟨ts, hts⟩ := ga1 G ((hds G).mp z)
      exact graph_ne hk hG (ordB_ne ok.ne) hts rfl
    have lkv : kvs.length = (ordB bk).length := by
      have := congrArg List.length hG.keys
      rwa [List.length_map, List.length_map] at this
    have l60 := ok.len
    rw [ordB_len] at lkv
    refine ⟨(G :: ds).length, lk_all _ _ (fun v H3 => ∃ D l, v = .ref D ∧ D ∉ G :: ds ∧ l.Nodup ∧ (∀ x, x ∈ l ↔ ∃ r ∈ ordB bk, x ∈ r.2.2.map (·.1)) ∧ H3 D = some (SetTO P w D l)) (G :: ds) H1 _ (List.nodup_cons.mpr ⟨nG, nds⟩) (fun d hd => ?_) ?_ ?_⟩
    · rcases List.mem_cons.mp hd with e | e
      · rw [e]; exact ⟨_, hk, trivial⟩
      · obtain ⟨ts, hts⟩ := ga1 d ((hds d).mp e)
        exact ⟨_, hts, trivial⟩
    · intro H2 Q2 lk k2
      obtain ⟨od, u, h1, hG2⟩ := lk.2 G List.mem_cons_self
      rw [hk] at h1
      cases h1
      refine ⟨_, rfl, G, od, rfl, .inl ⟨kvs, hG2, fun D hD => ?_⟩⟩
      have nDd : D ∉ G :: ds := fun z => by
        obtain ⟨_, _, _, h3⟩ := lk.2 D z
        rw [h3] at hD; cases hD
      refine lp_it (walk_keys (d := G) (o := od) (kvs := kvs)) (fun i H' => Same H2 H' ∧ ∃ l : List Str, l.Nodup ∧ l.length ≤ 60 * i ∧ (∀ x, x ∈ l ↔ ∃ r ∈ (ordB bk).take i, x ∈ r.2.2.map (·.1)) ∧ H' D = some (SetTO P w D l))
        ⟨Same.new hD, [], List.nodup_nil, Nat.le_refl _, fun x => by simp, upd_same⟩ (fun i H' _ z => z.1 _ _ hG2) ?_ ?_
      · rintro i x H6 H7 hi ⟨sm, l, nd, ll, lm, hl⟩ ⟨rfl, kk, v0, hkv, rfl⟩
        obtain ⟨r, a, hr', rfl, rfl, haa, hta⟩ := ga2 i kk v0 hkv
        have hrm : r ∈ ordB bk := List.mem_of_getElem? hr'
        obtain ⟨oa, ua, h3, ha3⟩ := lk.2 a (List.mem_cons_of_mem _ ((hds a).mpr haa))
        rw [hta] at h3
        cases h3
        have r60 : r.2.2.length ≤ 60 := by
          obtain ⟨r0, h0, _, _, e⟩ := mem_ordB ok.nd hrm
          rw [e, ordT_len]; exact ok.len2 r0 h0
        have vk : valV kvs (.inr r.1) = some (.ref a) := val_at (by rw [hG.keys, show (ordB bk).map (fun r => (Sum.inr r.1 : Key)) = ((ordB bk).map (·.1)).map Sum.inr by rw [List.map_map]; rfl]; exact inr_nd' ok.ond) hkv
        refine ⟨rfl, _, rfl, _, rfl, G, _, rfl, .inl ⟨kvs, .inr r.1, .inr ⟨od, sm _ _ hG2⟩, rfl, vk.symm⟩, a, oa, rfl, .inl ⟨kT r.2.2, sm _ _ ha3, ?_⟩⟩
        refine lp_it (walk_keys (d := a) (o := oa) (kvs := kT r.2.2)) (fun j H' => Same H2 H' ∧ ∃ l : List Str, l.Nodup ∧ l.length ≤ 60 * i + j ∧ (∀ x, x ∈ l ↔ (∃ r ∈ (ordB bk).take i, x ∈ r.2.2.map (·.1)) ∨ x ∈ (r.2.2.map (·.1)).take j) ∧ H' D = some (SetTO P w D l))
          ⟨sm, l, nd, ll, fun x => by rw [lm x]; simp, hl⟩ (fun j H' _ z => z.1 _ _ ha3) ?_ ?_
        · rintro j x H8 H9 hj ⟨sm8, l8, nd8, ll8, lm8, hl8⟩ ⟨rfl, k9, v9, hk9, rfl⟩
          rw [kT, List.getElem?_map] at hk9
          obtain ⟨tt, htt, e9⟩ := Option.map_eq_some_iff.mp hk9
          cases e9
          have hj' : j < r.2.2.length := by rw [kT, List.length_map] at hj; exact hj
          have hx9 : (r.2.2.map (·.1))[j]? = some tt.1 := by rw [List.getElem?_map, htt]; rfl
          have i60 : i < 60 := by omega
          refine ⟨rfl, _, rfl, l8, tt.1, rfl, hl8, by show l8.length + 1 < 4096; omega, ?_, _, nd_ins nd8, ?_, fun x => ?_, upd_same⟩
          · intro c u e
            rw [upd_ne (ne_of_none e hD)]; exact sm8 _ _ e
          · have := len_ins (l := l8) (t := tt.1); omega
          · rw [mem_ins, lm8 x, take_succ_get hx9, List.mem_append, List.mem_singleton, or_assoc]
        · rintro H8 ⟨sm8, l8, nd8, ll8, lm8, hl8⟩
          rw [kT, List.length_map] at ll8 lm8
          refine ⟨sm8, l8, nd8, by omega, fun x => ?_, hl8⟩
          rw [lm8 x, take_succ_get hr', ← List.length_map (·.1), List.take_length]
          constructor
          · rintro (⟨r1, h1, h2⟩ | h)
            · exact ⟨r1, List.mem_append_left _ h1, h2⟩
            · exact ⟨r, List.mem_append_right _ (List.mem_singleton.mpr rfl), h⟩
          · rintro ⟨r1, h1, h2⟩
            rcases List.mem_append.mp h1 with z | z
            · exact .inl ⟨r1, z, h2⟩
            · rw [List.mem_singleton.mp z] at h2; exact .inr h2
      · rintro H6 ⟨sm, l, nd, ll, lm, hl⟩
        rw [lkv, ← ordB_len, List.take_length] at lm
        exact k2 _ _ sm ⟨D, l, rfl, nDd, nd, lm, hl⟩
    · rintro v H3 ⟨D, l, rfl, nDd, nd, lm, hl⟩ H4 s4 e4
      refine ⟨D, l, rfl, by rw [e4 D nDd]; exact hl, fun ys p pm pw hp => ?_⟩
      have s14 := Same.trans s1 s4
      refine k _ p ys (Same.trans s14 (Same.new hp)) (s14.free hp) upd_same ⟨pm.nodup_iff.mpr nd, pw, fun x => ?_⟩
      rw [pm.mem_iff, lm x, keys_ord ok.nd]
end
end D2
end L2
/-! the law's all_words -/
namespace L2
namespace D1
open PySem PySem.Spec PyProof.Rows D2 X3
abbrev sAllW : Stmt := top 48
def tr (fs : List Str) : List (Key × V) := fs.map fun w => (Sum.inr w, V.bl true)
theorem tr_keys (fs : List Str) : (tr fs).map (·.1) = fs.map Sum.inr := by rw [tr, List.map_map]; rfl
theorem putK_tr (fs : List Str) (w : Str) : putK (tr fs) (.inr w) (.bl true) = tr (if w ∈ fs then fs else fs ++ [w]) := by
  by_cases h : w ∈ fs
  · rw [if_pos h]
    unfold putK
    rw [if_pos (show ((tr fs).any fun kv => decide (kv.1 = Sum.inr w)) = true from List.any_eq_true.mpr ⟨(Sum.inr w, V.bl true), List.mem_map.mpr ⟨w, h, rfl⟩, decide_eq_true rfl⟩), tr, List.map_map]
    refine List.map_congr_left fun x _ => ?_
    by_cases e : x = w
    · subst e
      show (if _ then _ else _) = _
      rw [if_pos rfl]
    · show (if _ then _ else _) = _
      rw [if_neg (fun z => e (Sum.inr.inj z))]
  · rw [if_neg h, D1.putK_new (by rw [tr_keys]; intro z; obtain ⟨y, hy, e⟩ := List.mem_map.mp z; cases e; exact h hy), tr, tr, List.map_append]
    rfl
theorem But.unlock {H H' : Hp} {F a : Addr} {u f : HO} (e : H a = some u) (s : But F (L2.upd H a f) H') : But F H (L2.upd H' a u) := fun c o n ec => by
  by_cases h : c = a
  · subst h; rw [upd_same]; rw [e] at ec; exact ec
  · rw [upd_ne h]; exact s _ _ n (by rw [upd_ne h]; exact ec)
/-- all words of a book are among some few -/
def WsIn (bk : Bk) (ws : List Str) : Prop := ws.length ≤ 60 ∧ ∀ r ∈ bk, ∀ x ∈ r.2.2.map (·.1), x ∈ ws
def spAllW : Sp := fun vs H Q _ => ∃ (b : Addr) (bk : Bk) (ws : List Str), vs = [.ref b] ∧ WsIn bk ws ∧ BookAt H b bk ∧ bk ≠ [] ∧ bk.length ≤ 60 ∧ (bk.map (·.1)).Nodup ∧ (∀ r ∈ bk, (r.2.2.map (·.1)).Nodup ∧ r.2.2.length ≤ 60) ∧ ∀ H' R ys, Same H H' → H R = none → SL H' R ys → WordsOf bk ys → Q (.ref R) H'
section
variable {P : Program} {w : World} {K : PySem.W.Frag} {mg : Str → Option Value} {base : Heap}
theorem scAw : FnScope ["_law_book", "_law_found", "_law_state", "_law_word_here"] ["_law_book"] (defScope sAllW) := ⟨rfl, rfl, rfl, by decide +kernel, rfl, by decide +kernel, by decide +kernel⟩
theorem ok_allw {f : Addr} {fd : FuncData} (F : Fun K "_law_all_words" "_law_all_words" sAllW f fd) (T : Free3 mg) : FnOk P w K mg base CX0 1 f fd ["_law_book"] spAllW := by
  refine F.ok scAw (fun vs H Q E h => ?_) (fun cdv A outer s H vs Q E0' hr h => ?_)
  · obtain ⟨b, bk, ws, rfl, _⟩ := h; rfl
  · obtain ⟨b, bk, ws, rfl, ⟨wl, wi⟩, ⟨kvs, hb, hR⟩, ne, l60, nd, tk, k⟩ := h
    have hu := hu_of hr
    refine ⟨_, pss_cons (ps_set (i := 1) scAw.nd rfl (Or.inl rfl) pe_dnewK)
      (pss_cons (ps_lock (ps_for PassesOwn.never rfl (pi_keys (pv 0)) (pg_name (i := 2) scAw.nd rfl (Or.inl rfl))
        (pss_one (ps_lock (ps_for PassesOwn.never rfl (pi_keys (pe_ix ix_tup (pe_dget hu (pv 0) (pv 2) (fun _ _ => rfl)) pe_int (fun _ _ => rfl))) (pg_name (i := 3) scAw.nd rfl (Or.inl rfl))
          (pss_one (ps_dput hu (pv 1) (pv 3) pe_bl rfl)))))))
      (pss_one (ps_ret (pe_callB (call_sortedD rfl) (by rfl) T.sorted (by decide +kernel) (pa_cons (pv 1) pa_nil))))), ?_⟩
    refine fun Fd nF => ?_
    have s1 := Same.new (o := .dK []) nF
    have eF : (L2.upd H Fd (.dK [])) Fd = some (.dK (tr [])) := upd_same
    have nbF : b ≠ Fd := ne_of_none hb nF
    generalize L2.upd H Fd (.dK []) = H2 at s1 eF
    have hb2 := s1 _ _ hb
    refine ⟨b, _, hb2, trivial, fun od => ?_⟩
    have hRL := hR.lock (o := .frz od (.dK kvs)) hb ne
    have sl : Same (L2.upd H b (.frz od (.dK kvs))) (L2.upd H2 b (.frz od (.dK kvs))) := fun c u e => by
      by_cases h : c = b
      · rw [h] at e ⊢; rw [upd_same] at e ⊢; exact e
      · rw [upd_ne h] at e ⊢; exact s1 _ _ e
    refine ⟨_, rfl, b, od, rfl, .inl ⟨kvs, upd_same, ?_⟩⟩
    have lk0 : kvs.length = bk.length := hR.len
    refine for_it (walk_keys (d := b) (o := od) (kvs := kvs)) (fun i σ H' => ∃ (v2 v3 : Option V) (fs : List Str), σ = [some (.ref b), some (.ref Fd), v2, v3] ∧ Same (L2.upd H b (.frz od (.dK kvs))) H' ∧ H' Fd = some (.dK (tr fs)) ∧ fs.Nodup ∧ fs.length ≤ 60 * i ∧ ∀ x, x ∈ fs ↔ ∃ r ∈ bk.take i, x ∈ r.2.2.map (·.1))
      ⟨none, none, [], rfl, sl, by rw [upd_ne nbF.symm]; exact eF, List.nodup_nil, by simp, fun x => by simp⟩ (fun i σ H' _ ⟨_, _, _, _, z, _⟩ => z _ _ upd_same) ?_ ?_
    · rintro i x σ H3 H4 hi ⟨v2, v3, fs, rfl, sm, hF3, ndf, lfs, mem⟩ ⟨rfl, kk, v0, hkv, rfl⟩
      obtain ⟨r, hr', rfl, _⟩ := hR.at hkv
      have hrm : r ∈ bk := List.mem_of_getElem? hr'
      have hs : r.1 ∈ bk.map (·.1) := List.mem_map_of_mem hrm
      obtain ⟨v, ev, ⟨t, a, rfl, ht, ha⟩, _⟩ := (hRL.same sm).look hs
      rw [rowOf_self nd hrm] at ht ha
      obtain ⟨tkr, tlr⟩ := tk r hrm
      have il : i < bk.length := (List.getElem?_eq_some_iff.mp hr').1
      have hb3 := sm _ _ upd_same
      have nab : a ≠ b := fun e => by rw [TurnsAt, e, hb3] at ha; cases ha
      have nta : t ≠ a := fun e => by rw [e, ha] at ht; cases ht
      have naF : a ≠ Fd := fun e => by
        obtain ⟨v9, _, ⟨t9, a9, rfl, ht9, ha9⟩, _⟩ := hRL.look hs
        rw [rowOf_self nd hrm] at ht9 ha9
        have z1 := sm _ _ ht9
        have ev9 : valV kvs (.inr r.1) = some (.ref t9) := by assumption
        rw [ev] at ev9
        cases ev9
        rw [ht] at z1
        have z2 := HO.tup.inj (Option.some.inj z1)
        injection z2 with _ z3
        injection z3 with z4
        injection z4 with z5
        rw [← z5, e, TurnsAt, upd_ne nbF.symm, nF] at ha9
        cases ha9
      refine ⟨a, _, ha, trivial, fun od2 => ?_⟩
      have u2 : ∀ {c : Addr} {o : HO}, c ≠ a → H4 c = some o → (L2.upd H4 a (.frz od2 (.dK (kT r.2.2)))) c = some o := fun n e => by rw [upd_ne n]; exact e
      refine ⟨_, rfl, _, rfl, b, _, rfl, .inl ⟨kvs, .inr r.1, .inr ⟨od, u2 nab.symm hb3⟩, rfl, ev.symm⟩, t, _, _, _, rfl, rfl, SqT.of (u2 nta ht), atI_nat (j := 1) rfl, a, od2, rfl, .inl ⟨kT r.2.2, upd_same, ?_⟩⟩
      refine for_it (walk_keys (d := a) (o := od2) (kvs := kT r.2.2)) (fun j σ H' => ∃ (v3 : Option V) (gs : List Str), σ = [some (.ref b), some (.ref Fd), some (kV (.inr r.1)), v3] ∧ But Fd (L2.upd H4 a (.frz od2 (.dK (kT r.2.2)))) H' ∧ H' Fd = some (.dK (tr gs)) ∧ gs.Nodup ∧ gs.length ≤ 60 * i + j ∧ ∀ x, x ∈ gs ↔ (∃ r ∈ bk.take i, x ∈ r.2.2.map (·.1)) ∨ x ∈ (r.2.2.take j).map (·.1))
        ⟨v3, fs, rfl, But.refl _ _, u2 naF.symm hF3, ndf, by omega, fun x => by rw [mem x]; simp⟩ (fun j σ H' _ ⟨_, _, _, z, _⟩ => z _ _ naF upd_same) ?_ ?_
      · rintro j x σ H5 H6 hj ⟨v3, gs, rfl, bm, hF5, ndg, lgs, mem2⟩ ⟨rfl, kk, v0, hkv9, rfl⟩
        rw [kT, List.getElem?_map] at hkv9
        obtain ⟨t1, ht1, e9⟩ := Option.map_eq_some_iff.mp hkv9
        cases e9
        have jl : j < r.2.2.length := (List.getElem?_eq_some_iff.mp ht1).1
        refine ⟨_, rfl, _, rfl, Fd, _, rfl, DPut.k (kvs := tr gs) (k := Sum.inr t1.1) hF5 (by rw [tr, List.length_map, sizeLine_eq]; omega), ?_⟩
        rw [putK_tr]
        refine ⟨_, _, rfl, fun c u nc e => by rw [upd_ne nc]; exact bm _ _ nc e, upd_same, ?_, ?_, fun x => ?_⟩
        · by_cases h : t1.1 ∈ gs
          · rw [if_pos h]; exact ndg
          · rw [if_neg h]; exact List.nodup_append.mpr ⟨ndg, List.nodup_cons.mpr ⟨by simp, List.nodup_nil⟩, fun y hy z hz => by rw [List.mem_singleton.mp hz]; exact fun e => h (e ▸ hy)⟩
        · by_cases h : t1.1 ∈ gs
          · rw [if_pos h]; omega
          · rw [if_neg h, List.length_append]; show gs.length + 1 ≤ _; omega
        · rw [take_succ_get ht1, List.map_append, List.mem_append]
          by_cases h : t1.1 ∈ gs
          · rw [if_pos h, mem2 x]
            constructor
            · exact fun z => z.elim .inl fun z => .inr (.inl z)
            · rintro (z | z | z)
              · exact .inl z
              · exact .inr z
              · rw [List.mem_singleton.mp z]; exact (mem2 _).mp h
          · rw [if_neg h, List.mem_append, mem2 x, or_assoc]
            exact Iff.rfl
      · rintro σ H5 ⟨v3, gs, rfl, bm, hF5, ndg, lgs, mem2⟩
        rw [show (kT r.2.2).length = r.2.2.length by rw [kT, List.length_map]] at lgs mem2
        rw [List.take_length] at mem2
        have bu := But.unlock ha bm
        refine ⟨bm _ _ naF upd_same, _, v3, gs, rfl, fun c u e => ?_, ?_, ndg, by omega, fun x => ?_⟩
        · have nc : c ≠ Fd := fun z => by rw [z, upd_ne nbF.symm, nF] at e; cases e
          exact bu _ _ nc (sm _ _ e)
        · rw [upd_ne naF.symm]; exact hF5
        · rw [mem2 x, take_succ_get hr']
          constructor
          · rintro (⟨r1, h1, h2⟩ | h)
            · exact ⟨r1, List.mem_append_left _ h1, h2⟩
            · exact ⟨r, List.mem_append_right _ (List.mem_singleton.mpr rfl), h⟩
          · rintro ⟨r1, h1, h2⟩
            rcases List.mem_append.mp h1 with h | h
            · exact .inl ⟨r1, h, h2⟩
            · rw [List.mem_singleton.mp h] at h2; exact .inr h2
    · rintro σ H3 ⟨v2, v3, fs, rfl, sm, hF3, ndf, lfs, mem⟩
      rw [lk0] at lfs mem
      rw [List.take_length] at mem
      have su := Same.unlock hb sm
      refine ⟨sm _ _ upd_same, _, rfl, Fd, tr fs, fs, rfl, .inl (by rw [upd_ne nbF.symm]; exact hF3), tr_keys fs, by have := pigeon fs ws ndf fun x hx => (by obtain ⟨r, hr, h⟩ := (mem x).mp hx; exact wi r hr x h); omega, fun ys S pm so hS => ?_⟩
      have gS := Same.new (o := .lst (ys.map V.str)) hS
      exact k _ S ys (Same.trans su gS) (su.free hS) upd_same ⟨pm.nodup_iff.mpr ndf, sorted_pw so, fun x => by rw [pm.mem_iff, mem x]⟩
end
end D1
end L2
/-! small facts, more -/
namespace L2
namespace D1
open PySem PySem.Spec PyProof.Rows D2
theorem rd_lock {H : Hp} {a N : Addr} {o u : HO} {od : Obj} (h : Rd H N o) (ha : H a = some u) (hm : ∀ x y, u ≠ .frz x y) : Rd (L2.upd H a (.frz od u)) N o := by
  by_cases e : N = a
  · subst e
    rcases h with h | ⟨od', h⟩
    · rw [ha] at h; cases h
      exact .inr ⟨od, upd_same⟩
    · rw [ha] at h; exact absurd (Option.some.inj h) (hm _ _)
  · rcases h with h | ⟨od', h⟩
    · exact .inl (by rw [upd_ne e]; exact h)
    · exact .inr ⟨od', by rw [upd_ne e]; exact h⟩
theorem eqx_list {H : Hp} {a b : Addr} {ss : List Str} (ha : SL H a ss) (hb : SL H b ss) (l : ss.length ≤ 10000) : EqX 1 H (.ref a) (.ref b) :=
  .inr (.inl ⟨a, b, ss.map V.str, ss.map V.str, rfl, rfl, ha, hb, by rw [List.length_map]; exact l, paired_imp (fun _ _ z => z) (eqx_strs (n := 0) ss)⟩)
theorem eqx_world {H : Hp} {R S : Addr} {bk : Bk} {st : Str} (h : WorldAt H R bk st) (g : WorldAt H S bk st) (ok : BOk bk) (ne : bk ≠ []) : EqX 5 H (.ref R) (.ref S) := by
  obtain ⟨b, e1, h1⟩ := h
  obtain ⟨c, e2, g1⟩ := g
  exact .inr (.inl ⟨R, S, _, _, rfl, rfl, e1, e2, by show 2 ≤ 10000; decide, .cons (eqx_book h1 g1 ok ne) (.cons (eqx_str _) .nil)⟩)
theorem DeskAt.lock {C : Addr} {H : Hp} {q b : Addr} {bk bk' : Bk} {st : Str} {kvs : List (Key × V)} {od : Obj} (h : DeskAt C H q bk st) (hb : H b = some (.dK kvs)) (hR : Rows H kvs bk') (ne : bk' ≠ []) : DeskAt C (L2.upd H b (.frz od (.dK kvs))) q bk st := by
  obtain ⟨dx, c, e, ⟨kv2, e2, r2⟩⟩ := h
  refine ⟨dx, c, by rw [upd_ne fun z => by rw [z, hb] at e; cases e]; exact e, kv2, rd_lock e2 hb (fun _ _ e => by cases e), ?_⟩
  unfold Rows at r2 ⊢
  clear e2 e
  generalize ordB bk = bb at r2
  induction r2 with
  | nil => exact .nil
  | cons h1 _ ih =>
    obtain ⟨e1, t, a, ev, ht, ha⟩ := h1
    refine .cons ⟨e1, t, a, ev, by rw [upd_ne fun z => by rw [z, hb] at ht; cases ht]; exact ht, ?_⟩ ih
    rw [TurnsAt, upd_ne (book_ne hb hR ne ha)]; exact ha
theorem eqx_turns1 {H : Hp} {a b : Addr} {ts : List (Str × Str)} (ha : TurnsAt H a ts) (hb : TurnsAt H b ts) (nd : (ts.map (·.1)).Nodup) (l : ts.length ≤ 10000) : EqX 2 H (.ref a) (.ref b) := by
  have ek : (kT ts).map (·.1) = (ts.map (·.1)).map Sum.inr := by rw [kT, List.map_map, List.map_map]; rfl
  refine .inr (.inr (.inr ⟨Nat.le_refl _, a, b, kT ts, kT ts, ts.map (·.1), rfl, rfl, ha, hb, ek, ek, nd, by rw [List.length_map]; exact l, ?_⟩))
  have : ∀ l : List (Str × Str), Paired (fun (p q : Key × V) => EqX 1 (cut [a] H) p.2 q.2) (kT l) (kT l) := fun l => by
    induction l with
    | nil => exact .nil
    | cons t r ih => exact .cons (eqx_str _) ih
  exact this ts
/-- a list of lists: a kind and turns -/
def Told (H : Hp) (A : Addr) (xs : Bk) : Prop := ∃ as : List Addr, H A = some (.lst (as.map V.ref)) ∧ Paired (fun l (r : RowD) => ∃ a, H l = some (.lst [.str r.2.1, .ref a]) ∧ TurnsAt H a r.2.2) as xs
theorem eqx_told {H : Hp} {A B : Addr} {xs : Bk} (h : Told H A xs) (g : Told H B xs) (l : xs.length ≤ 10000) (tk : ∀ r ∈ xs, (r.2.2.map (·.1)).Nodup ∧ r.2.2.length ≤ 10000) : EqX 4 H (.ref A) (.ref B) := by
  obtain ⟨as, ea, pa⟩ := h
  obtain ⟨bs, eb, pb⟩ := g
  refine .inr (.inl ⟨A, B, _, _, rfl, rfl, ea, eb, by rw [List.length_map, paired_len pa]; exact l, ?_⟩)
  clear ea eb l
  induction pa generalizing bs with
  | nil => cases pb; exact .nil
  | @cons x r as xs h1 _ ih =>
    cases pb with
    | cons g1 pb =>
      refine .cons ?_ (ih (fun r hr => tk r (List.mem_cons_of_mem _ hr)) _ pb)
      obtain ⟨a, e1, e2⟩ := h1
      obtain ⟨a', f1, f2⟩ := g1
      obtain ⟨n1, n2⟩ := tk r List.mem_cons_self
      exact .inr (.inl ⟨_, _, _, _, rfl, rfl, e1, f1, by show 2 ≤ 10000; decide, .cons (eqx_str _) (.cons (eqx_turns1 e2 f2 n1 n2) .nil)⟩)
end D1
end L2
/-! the law's desk_right -/
namespace L2
namespace D1
open PySem PySem.Spec PyProof.Rows D2 X3
abbrev sDeskR : Stmt := top 49
theorem rows_ord2 {bk : Bk} {s : Str} (h : s ∈ bk.map (·.1)) : (s, (rowOf bk s).1, ordT (rowOf bk s).2) ∈ ordB bk := List.mem_map.mpr ⟨s, (srt_perm _).mem_iff.mpr h, rfl⟩
def spDeskR (C : Addr) : Sp := fun vs H Q _ => ∃ (q W : Addr) (bk cl : Bk) (st : Str) (ws : List Str), vs = [.ref q, .ref W] ∧ DeskAt C H q bk st ∧ WorldAt H W cl st ∧ DOk cl st ∧ ordB bk = ordB cl ∧ WsIn cl ws ∧ ∀ H', Same H H' → Q (.bl true) H'
theorem DOk.allw {bk : Bk} {st : Str} (ok : DOk bk st) : ∀ r ∈ bk, (r.2.2.map (·.1)).Nodup ∧ r.2.2.length ≤ 60 := fun r hr => ⟨ok.tk r hr, ok.len2 r hr⟩
theorem ordB_words {bk : Bk} {st : Str} (ok : DOk bk st) (x : Str) : (∃ r ∈ ordB bk, x ∈ r.2.2.map (·.1)) ↔ ∃ r ∈ bk, x ∈ r.2.2.map (·.1) := by
  constructor
  · rintro ⟨r, hr, hx⟩
    obtain ⟨r0, h0, _, _, e⟩ := mem_ordB ok.nd hr
    rw [e, ordT_keys] at hx
    exact ⟨r0, h0, (srt_perm _).mem_iff.mp hx⟩
  · rintro ⟨r, hr, hx⟩
    have := rows_ord2 (bk := bk) (s := r.1) (List.mem_map_of_mem hr)
    rw [rowOf_self ok.nd hr] at this
    exact ⟨_, this, by show x ∈ (ordT r.2.2).map (·.1); rw [ordT_keys]; exact (srt_perm _).mem_iff.mpr hx⟩
section
variable {P : Program} {w : World} {K : PySem.W.Frag} {mg : Str → Option Value} {base : Heap} {C : Addr}
abbrev CStates (P : Program) (w : World) (K : PySem.W.Frag) (mg : Str → Option Value) (base : Heap) (C : Addr) := Cal P w K mg base "states_of" 4 ["desk"] (spStates C)
abbrev CWordsOf (P : Program) (w : World) (K : PySem.W.Frag) (mg : Str → Option Value) (base : Heap) (C : Addr) := Cal P w K mg base "words_of" 5 ["desk"] (spWordsOf C)
abbrev CTurnsOf (P : Program) (w : World) (K : PySem.W.Frag) (mg : Str → Option Value) (base : Heap) (C : Addr) := Cal P w K mg base "turns_of" 5 ["desk", "state"] (spTurnsOf C)
abbrev CKindOf (P : Program) (w : World) (K : PySem.W.Frag) (mg : Str → Option Value) (base : Heap) (C : Addr) := Cal P w K mg base "kind_of" 5 ["desk", "state"] (spKind C)
abbrev CAllW (P : Program) (w : World) (K : PySem.W.Frag) (mg : Str → Option Value) (base : Heap) := Cal P w K mg base "_law_all_words" 1 ["_law_book"] spAllW
abbrev drN : List Str := ["_law_made", "_law_world_here", "_law_book", "_law_told", "_law_state"]
theorem scDr : FnScope drN ["_law_made", "_law_world_here"] (defScope sDeskR) := ⟨rfl, rfl, rfl, by decide +kernel, rfl, by decide +kernel, by decide +kernel⟩
theorem ok_deskr {f : Addr} {fd : FuncData} (F : Fun K "_law_desk_right" "_law_desk_right" sDeskR f fd) (T : Free3 mg) (D : DTxt K mg C) (CE : CExact P w K mg base 5) (CO : COrdered P w K mg base) (MB : CMBook P w K mg base C) (MS : CMStart P w K mg base C) (CSt : CStates P w K mg base C) (CW : CWordsOf P w K mg base C) (CA : CAllW P w K mg base) (CK : CKindOf P w K mg base C) (CU : CTurnsOf P w K mg base C) :
    FnOk P w K mg base CX0 8 f fd ["_law_made", "_law_world_here"] (spDeskR C) := by
  obtain ⟨fS, fdS, mS, FS, bS⟩ := MS.ex
  obtain ⟨fB, fdB, mB, FB, bB⟩ := MB.ex
  refine F.ok scDr (fun vs H Q E h => ?_) (fun cdv A outer s H vs Q E0' hr h => ?_)
  · obtain ⟨q, W, bk, cl, st, ws, rfl, _⟩ := h; rfl
  · obtain ⟨q, W, bk, cl, st, ws, rfl, hq, ⟨b, hW, hb⟩, ok, eo, wi, k⟩ := h
    have hu := hu_of hr
    refine ⟨_, pss_cons (ps_set (i := 2) scDr.nd rfl (Or.inr rfl) (pe_cal CO (hr.mono (by decide)) rfl (pa_cons (pe_ix ix_list (pv 1) pe_int (fun _ _ => rfl)) pa_nil)))
      (pss_cons (ps_if (PW.pt (pw_or (pt_not (pt_val (pe_cal CE (hr.mono (by decide)) rfl (pa_cons (pe_lst (pa_cons (pe_meth0 (pv 0) D.cl mB FB (hr.mono (by decide)) bB .nil pass0) (pa_cons (pe_meth0 (pv 0) D.cl mS FS (hr.mono (by decide)) bS .nil pass0) pa_nil))) (pa_cons (pe_lst (pa_cons (pv 2) (pa_cons (pe_ix ix_list (pv 1) pe_int (fun _ _ => rfl)) pa_nil))) pa_nil)))))
          (pw_or1 (pt_not (pt_val (pe_cal CE (hr.mono (by decide)) rfl (pa_cons (pe_cal CSt (hr.mono (by decide)) rfl (pa_cons (pv 0) pa_nil)) (pa_cons (pe_callTy (call_listD rfl) (by rfl) T.list (by decide +kernel) (pa_cons (pv 2) pa_nil)) pa_nil)))))))) (pss_one (ps_ret pe_bl)) pss_nil)
      (pss_cons (ps_if (pt_not (pt_val (pe_cal CE (hr.mono (by decide)) rfl (pa_cons (pe_cal CW (hr.mono (by decide)) rfl (pa_cons (pv 0) pa_nil)) (pa_cons (pe_cal CA (hr.mono (by decide)) rfl (pa_cons (pv 2) pa_nil)) pa_nil))))) (pss_one (ps_ret pe_bl)) pss_nil)
      (pss_cons (ps_lock (ps_setLc (i := 3) (own := [("_law_state", 4)]) (g := gName 4) (tt := tYes) (te := tLst (tCons (tCall (spKind C) [] E0 (tCons (tVar 0) (tCons (tVar 4) tNil))) (tCons (tCall (spTurnsOf C) [] E0 (tCons (tVar 0) (tCons (tVar 4) tNil))) tNil))) rfl scDr.nd rfl rfl (sw_true rfl rfl rfl rfl) (pi_keys (pv 2))
          (blkOk_by (N := drN) (sc := defScope sDeskR) (by decide +kernel)) (fun _ _ _ _ _ => pg_name (i := 4) scDr.nd rfl (Or.inl rfl)) (fun _ _ _ _ _ => pts_nil) (fun _ _ _ _ _ => pe_lst (pa_cons (pe_cal CK (hr.mono (by decide)) rfl (pa_cons (pv 0) (pa_cons (pv 4) pa_nil))) (pa_cons (pe_cal CU (hr.mono (by decide)) rfl (pa_cons (pv 0) (pa_cons (pv 4) pa_nil))) pa_nil)))))
      (pss_one (ps_ret (pe_cal CE (hr.mono (by decide)) rfl (pa_cons (pv 3) (pa_cons (pe_lock (pe_lc (own := [("_law_state", 4)]) (g := gName 4) (tt := tYes) (te := tLst (tCons (tOp (rIxT K) (tDGet (tVar 2) (tVar 4)) (tC (.int 0))) (tCons (tOp (rIxT K) (tDGet (tVar 2) (tVar 4)) (tC (.int 1))) tNil))) rfl scDr.nd (pi_keys (pv 2))
          (blkOk_by (N := drN) (sc := defScope sDeskR) (by decide +kernel)) (fun _ _ _ _ _ => pg_name (i := 4) scDr.nd rfl (Or.inl rfl)) (fun _ _ _ _ _ => pts_nil) (fun _ _ _ _ _ => pe_lst (pa_cons (pe_ix ix_tup (pe_dget hu (pv 2) (pv 4) (fun _ _ => rfl)) pe_int (fun _ _ => rfl)) (pa_cons (pe_ix ix_tup (pe_dget hu (pv 2) (pv 4) (fun _ _ => rfl)) pe_int (fun _ _ => rfl)) pa_nil))))) pa_nil)))))))), ?_⟩
    have hq := hq.congr eo
    have l60 := ok.len
    have neO := ordB_ne ok.ne
    obtain ⟨dx, bd, e0, _⟩ := id hq
    refine ⟨_, rfl, W, _, _, _, rfl, rfl, SqL.of hW, atI_nat (j := 0) rfl, b, cl, rfl, hb.r, ok.bok, fun H1 B s1 nB hB => ?_⟩
    have hq1 := hq.same s1
    have e1 := s1 _ _ e0
    have hW1 := s1 _ _ hW
    refine ⟨_, rfl, q, dx, _, rfl, e1, dflds_no _ _ (by decide +kernel) (by decide +kernel), q, cl, st, rfl, hq1, ok, fun H2 B2 s2 nB2 hB2 _ => ?_⟩
    have e2 := s2 _ _ e1
    refine ⟨_, rfl, q, dx, _, rfl, e2, dflds_no _ _ (by decide +kernel) (by decide +kernel), q, cl, st, rfl, hq1.same s2, ?_⟩
    refine ⟨by show 2 ≤ sizeLine; decide, fun L1 hL1 => ?_⟩
    have g1 := Same.new (o := .lst [.ref B2, .str st]) hL1
    have w1 : WorldAt (L2.upd H2 L1 (.lst [.ref B2, .str st])) L1 (ordB cl) st := ⟨B2, upd_same, hB2.same g1⟩
    generalize L2.upd H2 L1 (.lst [.ref B2, .str st]) = H3 at g1 w1
    have s13 := Same.trans s2 g1
    refine ⟨_, rfl, _, rfl, W, _, _, _, rfl, rfl, SqL.of (s13 _ _ hW1), atI_nat (j := 1) rfl, ?_⟩
    refine ⟨by show 2 ≤ sizeLine; decide, fun L2' hL2 => ?_⟩
    have g2 := Same.new (o := .lst [.ref B, .str st]) hL2
    have w2 : WorldAt (L2.upd H3 L2' (.lst [.ref B, .str st])) L2' (ordB cl) st := ⟨B, upd_same, (hB.same s13).same g2⟩
    generalize L2.upd H3 L2' (.lst [.ref B, .str st]) = H4 at g2 w2
    have s14 := Same.trans s13 g2
    refine ⟨_, _, rfl, eqx_world (w1.same g2) w2 ok.obok neO, fun H5 s5 => ⟨_, rfl, iteF ?_⟩⟩
    have s15 := Same.trans s14 s5
    have hq5 := hq1.same s15
    have hB5 := hB.same s15
    clear w1 w2 hB2
    refine ⟨_, rfl, q, cl, st, rfl, hq5, ok, fun H6 S6 s6 nS6 hS6 => ?_⟩
    obtain ⟨kvs, hk6, hR6⟩ := hB5.same s6
    refine ⟨_, rfl, B, kvs, rfl, .inl hk6, fun L3 hL3 => ?_⟩
    have g3 := Same.new (o := .lst (kvs.map fun kv => kV kv.1)) hL3
    have eL3 : SL (L2.upd H6 L3 (.lst (kvs.map fun kv => kV kv.1))) L3 (srt (cl.map (·.1))) := by
      have e : kvs.map (fun kv => kV kv.1) = (srt (cl.map (·.1))).map V.str := by
        have := congrArg (List.map kV) hR6.keys
        rw [List.map_map, List.map_map] at this
        rw [← ordB_names, List.map_map]
        exact this
      rw [SL, upd_same, e]
    generalize L2.upd H6 L3 (.lst (kvs.map fun kv => kV kv.1)) = H7 at g3 eL3
    refine ⟨_, _, rfl, (eqx_list (hS6.same g3) eL3 (by rw [(srt_perm _).length_eq, List.length_map]; omega)).up (by decide), fun H8 s8 => ⟨_, rfl, iteF ?_⟩⟩
    have s58 := Same.trans (Same.trans s6 g3) s8
    have hq8 := hq5.same s58
    have hB8 := hB5.same s58
    refine ⟨_, rfl, q, cl, st, rfl, hq8, ok, fun H9 R9 ys9 s9 nR9 hR9 w9 => ?_⟩
    have okO := ok.ord
    have wiO : WsIn (ordB cl) ws := ⟨wi.1, fun r hr x hx => by
      obtain ⟨r0, h0, h1⟩ := (ordB_words ok x).mp ⟨r, hr, hx⟩
      exact wi.2 r0 h0 x h1⟩
    refine ⟨_, rfl, B, ordB cl, ws, rfl, wiO, hB8.same s9, neO, okO.len, okO.nd, okO.allw, fun H10 R10 ys10 s10 nR10 hR10 w10 => ?_⟩
    obtain rfl : ys10 = ys9 := w10.one w9 (ordB_words ok)
    have ly : ys10.length ≤ 60 := by
      have := pigeon ys10 ws w9.nd fun x hx => by
        obtain ⟨r, hr, h⟩ := (w9.mem x).mp hx
        exact wi.2 r hr x h
      have := wi.1; omega
    refine ⟨_, _, rfl, (eqx_list (hR9.same s10) hR10 (by omega)).up (by decide), fun H11 s11 => ⟨_, rfl, iteF ?_⟩⟩
    have s811 := Same.trans (Same.trans s9 s10) s11
    have hq11 := hq8.same s811
    obtain ⟨kvs2, hk11, hR11⟩ := hB8.same s811
    have s0_11 : Same H H11 := Same.trans s1 (Same.trans s15 (Same.trans s58 s811))
    clear hR9 hR10 eL3 hS6
    -- told
    refine ⟨B, _, hk11, trivial, fun od => ?_⟩
    have hqL := hq11.lock (od := od) hk11 hR11 neO
    refine ⟨_, rfl, B, od, rfl, .inl ⟨kvs2, upd_same, fun M hM => ?_⟩⟩
    have nBM : B ≠ M := fun e => by rw [← e, upd_same] at hM; cases hM
    have lk : kvs2.length = (ordB cl).length := hR11.len
    have lO : (ordB cl).length ≤ 60 := by rw [ordB_len]; exact l60
    have told_app : ∀ {G G' : Hp} {as : List Addr} {xs : Bk} {l a : Addr} {r : RowD}, Paired (fun l (r : RowD) => ∃ a, G l = some (.lst [.str r.2.1, .ref a]) ∧ TurnsAt G a r.2.2) as xs → Same G G' → G' l = some (.lst [.str r.2.1, .ref a]) → TurnsAt G' a r.2.2 → Paired (fun l (r : RowD) => ∃ a, G' l = some (.lst [.str r.2.1, .ref a]) ∧ TurnsAt G' a r.2.2) (as ++ [l]) (xs ++ [r]) :=
      fun h s e1 e2 => pair_app (paired_imp (fun _ _ ⟨a, z1, z2⟩ => ⟨a, s _ _ z1, s _ _ z2⟩) h) ⟨_, e1, e2⟩
    refine lc_it (walk_keys (d := B) (o := od) (kvs := kvs2)) (fun i H' => Same (L2.upd H11 B (.frz od (.dK kvs2))) H' ∧ ∃ as : List Addr, H' M = some (.lst (as.map V.ref)) ∧ Paired (fun l (r : RowD) => ∃ a, (cut [M] H') l = some (.lst [.str r.2.1, .ref a]) ∧ TurnsAt (cut [M] H') a r.2.2) as ((ordB cl).take i)) ⟨Same.new hM, [], upd_same, .nil⟩ (fun i H' _ z => z.1 _ _ upd_same) ?_ ?_
    · rintro i x H12 H13 hi ⟨sm, as, hM12, hpr⟩ ⟨rfl, kk, v0, hkv, rfl⟩
      obtain ⟨r, hr', rfl, _⟩ := hR11.at hkv
      have hrm : r ∈ ordB cl := List.mem_of_getElem? hr'
      obtain ⟨r0, h0, q1, q2, q3⟩ := mem_ordB ok.nd hrm
      have hs : r.1 ∈ cl.map (·.1) := by rw [q1]; exact List.mem_map_of_mem h0
      have er : rowOf cl r.1 = r0.2 := by rw [q1]; exact rowOf_self ok.nd h0
      refine ⟨rfl, ?_⟩
      dsimp only [tYes]
      rw [if_pos rfl]
      refine ⟨_, rfl, _, rfl, q, cl, st, r.1, rfl, hqL.same sm, ok, hs, fun H14 s14 => ?_⟩
      have sm14 := Same.trans sm s14
      refine ⟨_, rfl, _, rfl, q, cl, st, r.1, rfl, hqL.same sm14, ok, hs, fun H15 a s15' na ha => ?_⟩
      rw [er] at ha ⊢
      rw [← q3] at ha
      rw [← q2]
      have sm15 := Same.trans s14 s15'
      refine ⟨by show 2 ≤ sizeLine; decide, fun T1 hT1 => ?_⟩
      have g := Same.new (o := .lst [.str r.2.1, .ref a]) hT1
      have hM15 := sm15 _ _ hM12
      have nT : T1 ≠ M := fun e => by rw [e, hM15] at hT1; cases hT1
      have naM : a ≠ M := fun e => by rw [e, s14 _ _ hM12] at na; cases na
      have las : as.length ≤ 60 := by rw [paired_len hpr, List.length_take]; omega
      refine ⟨_, g _ _ hM15, by rw [List.length_map, sizeLine_eq]; omega, fun c u e => ?_, as ++ [T1], by rw [upd_same, List.map_append]; rfl, ?_⟩
      · rw [upd_ne (ne_of_none e hM)]; exact g _ _ (sm15 _ _ (sm _ _ e))
      · rw [cut_upd (by simp), take_succ_get hr']
        refine told_app hpr (cut_same (Same.trans sm15 g)) (l := T1) (a := a) ?_ ?_
        · rw [cut_out (by simpa using nT)]; exact upd_same
        · rw [TurnsAt, cut_out (by simpa using naM)]; exact g _ _ ha
    rintro H12 ⟨sm, as, hM12, hpr⟩
    rw [lk, List.take_length] at hpr
    have su := Same.unlock hk11 sm
    have unl : ∀ {c : Addr} {u : HO}, (∀ x y, u ≠ .frz x y) → H12 c = some u → (L2.upd H12 B (.dK kvs2)) c = some u := fun {c u} n e => by
      by_cases z : c = B
      · subst z
        rw [sm _ _ upd_same] at e
        exact absurd (Option.some.inj e).symm (n _ _)
      · rw [upd_ne z]; exact e
    have told1 : Told (L2.upd H12 B (.dK kvs2)) M (ordB cl) := ⟨as, unl (fun _ _ z => by cases z) hM12, paired_imp (fun _ _ ⟨a, z1, z2⟩ => ⟨a, unl (fun _ _ z => by cases z) (cut_le _ _ z1), unl (fun _ _ z => by cases z) (cut_le _ _ z2)⟩) hpr⟩
    refine ⟨sm _ _ upd_same, ?_⟩
    have told1' := told1
    generalize L2.upd H12 B (.dK kvs2) = H16 at su told1 told1'
    have hk16 := su _ _ hk11
    have hR16 := hR11.same su
    clear hpr unl
    refine ⟨_, rfl, B, _, hk16, trivial, fun od3 => ?_⟩
    refine ⟨_, rfl, B, od3, rfl, .inl ⟨kvs2, upd_same, fun M2 hM2 => ?_⟩⟩
    have hRL := hR16.lock (o := .frz od3 (.dK kvs2)) hk16 neO
    refine lc_it (walk_keys (d := B) (o := od3) (kvs := kvs2)) (fun i H' => Same (L2.upd H16 B (.frz od3 (.dK kvs2))) H' ∧ ∃ as : List Addr, H' M2 = some (.lst (as.map V.ref)) ∧ Paired (fun l (r : RowD) => ∃ a, (cut [M2] H') l = some (.lst [.str r.2.1, .ref a]) ∧ TurnsAt (cut [M2] H') a r.2.2) as ((ordB cl).take i)) ⟨Same.new hM2, [], upd_same, .nil⟩ (fun i H' _ z => z.1 _ _ upd_same) ?_ ?_
    · rintro i x H17 H18 hi ⟨sm3, as3, hM17, hpr3⟩ ⟨rfl, kk, v0, hkv, rfl⟩
      obtain ⟨r, hr', rfl, _⟩ := hR16.at hkv
      have hrm : r ∈ ordB cl := List.mem_of_getElem? hr'
      obtain ⟨v, ev, ⟨t, a, rfl, ht, ha⟩, _⟩ := (hRL.same sm3).look (List.mem_map_of_mem hrm)
      rw [rowOf_self ok.ond hrm] at ht ha
      have dg : DGet H18 B (V.str r.1) (some (.ref t)) := .inl ⟨kvs2, .inr r.1, .inr ⟨od3, sm3 _ _ upd_same⟩, rfl, ev.symm⟩
      refine ⟨rfl, ?_⟩
      dsimp only [tYes]
      rw [if_pos rfl]
      refine ⟨_, rfl, _, rfl, B, _, rfl, dg, t, _, _, _, rfl, rfl, SqT.of ht, atI_nat (j := 0) rfl, _, rfl, _, rfl, B, _, rfl, dg, t, _, _, _, rfl, rfl, SqT.of ht, atI_nat (j := 1) rfl, by show 2 ≤ sizeLine; decide, fun T1 hT1 => ?_⟩
      have g := Same.new (o := .lst [.str r.2.1, .ref a]) hT1
      have nT : T1 ≠ M2 := fun e => by rw [e, hM17] at hT1; cases hT1
      have naM : a ≠ M2 := fun e => by rw [TurnsAt, e, hM17] at ha; cases ha
      have las : as3.length ≤ 60 := by rw [paired_len hpr3, List.length_take]; omega
      refine ⟨_, g _ _ hM17, by rw [List.length_map, sizeLine_eq]; omega, fun c u e => ?_, as3 ++ [T1], by rw [upd_same, List.map_append]; rfl, ?_⟩
      · rw [upd_ne (ne_of_none e hM2)]; exact g _ _ (sm3 _ _ e)
      · rw [cut_upd (by simp), take_succ_get hr']
        refine told_app hpr3 (cut_same g) (l := T1) (a := a) ?_ ?_
        · rw [cut_out (by simpa using nT)]; exact upd_same
        · rw [TurnsAt, cut_out (by simpa using naM)]; exact g _ _ ha
    rintro H17 ⟨sm3, as3, hM17, hpr3⟩
    rw [lk, List.take_length] at hpr3
    have su3 := Same.unlock hk16 sm3
    have unl : ∀ {c : Addr} {u : HO}, (∀ x y, u ≠ .frz x y) → H17 c = some u → (L2.upd H17 B (.dK kvs2)) c = some u := fun {c u} n e => by
      by_cases z : c = B
      · subst z
        rw [sm3 _ _ upd_same] at e
        exact absurd (Option.some.inj e).symm (n _ _)
      · rw [upd_ne z]; exact e
    have told2 : Told (L2.upd H17 B (.dK kvs2)) M2 (ordB cl) := ⟨as3, unl (fun _ _ z => by cases z) hM17, paired_imp (fun _ _ ⟨a, z1, z2⟩ => ⟨a, unl (fun _ _ z => by cases z) (cut_le _ _ z1), unl (fun _ _ z => by cases z) (cut_le _ _ z2)⟩) hpr3⟩
    refine ⟨sm3 _ _ upd_same, ?_⟩
    generalize L2.upd H17 B (.dK kvs2) = H19 at su3 told2
    have told3 : Told H19 M (ordB cl) := by
      obtain ⟨as, e, p⟩ := told1
      exact ⟨as, su3 _ _ e, paired_imp (fun _ _ ⟨a, z1, z2⟩ => ⟨a, su3 _ _ z1, su3 _ _ z2⟩) p⟩
    refine ⟨_, _, rfl, (eqx_told told3 told2 (by omega) fun r hr => ⟨okO.tk r hr, by have := okO.len2 r hr; omega⟩).up (by decide), fun H20 s20 => ?_⟩
    exact k H20 (Same.trans (Same.trans s0_11 su) (Same.trans su3 s20))
end
end D1
end L2
/-! the law's spoilt -/
namespace L2
namespace D1
open PySem PySem.Spec PyProof.Rows D2 X3
abbrev sSpoilt : Stmt := top 50
def spSpoilt (C : Addr) : Sp := fun vs H Q _ => ∃ (q : Addr) (bk : Bk) (st : Str) (ws : List Str), vs = [.ref q] ∧ DeskAt C H q bk st ∧ DOk bk st ∧ WsIn bk ws ∧ ∀ H', Same H H' → Q .non H'
theorem same_off {H H' : Hp} {a : Addr} {o : HO} (s : Same H H') (n : H a = none) : Same H (L2.upd H' a o) := fun c u e => by rw [upd_ne (ne_of_none e n)]; exact s _ _ e
section
variable {P : Program} {w : World} {K : PySem.W.Frag} {mg : Str → Option Value} {base : Heap} {C : Addr}
theorem scSp : FnScope ["_law_made", "_law_told", "_law_state", "_law_some"] ["_law_made"] (defScope sSpoilt) := ⟨rfl, rfl, rfl, by decide +kernel, rfl, by decide +kernel, by decide +kernel⟩
theorem ok_spoilt {f : Addr} {fd : FuncData} (F : Fun K "_law_spoilt" "_law_spoilt" sSpoilt f fd) (T : Free3 mg) (D : DTxt K mg C) (MB : CMBook P w K mg base C) (CSt : CStates P w K mg base C) (CW : CWordsOf P w K mg base C) (CU : CTurnsOf P w K mg base C) : FnOk P w K mg base CX0 7 f fd ["_law_made"] (spSpoilt C) := by
  obtain ⟨fB, fdB, mB, FB, bB⟩ := MB.ex
  refine F.ok scSp (fun vs H Q E h => ?_) (fun cdv A outer s H vs Q E0' hr h => ?_)
  · obtain ⟨q, bk, st, ws, rfl, _⟩ := h; rfl
  · obtain ⟨q, bk, st, ws, rfl, hq, ok, wi, k⟩ := h
    have hu := hu_of hr
    refine ⟨_, pss_cons (ps_set (i := 1) scSp.nd rfl (Or.inl rfl) (pe_meth0 (pv 0) D.cl mB FB (hr.mono (by decide)) bB .nil pass0))
      (pss_cons (ps_for PassesOwn.never rfl (pi_list (pe_callTy (call_listD rfl) (by rfl) T.list (by decide +kernel) (pa_cons (pv 1) pa_nil))) (pg_name (i := 2) scSp.nd rfl (Or.inl rfl))
        (pss_cons (ps_expr (pe_dclear (pe_ix ix_tup (pe_dget hu (pv 1) (pv 2) (fun _ _ => rfl)) pe_int (fun _ _ => rfl))))
        (pss_cons (ps_set (i := 3) scSp.nd rfl (Or.inl rfl) (pe_cal CU (hr.mono (by decide)) rfl (pa_cons (pv 0) (pa_cons (pv 2) pa_nil))))
        (pss_one (ps_dput hu (pv 3) pe_str (pv 2) rfl)))))
      (pss_cons (ps_expr (pe_dclear (pv 1)))
      (pss_cons (ps_expr (pe_bm0 PySem.F.plainAttrs_list PySem.F.slot_list_reverse PySem.F.type_list_reverse mt_reverse (pe_cal CSt (hr.mono (by decide)) rfl (pa_cons (pv 0) pa_nil))))
      (pss_one (ps_expr (pe_bm PySem.F.plainAttrs_list PySem.F.slot_list_append PySem.F.type_list_append mt_append (pe_cal CW (hr.mono (by decide)) rfl (pa_cons (pv 0) pa_nil)) (pa_cons pe_str pa_nil))))))), ?_⟩
    obtain ⟨dx, b0, e0, hb0⟩ := id hq
    refine ⟨_, rfl, q, dx, _, rfl, e0, dflds_no _ _ (by decide +kernel) (by decide +kernel), q, bk, st, rfl, hq, ok, fun H1 B s1 nB hB hBN => ?_⟩
    obtain ⟨kvs, hkN, hRN⟩ := hBN
    have hk := (new_some hkN).2
    have hR := hRN.same new_le
    have l60 : (ordB bk).length ≤ 60 := by rw [ordB_len]; exact ok.len
    refine ⟨_, rfl, B, kvs, rfl, .inl hk, fun L hL => ?_⟩
    have e : kvs.map (fun kv => kV kv.1) = (srt (bk.map (·.1))).map V.str := by
      have := congrArg (List.map kV) hR.keys
      rw [List.map_map, List.map_map] at this
      rw [← ordB_names, List.map_map]
      exact this
    rw [e]
    have nLH := s1.free hL
    have g2 := Same.new (o := .lst ((srt (bk.map (·.1))).map V.str)) hL
    have eL : SL (L2.upd H1 L (.lst ((srt (bk.map (·.1))).map V.str))) L (srt (bk.map (·.1))) := upd_same
    generalize L2.upd H1 L (.lst ((srt (bk.map (·.1))).map V.str)) = H2 at g2 eL
    have s02 := Same.trans s1 g2
    refine ⟨L, rfl, ⟨_, eL.sq⟩, ?_⟩
    refine for_list (K := K) (a := L) (xs := (srt (bk.map (·.1))).map V.str) (fun i σ H' => ∃ (v2 v3 : Option V), σ = [some (.ref q), some (.ref B), v2, v3] ∧ Same H H' ∧ SL H' L (srt (bk.map (·.1))) ∧ H' B = some (.dK kvs) ∧ ∀ s ∈ bk.map (·.1), ∃ (t a : Addr) (kd : Str), valV kvs (.inr s) = some (.ref t) ∧ H a = none ∧ H' t = some (.tup [.str kd, .ref a]) ∧ a ≠ B ∧ ∃ ks, H' a = some (.dK ks))
      ⟨none, none, rfl, s02, eL, g2 _ _ hk, fun s hs => ?_⟩ (fun i σ H' _ ⟨_, _, _, _, z, _⟩ => z.sq) ?_ ?_
    · obtain ⟨v, ev, ⟨t, a, rfl, ht, ha⟩, _⟩ := hRN.look (s := s) (by rw [ordB_names]; exact (srt_perm _).mem_iff.mpr hs)
      have a2 := new_some ha
      exact ⟨t, a, _, ev, a2.1, g2 _ _ (new_some ht).2, book_ne hk hR (ordB_ne ok.ne) a2.2, _, g2 _ _ a2.2⟩
    · rintro i x σ H3 hx ⟨v2, v3, rfl, s03, hL3, hB3, inv⟩
      obtain ⟨z, hz, rfl⟩ := get_map hx
      have zm : z ∈ bk.map (·.1) := (srt_perm _).mem_iff.mp (List.mem_of_getElem? hz)
      obtain ⟨t, a, kd, ev, na, ht, naB, ks, ha⟩ := inv z zm
      refine ⟨_, rfl, _, rfl, B, _, rfl, .inl ⟨kvs, .inr z, .inl hB3, rfl, ev.symm⟩, t, _, _, _, rfl, rfl, SqT.of ht, atI_nat (j := 1) rfl, .inr (.inr (.inl ⟨rfl, .inl ⟨_, ha⟩⟩)), a, ks, rfl, rfl, ha, ?_⟩
      have s04 : Same H (L2.upd H3 a (.dK [])) := same_off s03 na
      have naL : L ≠ a := fun e => by rw [SL, e, ha] at hL3; cases hL3
      have inv4 : ∀ s ∈ bk.map (·.1), ∃ (t a' : Addr) (kd : Str), valV kvs (.inr s) = some (.ref t) ∧ H a' = none ∧ (L2.upd H3 a (.dK [])) t = some (.tup [.str kd, .ref a']) ∧ a' ≠ B ∧ ∃ ks, (L2.upd H3 a (.dK [])) a' = some (.dK ks) := fun s hs => by
        obtain ⟨t', a', kd', e1, e2, e3, e4, ks', e5⟩ := inv s hs
        refine ⟨t', a', kd', e1, e2, by rw [upd_ne fun y => by rw [y, ha] at e3; cases e3]; exact e3, e4, ?_⟩
        by_cases y : a' = a
        · exact ⟨[], by rw [y]; exact upd_same⟩
        · exact ⟨ks', by rw [upd_ne y]; exact e5⟩
      have hL4 : SL (L2.upd H3 a (.dK [])) L (srt (bk.map (·.1))) := by rw [SL, upd_ne naL]; exact hL3
      have hB4 : (L2.upd H3 a (.dK [])) B = some (.dK kvs) := by rw [upd_ne naB.symm]; exact hB3
      generalize L2.upd H3 a (.dK []) = H4 at s04 inv4 hL4 hB4
      refine ⟨_, rfl, _, rfl, q, bk, st, z, rfl, hq.same s04, ok, zm, fun H5 R s5 nR hRt => ?_⟩
      have nRH := s04.free nR
      have lt : (kT (ordT (rowOf bk z).2)).length ≤ 60 := by rw [kT, List.length_map, ordT_len]; exact ok.len2 _ (row_mem zm)
      refine ⟨_, rfl, _, rfl, R, _, rfl, DPut.k (kvs := kT (ordT (rowOf bk z).2)) (k := Sum.inr "zz") hRt (by rw [sizeLine_eq]; omega), ?_⟩
      have ne : ∀ {c : Addr} {u : HO}, H4 c = some u → c ≠ R := fun e => ne_of_none e nR
      refine ⟨_, _, rfl, same_off (Same.trans s04 s5) nRH, ?_, ?_, fun s hs => ?_⟩
      · rw [SL, upd_ne (ne hL4)]; exact s5 _ _ hL4
      · rw [upd_ne (ne hB4)]; exact s5 _ _ hB4
      · obtain ⟨t', a', kd', e1, e2, e3, e4, ks', e5⟩ := inv4 s hs
        exact ⟨t', a', kd', e1, e2, by rw [upd_ne (ne e3)]; exact s5 _ _ e3, e4, ks', by rw [upd_ne (ne e5)]; exact s5 _ _ e5⟩
    rintro σ H3 ⟨v2, v3, rfl, s03, hL3, hB3, inv⟩
    refine ⟨_, rfl, .inr (.inr (.inl ⟨rfl, .inl ⟨_, hB3⟩⟩)), B, kvs, rfl, rfl, hB3, ?_⟩
    have s04 : Same H (L2.upd H3 B (.dK [])) := same_off s03 nB
    generalize L2.upd H3 B (.dK []) = H4 at s04
    refine ⟨_, rfl, q, bk, st, rfl, hq.same s04, ok, fun H5 R5 s5 nR5 hR5 => ?_⟩
    refine ⟨.inl ⟨rfl, _, hR5.sq⟩, R5, _, rfl, rfl, hR5, ?_⟩
    have s06 : Same H (L2.upd H5 R5 (.lst ((srt (bk.map (·.1))).map V.str).reverse)) := same_off (Same.trans s04 s5) (s04.free nR5)
    generalize L2.upd H5 R5 (.lst ((srt (bk.map (·.1))).map V.str).reverse) = H6 at s06
    refine ⟨_, rfl, q, bk, st, rfl, hq.same s06, ok, fun H7 R7 ys s7 nR7 hR7 w7 => ?_⟩
    have ly : ys.length ≤ 60 := by
      have := pigeon ys ws w7.nd fun x hx => by
        obtain ⟨r, hr, h⟩ := (w7.mem x).mp hx
        exact wi.2 r hr x h
      have := wi.1; omega
    refine ⟨.inl ⟨rfl, _, hR7.sq⟩, R7, _, _, rfl, rfl, hR7, by rw [List.length_map, sizeLine_eq]; omega, ?_⟩
    exact k _ (same_off (Same.trans s06 s7) (s06.free nR7))
end
end D1
end L2
/-! ordered_book -/
namespace L2
namespace D1
open PySem PySem.Spec PyProof.Rows
section
variable {P : Program} {w : World} {K : PySem.W.Frag} {mg : Str → Option Value} {base : Heap}
abbrev COrdT (P : Program) (w : World) (K : PySem.W.Frag) (mg : Str → Option Value) (base : Heap) := Cal P w K mg base "ordered_turns" 1 ["turns"] spOrdT
theorem scOb : FnScope ["book", "state"] ["book"] (defScope sOrdB) := ⟨rfl, rfl, rfl, by decide +kernel, rfl, by decide +kernel, by decide +kernel⟩
theorem ok_ordB {f : Addr} {fd : FuncData} (F : Fun K "ordered_book" "ordered_book" sOrdB f fd) (T : Free3 mg) (CT : COrdT P w K mg base) : FnOk P w K mg base CX0 2 f fd ["book"] spOrdB := by
  refine F.ok scOb (fun vs H Q E h => ?_) (fun cdv A outer s H vs Q E hr h => ?_)
  · obtain ⟨a, bk, rfl, _⟩ := h; rfl
  · obtain ⟨b, bk, rfl, ⟨kvs0, hb, hRw⟩, ok, k⟩ := h
    have hu := hu_of hr
    refine ⟨_, pss_one (ps_ret (pe_dc (own := [("state", 1)]) (g := gName 1) (tt := tYes) (tk := tVar 1) (tv := tTup (tCons (tOp (rIxT K) (tDGet (tVar 0) (tVar 1)) (tC (.int 0))) (tCons (tCall spOrdT [] E0 (tCons (tOp (rIxT K) (tDGet (tVar 0) (tVar 1)) (tC (.int 1))) tNil)) tNil))) rfl scOb.nd (pi_list (pe_callB (call_sortedD rfl) (by rfl) T.sorted (by decide +kernel) (pa_cons (pv 0) pa_nil)))
        (blkOk_by (N := ["book", "state"]) (sc := defScope sOrdB) (by decide +kernel)) (fun _ _ _ _ _ => pg_name (i := 1) scOb.nd rfl (Or.inl rfl)) (fun _ _ _ _ _ => pts_nil) (fun _ _ _ _ _ => pv 1)
        (fun _ _ _ _ _ => pe_tup (pa_cons (pe_ix ix_tup (pe_dget hu (pv 0) (pv 1) (fun _ _ => rfl)) pe_int (fun _ _ => rfl)) (pa_cons (pe_cal CT (hr.mono (by decide)) rfl (pa_cons (pe_ix ix_tup (pe_dget hu (pv 0) (pv 1) (fun _ _ => rfl)) pe_int (fun _ _ => rfl)) pa_nil)) pa_nil))))), ?_⟩
    have ek : kvs0.map (·.1) = (bk.map (·.1)).map Sum.inr := by rw [hRw.keys, List.map_map]; rfl
    refine ⟨_, rfl, b, kvs0, bk.map (·.1), rfl, hb, ek, by rw [List.length_map]; exact ok.len, fun ys q pm so hq => ?_⟩
    have ey := srt_of pm so
    have lq : ys.length < 64 := by rw [pm.length_eq, List.length_map]; exact ok.len
    have am : ∀ y ∈ ys, y ∈ bk.map (·.1) := fun y hy => pm.mem_iff.mp hy
    have ndy : ys.Nodup := pm.nodup_iff.mpr ok.nd
    refine ⟨q, rfl, ⟨_, SqL.of upd_same⟩, fun D hD => ?_⟩
    have nqD : q ≠ D := fun e => by rw [← e, upd_same] at hD; cases hD
    have hD0 := upd_none' hD
    refine dc_it (walk_list (K := K) (a := q) (xs := ys.map V.str)) (fun i H' => Same H H' ∧ SL H' q ys ∧ ∃ kvs, H' D = some (.dK kvs) ∧ Rows (cut [D] (newH H H')) kvs ((ys.take i).map fun s => (s, (rowOf bk s).1, ordT (rowOf bk s).2)))
      ⟨fun b u e => by rw [upd_ne (ne_of_none e hD0), upd_ne (ne_of_none e hq)]; exact e, by rw [SL, upd_ne nqD, upd_same], [], upd_same, .nil⟩ (fun i H' _ z => z.2.1.sq) ?_ ?_
    · rintro i v H1 H2 hi ⟨sm, hl, kvs, hk, hR⟩ ⟨rfl, hx⟩
      obtain ⟨z, hz, rfl⟩ := get_map hx
      have hzm := am z (List.mem_of_getElem? hz)
      refine ⟨rfl, ?_⟩
      dsimp only [tYes]
      rw [if_pos rfl]
      have hn : z ∉ ((ys.take i).map fun s => (s, (rowOf bk s).1, ordT (rowOf bk s).2) : Bk).map (·.1) := fun hm => by
        obtain ⟨p1, hp1, e1⟩ := List.mem_map.mp hm
        obtain ⟨p3, hp3, e3⟩ := List.mem_map.mp hp1
        subst e3
        have e1 : p3 = z := e1
        rw [e1] at hp3
        obtain ⟨m, hm1, hm2⟩ := List.mem_take_iff_getElem.mp hp3
        have h1 : ys[m]? = some z := by rw [List.getElem?_eq_getElem (by omega), hm2]
        have := (List.getElem?_inj (by omega) ndy).mp (h1.trans hz.symm)
        omega
      obtain ⟨v, h2, ⟨t, a, rfl, ht, ha⟩, hm⟩ := (hRw.same sm).look hzm
      have rr := ok.rs _ hm
      have hbz : DGet H2 b (V.str z) (some (.ref t)) := .inl ⟨kvs0, .inr z, rd_same hb sm, rfl, h2.symm⟩
      refine ⟨_, rfl, _, rfl, _, rfl, b, _, rfl, hbz, t, _, _, _, rfl, rfl, SqT.of ht, atI_nat (j := 0) rfl, _, rfl, _, rfl, b, _, rfl, hbz, t, _, _, _, rfl, rfl, SqT.of ht, atI_nat (j := 1) rfl, a, _, rfl, ha, rr.1, rr.2, fun H3 R s3 hRn hT => ?_⟩
      refine ⟨by show 2 ≤ sizeLine; decide, fun T1 hT1 => ?_⟩
      have hk3 := Same.new (o := .tup [.str (rowOf bk z).1, .ref R]) hT1 _ _ (s3 _ _ hk)
      have nT1D : T1 ≠ D := fun e => by rw [e, s3 _ _ hk] at hT1; cases hT1
      have nRD : R ≠ D := fun e => by rw [e, hk] at hRn; cases hRn
      have nRT : R ≠ T1 := fun e => by rw [← e, hT] at hT1; cases hT1
      refine ⟨kvs, .inr z, rfl, hk3, ?_, ?_, ?_, _, upd_same, ?_⟩
      · rw [hR.len, List.length_map, List.length_take, sizeLine_eq]; omega
      · intro b u e
        rw [upd_ne (ne_of_none e hD0)]; exact Same.new hT1 _ _ (s3 _ _ (sm _ _ e))
      · rw [SL, upd_ne nqD]; exact Same.new hT1 _ _ (s3 _ _ hl)
      · rw [putK_new (hR.fresh hn), cut_new_upd, take_succ_get hz, List.map_append]
        have oT : H T1 = none := (Same.trans sm s3).free hT1
        have oR : H R = none := sm.free hRn
        refine (hR.same (cut_same (new_same (Same.trans s3 (Same.new hT1))))).app ⟨T1, R, rfl, ?_, ?_⟩
        · rw [cut_out (by simpa using nT1D), new_out oT]; exact upd_same
        · rw [TurnsAt, cut_out (by simpa using nRD), new_out oR, upd_ne nRT]; exact hT
    · rintro H1 ⟨sm, hl, kvs, hk, hR⟩
      refine k H1 D sm hD0 ⟨kvs, by rw [new_out hD0]; exact hk, ?_⟩
      rw [List.length_map, List.take_length, ey] at hR
      exact hR.same cut_le
end
end D1
end L2
/-! == of any two books -/
namespace L2
namespace Gd
open PySem PySem.Spec PyProof.Rows D1 X3
theorem ordT_dec {ts us : List (Str × Str)} (n1 : (ts.map (·.1)).Nodup) (n2 : (us.map (·.1)).Nodup) : ordT ts = ordT us ↔ ts.length = us.length ∧ ∀ k ∈ ts.map (·.1), k ∈ us.map (·.1) ∧ goalT ts k = goalT us k := by
  constructor
  · intro e
    have l := congrArg List.length e
    rw [ordT_len, ordT_len] at l
    refine ⟨l, fun k hk => ?_⟩
    have h1 : (k, goalT ts k) ∈ ordT ts := List.mem_map.mpr ⟨k, (srt_perm _).mem_iff.mpr hk, rfl⟩
    rw [e] at h1
    obtain ⟨k2, hk2, e2⟩ := List.mem_map.mp h1
    injection e2 with a b
    subst a
    exact ⟨(srt_perm _).mem_iff.mp hk2, b.symm⟩
  · rintro ⟨l, h⟩
    have p : (us.map (·.1)).Perm (ts.map (·.1)) := perm_of_nodup n1 (fun k hk => (h k hk).1) (by rw [List.length_map, List.length_map]; exact l.symm)
    unfold ordT
    rw [srt_congr p]
    exact List.map_congr_left fun k hk => by rw [(h k ((srt_perm _).mem_iff.mp hk)).2]
theorem rows_ord {bk : Bk} {s : Str} (h : s ∈ bk.map (·.1)) : (s, (rowOf bk s).1, ordT (rowOf bk s).2) ∈ ordB bk := List.mem_map.mpr ⟨s, (srt_perm _).mem_iff.mpr h, rfl⟩
theorem ordB_dec {bk cl : Bk} (n1 : (bk.map (·.1)).Nodup) (n2 : (cl.map (·.1)).Nodup) : ordB bk = ordB cl ↔ bk.length = cl.length ∧ ∀ s ∈ bk.map (·.1), s ∈ cl.map (·.1) ∧ (rowOf bk s).1 = (rowOf cl s).1 ∧ ordT (rowOf bk s).2 = ordT (rowOf cl s).2 := by
  constructor
  · intro e
    have l := congrArg List.length e
    rw [ordB_len, ordB_len] at l
    refine ⟨l, fun s hs => ?_⟩
    have h1 := rows_ord hs
    rw [e] at h1
    obtain ⟨k2, hk2, e2⟩ := List.mem_map.mp h1
    injection e2 with a b
    injection b with b c
    subst a
    exact ⟨(srt_perm _).mem_iff.mp hk2, b.symm, c.symm⟩
  · rintro ⟨l, h⟩
    refine ordB_eq (perm_of_nodup n2 ?_ (by rw [List.length_map, List.length_map]; exact l)) fun s hs => (h s hs).2
    have p : (cl.map (·.1)).Perm (bk.map (·.1)) := perm_of_nodup n1 (fun k hk => (h k hk).1) (by rw [List.length_map, List.length_map]; exact l.symm)
    exact fun x hx => p.mem_iff.mp hx
/-- what == of two dicts tells, by their keys -/
def dictE (e : Key → Bool) (ks ls : List (Key × V)) : Bool := ks.length == ls.length && ks.all fun p => (valV ls p.1).isSome && e p.1
theorem dictE_of {e : Key → Bool} {ks ls : List (Key × V)} {va vb : List (Key × Value)} (ra : KV ks va) (rb : KV ls vb) : (va.length == vb.length && va.all fun p => (valueAt vb p.1).isSome && e p.1) = dictE e ks ls := by
  have l1 : va.length = ks.length := (paired_len ra).symm
  have l2 : vb.length = ls.length := (paired_len rb).symm
  have f : ∀ k, (valueAt vb k).isSome = (valV ls k).isSome := fun k => (RelO.isSome_eq (rb.val k)).symm
  unfold dictE
  rw [l1, l2]
  congr 1
  have g : (va.all fun p => (valueAt vb p.1).isSome && e p.1) = ((va.map (·.1)).all fun k => (valV ls k).isSome && e k) := by
    rw [List.all_map]
    congr 1
    funext p
    rw [f]; rfl
  rw [g, ← KV.keys ra, List.all_map]
  rfl
section
variable {X : Cx} {pins : List (Addr × Obj)} {σ : L2.St} {H : Hp} {s : Shared}
theorem val_tree {n : Nat} {e : Key → Bool} {ks ls : List (Key × V)} {va vb : List (Key × Value)} (ra : KV ks va) (rb : KV ls vb) (t : ∀ k x y u v, (k, x) ∈ ks → valV ls k = some y → RelV x u → RelV y v → PySem.W.EqTree X.prog X.w s n u v (e k)) :
    ∀ k v y, (k, v) ∈ va → valueAt vb k = some y → PySem.W.EqTree X.prog X.w s n v y (e k) := by
  intro k v y hm hv
  obtain ⟨i, hi, e1⟩ := List.getElem_of_mem hm
  have hva : va[i]? = some (k, v) := by rw [List.getElem?_eq_getElem hi, e1]
  have lk : ks.length = va.length := paired_len ra
  have h1 := List.getElem?_eq_getElem (l := ks) (i := i) (by omega)
  have a1 := paired_at (show Paired _ ks va from ra) h1 hva
  have r := rb.val k
  rw [hv] at r
  cases z : valV ls k with
  | none => rw [z] at r; exact r.elim
  | some x =>
    rw [z] at r
    have hk : (k, ks[i].2) ∈ ks := by
      have := List.getElem_mem (l := ks) (n := i) (by omega)
      exact (show ks[i] = (k, ks[i].2) from Prod.ext a1.1 rfl) ▸ this
    exact t k _ _ _ _ hk z a1.2 r
def eT (ts us : List (Str × Str)) : Key → Bool
  | .inr k => decide (goalT ts k = goalT us k)
  | .inl _ => false
theorem dictE_turns {ts us : List (Str × Str)} (n1 : (ts.map (·.1)).Nodup) (n2 : (us.map (·.1)).Nodup) : dictE (eT ts us) (kT ts) (kT us) = decide (ordT ts = ordT us) := by
  rw [Bool.eq_iff_iff, decide_eq_true_iff, ordT_dec n1 n2]
  unfold dictE
  rw [Bool.and_eq_true, beq_iff_eq, kT, kT, List.length_map, List.length_map, List.all_map, List.all_eq_true]
  have hv : ∀ k, (valV (us.map fun t => (Sum.inr t.1, V.str t.2)) (Sum.inr k)).isSome = true ↔ k ∈ us.map (·.1) := fun k => by
    have := valV_kT us k
    rw [kT] at this
    rw [this, Option.isSome_map]
    constructor
    · intro z
      obtain ⟨u, e⟩ := Option.isSome_iff_exists.mp z
      have := List.find?_some e
      rw [← of_decide_eq_true this]
      exact List.mem_map_of_mem (List.mem_of_find?_eq_some e)
    · intro z
      obtain ⟨u, e, _⟩ := find_some z
      rw [e]; rfl
  refine and_congr_right fun _ => ?_
  constructor
  · intro h k hk
    obtain ⟨t, ht, rfl⟩ := List.mem_map.mp hk
    have := h t ht
    rw [Function.comp, Bool.and_eq_true] at this
    exact ⟨(hv _).mp this.1, of_decide_eq_true this.2⟩
  · intro h t ht
    obtain ⟨a, b⟩ := h t.1 (List.mem_map_of_mem ht)
    rw [Function.comp, Bool.and_eq_true]
    exact ⟨(hv _).mpr a, decide_eq_true b⟩
theorem tree_turns (I : Inv X pins σ H s) {a b : Addr} {ts us : List (Str × Str)} (ha : TurnsAt H a ts) (hb : TurnsAt H b us) (n1 : (ts.map (·.1)).Nodup) (n2 : (us.map (·.1)).Nodup) : PySem.W.EqTree X.prog X.w s 1 (.ref a) (.ref b) (decide (ordT ts = ordT us)) := by
  by_cases ab : a = b
  · subst ab
    rw [TurnsAt] at ha hb
    rw [ha] at hb
    have e : kT ts = kT us := by injection (Option.some.inj hb)
    have e : ts = us := by
      have inj : ∀ {l m : List (Str × Str)}, kT l = kT m → l = m := fun {l} => by
        induction l with
        | nil => intro m h; cases m with | nil => rfl | cons _ _ => cases h
        | cons t r ih => intro m h; cases m with
          | nil => cases h
          | cons u q =>
            have h : (Sum.inr t.1, V.str t.2) :: kT r = (Sum.inr u.1, V.str u.2) :: kT q := h
            injection h with h1 h2
            injection h1 with h3 h4
            injection h3 with h3
            injection h4 with h4
            rw [ih h2, Prod.ext h3 h4]
      exact inj e
    rw [e, decide_eq_true rfl]
    exact .same
  · obtain ⟨_, ya, va, ra, da⟩ := dk_of I.hok ha
    obtain ⟨_, yb, vb, rb, db⟩ := dk_of I.hok hb
    have t := PySem.W.EqTree.dicts (knd := mixKind X.prog X.w) (n := 0) (e := eT ts us) ab ya yb da db (val_tree ra rb fun k x y u v hk hy rx ry => by
      obtain ⟨t0, ht, e0⟩ := List.mem_map.mp hk
      cases e0
      rw [valV_kT] at hy
      obtain ⟨u0, hu, e1⟩ := Option.map_eq_some_iff.mp hy
      subst e1
      obtain ⟨tx, rfl⟩ := rx
      obtain ⟨ty, rfl⟩ := ry
      have g1 : goalT ts t0.1 = t0.2 := goalT_at n1 ht
      have g2 : goalT us t0.1 = u0.2 := by rw [goalT, hu]; rfl
      show PySem.W.EqTree X.prog X.w s 0 _ _ (decide (goalT ts t0.1 = goalT us t0.1))
      rw [g1, g2]
      have e : (t0.2 == u0.2) = decide (t0.2 = u0.2) := by
        by_cases h : t0.2 = u0.2
        · rw [h, decide_eq_true rfl]; exact beq_self_eq_true _
        · rw [decide_eq_false h]; exact beq_eq_false_iff_ne.mpr h
      rw [← e]
      exact .leaf fun A _ => SeqAt.EqAt.str_str _ _ _ _)
    rw [dictE_of ra rb, dictE_turns n1 n2] at t
    exact t
end
end Gd
end L2
/-! list(d.values()) -/
namespace L2
namespace X6
open PySem PySem.Spec PyProof.Rows
section
variable {X : Cx} {o : Expr} {p pos apos mpos : Pos} {td : TE}
def tListVals (td : TE) : TE := fun σ H Q => td σ H fun x H1 => ∃ (a : Addr) (kvs : List (Key × V)), x = .ref a ∧ H1 a = some (.dK kvs) ∧ ∀ q, H1 q = none → Q (.ref q) (upd H1 q (.lst (kvs.map (·.2))))
theorem vals_at : ∀ {kvs : List (Key × V)} {vs : List (Key × Value)} {us : List Value}, KV kvs vs → us.length = vs.length → (∀ (j : Nat) v, us[j]? = some v → ∃ k, vs[j]? = some (k, v)) → Vals (kvs.map (·.2)) us
  | _, _, [], .nil, _, _ => .nil
  | _, _, _ :: _, .nil, e, _ => by simp at e
  | _, _, [], .cons _ _, e, _ => by simp at e
  | _, _, u :: us, .cons (a := a) (b := b) r t, e, h => by
    refine .cons ?_ (vals_at t (by simpa using e) fun j v g => ?_)
    · obtain ⟨k, g⟩ := h 0 u rfl
      have g : b = (k, u) := Option.some.inj g
      have r2 := r.2
      rw [g] at r2
      exact r2
    · obtain ⟨k, g2⟩ := h (j + 1) v (by simpa using g)
      exact ⟨k, by simpa using g2⟩
theorem pe_listVals (hc : X.calm = true) (hg : Gl X "list") (hm : X.mg "list" = none) (hd : PE X o td) (hbase : attributeBase o "values" X.env (eval o X.env) = eval o X.env := by rfl) (hline : (apos.endLine == mpos.line) = true := by rfl)
    (hse : starEach [Expr.Call (.Attribute o "values" apos) [] [] mpos] X.env = (false, eval (Expr.Call (.Attribute o "values" apos) [] [] mpos) X.env) :: starEach [] X.env := by rfl) :
    PE X (.Call (.Name "list" p) [.Call (.Attribute o "values" apos) [] [] mpos] [] pos) (tListVals td) := by
  refine ⟨fun pins s σ H Q I h => ?_⟩
  refine wpAny_Call_Name_kw (ld_blt I hg hm (u := .type "list") (by first | rfl | decide +kernel) ?_ (by first | decide +kernel | decide) (by first | decide +kernel | decide))
  refine callWith_type1 (args_cons (wpAny_Call_method0_late hbase hline (thn (hd.run pins s σ H _ I h) fun v s1 ⟨x, H1, I1, r1, a, kvs, ex, ha, q⟩ => ?_)) hse) hse rfl
  subst ex
  obtain rfl : v = Value.ref a := r1
  obtain ⟨hz, hsys, vs, rel, dof⟩ := dk_of I1.hok ha
  obtain ⟨ep, dat⟩ := dof.dictAt
  obtain ⟨ob, es, ho, ex, _⟩ := id dat
  refine ⟨"dict", "dict.values", F.plainAttrs_dict, F.slot_dict_values, F.type_dict_values, ⟨ob, ho, ex.1⟩, fun b e => ?_, Calls.callWith_builtin rfl (PySem.evalArgs_none ?_)⟩
  · cases e
    exact ⟨ob, ho, ex.2.1⟩
  refine call_meetsIn F.slot_dict_values ⟨ob, ho, ex.1⟩ F.entry_dict_values (F.args_dict_values_1 _) (meets_dict_values (mixKind X.prog X.w) a hsys) ⟨⟨vs, dof⟩, ?_⟩
  refine args_nil ?_
  have old : ∀ b u, s1.heap.get? b = some u → (s1.heap.push { cls := .type "dict_values", data := .fields #[.ref a] }).get? b = some u := fun b u e => Heap.get?_push_of_some _ e
  have dat1 : (s1.heap.push { cls := .type "dict_values", data := .fields #[.ref a] }).DictAt (mixKind X.prog X.w) a vs ep := dat.keep old
  refine PySem.W.kdl_call (PySem.W.kdl_values (knd := mixKind X.prog X.w) (r := s1.heap.objs.size) (d := a) (kvs := vs) (ep := ep)) (I1.ok.hd hc) ⟨⟨_, Heap.get?_push_size _ rfl, rfl, rfl⟩, dat1⟩ (by rw [← KV.length rel]; exact hz) fun h' tk acc c' hk hD hacc => ?_
  have sz : s1.heap.objs.size ≤ (s1.heap.push { cls := .type "dict_values", data := .fields #[.ref a] }).objs.size := by rw [Heap.size_push]; exact Nat.le_succ _
  have hv : Vals (kvs.map (·.2)) acc.toList := vals_at rel (by rw [Array.length_toList]; exact hacc.1) fun j v e => hacc.2 j v (by rw [← Array.getElem?_toList]; exact e)
  exact ⟨.ref _, _, I1.laid (t' := tk) (fun b u e => hk b u (old b u e)) sz (show ObjOk X.prog X.w _ _ _ (.lst (kvs.map (·.2))) from ⟨by rw [List.length_map]; exact hz, acc.toList, c', hv, by rw [Array.toArray_toList]; exact hD⟩), rfl, q _ (I1.hok.fresh sz)⟩
end
end X6
end L2
/-! == of any two books: rows, the rule -/
namespace L2
namespace Gd
open PySem PySem.Spec PyProof.Rows D1 X3
section
variable {X : Cx} {pins : List (Addr × Obj)} {σ : L2.St} {H : Hp} {s : Shared}
theorem tree_row (I : Inv X pins σ H s) {x y : V} {u v : Value} {k k' : Str} {ts us : List (Str × Str)} (hx : RowAt H x k ts) (hy : RowAt H y k' us) (n1 : (ts.map (·.1)).Nodup) (n2 : (us.map (·.1)).Nodup) (rx : RelV x u) (ry : RelV y v) :
    PySem.W.EqTree X.prog X.w s 2 u v (decide (k = k' ∧ ordT ts = ordT us)) := by
  obtain ⟨t, a, rfl, ht, ha⟩ := hx
  obtain ⟨t', a', rfl, ht', ha'⟩ := hy
  cases rx; cases ry
  by_cases tt : t = t'
  · subst tt
    rw [ht] at ht'
    have e := HO.tup.inj (Option.some.inj ht')
    injection e with e1 e2
    injection e1 with e1
    injection e2 with e2
    injection e2 with e2
    subst e1; subst e2
    have e : ordT ts = ordT us := by
      have t := tree_turns I ha ha' n1 n2
      rw [TurnsAt] at ha ha'
      rw [ha] at ha'
      have e : kT ts = kT us := by injection (Option.some.inj ha')
      have inj : ∀ {l m : List (Str × Str)}, kT l = kT m → l = m := fun {l} => by
        induction l with
        | nil => intro m h; cases m with | nil => rfl | cons _ _ => cases h
        | cons t r ih => intro m h; cases m with
          | nil => cases h
          | cons u q =>
            have h : (Sum.inr t.1, V.str t.2) :: kT r = (Sum.inr u.1, V.str u.2) :: kT q := h
            injection h with h1 h2
            injection h1 with h3 h4
            injection h3 with h3
            injection h4 with h4
            rw [ih h2, Prod.ext h3 h4]
      rw [inj e]
    rw [decide_eq_true ⟨rfl, e⟩]
    exact .same
  · obtain ⟨its, r, pl, _⟩ := I.tuple (SqT.of ht)
    obtain ⟨its2, r2, pl2, _⟩ := I.tuple (SqT.of ht')
    cases r with
    | cons a1 r =>
      cases r with
      | cons a2 r =>
        cases r
        cases r2 with
        | cons b1 r2 =>
          cases r2 with
          | cons b2 r2 =>
            cases r2
            obtain ⟨tk, rfl⟩ := a1
            obtain ⟨tk2, rfl⟩ := b1
            cases a2; cases b2
            have ek : (k == k') = decide (k = k') := by
              by_cases h : k = k'
              · rw [h, decide_eq_true rfl]; exact beq_self_eq_true _
              · rw [decide_eq_false h]; exact beq_eq_false_iff_ne.mpr h
            have tr := PySem.W.EqTree.tuples (prog := X.prog) (w := X.w) (n := 1) (e := fun j => if j = 0 then decide (k = k') else decide (ordT ts = ordT us)) tt pl pl2 fun j h1 h2 => by
              match j with
              | 0 =>
                rw [if_pos rfl, ← ek]
                exact .leaf fun A _ => SeqAt.EqAt.str_str _ _ _ _
              | 1 => exact tree_turns I ha ha' n1 n2
              | j + 2 => exact absurd h1 (by simp)
            have e : ((List.range (min 2 2)).all (fun j => if j = 0 then decide (k = k') else decide (ordT ts = ordT us)) && (2 : Nat) == 2) = decide (k = k' ∧ ordT ts = ordT us) := by
              rw [Bool.decide_and]
              show ((if 0 = 0 then decide (k = k') else _) && ((if 1 = 0 then _ else decide (ordT ts = ordT us)) && true) && true) = _
              rw [if_pos rfl, if_neg (by decide), Bool.and_true, Bool.and_true]
            rw [← e]
            exact tr
def eB (bk cl : Bk) : Key → Bool
  | .inr s => decide ((rowOf bk s).1 = (rowOf cl s).1 ∧ ordT (rowOf bk s).2 = ordT (rowOf cl s).2)
  | .inl _ => false
theorem dictE_book {bk cl : Bk} {ks ls : List (Key × V)} (h1 : Rows H ks bk) (h2 : Rows H ls cl) (n1 : (bk.map (·.1)).Nodup) (n2 : (cl.map (·.1)).Nodup) : dictE (eB bk cl) ks ls = decide (ordB bk = ordB cl) := by
  have k1 : ks.map (·.1) = (bk.map (·.1)).map Sum.inr := by rw [h1.keys, List.map_map]; rfl
  have k2 : ls.map (·.1) = (cl.map (·.1)).map Sum.inr := by rw [h2.keys, List.map_map]; rfl
  rw [Bool.eq_iff_iff, decide_eq_true_iff, ordB_dec n1 n2]
  unfold dictE
  have al : (ks.all fun p => (valV ls p.1).isSome && eB bk cl p.1) = ((ks.map (·.1)).all fun k => (valV ls k).isSome && eB bk cl k) := by rw [List.all_map]; rfl
  rw [Bool.and_eq_true, beq_iff_eq, h1.len, h2.len, al, k1, List.all_map, List.all_eq_true]
  have hv : ∀ k, (valV ls (Sum.inr k)).isSome = true ↔ k ∈ cl.map (·.1) := fun k => by
    rw [← valV_any, List.any_eq_true]
    constructor
    · rintro ⟨p, hp, e⟩
      have : (Sum.inr k : Key) ∈ ls.map (·.1) := by rw [← of_decide_eq_true e]; exact List.mem_map_of_mem hp
      rw [k2] at this
      obtain ⟨z, hz, e⟩ := List.mem_map.mp this
      cases e
      exact hz
    · intro z
      have : (Sum.inr k : Key) ∈ ls.map (·.1) := by rw [k2]; exact List.mem_map_of_mem z
      obtain ⟨p, hp, e⟩ := List.mem_map.mp this
      exact ⟨p, hp, decide_eq_true e⟩
  refine and_congr_right fun _ => ?_
  constructor
  · intro h k hk
    have := h k hk
    rw [Function.comp, Bool.and_eq_true] at this
    exact ⟨(hv _).mp this.1, of_decide_eq_true this.2⟩
  · intro h k hk
    obtain ⟨a, b⟩ := h k hk
    rw [Function.comp, Bool.and_eq_true]
    exact ⟨(hv _).mpr a, decide_eq_true b⟩
end
def rEqBk : R2 := fun x y H Q => ∃ (a b : Addr) (bk cl : Bk), x = .ref a ∧ y = .ref b ∧ BookR H a bk ∧ BookR H b cl ∧ BOk bk ∧ BOk cl ∧ Q (.bl (decide (ordB bk = ordB cl))) H
theorem op_eqBk {X : Cx} (hu : X.A.units + 4 < cLine) : OpR X (compareOp .Eq) rEqBk := by
  intro pins s σ H x y v u Q I rx ry h
  obtain ⟨a, b, bk, cl, rfl, rfl, ⟨ks, h3, r1⟩, ⟨ls, h4, r2⟩, o1, o2, q⟩ := h
  obtain rfl : v = Value.ref a := rx
  obtain rfl : u = Value.ref b := ry
  obtain ⟨_, ya, va, ra, da⟩ := dk_rd I.hok h3
  obtain ⟨_, yb, vb, rb, db⟩ := dk_rd I.hok h4
  refine PySem.W.eq_dictsT (knd := mixKind X.prog X.w) (n := 2) (e := eB bk cl) ya yb da db (val_tree ra rb fun k x y u v hk hy rx ry => ?_) (by omega) ?_
  · have km : k ∈ ks.map (·.1) := List.mem_map_of_mem (f := (·.1)) hk
    rw [r1.keys] at km
    obtain ⟨r, hr, rfl⟩ := List.mem_map.mp km
    obtain ⟨x0, e0, w0, _⟩ := r1.look (List.mem_map_of_mem (f := (·.1)) hr)
    have nk : (ks.map (·.1)).Nodup := by rw [r1.keys]; exact (by have := o1.nd; rw [show (bk.map fun r => (Sum.inr r.1 : Key)) = (bk.map (·.1)).map Sum.inr by rw [List.map_map]; rfl]; exact inr_nd' this)
    obtain ⟨i, hi, ei⟩ := List.getElem_of_mem hk
    have ex : valV ks (Sum.inr r.1) = some x := val_at (i := i) nk (by rw [List.getElem?_eq_getElem hi, ei])
    rw [e0] at ex
    cases ex
    have ym : r.1 ∈ cl.map (·.1) := by
      have : (Sum.inr r.1 : Key) ∈ ls.map (·.1) := by
        have h : (ls.any fun p => decide (p.1 = Sum.inr r.1)) = true := by rw [valV_any, hy]; rfl
        obtain ⟨p, hp, e⟩ := List.any_eq_true.mp h
        rw [← of_decide_eq_true e]; exact List.mem_map_of_mem hp
      rw [r2.keys] at this
      obtain ⟨z, hz, e⟩ := List.mem_map.mp this
      rw [← Sum.inr.inj e]
      exact List.mem_map_of_mem hz
    obtain ⟨y0, f0, z0, _⟩ := r2.look ym
    rw [hy] at f0
    cases f0
    exact tree_row I w0 z0 (o1.rs _ (row_mem (List.mem_map_of_mem (f := (·.1)) hr))).1 (o2.rs _ (row_mem ym)).1 rx ry
  · rw [dictE_of ra rb, dictE_book r1 r2 o1.nd o2.nd]
    exact ⟨.bl _, H, I, rfl, q⟩
end Gd
end L2
/-! a desk beside what is none: x == d, d == x -/
namespace PySem
section
variable {prog : Program} {w : World}
theorem int_declines_inst (b : Int) (u : Tok) (l C dx : Addr) : MeetsIn prog w (Builtin.«int.__eq__» ⟨[.int b u, .ref l], []⟩) (fun _ R s => s.heap.get? l = some (W.instObj C dx) ∧ R (.ok (.ret .notImplemented)) s) := by
  intro A R s h
  obtain ⟨hp, g, d, tk, os⟩ := s
  obtain ⟨hl, h⟩ := h
  wp_walk using AutoSeq1.wpAny_loadPart' hl, wpAny_load hl
  exact h
theorem bool_declines_inst (b : Bool) (l C dx : Addr) : MeetsIn prog w (Builtin.«int.__eq__» ⟨[.bool b, .ref l], []⟩) (fun _ R s => s.heap.get? l = some (W.instObj C dx) ∧ R (.ok (.ret .notImplemented)) s) := by
  intro A R s h
  obtain ⟨hp, g, d, tk, os⟩ := s
  obtain ⟨hl, h⟩ := h
  wp_walk using AutoSeq1.wpAny_loadPart' hl, wpAny_load hl
  exact h
theorem str_declines_inst (b : Str) (u : Tok) (l C dx : Addr) : MeetsIn prog w (Builtin.«str.__eq__» ⟨[.str b u, .ref l], []⟩) (fun _ R s => s.heap.get? l = some (W.instObj C dx) ∧ R (.ok (.ret .notImplemented)) s) := by
  intro A R s h
  obtain ⟨hp, g, d, tk, os⟩ := s
  obtain ⟨hl, h⟩ := h
  wp_walk using AutoSeq1.wpAny_loadPart' hl, wpAny_load hl
  exact h
/-- the class is none of T's -/
def NoSub (prog : Program) (w : World) (h : Heap) (C : Addr) (T : String) : Prop := ∀ (A : Around) (Q : Bool → Shared → Prop) (E : Value → Shared → Prop) (s : Shared), (∀ b o, h.get? b = some o → s.heap.get? b = some o) → Q false s → wpAny (model prog w) A (isSubtype (.ref C) (.type T)) Q E s
theorem list_declines_inst (p l C dx : Addr) (items : Array Value) (n : Nat) (dd : Option Addr) (sl : Array (Option Value)) : MeetsIn prog w (Builtin.«list.__eq__» ⟨[.ref p, .ref l], []⟩) (fun _ R s => s.heap.get? p = some { cls := .type "list", dict := dd, data := .seq items n, slots := sl } ∧ s.heap.get? l = some (W.instObj C dx) ∧ NoSub prog w s.heap C "list" ∧ R (.ok (.ret .notImplemented)) s) := by
  intro A R s h
  obtain ⟨hp, g, d, tk, os⟩ := s
  obtain ⟨hl, hi, hn, h⟩ := h
  wp_walk using AutoSeq1.wpAny_loadPart' hl, wpAny_load hl
  refine hn _ _ _ _ (fun _ _ e => e) ?_
  wp_walk
  exact h
theorem tuple_declines_inst (p l C dx : Addr) (items : Array Value) (n : Nat) (dd : Option Addr) (sl : Array (Option Value)) : MeetsIn prog w (Builtin.«tuple.__eq__» ⟨[.ref p, .ref l], []⟩) (fun _ R s => s.heap.get? p = some { cls := .type "tuple", dict := dd, data := .seq items n, slots := sl } ∧ s.heap.get? l = some (W.instObj C dx) ∧ NoSub prog w s.heap C "tuple" ∧ R (.ok (.ret .notImplemented)) s) := by
  intro A R s h
  obtain ⟨hp, g, d, tk, os⟩ := s
  obtain ⟨hl, hi, hn, h⟩ := h
  wp_walk using AutoSeq1.wpAny_loadPart' hl, wpAny_load hl
  refine hn _ _ _ _ (fun _ _ e => e) ?_
  wp_walk
  exact h
theorem dict_declines_inst (p l C dx : Addr) (o : Obj) (x : o.cls = .type "dict") : MeetsIn prog w (Builtin.«dict.__eq__» ⟨[.ref p, .ref l], []⟩) (fun _ R s => s.heap.get? p = some o ∧ s.heap.get? l = some (W.instObj C dx) ∧ NoSub prog w s.heap C "dict" ∧ R (.ok (.ret .notImplemented)) s) := by
  intro A R s h
  obtain ⟨hp, g, d, tk, os⟩ := s
  obtain ⟨hl, hi, hn, h⟩ := h
  wp_walk using AutoSeq1.wpAny_loadPart' hl, wpAny_load hl
  refine hn _ _ _ _ (fun _ _ e => e) ?_
  wp_walk
  exact h
/-- the special that stands before the turn: T's own ==, which declines -/
def Declines (prog : Program) (w : World) (s : Shared) (a b : Value) : Prop := ∀ (A : Around) (E : Value → Shared → Prop) (Q : Option Value → Shared → Prop), Q none s → wpAny (model prog w) A (tryCompare a (Str.ofString "__eq__") b) Q E s
theorem decl_int {s : Shared} {b : Int} {u : Tok} {l C dx : Addr} (hi : s.heap.get? l = some (W.instObj C dx)) : Declines prog w s (.int b u) (.ref l) := fun A E Q q => wpAny_tryCompare_declines (typeIs_int s b u) F.slot_int_eq (call_meetsIn F.slot_int_eq (typeIs_int s b u) F.entry_int_eq (F.args_int_eq_2 _ _) (int_declines_inst b u l C dx) ⟨hi, rfl, q⟩)
theorem decl_bool {s : Shared} {b : Bool} {l C dx : Addr} (hi : s.heap.get? l = some (W.instObj C dx)) : Declines prog w s (.bool b) (.ref l) := fun A E Q q => wpAny_tryCompare_declines (typeIs_bool s b) F.slot_bool_eq (call_meetsIn F.slot_bool_eq (typeIs_bool s b) F.entry_int_eq (F.args_int_eq_2 _ _) (bool_declines_inst b l C dx) ⟨hi, rfl, q⟩)
theorem decl_str {s : Shared} {b : Str} {u : Tok} {l C dx : Addr} (hi : s.heap.get? l = some (W.instObj C dx)) : Declines prog w s (.str b u) (.ref l) := fun A E Q q => wpAny_tryCompare_declines (typeIs_str s b u) F.slot_str_eq (call_meetsIn F.slot_str_eq (typeIs_str s b u) F.entry_str_eq (F.args_str_eq_2 _ _) (str_declines_inst b u l C dx) ⟨hi, rfl, q⟩)
theorem decl_none {s : Shared} {l : Addr} : Declines prog w s .none (.ref l) := fun A E Q q => wpAny_tryCompare_declines (typeIs_none s) F.slot_NoneType_eq (call_gives F.slot_NoneType_eq (typeIs_none s) F.entry_NoneType_eq (F.args_NoneType_eq_2 _ _) (SeqAt.NoneType___eq___none_ref_0 l) ⟨rfl, q⟩)
theorem decl_list {s : Shared} {p l C dx : Addr} {items : Array Value} {n : Nat} {dd : Option Addr} {sl : Array (Option Value)} (hl : s.heap.get? p = some { cls := .type "list", dict := dd, data := .seq items n, slots := sl }) (hi : s.heap.get? l = some (W.instObj C dx)) (hn : NoSub prog w s.heap C "list") : Declines prog w s (.ref p) (.ref l) :=
  fun A E Q q => wpAny_tryCompare_declines ⟨_, hl, rfl⟩ F.slot_list_eq (call_meetsIn F.slot_list_eq ⟨_, hl, rfl⟩ F.entry_list_eq (F.args_list_eq_2 _ _) (list_declines_inst p l C dx items n dd sl) ⟨hl, hi, hn, rfl, q⟩)
theorem decl_tuple {s : Shared} {p l C dx : Addr} {items : Array Value} {n : Nat} {dd : Option Addr} {sl : Array (Option Value)} (hl : s.heap.get? p = some { cls := .type "tuple", dict := dd, data := .seq items n, slots := sl }) (hi : s.heap.get? l = some (W.instObj C dx)) (hn : NoSub prog w s.heap C "tuple") : Declines prog w s (.ref p) (.ref l) :=
  fun A E Q q => wpAny_tryCompare_declines ⟨_, hl, rfl⟩ F.slot_tuple_eq (call_meetsIn F.slot_tuple_eq ⟨_, hl, rfl⟩ F.entry_tuple_eq (F.args_tuple_eq_2 _ _) (tuple_declines_inst p l C dx items n dd sl) ⟨hl, hi, hn, rfl, q⟩)
theorem decl_dict {s : Shared} {p l C dx : Addr} {o : Obj} (hl : s.heap.get? p = some o) (x : o.cls = .type "dict") (hi : s.heap.get? l = some (W.instObj C dx)) (hn : NoSub prog w s.heap C "dict") : Declines prog w s (.ref p) (.ref l) :=
  fun A E Q q => wpAny_tryCompare_declines ⟨_, hl, x⟩ F.slot_dict_eq (call_meetsIn F.slot_dict_eq ⟨_, hl, x⟩ F.entry_dict_eq (F.args_dict_eq_2 _ _) (dict_declines_inst p l C dx o x) ⟨hl, hi, hn, rfl, q⟩)
end
end PySem
/-! != of a desk and what is none; the rules over the class's own == -/
namespace PySem
section
variable {prog : Program} {w : World} {A : Around} {E : Value → Shared → Prop} {h : Heap} {g : Array GenState} {d : Drawn} {t : Nat} {os : OsState} {C x f : Addr} {z : Value} {B : String} {bm : List Value}
theorem ne_entry_any (X : h.OwnEqNoNe x C f B bm) (hu : A.units < cLine) {Q : Fin → Shared → Prop} (hcall : wpAny (model prog w) A (call (.ref f) [.ref x, z]) (fun v s' => ∃ b, v = .bool b ∧ Q (.done (.ret (.bool (!b)))) s') E ⟨h, g, d, t, os⟩) :
    wpAny (model prog w) A (Builtin.«object.__ne__» ⟨[.ref x, z], []⟩) Q E ⟨h, g, d, t, os⟩ := by
  unfold Builtin.«object.__ne__»
  repeat (first
    | (with_reducible refine wpAny_cRoomFor hu ?_)
    | (refine wpAny_bind (m := callSpecialIfBound? (.ref x) (Str.ofString "__eq__") [z]) (wpAny_callSpecialIfBound?_own X.ownEq (wpAny_mono hcall (fun r s' hr => by
          obtain ⟨b, rfl, hq⟩ := hr
          repeat (first | exact hq | exact wpAny_pure hq | exact wpAny_truthy_bool hq | (refine wpAny_bind (m := truthy (.bool _)) (wpAny_truthy_bool ?_)) | wp_step)) (fun _ _ e => e))))
    | wp_step)
theorem try_ne_any (FB : CmpFacts B bm) (X : h.OwnEqNoNe x C f B bm) (hu : A.units + 1 < cLine) {Q : Option Value → Shared → Prop} (hcall : wpAny (model prog w) A.in1 (call (.ref f) [.ref x, z]) (fun v s' => ∃ b, v = .bool b ∧ Q (some (.bool (!b))) s') E ⟨h, g, d, t, os⟩) :
    wpAny (model prog w) A (tryCompare (.ref x) "__ne__" z) Q E ⟨h, g, d, t, os⟩ := by
  obtain ⟨o, of, nm, q, N, bs, hdct, sn, sub, ab, col, dd, k0, k1, k2, k3, k5, newId, mN, yv, hx, hc, hC, hn, _, _, _, _, _, hne⟩ := id X
  simp only [tryCompare]
  refine wpAny_bind (wpAny_callSpecialIfBound?_inst hx hc hC hn hne FB.mro FB.ne (wpAny_call (codeAny_call_builtin FB.ne.plain F.cmpEntry_ne (wpAny_check_slot_inst F.cmpKind_ne F.cmpSplit_ne (F.cmpArgs_ne _ _) FB.hasObject hx hc hC
      (ne_entry_any (A := A.in1) X hu (wpAny_mono hcall (fun v s' hv => ?_) (fun _ _ e => e)))))))
  obtain ⟨b, rfl, hq⟩ := hv
  first | exact ⟨b, rfl, wpAny_pure hq⟩ | exact ⟨b, rfl, wpAny_pure (wpAny_pure hq)⟩ | exact ⟨b, rfl, hq⟩
end
end PySem
/-! the rules: d == x, d != x, x == d -/
namespace PySem
open PySem.W
section
variable {prog : Program} {w : World} {A : Around} {E : Value → Shared → Prop} {h : Heap} {g : Array GenState} {d : Drawn} {t : Nat} {os : OsState} {C x f : Addr} {z tb : Value} {B : String} {bm : List Value} {K : Frag}
theorem rc_ne_any (kx : K.In h) (FB : CmpFacts B bm) (X : h.OwnEqNoNe x C f B bm) (lk : Looks (model prog w) h (typeOf z) tb) (nf : notFirst K C tb = true) (hu : A.units + 1 < cLine) {Q : Value → Shared → Prop}
    (hcall : wpAny (model prog w) A.in1 (call (.ref f) [.ref x, z]) (fun v s' => ∃ b, v = .bool b ∧ Q (.bool (!b)) s') E ⟨h, g, d, t, os⟩) : wpAny (model prog w) A (richCompare .NotEq (.ref x) z) Q E ⟨h, g, d, t, os⟩ := by
  obtain ⟨o, of, nm, q, N, bs, hdct, sn, sub, ab, col, dd, k0, k1, k2, k3, k5, newId, mN, yv, hx, hc, _⟩ := id X
  have fin : wpAny (model prog w) A (tryCompare (.ref x) "__ne__" z) (fun r s' => ∃ v, r = some v ∧ Q v s') E ⟨h, g, d, t, os⟩ := try_ne_any FB X hu (wpAny_mono hcall (fun v s' ⟨b, e, hq⟩ => ⟨b, e, _, rfl, hq⟩) (fun _ _ e => e))
  unfold richCompare
  simp only [oneThing_ref]
  refine wpAny_holding (wpAny_bind (wpAny_cRoomFor (Nat.lt_of_succ_lt hu) ?_))
  rw [cmpInfo_NotEq]
  dsimp only
  refine wpAny_bind (wpAny_typeOf_ref hx ?_)
  rw [hc]
  refine wpAny_bind (lk.at ?_)
  split
  · rename_i q
    have e : subIn K tb (.ref C) = some false := by
      rcases Bool.or_eq_true_iff.mp nf with e | e
      · rw [beq_iff_eq.mp e] at q; simp at q
      · exact beq_iff_eq.mp e
    refine wpAny_bind ((looks_subIn kx e).at ?_)
    simp only [Bool.false_eq_true, if_false]
    refine wpAny_bind (wpAny_mono fin (fun r s' ⟨v, er, hq⟩ => ?_) (fun _ _ e => e))
    subst er
    exact wpAny_pure hq
  · refine wpAny_bind (wpAny_pure ?_)
    simp only [Bool.false_eq_true, if_false]
    refine wpAny_bind (wpAny_mono fin (fun r s' ⟨v, er, hq⟩ => ?_) (fun _ _ e => e))
    subst er
    exact wpAny_pure hq
theorem rc_left_K {s : Shared} {a : Value} {T : String} {ox : Obj} {od : Option Obj} (kx : K.In s.heap) (hu : A.units < cLine) (ha : s.TypeIs a T) (I : InstAt s.heap x ox C od) (hs : findIn K (.ref C) "__eq__" = some (some (.ref f))) (hf : isFn K (.ref f) = true) (sub : subIn K (.ref C) (.type T) = some false)
    (dc : Declines prog w s a (.ref x)) {Q : Value → Shared → Prop} (hcall : wpAny (model prog w) A (call (.ref f) [.ref x, a]) (CmpBack Q) E s) : wpAny (model prog w) A (richCompare .Eq a (.ref x)) Q E s := by
  have fin : wpAny (model prog w) A (tryCompare (.ref x) "__eq__" a) (fun r s' => ∃ v, r = some v ∧ Q v s') E s := by
    unfold tryCompare
    refine wpAny_bind (ifBound_K kx I hs hf (wpAny_mono hcall (fun v s' hv => ?_) (fun _ _ e => e)))
    cases v <;> first | exact hv.elim | exact wpAny_pure ⟨_, rfl, hv⟩
  unfold richCompare
  simp only [ha.oneThing_none]
  refine wpAny_holding (wpAny_bind (wpAny_cRoomFor hu ?_))
  show wpAny _ _ (typeOf a >>= _) _ _ _
  refine wpAny_bind (wpAny_typeOf ha (wpAny_bind (I.type.here ?_)))
  rw [if_pos (by rfl)]
  refine wpAny_bind ((looks_subIn kx sub).here ?_)
  simp only [Bool.false_eq_true, if_false]
  refine wpAny_bind (dc _ _ _ ?_)
  simp only [Bool.not_false, if_true]
  refine wpAny_bind (wpAny_mono fin (fun r s' ⟨v, er, hq⟩ => ?_) (fun _ _ e => e))
  subst er
  exact wpAny_pure hq
end
end PySem
/-! the class's own ==, whatever stands beside -/
namespace L2
namespace Gd
open PySem PySem.Spec PyProof.Rows D1 D2 X3
def spEqV (R : V → V → Bool → Hp → Prop) : Sp := fun vs H Q _ => ∃ x y r, vs = [x, y] ∧ R x y r H ∧ Q (.bl r) H
/-- an instance of the class, or what is of a built-in type -/
def Yk (K : PySem.W.Frag) (C : Addr) (H : Hp) (y : V) : Prop := (∃ p dy gs, y = .ref p ∧ H p = some (.ins C dy gs)) ∨ ∃ T, TyOf K H y (.type T) ∧ PySem.W.subIn K (.type T) (.ref C) = some false
section
variable {X : Cx} {pins : List (Addr × Obj)} {σ : L2.St} {H : Hp} {s : Shared}
theorem ty_is {x : V} {u : Value} {T : String} (I : Inv X pins σ H s) (rx : RelV x u) (ty : TyOf X.K H x (.type T)) : ∀ s' : Shared, (∀ b o, s.heap.get? b = some o → s'.heap.get? b = some o) → s'.TypeIs u T := by
  intro s' k
  cases ty with
  | non => cases rx; exact typeIs_none s'
  | bl b => cases (show u = Value.bool b from rx); exact PySem.typeIs_bool s' b
  | int i => obtain ⟨t, rfl⟩ := rx; exact typeIs_int s' i t
  | str z => obtain ⟨t, rfl⟩ := rx; exact typeIs_str s' z t
  | flt z => obtain ⟨t, rfl⟩ := rx; exact typeIs_float s' z t
  | lst e =>
    cases rx
    obtain ⟨_, _, n, _, h1⟩ := I.hok _ _ e
    exact ⟨_, k _ _ h1, rfl⟩
  | frz e =>
    cases rx
    obtain ⟨_, _, _, n, _, h1⟩ := I.hok _ _ e
    exact ⟨_, k _ _ h1, rfl⟩
  | tup e =>
    cases rx
    obtain ⟨_, _, _, o, h1, h2, _⟩ := I.hok _ _ e
    exact ⟨_, k _ _ h1, h2⟩
  | dK e =>
    cases rx
    obtain ⟨_, _, vs, _, o, es, ep, h1, h2, _⟩ := I.hok _ _ e
    exact ⟨_, k _ _ h1, h2.1⟩
  | dT e =>
    cases rx
    obtain ⟨_, _, xs, _, o, es, ep, h1, h2, _⟩ := I.hok _ _ e
    exact ⟨_, k _ _ h1, h2.1⟩
theorem looks_yk {y : V} {u : Value} {C : Addr} (I : Inv X pins σ H s) (ry : RelV y u) (hy : Yk X.K C H y) : ∃ tb, PySem.W.Looks (model X.prog X.w) s.heap (typeOf u) tb ∧ PySem.W.notFirst X.K C tb = true := by
  rcases hy with ⟨p, dy, gs, rfl, hp⟩ | ⟨T, ty, sb⟩
  · cases ry
    obtain ⟨mB, J', _⟩ := ins_get I.hok hp
    obtain ⟨od', J', _⟩ := J'.look
    exact ⟨_, J'.type, by simp [PySem.W.notFirst]⟩
  · refine ⟨.type T, fun A Q E s' k q => wpAny_typeOf (ty_is I ry ty s' k) q, ?_⟩
    unfold PySem.W.notFirst
    rw [sb]; simp
theorem call_eqV {n : Nat} {f : Addr} {fd : FuncData} {ps : List PySem.Str} {R : V → V → Bool → Hp → Prop} (F : FnOk X.prog X.w X.K X.mg X.base CX0 n f fd ps (spEqV R)) (hb : Binds X.K fd ps []) {A : Around} (rm : Room n A) (fr : A.frames = X.A.frames) (I : Inv X pins σ H s) {x y : V} {u v : Value} {r : Bool} (rx : RelV x u) (ry : RelV y v) (hr : R x y r H) :
    wpAny (model X.prog X.w) A (call (.ref f) [u, v]) (fun z s' => z = .bool r ∧ Inv X pins σ H s') X.xe s := by
  have hsp : spEqV R [x, y] H (fun v H' => v = .bl r ∧ H' = H) E0 := ⟨x, y, r, rfl, hr, rfl, rfl⟩
  have e := I.env0
  have e0 : Env0 X.prog X.w X.K X.mg X.base A X.stack s H := ⟨by rw [fr]; exact e.frames, e.mod, e.bs, e.bsz, e.funs, e.frf, e.hok, e.bare⟩
  have hl := F.len _ _ _ _ hsp
  have bn := hb s [u, v] I.kIn (by simpa using hl)
  refine wpAny_call (codeAny_mono (F.run A X.stack s H ⟨[u, v], []⟩ [u, v] [x, y] _ E0 rm e0 (by simpa using bn) (.cons rx (.cons ry .nil)) hsp) (fun r' s' hq => ?_))
  match r' with
  | .error e => exact False.elim hq
  | .ok (.ret w) =>
    obtain ⟨z, H', I', rz, ez, ex⟩ := I.after hq
    subst ez ex
    cases rz
    exact ⟨rfl, I'⟩
  | .ok .next => exact False.elim hq
  | .ok .brk => exact False.elim hq
  | .ok .cont => exact False.elim hq
end
def rEqV (K : PySem.W.Frag) (C : Addr) (R : V → V → Bool → Hp → Prop) (w : Bool → Bool) : R2 := fun x y H Q => ∃ a dx fs r, x = .ref a ∧ H a = some (.ins C dx fs) ∧ Yk K C H y ∧ R x y r H ∧ Q (.bl (w r)) H
/-- built-in kinds that may stand to the left -/
def Lk (K : PySem.W.Frag) (C : Addr) (H : Hp) (x : V) : Prop := ∃ T, TyOf K H x (.type T) ∧ T ≠ "float" ∧ PySem.W.subIn K (.ref C) (.type T) = some false
def rEqO (K : PySem.W.Frag) (C : Addr) (R : V → V → Bool → Hp → Prop) : R2 := fun x y H Q => ∃ a dx fs r, y = .ref a ∧ H a = some (.ins C dx fs) ∧ Lk K C H x ∧ R y x r H ∧ Q (.bl r) H
section
variable {X : Cx} {n : Nat} {C f : Addr} {fd : FuncData} {ps : List PySem.Str} {R : V → V → Bool → Hp → Prop}
theorem op_eqV (F : FnOk X.prog X.w X.K X.mg X.base CX0 n f fd ps (spEqV R)) (hb : Binds X.K fd ps []) (hs : PySem.W.findIn X.K (.ref C) "__eq__" = some (some (.ref f))) (hf : PySem.W.isFn X.K (.ref f) = true) (rm : Room n X.A) : OpR X (compareOp .Eq) (rEqV X.K C R id) := by
  intro pins s σ H x y v u Q I rx ry hq
  obtain ⟨a, dx, fs, r, rfl, ha, hy, hr, q⟩ := hq
  obtain rfl : v = Value.ref a := rx
  obtain ⟨mA, J, _⟩ := ins_get I.hok ha
  obtain ⟨od, J, _⟩ := J.look
  obtain ⟨tb, lk, nf⟩ := looks_yk I ry hy
  obtain ⟨m, hF⟩ := I.fr
  show wpAny (model X.prog X.w) X.A (richCompare .Eq (.ref a) u) (EP X pins σ Q) X.xe s
  refine PySem.W.cmp_K (op := .Eq) (tb := tb) rm.units0 hF I.ok.mod.kin J lk nf hs hf (wpAny_mono (call_eqV F hb rm rfl I (x := .ref a) rfl ry hr) (fun v' s' hv => ?_) fun _ _ z => z)
  obtain ⟨rfl, I'⟩ := hv
  exact ⟨.bl r, H, I', rfl, q⟩
theorem op_neV (F : FnOk X.prog X.w X.K X.mg X.base CX0 n f fd ps (spEqV R)) (hb : Binds X.K fd ps []) (N : NeF X.K C f) (rm : Room (n + 1) X.A) : OpR X (compareOp .NotEq) (rEqV X.K C R not) := by
  intro pins s σ H x y v u Q I rx ry hq
  obtain ⟨a, dx, fs, r, rfl, ha, hy, hr, q⟩ := hq
  obtain rfl : v = Value.ref a := rx
  obtain ⟨_, _, _, e1, _⟩ := (show ObjOk X.prog X.w H s.heap a (.ins C dx fs) from I.hok a _ ha)
  have own := N.ne s.heap a _ I.kIn e1 rfl
  obtain ⟨tb, lk, nf⟩ := looks_yk I ry hy
  show wpAny (model X.prog X.w) X.A (richCompare .NotEq (.ref a) u) (EP X pins σ Q) X.xe s
  refine rc_ne_any I.kIn PySem.F.cmp_object own lk nf ?_ (wpAny_mono (call_eqV (s := s) F hb rm.in1 rfl I (x := .ref a) rfl ry hr) (fun v' s' hv => ?_) fun _ _ z => z)
  · exact Nat.lt_of_le_of_lt (Nat.add_le_add_left (by decide : 1 ≤ 64) _) rm.units
  · obtain ⟨rfl, I'⟩ := hv
    exact ⟨r, rfl, .bl (!r), H, I', rfl, q⟩
theorem op_eqO (F : FnOk X.prog X.w X.K X.mg X.base CX0 n f fd ps (spEqV R)) (hb : Binds X.K fd ps []) (hs : PySem.W.findIn X.K (.ref C) "__eq__" = some (some (.ref f))) (hf : PySem.W.isFn X.K (.ref f) = true) (rm : Room n X.A) : OpR X (compareOp .Eq) (rEqO X.K C R) := by
  intro pins s σ H x y v u Q I rx ry hq
  obtain ⟨a, dx, fs, r, rfl, ha, ⟨T, ty, nfl, sb⟩, hr, q⟩ := hq
  obtain rfl : u = Value.ref a := ry
  obtain ⟨_, _, _, e1, _⟩ := (show ObjOk X.prog X.w H s.heap a (.ins C dx fs) from I.hok a _ ha)
  obtain ⟨mA, J, _⟩ := ins_get I.hok ha
  obtain ⟨od, J, _⟩ := J.look
  have ns : NoSub X.prog X.w s.heap C T := fun A Q E s' k q => (PySem.W.looks_subIn (I.kIn) sb) A Q E s' k q
  have dc : Declines X.prog X.w s v (.ref a) := by
    cases ty with
    | non => cases rx; exact decl_none
    | bl b => cases (show v = Value.bool b from rx); exact decl_bool e1
    | int i => obtain ⟨t, rfl⟩ := rx; exact decl_int e1
    | str z => obtain ⟨t, rfl⟩ := rx; exact decl_str e1
    | flt z => exact absurd rfl nfl
    | lst e =>
      cases rx
      obtain ⟨_, _, n, _, h1⟩ := I.hok _ _ e
      exact decl_list h1 e1 ns
    | frz e =>
      cases rx
      obtain ⟨_, _, _, n, _, h1⟩ := I.hok _ _ e
      exact decl_list h1 e1 ns
    | tup e =>
      cases rx
      obtain ⟨_, its, _, o, h1, h2, n, h3⟩ := I.hok _ _ e
      obtain ⟨oc, od, dt, sl⟩ := o
      simp only at h2 h3
      subst h2 h3
      exact decl_tuple h1 e1 ns
    | dK e =>
      cases rx
      obtain ⟨_, _, vs, _, o, es, ep, h1, h2, _⟩ := I.hok _ _ e
      exact decl_dict h1 h2.1 e1 ns
    | dT e =>
      cases rx
      obtain ⟨_, _, xs, _, o, es, ep, h1, h2, _⟩ := I.hok _ _ e
      exact decl_dict h1 h2.1 e1 ns
  show wpAny (model X.prog X.w) X.A (richCompare .Eq v (.ref a)) (EP X pins σ Q) X.xe s
  refine rc_left_K I.kIn rm.units0 (ty_is I rx ty s (fun _ _ e => e)) J hs hf sb dc (wpAny_mono (call_eqV F hb rm rfl I (x := .ref a) rfl rx hr) (fun v' s' hv => ?_) fun _ _ z => z)
  obtain ⟨rfl, I'⟩ := hv
  exact ⟨.bl r, H, I', rfl, q⟩
end
end Gd
end L2
/-! Desk.__eq__, whatever stands beside; what the rules want of it -/
namespace L2
namespace Gd
open PySem PySem.Spec PyProof.Rows D1 D2 X3
/-- a desk beside a desk, or beside what is none -/
def RV (K : PySem.W.Frag) (C : Addr) : V → V → Bool → Hp → Prop := fun x y r H => ∃ q bk st, x = .ref q ∧ DeskAt C H q bk st ∧ DOk bk st ∧
  ((∃ p cl s', y = .ref p ∧ DeskAt C H p cl s' ∧ DOk cl s' ∧ r = (decide (ordB bk = ordB cl) && decide (st = s'))) ∨ (∃ T, TyOf K H y (.type T) ∧ PySem.W.kitOne K (.type T) (.ref C) = some false ∧ r = false))
section
variable {P : Program} {w : World} {K : PySem.W.Frag} {mg : Str → Option Value} {base : Heap} {C : Addr}
theorem ok_deqV {f : Addr} {fd : FuncData} (F : Fun K "__eq__" "Desk.__eq__" sDEq f fd) (T : Free3 mg) (D : DTxt K mg C) (c : C8.InsC K C) : FnOk P w K mg base CX0 1 f fd ["self", "other"] (spEqV (RV K C)) := by
  refine F.ok scDe (fun vs H Q E h => ?_) (fun cdv A outer s H vs Q E hr h => ?_)
  · obtain ⟨a, b, r, rfl, _⟩ := h; rfl
  · obtain ⟨x, y, r0, rfl, ⟨q, bk, st, rfl, ⟨dx, b, hq, hb⟩, ok, hy⟩, k⟩ := h
    refine ⟨_, pss_one (ps_ret (pe_and (pe_callB call_isi (by rfl) T.isi (by decide +kernel) (pa_cons (pv 1) (pa_cons (pe_glob (v := .ref C) rfl D.mgC rfl) pa_nil))) (pe_and (pe_cmpR (op_eqBk (Nat.lt_of_le_of_lt (Nat.add_le_add_left (by decide : 4 ≤ 64) _) hr.units)) (pe_fld (pv 0) rfl) (pe_fld (pv 1) rfl) (nomark _)) (pe_one (pe_cmpR op_eq (pe_fld (pv 0) rfl) (pe_fld (pv 1) rfl) (nomark _)))))), ?_⟩
    rcases hy with ⟨p, cl, s', rfl, ⟨dy, b', hp, hb'⟩, ok', rfl⟩ | ⟨T0, ty, kf, rfl⟩
    · refine ⟨_, rfl, _, _, _, _, true, rfl, .own C, .base (.ins hp D.cl c.ha c.hn c.htk c.hm), c.me, true, rfl, iteT ?_⟩
      refine ⟨_, rfl, q, C, dx, _, _, rfl, hq, D.cl, D.nB, dflds_book _ _, _, rfl, p, C, dy, _, _, rfl, hp, D.cl, D.nB, dflds_book _ _, ?_⟩
      refine ⟨b, b', _, _, rfl, rfl, hb, hb', ok.obok, ok'.obok, ?_⟩
      rw [ordB_ordB ok.nd, ordB_ordB ok'.nd]
      by_cases e : ordB bk = ordB cl
      · rw [decide_eq_true e] at k ⊢
        refine ⟨true, rfl, iteT ?_⟩
        refine ⟨_, rfl, q, C, dx, _, _, rfl, hq, D.cl, D.nS, dflds_start _ _, _, rfl, p, C, dy, _, _, rfl, hp, D.cl, D.nS, dflds_start _ _, rfl, ?_⟩
        have ed : decide (V.str st = V.str s') = decide (st = s') := by
          by_cases h : st = s'
          · rw [h, decide_eq_true rfl, decide_eq_true rfl]
          · rw [decide_eq_false h, decide_eq_false fun z => h (V.str.inj z)]
        rw [ed]
        exact k
      · rw [decide_eq_false e] at k ⊢
        exact ⟨false, rfl, iteF k⟩
    · exact ⟨_, rfl, _, _, _, _, false, rfl, .own C, .base ty, kf, false, rfl, iteF k⟩
end
/-- the kinds that a desk is held against -/
def kinds : List String := ["NoneType", "int", "bool", "str", "list", "tuple", "dict"]
structure NoK (K : PySem.W.Frag) (C : Addr) : Prop where
  kit : ∀ T ∈ kinds, PySem.W.kitOne K (.type T) (.ref C) = some false
  sub : ∀ T ∈ kinds, PySem.W.subIn K (.type T) (.ref C) = some false
  bus : ∀ T ∈ kinds, PySem.W.subIn K (.ref C) (.type T) = some false
/-- the class's own == at hand -/
structure EqV (P : Program) (w : World) (K : PySem.W.Frag) (mg : Str → Option Value) (base : Heap) (C : Addr) : Prop where
  ex : ∃ f fd ps, FnOk P w K mg base CX0 1 f fd ps (spEqV (RV K C)) ∧ Binds K fd ps [] ∧ PySem.W.findIn K (.ref C) "__eq__" = some (some (.ref f)) ∧ PySem.W.isFn K (.ref f) = true ∧ NeF K C f
  no : NoK K C
section
variable {X : Cx} {C : Addr}
theorem eqV (e : EqV X.prog X.w X.K X.mg X.base C) (rm : Room 1 X.A) : OpR X (compareOp .Eq) (rEqV X.K C (RV X.K C) id) := by
  obtain ⟨f, fd, ps, F, b, hs, hf, _⟩ := e.ex
  exact op_eqV F b hs hf rm
theorem neV (e : EqV X.prog X.w X.K X.mg X.base C) (rm : Room 2 X.A) : OpR X (compareOp .NotEq) (rEqV X.K C (RV X.K C) not) := by
  obtain ⟨f, fd, ps, F, b, _, _, N⟩ := e.ex
  exact op_neV F b N rm
theorem eqO (e : EqV X.prog X.w X.K X.mg X.base C) (rm : Room 1 X.A) : OpR X (compareOp .Eq) (rEqO X.K C (RV X.K C)) := by
  obtain ⟨f, fd, ps, F, b, hs, hf, _⟩ := e.ex
  exact op_eqO F b hs hf rm
end
/-- two desks -/
theorem rv_desks {K : PySem.W.Frag} {C q p : Addr} {H : Hp} {bk cl : Bk} {st s' : Str} {w : Bool → Bool} {Q : VK} (h : DeskAt C H q bk st) (g : DeskAt C H p cl s') (ok : DOk bk st) (ok' : DOk cl s') (k : Q (.bl (w (decide (ordB bk = ordB cl) && decide (st = s')))) H) : rEqV K C (RV K C) w (.ref q) (.ref p) H Q := by
  obtain ⟨dx, b, h1, _⟩ := id h
  obtain ⟨dy, b', h2, _⟩ := id g
  exact ⟨q, dx, _, _, rfl, h1, .inl ⟨p, dy, _, rfl, h2⟩, ⟨q, bk, st, rfl, h, ok, .inl ⟨p, cl, s', rfl, g, ok', rfl⟩⟩, k⟩
/-- a desk and what is none -/
theorem rv_other {K : PySem.W.Frag} {C q : Addr} {H : Hp} {bk : Bk} {st : Str} {y : V} {T : String} {w : Bool → Bool} {Q : VK} (no : NoK K C) (h : DeskAt C H q bk st) (ok : DOk bk st) (ty : TyOf K H y (.type T)) (hT : T ∈ kinds) (k : Q (.bl (w false)) H) : rEqV K C (RV K C) w (.ref q) y H Q := by
  obtain ⟨dx, b, h1, _⟩ := id h
  exact ⟨q, dx, _, _, rfl, h1, .inr ⟨T, ty, no.sub T hT⟩, ⟨q, bk, st, rfl, h, ok, .inr ⟨T, ty, no.kit T hT, rfl⟩⟩, k⟩
theorem ro_other {K : PySem.W.Frag} {C q : Addr} {H : Hp} {bk : Bk} {st : Str} {y : V} {T : String} {Q : VK} (no : NoK K C) (h : DeskAt C H q bk st) (ok : DOk bk st) (ty : TyOf K H y (.type T)) (hT : T ∈ kinds) (k : Q (.bl false) H) : rEqO K C (RV K C) y (.ref q) H Q := by
  obtain ⟨dx, b, h1, _⟩ := id h
  exact ⟨q, dx, _, _, rfl, h1, ⟨T, ty, fun e => by subst e; exact absurd hT (by decide), no.bus T hT⟩, ⟨q, bk, st, rfl, h, ok, .inr ⟨T, ty, no.kit T hT, rfl⟩⟩, k⟩
end Gd
end L2
/-! the law's lent_right -/
namespace L2
namespace D1
open PySem PySem.Spec PyProof.Rows D2 X3 Gd
abbrev sLent : Stmt := top 51
def spLent : Sp := fun vs H Q _ => ∃ (p W : Addr) (bk : Bk) (st : Str) (ws : List Str) (t : Int), vs = [.ref p, .ref W] ∧ Purse H p t ∧ WorldAt (cut [p] H) W bk st ∧ DOk bk st ∧ WsIn bk ws ∧ t < 2 ^ 26 ∧
  ∀ (H' : Hp) (t' : Int), But p H H' → Purse H' p t' → t' ≤ t + 15000 → Q (.bl true) H'
theorem DeskAt.kept {C : Addr} {G H H' : Hp} {q : Addr} {bk : Bk} {st : Str} (h : DeskN C G H q bk st) (nq : G q = none) (s : ∀ c u, G c = none → H c = some u → H' c = some u) : DeskAt C H' q bk st := by
  obtain ⟨dx, b, e, r⟩ := h
  exact ⟨dx, b, s _ _ nq e, r.same fun c u e => by obtain ⟨n, e⟩ := new_some e; exact s _ _ n e⟩
section
variable {P : Program} {w : World} {K : PySem.W.Frag} {mg : Str → Option Value} {base : Heap} {C : Addr}
abbrev CMixed2 (P : Program) (w : World) (K : PySem.W.Frag) (mg : Str → Option Value) (base : Heap) := Cal P w K mg base "_law_mixed_up" 4 ["_law_purse_here", "_law_book"] spMixed2
abbrev COne2 (P : Program) (w : World) (K : PySem.W.Frag) (mg : Str → Option Value) (base : Heap) := Cal P w K mg base "_law_one_of" 3 ["_law_purse_here", "_law_some"] spOneOf
abbrev CDeskR (P : Program) (w : World) (K : PySem.W.Frag) (mg : Str → Option Value) (base : Heap) (C : Addr) := Cal P w K mg base "_law_desk_right" 8 ["_law_made", "_law_world_here"] (spDeskR C)
abbrev CLDesk (P : Program) (w : World) (K : PySem.W.Frag) (mg : Str → Option Value) (base : Heap) (C : Addr) := Cal P w K mg base "_law_desk" 6 ["_law_world_here"] (spLDesk C)
abbrev leN : List Str := ["_law_purse_here", "_law_world_here", "_law_way", "_law_lent", "_law_made", "_law_state"]
theorem scLe : FnScope leN ["_law_purse_here", "_law_world_here"] (defScope sLent) := ⟨rfl, rfl, rfl, by decide +kernel, rfl, by decide +kernel, by decide +kernel⟩
theorem ok_lent {f : Addr} {fd : FuncData} (F : Fun K "_law_lent_right" "_law_lent_right" sLent f fd) (T : Free3 mg) (D : DTxt K mg C) (MI : CMInit P w K mg base C) (EV : EqV P w K mg base C) (CM : CMixed2 P w K mg base) (CO : COne2 P w K mg base) (CD : CDeskR P w K mg base C) (CL : CLDesk P w K mg base C) : FnOk P w K mg base CX0 9 f fd ["_law_purse_here", "_law_world_here"] spLent := by
  obtain ⟨fI, fdI, mI, FI, bI⟩ := MI
  refine F.ok scLe (fun vs H Q E h => ?_) (fun cdv A outer s H vs Q E0' hr h => ?_)
  · obtain ⟨p, W, bk, st, ws, t, rfl, _⟩ := h; rfl
  · obtain ⟨p, W, bk, st, ws, t, rfl, hp, hWc, ok, wi, t1, k⟩ := h
    have hu := hu_of hr
    refine ⟨_, pss_cons (ps_for PassesOwn.never rfl (pi_range1 rfl T.range (pa_cons pe_int pa_nil)) (pg_name (i := 2) scLe.nd rfl (Or.inl rfl))
        (pss_cons (ps_set (i := 3) scLe.nd rfl (Or.inl rfl) (pe_cal CM (hr.mono (by decide)) rfl (pa_cons (pv 0) (pa_cons (pe_ix ix_list (pv 1) pe_int (fun _ _ => rfl)) pa_nil))))
        (pss_cons (ps_set (i := 4) scLe.nd rfl (Or.inl rfl) (pe_make mI FI (hr.mono (by decide)) rfl D.mgC bI .nil pass0 (pa_cons (pv 3) (pa_cons (pe_ix ix_list (pv 1) pe_int (fun _ _ => rfl)) pa_nil))))
        (pss_cons (ps_set (i := 5) scLe.nd rfl (Or.inl rfl) (pe_cal CO (hr.mono (by decide)) rfl (pa_cons (pv 0) (pa_cons (pe_callTy (call_listD rfl) (by rfl) T.list (by decide +kernel) (pa_cons (pv 3) pa_nil)) pa_nil))))
        (pss_cons (ps_if (pt_cmpR op_eq (pv 2) pe_int (by rfl)) (pss_one (ps_expr (pe_dclear (pv 3))))
          (pss_one (ps_if (pt_cmpR op_eq (pv 2) pe_int (by rfl)) (pss_one (ps_dput hu (pe_ix ix_tup (pe_dget hu (pv 3) (pv 5) (fun _ _ => rfl)) pe_int (fun _ _ => rfl)) pe_str (pv 5) rfl))
            (pss_cons (ps_expr (pe_dclear (pe_ix ix_tup (pe_dget hu (pv 3) (pv 5) (fun _ _ => rfl)) pe_int (fun _ _ => rfl))))
            (pss_one (ps_dput hu (pv 3) pe_str (pe_tup (pa_cons pe_str (pa_cons pe_dnewK pa_nil))) rfl))))))
        (pss_one (ps_if (PW.pt (pw_or (pt_not (pt_val (pe_cal CD (hr.mono (by decide)) rfl (pa_cons (pv 4) (pa_cons (pv 1) pa_nil))))) (pw_or1 (pt_cmpR (neV EV (hr.mono (by decide))) (pv 4) (pe_cal CL (hr.mono (by decide)) rfl (pa_cons (pv 1) pa_nil)) (by rfl))))) (pss_one (ps_ret pe_bl)) pss_nil)))))))
      (pss_one (ps_ret pe_bl)), ?_⟩
    obtain ⟨b, hWc2, hbc⟩ := id hWc
    have nWp : W ≠ p := fun e => by rw [e, cut_in (by simp)] at hWc2; cases hWc2
    refine ⟨3, rfl, by decide, by decide, ?_⟩
    refine for_range (n := 3) (fun i σ H' => ∃ (v2 v3 v4 v5 : Option V) (t' : Int), σ = [some (.ref p), some (.ref W), v2, v3, v4, v5] ∧ But p H H' ∧ Purse H' p t' ∧ t' ≤ t + 5000 * i) ⟨none, none, none, none, t, rfl, But.refl _ _, hp, by omega⟩ ?_ ?_
    · rintro i σ H3 hi ⟨v2, v3, v4, v5, t3, rfl, b3, hp3, tt3⟩
      have hW3c := hWc.same b3.cut
      have hW3 : H3 W = some (.lst [.ref b, .str st]) := b3 _ _ nWp (cut_le _ _ hWc2)
      refine ⟨_, rfl, _, rfl, W, _, _, _, rfl, rfl, SqL.of hW3, atI_nat (j := 0) rfl, p, b, bk, t3, rfl, hp3, hbc.same b3.cut, ok.nd, ok.len, ok.allw, by omega, fun H4 R cl t4 b4 hp4 tt4 nR hB m => ?_⟩
      have okM := m.dok ok
      have eo := m.ord ok.nd ok.tk
      have hW4 := b4 _ _ nWp hW3
      refine ⟨_, rfl, _, rfl, W, _, _, _, rfl, rfl, SqL.of hW4, atI_nat (j := 1) rfl, ?_⟩
      refine fun q dx hq hdx _ => ?_
      have s44 : Same H4 (L2.upd (L2.upd H4 dx (.own q)) q (.ins C dx [])) := fun c u e => by rw [upd_ne (ne_of_none e hq), upd_ne (ne_of_none e hdx)]; exact e
      refine ⟨q, dx, R, cl, st, rfl, upd_same, (hB.same new_le).same s44, okM, fun H5 b5 hd hdN0 => ⟨rfl, ?_⟩⟩
      have s5 : Same H4 H5 := fun c u e => b5 _ _ (ne_of_none e hq) (s44 _ _ e)
      have nq := hq
      have hDN : DeskN C H4 H5 q cl st := by obtain ⟨dy, c, e1, h1⟩ := hdN0; exact ⟨dy, c, e1, h1.same (new_mono s44)⟩
      obtain ⟨kvs, hkN, hRN⟩ := id hB
      have hk4 := (new_some hkN).2
      have hk5 := s5 _ _ hk4
      have hR4 : Rows H4 kvs cl := hRN.same new_le
      have hp5 := hp4.same s5
      refine ⟨_, rfl, _, rfl, R, kvs, rfl, .inl hk5, fun L hL => ?_⟩
      have nLp := hp5.ne hL
      have g6 := Same.new (o := .lst (kvs.map fun kv => kV kv.1)) hL
      have lk : kvs.length = cl.length := hR4.len
      have l60 := okM.len
      have lpos : 0 < cl.length := List.length_pos_iff.mpr okM.ne
      refine ⟨p, L, _, t4, rfl, hp5.new hL, upd_same, nLp, by rw [List.length_map]; omega, by rw [List.length_map]; omega, by omega, fun j v t6 o6 hv tt6 hp6 => ?_⟩
      rw [List.getElem?_map] at hv
      obtain ⟨kv, hkv, rfl⟩ := Option.map_eq_some_iff.mp hv
      have hkv' : kvs[j]? = some (kv.1, kv.2) := hkv
      obtain ⟨r, hrj, ekr, _⟩ := hR4.at hkv'
      have hrm : r ∈ cl := List.mem_of_getElem? hrj
      rw [ekr]
      have b6 := But.upd p (L2.upd H5 L (.lst (kvs.map fun kv => kV kv.1))) o6
      generalize L2.upd (L2.upd H5 L (.lst (kvs.map fun kv => kV kv.1))) p o6 = H6 at b6 hp6
      have b56 : But p H5 H6 := (But.of g6).trans b6
      have b46 : But p H4 H6 := (But.of s5).trans b56
      have b36 : But p H3 H6 := b4.trans b46
      have ne4 : ∀ {c : Addr} {u : HO} {t : Int}, H4 c = some u → (∀ g b z y, u ≠ .lst [.int g, .int b, .int y, .int z]) → c ≠ p := fun {c u t} e n z => by
        obtain ⟨g, bb, zz, ep, _⟩ := hp4
        rw [z, ep] at e
        exact n _ _ _ _ (Option.some.inj e).symm
      have nRp : R ≠ p := ne4 (t := 0) hk4 fun _ _ _ _ z => by cases z
      have hk6 : H6 R = some (.dK kvs) := b46 _ _ nRp hk4
      obtain ⟨v, ev, ⟨ta, a, rfl, hta, haN⟩, _⟩ := hRN.look (List.mem_map_of_mem (f := (·.1)) hrm)
      have hta4 := (new_some hta).2
      have ha4 : TurnsAt H4 a (rowOf cl r.1).2 := (new_some haN).2
      have naH3 : H3 a = none := (new_some haN).1
      have ntp : ta ≠ p := ne4 (t := 0) hta4 fun _ _ _ _ z => by cases z
      have nap : a ≠ p := ne4 (t := 0) ha4 fun _ _ _ _ z => by cases z
      have hta6 := b46 _ _ ntp hta4
      have ha6 : H6 a = some (.dK (kT (rowOf cl r.1).2)) := b46 _ _ nap ha4
      have naR : a ≠ R := book_ne hk4 hR4 okM.ne ha4
      have lta : (kT (rowOf cl r.1).2).length ≤ 60 := by rw [kT, List.length_map]; exact okM.len2 _ (row_mem (List.mem_map_of_mem hrm))
      have npq : ∀ c, H4 c = none → c ≠ p := fun c n z => by
        obtain ⟨g, bb, zz, ep, _⟩ := hp4
        rw [z, ep] at n; cases n
      have kp56 : ∀ c u, H4 c = none → H5 c = some u → H6 c = some u := fun c u n e => b56 _ _ (npq c n) e
      have dg : ∀ {G : Hp}, G R = some (.dK kvs) → DGet G R (V.str r.1) (some (.ref ta)) := fun e => .inl ⟨kvs, .inr r.1, .inl e, rfl, ev.symm⟩
      refine ⟨_, rfl, rfl, _, rfl, ite2 (fun _ => ?_) (fun _ => ⟨_, rfl, rfl, _, rfl, ite2 (fun _ => ?_) (fun _ => ?_)⟩)⟩
      · refine ⟨_, rfl, .inr (.inr (.inl ⟨rfl, .inl ⟨_, hk6⟩⟩)), R, kvs, rfl, rfl, hk6, ?_⟩
        have b38 : But p H3 (L2.upd H6 R (.dK [])) := fun c u n e => by rw [upd_ne (ne_of_none e nR)]; exact b36 _ _ n e
        have hD8 : DeskAt C (L2.upd H6 R (.dK [])) q cl st := DeskAt.kept hDN nq fun c u n e => by rw [upd_ne fun z => by rw [z, hk4] at n; cases n]; exact kp56 _ _ n e
        have hp8 := hp6.upd (o := .dK []) nRp.symm
        generalize L2.upd H6 R (.dK []) = H8 at b38 hD8 hp8
        have b08 := b3.trans b38
        have hW8 : WorldAt H8 W bk st := (hWc.same b08.cut).same cut_le
        refine ⟨_, rfl, _, rfl, q, W, cl, bk, st, ws, rfl, hD8, hW8, ok, eo, wi, fun H9 s9 => ⟨_, rfl, iteF ?_⟩⟩
        refine ⟨_, rfl, _, rfl, W, bk, st, rfl, hW8.same s9, ok, fun H10 q2 s10 nq2 hq2 => ?_⟩
        refine rv_desks ((hD8.same s9).same s10) hq2 okM ok ?_
        rw [decide_eq_true eo, decide_eq_true rfl]
        have s810 := Same.trans s9 s10
        exact ⟨_, rfl, iteF ⟨_, _, _, _, t6, rfl, b08.trans (But.of s810), hp8.same s810, by omega⟩⟩
      · refine ⟨_, rfl, _, rfl, _, rfl, R, _, rfl, dg hk6, ta, _, _, _, rfl, rfl, SqT.of hta6, atI_nat (j := 1) rfl, a, _, rfl, DPut.k (kvs := kT (rowOf cl r.1).2) (k := Sum.inr "zzzzzzzz") ha6 (by rw [sizeLine_eq]; omega), ?_⟩
        have b38 : But p H3 (L2.upd H6 a (.dK (putK (kT (rowOf cl r.1).2) (Sum.inr "zzzzzzzz") (kV (.inr r.1))))) := fun c u n e => by rw [upd_ne (ne_of_none e naH3)]; exact b36 _ _ n e
        have hD8 : DeskAt C (L2.upd H6 a (.dK (putK (kT (rowOf cl r.1).2) (Sum.inr "zzzzzzzz") (kV (.inr r.1))))) q cl st := DeskAt.kept hDN nq fun c u n e => by rw [upd_ne fun z => by rw [z, ha4] at n; cases n]; exact kp56 _ _ n e
        have hp8 := hp6.upd (o := .dK (putK (kT (rowOf cl r.1).2) (Sum.inr "zzzzzzzz") (kV (.inr r.1)))) nap.symm
        generalize L2.upd H6 a (.dK (putK (kT (rowOf cl r.1).2) (Sum.inr "zzzzzzzz") (kV (.inr r.1)))) = H8 at b38 hD8 hp8
        have b08 := b3.trans b38
        have hW8 : WorldAt H8 W bk st := (hWc.same b08.cut).same cut_le
        refine ⟨_, rfl, _, rfl, q, W, cl, bk, st, ws, rfl, hD8, hW8, ok, eo, wi, fun H9 s9 => ⟨_, rfl, iteF ?_⟩⟩
        refine ⟨_, rfl, _, rfl, W, bk, st, rfl, hW8.same s9, ok, fun H10 q2 s10 nq2 hq2 => ?_⟩
        refine rv_desks ((hD8.same s9).same s10) hq2 okM ok ?_
        rw [decide_eq_true eo, decide_eq_true rfl]
        have s810 := Same.trans s9 s10
        exact ⟨_, rfl, iteF ⟨_, _, _, _, t6, rfl, b08.trans (But.of s810), hp8.same s810, by omega⟩⟩
      · refine ⟨_, rfl, _, rfl, R, _, rfl, dg hk6, ta, _, _, _, rfl, rfl, SqT.of hta6, atI_nat (j := 1) rfl, .inr (.inr (.inl ⟨rfl, .inl ⟨_, ha6⟩⟩)), a, _, rfl, rfl, ha6, ?_⟩
        have b37 : But p H3 (L2.upd H6 a (.dK [])) := fun c u n e => by rw [upd_ne (ne_of_none e naH3)]; exact b36 _ _ n e
        have kp7 : ∀ c u, H4 c = none → H5 c = some u → (L2.upd H6 a (.dK [])) c = some u := fun c u n e => by rw [upd_ne fun z => by rw [z, ha4] at n; cases n]; exact kp56 _ _ n e
        have hp7 := hp6.upd (o := .dK []) nap.symm
        have hk7 : (L2.upd H6 a (.dK [])) R = some (.dK kvs) := by rw [upd_ne naR.symm]; exact hk6
        generalize L2.upd H6 a (.dK []) = H7 at b37 kp7 hp7 hk7
        refine fun Dn hDn => ?_
        have s7 := Same.new (o := .dK []) hDn
        generalize L2.upd H7 Dn (.dK []) = H7a at s7
        refine ⟨by show 2 ≤ sizeLine; decide, fun T1 hT1 => ?_⟩
        have s7b := Same.trans s7 (Same.new (o := .tup [.str "done", .ref Dn]) hT1)
        generalize L2.upd H7a T1 (.tup [.str "done", .ref Dn]) = H7b at s7b
        refine ⟨_, rfl, R, _, rfl, DPut.k (kvs := kvs) (k := Sum.inr "zzzzzzzz") (s7b _ _ hk7) (by rw [sizeLine_eq]; omega), ?_⟩
        have b38 : But p H3 (L2.upd H7b R (.dK (putK kvs (Sum.inr "zzzzzzzz") (.ref T1)))) := fun c u n e => by rw [upd_ne (ne_of_none e nR)]; exact s7b _ _ (b37 _ _ n e)
        have hD8 : DeskAt C (L2.upd H7b R (.dK (putK kvs (Sum.inr "zzzzzzzz") (.ref T1)))) q cl st := DeskAt.kept hDN nq fun c u n e => by rw [upd_ne fun z => by rw [z, hk4] at n; cases n]; exact s7b _ _ (kp7 _ _ n e)
        have hp8 := (hp7.same s7b).upd (o := .dK (putK kvs (Sum.inr "zzzzzzzz") (.ref T1))) nRp.symm
        generalize L2.upd H7b R (.dK (putK kvs (Sum.inr "zzzzzzzz") (.ref T1))) = H8 at b38 hD8 hp8
        have b08 := b3.trans b38
        have hW8 : WorldAt H8 W bk st := (hWc.same b08.cut).same cut_le
        refine ⟨_, rfl, _, rfl, q, W, cl, bk, st, ws, rfl, hD8, hW8, ok, eo, wi, fun H9 s9 => ⟨_, rfl, iteF ?_⟩⟩
        refine ⟨_, rfl, _, rfl, W, bk, st, rfl, hW8.same s9, ok, fun H10 q2 s10 nq2 hq2 => ?_⟩
        refine rv_desks ((hD8.same s9).same s10) hq2 okM ok ?_
        rw [decide_eq_true eo, decide_eq_true rfl]
        have s810 := Same.trans s9 s10
        exact ⟨_, rfl, iteF ⟨_, _, _, _, t6, rfl, b08.trans (But.of s810), hp8.same s810, by omega⟩⟩
    · rintro σ H3 ⟨v2, v3, v4, v5, t3, rfl, b3, hp3, tt3⟩
      exact k H3 t3 b3 hp3 (by omega)
end
end D1
end L2
/-! turned -/
namespace L2
namespace D1
open PySem PySem.Spec PyProof.Rows D2
abbrev sTurned : Stmt := top 24
def rKd (K : PySem.W.Frag) (d : Addr) : R2 := fun x y H Q => ∃ (z : Str) (u0 : Value) (v0 : V), x = .ref d ∧ y = .str z ∧ PySem.W.nsIn K d z = some (some u0) ∧ RelV v0 u0 ∧ Q v0 H
/-- D[key], D a dict of the module -/
theorem ix_kd {X : Cx} {d : Addr} {es : Array DictEntry} {n : Nat} (D : KDict X.K X.w d es n) : IxR X (rKd X.K d) := by
  intro e1 e2 pins s σ H x y v u Q I rx ry h hs
  obtain ⟨z, u0, v0, rfl, rfl, e, r, q⟩ := h
  obtain rfl : v = Value.ref d := rx
  obtain ⟨t, rfl⟩ := ry
  exact tail_any (kd_type D I) PySem.F.slot_dict_getitem.lookup (wpAny_getItem_of (PySem.strKind_is X.prog X.w z t) (PySem.W.mapOf_K (prog := X.prog) I.kIn D.at_ D.lit) (PySem.W.find_K D.at_ e) ⟨v0, H, I.tok _, r, q⟩) hs
def flipK (k : Str) : Str := if k = "says" then "hears" else if k = "hears" then "says" else "done"
/-- the module's table of kinds -/
structure TuT (K : PySem.W.Frag) (w : World) (mg : Str → Option Value) : Prop where
  ex : ∃ (d : Addr) (es : Array DictEntry) (n : Nat) (t1 t2 t3 : Tok), mg "TURNED" = some (.ref d) ∧ KDict K w d es n ∧ PySem.W.nsIn K d "says" = some (some (.str "hears" t1)) ∧ PySem.W.nsIn K d "hears" = some (some (.str "says" t2)) ∧ PySem.W.nsIn K d "done" = some (some (.str "done" t3))
def turnB (bk : Bk) : Bk := bk.map fun r => (r.1, flipK r.2.1, r.2.2)
theorem turnB_names (bk : Bk) : (turnB bk).map (·.1) = bk.map (·.1) := by rw [turnB, List.map_map]; rfl
theorem turnB_row {bk : Bk} (nd : (bk.map (·.1)).Nodup) {s : Str} (h : s ∈ bk.map (·.1)) : rowOf (turnB bk) s = (flipK (rowOf bk s).1, (rowOf bk s).2) := by
  have := rowOf_self (bk := turnB bk) (by rw [turnB_names]; exact nd) (r := (s, flipK (rowOf bk s).1, (rowOf bk s).2)) (List.mem_map.mpr ⟨_, row_mem h, rfl⟩)
  exact this
theorem flip_kind {k : Str} {ts : List (Str × Str)} (h : RForm k ts) : k = "says" ∨ k = "hears" ∨ k = "done" := by
  rcases h with ⟨a, _⟩ | ⟨a, _⟩
  · exact .inr (.inr a)
  · exact a.elim .inl fun z => .inr (.inl z)
theorem flip_form {k : Str} {ts : List (Str × Str)} (h : RForm k ts) : RForm (flipK k) ts := by
  rcases h with ⟨a, b⟩ | ⟨a, b⟩
  · subst a; exact .inl ⟨by decide +kernel, b⟩
  · rcases a with a | a
    · subst a; exact .inr ⟨.inr (by decide +kernel), b⟩
    · subst a; exact .inr ⟨.inl (by decide +kernel), b⟩
theorem flip_flip {k : Str} {ts : List (Str × Str)} (h : RForm k ts) : flipK (flipK k) = k := by
  rcases flip_kind h with a | a | a <;> subst a <;> decide +kernel
theorem DOk.turn {bk : Bk} {st : Str} (ok : DOk bk st) : DOk (turnB bk) st := by
  have hr : ∀ r ∈ turnB bk, ∃ r0 ∈ bk, r = (r0.1, flipK r0.2.1, r0.2.2) := fun r h => let ⟨r0, a, b⟩ := List.mem_map.mp h; ⟨r0, a, b.symm⟩
  refine ⟨⟨fun e => ok.ne (List.map_eq_nil_iff.mp e), by rw [turnB_names]; exact ok.nd, by rw [turnB, List.length_map]; exact ok.len, fun r h => ?_, fun r h => ?_⟩, fun r h => ?_, by rw [turnB_names]; exact ok.st⟩
  · obtain ⟨r0, h0, rfl⟩ := hr r h
    obtain ⟨a, b, c⟩ := ok.rs r0 h0
    exact ⟨a, flip_form b, by rw [turnB_names]; exact c⟩
  · obtain ⟨r0, h0, rfl⟩ := hr r h; exact ok.len2 r0 h0
  · obtain ⟨r0, h0, rfl⟩ := hr r h; exact ok.tk r0 h0
theorem ordB_turn {bk : Bk} {st : Str} (ok : DOk bk st) : ordB (turnB (ordB bk)) = ordB (turnB bk) := by
  refine ordB_eq (by rw [turnB_names, turnB_names, ordB_names]; exact srt_perm _) fun s hs => ?_
  rw [turnB_names, ordB_names] at hs
  have hs := (srt_perm _).mem_iff.mp hs
  rw [turnB_row ok.ond (by rw [ordB_names]; exact (srt_perm _).mem_iff.mpr hs), turnB_row ok.nd hs, rowOf_ord ok.nd hs]
  exact ⟨rfl, ordT_ordT _⟩
theorem ordB_turn2 {bk : Bk} {st : Str} (ok : DOk bk st) : ordB (turnB (turnB bk)) = ordB bk := by
  refine ordB_eq (by rw [turnB_names, turnB_names]) fun s hs => ?_
  rw [turnB_names, turnB_names] at hs
  rw [turnB_row (by rw [turnB_names]; exact ok.nd) (by rw [turnB_names]; exact hs), turnB_row ok.nd hs]
  exact ⟨flip_flip (ok.rs _ (row_mem hs)).2.1, rfl⟩
theorem turn_eq {bk bk' : Bk} {st st' : Str} (ok : DOk bk st) (ok' : DOk bk' st') (e : ordB bk = ordB bk') : ordB (turnB bk) = ordB (turnB bk') := by
  rw [← ordB_turn ok, ← ordB_turn ok', e]
def spTurned (C : Addr) : Sp := fun vs H Q _ => ∃ (q : Addr) (bk : Bk) (st : Str), vs = [.ref q] ∧ DeskAt C H q bk st ∧ DOk bk st ∧ ∀ H' R, Same H H' → H R = none → DeskAt C H' R (turnB bk) st → DeskN C H H' R (turnB bk) st → Q (.ref R) H'
section
variable {P : Program} {w : World} {K : PySem.W.Frag} {mg : Str → Option Value} {base : Heap} {C : Addr}
theorem scTd : FnScope ["desk", "book", "state"] ["desk"] (defScope sTurned) := ⟨rfl, rfl, rfl, by decide +kernel, rfl, by decide +kernel, by decide +kernel⟩
theorem ok_turned {f : Addr} {fd : FuncData} (F : Fun K "turned" "turned" sTurned f fd) (D : DTxt K mg C) (U : TuT K w mg) (CN : CNeed P w K mg base C) (MB : CMBook P w K mg base C) (MS : CMStart P w K mg base C) (MI : CMInit P w K mg base C) : FnOk P w K mg base CX0 6 f fd ["desk"] (spTurned C) := by
  obtain ⟨d, es, dn, t1, t2, t3, mU, kd, u1, u2, u3⟩ := U.ex
  obtain ⟨fI, fdI, mI, FI, bI⟩ := MI
  obtain ⟨fS, fdS, mS, FS, bS⟩ := MS.ex
  obtain ⟨fB, fdB, mB, FB, bB⟩ := MB.ex
  refine F.ok scTd (fun vs H Q E h => ?_) (fun cdv A outer s H vs Q E hr h => ?_)
  · obtain ⟨q, bk, st, rfl, _⟩ := h; rfl
  · obtain ⟨q, bk, st, rfl, hq, ok, k⟩ := h
    have hu := hu_of hr
    refine ⟨_, pss_cons (ps_expr (pe_cal CN (hr.mono (by decide)) rfl (pa_cons (pv 0) pa_nil)))
      (pss_cons (ps_set (i := 1) scTd.nd rfl (Or.inr rfl) (pe_meth0 (pv 0) D.cl mB FB (hr.mono (by decide)) bB .nil pass0))
      (pss_one (ps_ret (pe_make mI FI (hr.mono (by decide)) rfl D.mgC bI .nil pass0 (pa_cons (pe_lock (pe_dc (own := [("state", 2)]) (g := gName 2) (tt := tYes) (tk := tVar 2)
          (tv := tTup (tCons (tOp (rKd K d) (tC (.ref d)) (tOp (rIxT K) (tDGet (tVar 1) (tVar 2)) (tC (.int 0)))) (tCons (tOp (rIxT K) (tDGet (tVar 1) (tVar 2)) (tC (.int 1))) tNil))) rfl scTd.nd (pi_keys (pv 1))
        (blkOk_by (N := ["desk", "book", "state"]) (sc := defScope sTurned) (by decide +kernel)) (fun _ _ _ _ _ => pg_name (i := 2) scTd.nd rfl (Or.inl rfl)) (fun _ _ _ _ _ => pts_nil) (fun _ _ _ _ _ => pv 2)
        (fun _ _ _ _ _ => pe_tup (pa_cons (pe_ix (ix_kd kd) (pe_glob (v := .ref d) rfl mU rfl) (pe_ix ix_tup (pe_dget hu (pv 1) (pv 2) (fun _ _ => rfl)) pe_int (fun _ _ => rfl)) (fun _ _ => rfl)) (pa_cons (pe_ix ix_tup (pe_dget hu (pv 1) (pv 2) (fun _ _ => rfl)) pe_int (fun _ _ => rfl)) pa_nil)))))
        (pa_cons (pe_meth0 (pv 0) D.cl mS FS (hr.mono (by decide)) bS .nil pass0) pa_nil)))))), ?_⟩
    obtain ⟨dx, b0, e0, hb0⟩ := id hq
    refine ⟨_, rfl, q, dx, _, rfl, e0, ?_⟩
    refine ⟨_, rfl, q, dx, _, rfl, e0, dflds_no _ _ (by decide +kernel) (by decide +kernel), q, bk, st, rfl, hq, ok, fun H1 B s1 nB ⟨kvs, hk, hR⟩ hBN => ?_⟩
    refine ⟨B, _, hk, trivial, fun od => ?_⟩
    refine ⟨_, rfl, B, od, rfl, .inl ⟨kvs, upd_same, fun D0 hD0 => ?_⟩⟩
    have nD : B ≠ D0 := fun e => by rw [← e, upd_same] at hD0; cases hD0
    have hRL := hR.lock (o := .frz od (.dK kvs)) hk (ordB_ne ok.ne)
    have l60 : (ordB bk).length ≤ 60 := by rw [ordB_len]; exact ok.len
    have okO := ok.ord
    refine dc_it (walk_keys (d := B) (o := od) (kvs := kvs)) (fun i H' => Same (L2.upd H1 B (.frz od (.dK kvs))) H' ∧ ∃ kv2, H' D0 = some (.dK kv2) ∧ Rows (cut [D0] H') kv2 (turnB ((ordB bk).take i))) ⟨Same.new hD0, [], upd_same, .nil⟩ (fun i H' _ z => z.1 _ _ upd_same) ?_ ?_
    · rintro i x H2 H3 hi ⟨sm, kv2, hk2, hR2⟩ ⟨rfl, kk, v0, hkv, rfl⟩
      obtain ⟨r, hr', rfl, _⟩ := hR.at hkv
      have hrm : r ∈ ordB bk := List.mem_of_getElem? hr'
      have hs : r.1 ∈ (ordB bk).map (·.1) := List.mem_map_of_mem hrm
      obtain ⟨v, ev, ⟨t, a, rfl, ht, ha⟩, _⟩ := (hRL.same sm).look hs
      rw [rowOf_self ok.ond hrm] at ht ha
      have nz : r.1 ∉ (turnB ((ordB bk).take i)).map (·.1) := by
        rw [turnB_names, List.map_take]
        exact nd_take ok.ond (by rw [List.getElem?_map, hr']; rfl)
      have fr := hR2.fresh nz
      have l2 : kv2.length ≤ 60 := by rw [hR2.len, turnB, List.length_map, List.length_take]; omega
      have dg : ∀ {H4 : Hp}, Same H3 H4 → DGet H4 B (V.str r.1) (some (.ref t)) := fun s => .inl ⟨kvs, .inr r.1, .inr ⟨od, s _ _ (sm _ _ upd_same)⟩, rfl, ev.symm⟩
      have kd3 : ∃ u0, PySem.W.nsIn K d r.2.1 = some (some u0) ∧ RelV (.str (flipK r.2.1)) u0 := by
        rcases flip_kind (okO.rs r hrm).2.1 with a | a | a <;> rw [a]
        · exact ⟨_, u1, t1, by rw [show flipK "says" = "hears" by decide +kernel]⟩
        · exact ⟨_, u2, t2, by rw [show flipK "hears" = "says" by decide +kernel]⟩
        · exact ⟨_, u3, t3, by rw [show flipK "done" = "done" by decide +kernel]⟩
      obtain ⟨u0, n0, r0⟩ := kd3
      refine ⟨rfl, ?_⟩
      dsimp only [tYes]
      rw [if_pos rfl]
      refine ⟨_, rfl, _, rfl, _, rfl, B, _, rfl, dg (Same.refl _), t, _, _, _, rfl, rfl, SqT.of ht, atI_nat (j := 0) rfl, r.2.1, u0, .str (flipK r.2.1), rfl, rfl, n0, r0, ?_⟩
      refine ⟨_, rfl, _, rfl, B, _, rfl, dg (Same.refl _), t, _, _, _, rfl, rfl, SqT.of ht, atI_nat (j := 1) rfl, by show 2 ≤ sizeLine; decide, fun T1 hT1 => ?_⟩
      have g1 := Same.new (o := .tup [.str (flipK r.2.1), .ref a]) hT1
      have nT : T1 ≠ D0 := fun e => by rw [e, hk2] at hT1; cases hT1
      have na : a ≠ D0 := fun e => by
        obtain ⟨v9, ev9, ⟨t9, a9, rfl, ht9, ha9⟩, _⟩ := hRL.look hs
        rw [ev] at ev9
        cases ev9
        rw [rowOf_self ok.ond hrm] at ht9 ha9
        have h10 := sm _ _ ht9
        rw [ht] at h10
        have h11 := HO.tup.inj (Option.some.inj h10)
        injection h11 with _ h12
        injection h12 with h13
        injection h13 with h14
        exact absurd (h14.symm.trans e) (ne_of_none ha9 hD0)
      refine ⟨kv2, .inr r.1, rfl, g1 _ _ hk2, by rw [sizeLine_eq]; omega, fun c u e => ?_, _, upd_same, ?_⟩
      · rw [upd_ne (ne_of_none e hD0)]; exact g1 _ _ (sm _ _ e)
      · rw [D1.putK_new fr, take_succ_get hr', turnB, List.map_append, cut_upd (by simp)]
        refine (hR2.same (cut_same g1)).app ⟨T1, a, rfl, ?_, ?_⟩
        · rw [cut_out (by simpa using nT)]; exact upd_same
        · rw [TurnsAt, cut_out (by simpa using na)]; exact g1 _ _ ha
    · rintro H2 ⟨sm, kv2, hk2, hR2⟩
      have hl : kvs.length = (ordB bk).length := hR.len
      rw [hl, List.take_length] at hR2
      have su := Same.unlock hk sm
      have s12 := Same.trans s1 su
      refine ⟨sm _ _ upd_same, ?_⟩
      refine ⟨_, rfl, q, dx, _, rfl, s12 _ _ e0, dflds_no _ _ (by decide +kernel) (by decide +kernel), q, bk, st, rfl, hq.same s12, ?_⟩
      have hR3 : Rows (L2.upd H2 B (.dK kvs)) kv2 (turnB (ordB bk)) := rows_unl (sm _ _ upd_same) (hR2.same cut_le)
      exact fun x dx' h1 h2 _ => make_ok ⟨kv2, by rw [upd_ne nD.symm]; exact hk2, hR3⟩ okO.turn (fun H' R s4 nR hD ⟨dy, c, e1, h1⟩ => k H' R (Same.trans s12 s4) (s12.free nR) (hD.congr (ordB_turn ok)) ⟨dy, c, e1, by rw [← ordB_turn ok]; exact h1.same (new_mono s12)⟩) x dx' h1 h2
end
end D1
end L2
/-! the law's turned -/
namespace L2
namespace D1
open PySem PySem.Spec PyProof.Rows D2 X3
theorem op_neNil {X : Cx} (hu : X.A.units < cLine) : OpR X (compareOp .NotEq) (fun x y H Q => ∃ (a b : Addr) (ks : List (Key × V)), x = .ref a ∧ y = .ref b ∧ H a = some (.dK ks) ∧ H b = some (.dK []) ∧ Q (.bl (!ks.isEmpty)) H) := by
  intro pins s σ H x y v u Q I rx ry h
  obtain ⟨a, b, ks, rfl, rfl, ea, eb, q⟩ := h
  obtain rfl : v = Value.ref a := rx
  obtain rfl : u = Value.ref b := ry
  obtain ⟨_, ya, va, ra, da⟩ := (show ObjOk X.prog X.w H s.heap a (.dK ks) from I.hok a _ ea)
  obtain ⟨_, yb, vb, rb, db⟩ := (show ObjOk X.prog X.w H s.heap b (.dK []) from I.hok b _ eb)
  cases rb
  refine PySem.W.keq_ne (knd := mixKind X.prog X.w) (r := true) ya yb da db hu (fun e => ?_) (fin_bl I q ?_)
  · obtain rfl := List.length_eq_zero_iff.mp e
    exact .nil
  · cases ra <;> simp
abbrev sLTurned : Stmt := top 40
def spLTurned : Sp := fun vs H Q _ => ∃ (W : Addr) (bk : Bk) (st : Str), vs = [.ref W] ∧ WorldAt H W bk st ∧ DOk bk st ∧ ∀ H' R, Same H H' → H R = none → WorldAt H' R (turnB bk) st → Q (.ref R) H'
def thT : List (Str × Str) := [("says", "hears"), ("hears", "says"), ("done", "done")]
theorem thT_nd : (thT.map (·.1)).Nodup := by decide +kernel
theorem thT_goal {k : Str} {ts : List (Str × Str)} (h : RForm k ts) : valV (kT thT) (.inr k) = some (.str (flipK k)) := by
  rcases flip_kind h with rfl | rfl | rfl
  · rw [valV_goal (by decide +kernel)]; decide +kernel
  · rw [valV_goal (by decide +kernel)]; decide +kernel
  · rw [valV_goal (by decide +kernel)]; decide +kernel
section
variable {P : Program} {w : World} {K : PySem.W.Frag} {mg : Str → Option Value} {base : Heap}
abbrev ltN : List Str := ["_law_world_here", "_law_theirs", "_law_state"]
theorem scLt : FnScope ltN ["_law_world_here"] (defScope sLTurned) := ⟨rfl, rfl, rfl, by decide +kernel, rfl, by decide +kernel, by decide +kernel⟩
theorem ok_lturned {f : Addr} {fd : FuncData} (F : Fun K "_law_turned" "_law_turned" sLTurned f fd) (T : Free3 mg) : FnOk P w K mg base CX0 1 f fd ["_law_world_here"] spLTurned := by
  refine F.ok scLt (fun vs H Q E h => ?_) (fun cdv A outer s H vs Q E hr h => ?_)
  · obtain ⟨W, bk, st, rfl, _⟩ := h; rfl
  · obtain ⟨W, bk, st, rfl, ⟨b, hW, ⟨kvs, hb, hR⟩⟩, ok, k⟩ := h
    have hu := hu_of hr
    refine ⟨_, pss_cons (ps_set (i := 1) scLt.nd rfl (Or.inr rfl) (pe_disp (pps_cons pe_str pe_str (pps_cons pe_str pe_str (pps_cons pe_str pe_str pps_nil))) (by rfl) (by rfl) (fun z => by cases z) (by show 3 ≤ 15; decide)))
      (pss_one (ps_ret (pe_lst (pa_cons (pe_callTy (call_dictP rfl) (by rfl) T.dict (by decide +kernel) (pa_cons (pe_lock (pe_lc (own := [("_law_state", 2)]) (g := gName 2) (tt := tYes)
        (te := tTup (tCons (tVar 2) (tCons (tTup (tCons (tDGet (tVar 1) (tOp (rIxT K) (tDGet (tOp (rIxL K) (tVar 0) (tC (.int 0))) (tVar 2)) (tC (.int 0)))) (tCons (tOp (rIxT K) (tDGet (tOp (rIxL K) (tVar 0) (tC (.int 0))) (tVar 2)) (tC (.int 1))) tNil))) tNil)))
        rfl scLt.nd (pi_keys (pe_ix ix_list (pv 0) pe_int (fun _ _ => rfl)))
        (blkOk_by (N := ltN) (sc := defScope sLTurned) (by decide +kernel)) (fun _ _ _ _ _ => pg_name (i := 2) scLt.nd rfl (Or.inl rfl)) (fun _ _ _ _ _ => pts_nil)
        (fun _ _ _ _ _ => pe_tup (pa_cons (pv 2) (pa_cons (pe_tup (pa_cons (pe_dget hu (pv 1) (pe_ix ix_tup (pe_dget hu (pe_ix ix_list (pv 0) pe_int (fun _ _ => rfl)) (pv 2) (fun _ _ => rfl)) pe_int (fun _ _ => rfl)) (fun _ _ => rfl)) (pa_cons (pe_ix ix_tup (pe_dget hu (pe_ix ix_list (pv 0) pe_int (fun _ _ => rfl)) (pv 2) (fun _ _ => rfl)) pe_int (fun _ _ => rfl)) pa_nil))) pa_nil))))) pa_nil))
        (pa_cons (pe_ix ix_list (pv 0) pe_int (fun _ _ => rfl)) pa_nil))))), ?_⟩
    intro Td hTd
    refine ⟨upd_same, kT thT, rfl, by show 3 ≤ 15; decide, ?_⟩
    rw [merge_id2 (by rw [kT_keys]; exact inr_nd' thT_nd), updd2]
    have g0 := Same.new (o := .dK (kT thT)) hTd
    have eT0 : TurnsAt (L2.upd H Td (.dK (kT thT))) Td thT := upd_same
    have nTb : Td ≠ b := (ne_of_none hb hTd).symm
    generalize L2.upd H Td (.dK (kT thT)) = H0 at g0 eT0
    have hW0 := g0 _ _ hW
    have hb0 := g0 _ _ hb
    have hR0 := hR.same g0
    refine ⟨b, _, hb0, trivial, fun od => ?_⟩
    have nWb : W ≠ b := fun e => by rw [e, hb] at hW; cases hW
    have hWL : (L2.upd H0 b (.frz od (.dK kvs))) W = some (.lst [.ref b, .str st]) := by rw [upd_ne nWb]; exact hW0
    have hTL : TurnsAt (L2.upd H0 b (.frz od (.dK kvs))) Td thT := by rw [TurnsAt, upd_ne nTb]; exact eT0
    have hRL := hR0.lock (o := .frz od (.dK kvs)) hb0 ok.ne
    refine ⟨_, rfl, W, _, _, _, rfl, rfl, SqL.of hWL, atI_nat (j := 0) rfl, b, od, rfl, .inl ⟨kvs, upd_same, fun M hM => ?_⟩⟩
    have nM : b ≠ M := fun e => by rw [← e, upd_same] at hM; cases hM
    have lb := ok.len
    refine lc_it (walk_keys (d := b) (o := od) (kvs := kvs)) (fun i H' => Same (L2.upd H0 b (.frz od (.dK kvs))) H' ∧ ∃ (ps : List Addr) (kv2 : List (Key × V)), H' M = some (.lst (ps.map V.ref)) ∧ Paired (fun p (kv : Key × V) => (cut [M] H') p = some (.tup [kV kv.1, kv.2])) ps kv2 ∧ Rows (cut [M] H') kv2 (turnB (bk.take i))) ⟨Same.new hM, [], [], upd_same, .nil, .nil⟩ (fun i H' _ z => z.1 _ _ upd_same) ?_ ?_
    · rintro i x H2 H3 hi ⟨sm, ps, kv2, hM2, hp, hR2⟩ ⟨rfl, kk, v0, hkv, rfl⟩
      obtain ⟨r, hr', rfl, _⟩ := hR.at hkv
      have hrm : r ∈ bk := List.mem_of_getElem? hr'
      have hs : r.1 ∈ bk.map (·.1) := List.mem_map_of_mem hrm
      obtain ⟨v, ev, ⟨t, a, rfl, ht, ha⟩, _⟩ := (hRL.same sm).look hs
      rw [rowOf_self ok.nd hrm] at ht ha
      have hW3 := SqL.of (K := K) (sm _ _ hWL)
      have hil : i < bk.length := (List.getElem?_eq_some_iff.mp hr').1
      have dg : DGet H3 b (V.str r.1) (some (.ref t)) := .inl ⟨kvs, .inr r.1, .inr ⟨od, sm _ _ upd_same⟩, rfl, ev.symm⟩
      refine ⟨rfl, ?_⟩
      dsimp only [tYes]
      rw [if_pos rfl]
      refine ⟨_, rfl, _, rfl, _, rfl, W, _, _, _, rfl, rfl, hW3, atI_nat (j := 0) rfl, _, rfl, b, _, rfl, dg, t, _, _, _, rfl, rfl, SqT.of ht, atI_nat (j := 0) rfl, Td, _, rfl, .inl ⟨kT thT, .inr r.2.1, .inl (sm _ _ hTL), rfl, (thT_goal (ok.rs r hrm).2.1).symm⟩, ?_⟩
      refine ⟨_, rfl, W, _, _, _, rfl, rfl, hW3, atI_nat (j := 0) rfl, _, rfl, b, _, rfl, dg, t, _, _, _, rfl, rfl, SqT.of ht, atI_nat (j := 1) rfl, ?_⟩
      refine ⟨by show 2 ≤ sizeLine; decide, fun T1 hT1 => ⟨by show 2 ≤ sizeLine; decide, fun T2 hT2 => ?_⟩⟩
      have g2 := Same.new (o := .tup [.str (flipK r.2.1), .ref a]) hT1
      have g3 := Same.new (o := .tup [.str r.1, .ref T1]) hT2
      have g := Same.trans g2 g3
      have nT : T1 ≠ M := fun e => by rw [e, hM2] at hT1; cases hT1
      have nT2 : T2 ≠ M := fun e => by rw [e, g2 _ _ hM2] at hT2; cases hT2
      have naM : a ≠ M := fun e => by rw [TurnsAt, e, hM2] at ha; cases ha
      have lps : ps.length = kv2.length := paired_len hp
      have lkv : kv2.length = i := by rw [hR2.len, turnB, List.length_map, List.length_take]; omega
      refine ⟨_, g _ _ hM2, by rw [List.length_map, lps, lkv, sizeLine_eq]; omega, fun c u e => ?_, ps ++ [T2], kv2 ++ [(.inr r.1, .ref T1)], by rw [upd_same, List.map_append]; rfl, ?_, ?_⟩
      · rw [upd_ne (ne_of_none e hM)]; exact g _ _ (sm _ _ e)
      · rw [cut_upd (by simp)]
        have hp' := paired_imp (fun p (kv : Key × V) (e : (cut [M] H3) p = some (.tup [kV kv.1, kv.2])) => cut_same g _ _ e) hp
        exact pair_app hp' (by rw [cut_out (by simpa using nT2)]; exact upd_same)
      · rw [cut_upd (by simp), take_succ_get hr']
        unfold turnB
        rw [List.map_append]
        refine (hR2.same (cut_same g)).app ⟨T1, a, rfl, ?_, ?_⟩
        · rw [cut_out (by simpa using nT)]; exact g3 _ _ upd_same
        · rw [TurnsAt, cut_out (by simpa using naM)]; exact g _ _ ha
    · rintro H2 ⟨sm, ps, kv2, hM2, hp, hR2⟩
      have hl : kvs.length = bk.length := hR.len
      rw [hl, List.take_length] at hR2
      have su := Same.unlock hb0 sm
      have hp3 : Paired (fun p (kv : Key × V) => SqT K (L2.upd H2 b (.dK kvs)) p [kV kv.1, kv.2]) ps kv2 := paired_imp (fun p kv e => SqT.of (unl_at (sm _ _ upd_same) (cut_le _ _ e))) hp
      refine ⟨sm _ _ upd_same, M, ps, kv2, rfl, SqL.of (by rw [upd_ne nM.symm]; exact hM2), hp3, fun B hB => ?_⟩
      have e1 : kv2.map (·.1) = ((turnB bk).map (·.1)).map Sum.inr := by rw [hR2.keys, List.map_map]; rfl
      rw [merge_id2 (by rw [e1, turnB_names]; exact inr_nd' ok.nd)]
      have hR3 : Rows (L2.upd H2 b (.dK kvs)) kv2 (turnB bk) := rows_unl (sm _ _ upd_same) (hR2.same cut_le)
      have s3 := Same.new (o := .dK kv2) hB
      have eB : (L2.upd (L2.upd H2 b (.dK kvs)) B (.dK kv2)) B = some (.dK kv2) := upd_same
      have hR4 := hR3.same s3
      have s03 := Same.trans (Same.trans g0 su) s3
      generalize L2.upd (L2.upd H2 b (.dK kvs)) B (.dK kv2) = H4 at s03 eB hR4
      refine ⟨_, rfl, W, _, _, _, rfl, rfl, SqL.of (s03 _ _ hW), atI_nat (j := 1) rfl, by show 2 ≤ sizeLine; decide, fun R hRn => ?_⟩
      have s5 := Same.new (o := .lst [.ref B, .str st]) hRn
      exact k _ R (Same.trans s03 s5) (s03.free hRn) ⟨B, upd_same, kv2, s5 _ _ eB, hR4.same s5⟩
end
end D1
end L2
/-! the law's changed_row -/
namespace L2
namespace D1
open PySem PySem.Spec PyProof.Rows D2 X3
abbrev sChRow : Stmt := top 41
def dropT (ts : List (Str × Str)) (k : Str) : List (Str × Str) := ts.filter fun t => decide (t.1 ≠ k)
theorem dropK_kT (ts : List (Str × Str)) (k : Str) : dropK (kT ts) (.inr k) = kT (dropT ts k) := by
  unfold dropK dropT kT
  rw [List.filter_map]
  congr 1
  refine List.filter_congr fun t _ => ?_
  show decide ((Sum.inr t.1 : Key) ≠ Sum.inr k) = decide (t.1 ≠ k)
  by_cases h : t.1 = k
  · rw [h]; simp
  · have : ¬ (Sum.inr t.1 : Key) = Sum.inr k := fun e => h (Sum.inr.inj e)
    simp [h, this]
theorem TOk.drop {ts : List (Str × Str)} {ss ws : List Str} {k : Str} (h : TOk ts ss ws) : TOk (dropT ts k) ss ws :=
  ⟨List.Nodup.sublist (List.filter_sublist.map _) h.nd, fun t ht => h.ks t (List.mem_filter.mp ht).1, fun t ht => h.gs t (List.mem_filter.mp ht).1⟩
theorem dropT_ne {ts : List (Str × Str)} {k : Str} (nd : (ts.map (·.1)).Nodup) (l : 1 < ts.length) : dropT ts k ≠ [] := fun e => by
  have h : ∀ t ∈ ts, t.1 = k := fun t ht => by
    by_cases c : t.1 = k
    · exact c
    · have : t ∈ dropT ts k := List.mem_filter.mpr ⟨ht, decide_eq_true c⟩
      rw [e] at this; cases this
  match ts, l with
  | a :: b :: r, _ =>
    have n := (List.nodup_cons.mp nd).1
    exact n (by show a.1 ∈ _; rw [h a (by simp), ← h b (by simp)]; simp)
def spChRow : Sp := fun vs H Q _ => ∃ (p W S : Addr) (v : V) (k : Str) (ts : List (Str × Str)) (ss ws : List Str) (t : Int), vs = [.ref p, v, .ref W, .ref S] ∧ Purse H p t ∧ RowAt (cut [p] H) v k ts ∧ (k = "says" ∨ k = "hears") ∧ ts ≠ [] ∧ TOk ts ss ws ∧ SL H W ws ∧ SL H S ss ∧ W ≠ p ∧ S ≠ p ∧ WsOk ws ∧ 1 ≤ ss.length ∧ ss.length ≤ 60 ∧ t < 2 ^ 26 ∧
  ∀ (H' : Hp) (R : Addr) (k' : Str) (ts' : List (Str × Str)) (t' : Int), But p H H' → Purse H' p t' → t' ≤ t + 10 → RowAt (newH H H') (.ref R) k' ts' → (k' = "says" ∨ k' = "hears") → ts' ≠ [] → TOk ts' ss ws → Q (.ref R) H'
section
variable {P : Program} {w : World} {K : PySem.W.Frag} {mg : Str → Option Value} {base : Heap}
abbrev crN : List Str := ["_law_purse_here", "_law_row", "_law_words_here", "_law_states", "_law_kind", "_law_turns_here", "_law_way", "_law_word_here"]
theorem scCr : FnScope crN ["_law_purse_here", "_law_row", "_law_words_here", "_law_states"] (defScope sChRow) := ⟨rfl, rfl, rfl, by decide +kernel, rfl, by decide +kernel, by decide +kernel⟩
theorem ok_chrow {f : Addr} {fd : FuncData} (F : Fun K "_law_changed_row" "_law_changed_row" sChRow f fd) (T : Free3 mg) (CD : CDraw P w K mg base) (CO : COne P w K mg base) : FnOk P w K mg base CX0 4 f fd ["_law_purse_here", "_law_row", "_law_words_here", "_law_states"] spChRow := by
  refine F.ok scCr (fun vs H Q E h => ?_) (fun cdv A outer s H vs Q E hr h => ?_)
  · obtain ⟨p, W, S, v, k, ts, ss, ws, t, rfl, _⟩ := h; rfl
  · obtain ⟨p, W, S, v, kd, ts, ss, ws, t, rfl, hp, ⟨tu, a, rfl, htu, ha⟩, kk, tne, tok, hW, hS, nW, nS, wok, s1, s2, t1, k⟩ := h
    have hu := hu_of hr
    refine ⟨_, pss_cons (ps_par (i := 4) (j := 5) rfl scCr.nd rfl rfl (by decide) rfl rfl (pa_cons (pe_ix ix_tup (pv 1) pe_int (fun _ _ => rfl)) (pa_cons (pe_callTy call_dictD (by rfl) T.dict (by decide +kernel) (pa_cons (pe_ix ix_tup (pv 1) pe_int (fun _ _ => rfl)) pa_nil)) pa_nil)) (by rfl))
      (pss_cons (ps_par (i := 6) (j := 7) rfl scCr.nd rfl rfl (by decide) rfl rfl (pa_cons (pe_cal CD (hr.mono (by decide)) rfl (pa_cons (pv 0) (pa_cons pe_int pa_nil))) (pa_cons (pe_cal CO (hr.mono (by decide)) rfl (pa_cons (pv 0) (pa_cons (pv 2) pa_nil))) pa_nil)) (by rfl))
      (pss_cons (ps_if (PW.pt (pw_and (pt_cmpR op_lt (pv 6) pe_int (nomark _)) (pw_and1 (pt_cmpR op_gt (pe_callB call_lenD (by rfl) T.len PySem.boot_len (pa_cons (pv 5) pa_nil)) pe_int (nomark _)))))
          (pss_one (ps_expr (pe_dpop1 (pv 5) (pe_cal CO (hr.mono (by decide)) rfl (pa_cons (pv 0) (pa_cons (pe_callTy (call_listD rfl) (by rfl) T.list (by decide +kernel) (pa_cons (pv 5) pa_nil)) pa_nil))) ⟨rfl, rfl, rfl, rfl⟩)))
          (pss_one (ps_if (PW.pt (pw_and (pt_cmpR op_eq (pv 6) pe_int (nomark _)) (pw_and1 (pt_cmpR op_lt (pe_callB call_lenD (by rfl) T.len PySem.boot_len (pa_cons (pv 5) pa_nil)) pe_int (nomark _)))))
            (pss_one (ps_dput hu (pv 5) (pv 7) (pe_cal CO (hr.mono (by decide)) rfl (pa_cons (pv 0) (pa_cons (pv 3) pa_nil))) rfl))
            (pss_one (ps_if (pt_cmpR op_eq (pv 6) pe_int (nomark _))
              (pss_one (ps_set (i := 4) scCr.nd rfl (Or.inl rfl) (pe_ifExp (pt_cmpR op_eq (pv 4) pe_str (nomark _)) pe_str pe_str)))
              (pss_one (ps_dput hu (pv 5) (pe_cal CO (hr.mono (by decide)) rfl (pa_cons (pv 0) (pa_cons (pe_callTy (call_listD rfl) (by rfl) T.list (by decide +kernel) (pa_cons (pv 5) pa_nil)) pa_nil))) (pe_cal CO (hr.mono (by decide)) rfl (pa_cons (pv 0) (pa_cons (pv 3) pa_nil))) rfl)))))))
      (pss_one (ps_ret (pe_tup (pa_cons (pv 4) (pa_cons (pv 5) pa_nil))))))), ?_⟩
    have htu := cut_le _ _ htu
    have ha : TurnsAt H a ts := cut_le _ _ ha
    have lts := tok.len
    have wl := wok.hi
    have wlo := wok.lo
    refine ⟨_, rfl, tu, _, _, _, rfl, rfl, SqT.of htu, atI_nat (j := 0) rfl, _, rfl, tu, _, _, _, rfl, rfl, SqT.of htu, atI_nat (j := 1) rfl, a, kT ts, rfl, .inl ha, fun D hD => ⟨_, _, rfl, ?_⟩⟩
    have nDp := hp.ne hD
    have b1 : But p H (L2.upd H D (.dK (kT ts))) := But.new hD
    have hD1 : TurnsAt (L2.upd H D (.dK (kT ts))) D ts := upd_same
    have hp1 := hp.new (o := .dK (kT ts)) hD
    generalize L2.upd H D (.dK (kT ts)) = H1 at b1 hD1 hp1
    refine ⟨_, rfl, p, 6, t, rfl, hp1, by decide, by decide, by omega, fun way t2 o2 r0 r1 tt2 hp2 => ?_⟩
    have b2 := b1.trans (But.upd p H1 o2)
    have hD2 : TurnsAt (L2.upd H1 p o2) D ts := by rw [TurnsAt, upd_ne nDp]; exact hD1
    generalize L2.upd H1 p o2 = H2 at b2 hD2 hp2
    have hW2 : SL H2 W ws := b2 _ _ nW hW
    refine ⟨_, rfl, _, rfl, p, W, _, t2, rfl, hp2, hW2, nW, by rw [List.length_map]; omega, by rw [List.length_map]; omega, by omega, fun j3 v3 t3 o3 hj3 tt3 hp3 => ⟨_, _, rfl, ?_⟩⟩
    obtain ⟨w3, hw3, rfl⟩ := get_map hj3
    have hwm := List.mem_of_getElem? hw3
    have b3 := b2.trans (But.upd p H2 o3)
    have hD3 : TurnsAt (L2.upd H2 p o3) D ts := by rw [TurnsAt, upd_ne nDp]; exact hD2
    generalize L2.upd H2 p o3 = H3 at b3 hD3 hp3
    have hS3 : SL H3 S ss := b3 _ _ nS hS
    have kl : (kT ts).length = ts.length := by rw [kT, List.length_map]
    have ek : (kT ts).map (fun kv => kV kv.1) = (ts.map (·.1)).map V.str := by rw [kT, List.map_map, List.map_map]; rfl
    have tpos : 0 < ts.length := List.length_pos_iff.mpr tne
    have fin : ∀ (H5 : Hp) (k' : Str) (ts' : List (Str × Str)) (t5 : Int), But p H H5 → Purse H5 p t5 → t5 ≤ t + 10 → TurnsAt H5 D ts' → (k' = "says" ∨ k' = "hears") → ts' ≠ [] → TOk ts' ss ws → ∀ R, H5 R = none → Q (.ref R) (L2.upd H5 R (.tup [.str k', .ref D])) := fun H5 k' ts' t5 b5 hp5 tt5 hD5 kk' ne' tok' R hR => by
      have nDR : D ≠ R := ne_of_none hD5 hR
      have nRp := hp5.ne hR
      have gR := Same.new (o := .tup [.str k', .ref D]) hR
      refine k _ R k' ts' t5 (b5.newt hR) (hp5.new hR) tt5 ⟨R, D, rfl, ?_, ?_⟩ kk' ne' tok'
      · rw [new_out (b5.fr hR nRp)]; exact upd_same
      · rw [TurnsAt, new_out hD]; exact gR _ _ hD5
    have pick : ∀ (H4 : Hp), TurnsAt H4 D ts → ∀ q, H4 q = none → (L2.upd H4 q (.lst ((ts.map (·.1)).map V.str))) q = some (.lst ((ts.map (·.1)).map V.str)) := fun H4 _ q _ => upd_same
    refine ⟨_, rfl, _, _, rfl, rfl, _, rfl, ite2 (fun c1 => ?_) (fun c1 => ?_)⟩
    · refine ⟨_, rfl, D, kT ts, rfl, hD3, _, _, rfl, rfl, _, rfl, ite2 (fun c2 => ?_) (fun c2 => ?_)⟩
      · refine ⟨_, rfl, D, rfl, .inl ⟨_, .inl hD3⟩, _, rfl, _, rfl, D, _, rfl, .inl hD3, fun q7 hq7 => ?_⟩
        rw [ek]
        refine ⟨p, q7, _, t3, rfl, hp3.new hq7, upd_same, hp3.ne hq7, by rw [List.length_map, List.length_map]; omega, by rw [List.length_map, List.length_map]; omega, by omega, fun j v t8 o8 hj8 tt8 hp8 => ?_⟩
        obtain ⟨k8, hk8, rfl⟩ := get_map hj8
        have hkt : k8 ∈ ts.map (·.1) := List.mem_of_getElem? hk8
        have hkm : k8 ∈ ws := by
          obtain ⟨u, hu, e⟩ := List.mem_map.mp hkt
          rw [← e]; exact tok.ks u hu
        refine ⟨kT ts, Sum.inr k8, _, by rw [upd_ne nDp]; exact hD3.same (Same.new hq7), rfl, valV_goal hkt, ?_⟩
        rw [dropK_kT]
        exact ⟨_, rfl, _, rfl, by show 2 ≤ sizeLine; decide, fin _ kd _ t8 (But.ofL hD ((b3.newt hq7).trans (But.upd p _ o8))) (hp8.upd nDp.symm) (by omega) upd_same kk (dropT_ne tok.nd (by have := of_decide_eq_true c2; rw [kl] at this; omega)) tok.drop⟩
      · refine ⟨_, rfl, rfl, _, rfl, ite2 (fun c3 => ?_) (fun c3 => ?_)⟩
        · refine ⟨_, rfl, D, kT ts, rfl, hD3, _, _, rfl, rfl, _, rfl, ite2 (fun c4 => ?_) (fun c4 => ?_)⟩
          · refine ⟨_, rfl, _, rfl, p, S, _, t3, rfl, hp3, hS3, nS, by rw [List.length_map]; omega, by rw [List.length_map]; omega, by omega, fun j v t4 o4 hj4 tt4 hp4 => ?_⟩
            obtain ⟨g, hg, rfl⟩ := get_map hj4
            have hgm := List.mem_of_getElem? hg
            have b4 := b3.trans (But.upd p H3 o4)
            have hD4 : TurnsAt (L2.upd H3 p o4) D ts := by rw [TurnsAt, upd_ne nDp]; exact hD3
            generalize L2.upd H3 p o4 = H4 at b4 hD4 hp4
            refine ⟨_, rfl, _, rfl, D, _, rfl, DPut.k (kvs := kT ts) (k := Sum.inr w3) hD4 (by rw [kl, sizeLine_eq]; omega), ?_⟩
            rw [putK_kT]
            exact ⟨_, rfl, _, rfl, by show 2 ≤ sizeLine; decide, fin _ kd _ t4 (But.ofL hD b4) (hp4.upd nDp.symm) (by omega) upd_same kk putT_ne (tok.put hwm hgm)⟩
          · refine ⟨_, rfl, rfl, _, rfl, ite2 (fun c5 => ?_) (fun c5 => ?_)⟩
            · refine ⟨_, rfl, rfl, _, rfl, ite2 (fun c6 => ?_) (fun c6 => ?_)⟩
              · exact ⟨_, rfl, _, rfl, by show 2 ≤ sizeLine; decide, fin H3 "says" ts t3 b3 hp3 (by omega) hD3 (.inl rfl) tne tok⟩
              · exact ⟨_, rfl, _, rfl, by show 2 ≤ sizeLine; decide, fin H3 "hears" ts t3 b3 hp3 (by omega) hD3 (.inr rfl) tne tok⟩
            · refine ⟨_, rfl, _, rfl, p, S, _, t3, rfl, hp3, hS3, nS, by rw [List.length_map]; omega, by rw [List.length_map]; omega, by omega, fun j v t4 o4 hj4 tt4 hp4 => ?_⟩
              obtain ⟨g, hg, rfl⟩ := get_map hj4
              have hgm := List.mem_of_getElem? hg
              have b4 := b3.trans (But.upd p H3 o4)
              have hD4 : TurnsAt (L2.upd H3 p o4) D ts := by rw [TurnsAt, upd_ne nDp]; exact hD3
              generalize L2.upd H3 p o4 = H4 at b4 hD4 hp4
              refine ⟨_, rfl, _, rfl, _, rfl, D, _, rfl, .inl hD4, fun q7 hq7 => ?_⟩
              rw [ek]
              refine ⟨p, q7, _, t4, rfl, hp4.new hq7, upd_same, hp4.ne hq7, by rw [List.length_map, List.length_map]; omega, by rw [List.length_map, List.length_map]; omega, by omega, fun j v t8 o8 hj8 tt8 hp8 => ?_⟩
              obtain ⟨k8, hk8, rfl⟩ := get_map hj8
              have hkt : k8 ∈ ts.map (·.1) := List.mem_of_getElem? hk8
              have hkm : k8 ∈ ws := by
                obtain ⟨u, hu, e⟩ := List.mem_map.mp hkt
                rw [← e]; exact tok.ks u hu
              refine ⟨D, _, rfl, DPut.k (kvs := kT ts) (k := Sum.inr k8) (by rw [upd_ne nDp]; exact hD4.same (Same.new hq7)) (by rw [kl, sizeLine_eq]; omega), ?_⟩
              rw [putK_kT]
              exact ⟨_, rfl, _, rfl, by show 2 ≤ sizeLine; decide, fin _ kd _ t8 (But.ofL hD ((b4.newt hq7).trans (But.upd p _ o8))) (hp8.upd nDp.symm) (by omega) upd_same kk putT_ne (tok.put hkm hgm)⟩
        · refine iteF ?_
          refine ⟨_, rfl, rfl, _, rfl, ite2 (fun c5 => ?_) (fun c5 => ?_)⟩
          · refine ⟨_, rfl, rfl, _, rfl, ite2 (fun c6 => ?_) (fun c6 => ?_)⟩
            · exact ⟨_, rfl, _, rfl, by show 2 ≤ sizeLine; decide, fin H3 "says" ts t3 b3 hp3 (by omega) hD3 (.inl rfl) tne tok⟩
            · exact ⟨_, rfl, _, rfl, by show 2 ≤ sizeLine; decide, fin H3 "hears" ts t3 b3 hp3 (by omega) hD3 (.inr rfl) tne tok⟩
          · refine ⟨_, rfl, _, rfl, p, S, _, t3, rfl, hp3, hS3, nS, by rw [List.length_map]; omega, by rw [List.length_map]; omega, by omega, fun j v t4 o4 hj4 tt4 hp4 => ?_⟩
            obtain ⟨g, hg, rfl⟩ := get_map hj4
            have hgm := List.mem_of_getElem? hg
            have b4 := b3.trans (But.upd p H3 o4)
            have hD4 : TurnsAt (L2.upd H3 p o4) D ts := by rw [TurnsAt, upd_ne nDp]; exact hD3
            generalize L2.upd H3 p o4 = H4 at b4 hD4 hp4
            refine ⟨_, rfl, _, rfl, _, rfl, D, _, rfl, .inl hD4, fun q7 hq7 => ?_⟩
            rw [ek]
            refine ⟨p, q7, _, t4, rfl, hp4.new hq7, upd_same, hp4.ne hq7, by rw [List.length_map, List.length_map]; omega, by rw [List.length_map, List.length_map]; omega, by omega, fun j v t8 o8 hj8 tt8 hp8 => ?_⟩
            obtain ⟨k8, hk8, rfl⟩ := get_map hj8
            have hkt : k8 ∈ ts.map (·.1) := List.mem_of_getElem? hk8
            have hkm : k8 ∈ ws := by
              obtain ⟨u, hu, e⟩ := List.mem_map.mp hkt
              rw [← e]; exact tok.ks u hu
            refine ⟨D, _, rfl, DPut.k (kvs := kT ts) (k := Sum.inr k8) (by rw [upd_ne nDp]; exact hD4.same (Same.new hq7)) (by rw [kl, sizeLine_eq]; omega), ?_⟩
            rw [putK_kT]
            exact ⟨_, rfl, _, rfl, by show 2 ≤ sizeLine; decide, fin _ kd _ t8 (But.ofL hD ((b4.newt hq7).trans (But.upd p _ o8))) (hp8.upd nDp.symm) (by omega) upd_same kk putT_ne (tok.put hkm hgm)⟩
    · refine iteF ?_
      refine ⟨_, rfl, rfl, _, rfl, ite2 (fun c3 => ?_) (fun c3 => ?_)⟩
      · refine ⟨_, rfl, D, kT ts, rfl, hD3, _, _, rfl, rfl, _, rfl, ite2 (fun c4 => ?_) (fun c4 => ?_)⟩
        · refine ⟨_, rfl, _, rfl, p, S, _, t3, rfl, hp3, hS3, nS, by rw [List.length_map]; omega, by rw [List.length_map]; omega, by omega, fun j v t4 o4 hj4 tt4 hp4 => ?_⟩
          obtain ⟨g, hg, rfl⟩ := get_map hj4
          have hgm := List.mem_of_getElem? hg
          have b4 := b3.trans (But.upd p H3 o4)
          have hD4 : TurnsAt (L2.upd H3 p o4) D ts := by rw [TurnsAt, upd_ne nDp]; exact hD3
          generalize L2.upd H3 p o4 = H4 at b4 hD4 hp4
          refine ⟨_, rfl, _, rfl, D, _, rfl, DPut.k (kvs := kT ts) (k := Sum.inr w3) hD4 (by rw [kl, sizeLine_eq]; omega), ?_⟩
          rw [putK_kT]
          exact ⟨_, rfl, _, rfl, by show 2 ≤ sizeLine; decide, fin _ kd _ t4 (But.ofL hD b4) (hp4.upd nDp.symm) (by omega) upd_same kk putT_ne (tok.put hwm hgm)⟩
        · refine ⟨_, rfl, rfl, _, rfl, ite2 (fun c5 => ?_) (fun c5 => ?_)⟩
          · refine ⟨_, rfl, rfl, _, rfl, ite2 (fun c6 => ?_) (fun c6 => ?_)⟩
            · exact ⟨_, rfl, _, rfl, by show 2 ≤ sizeLine; decide, fin H3 "says" ts t3 b3 hp3 (by omega) hD3 (.inl rfl) tne tok⟩
            · exact ⟨_, rfl, _, rfl, by show 2 ≤ sizeLine; decide, fin H3 "hears" ts t3 b3 hp3 (by omega) hD3 (.inr rfl) tne tok⟩
          · refine ⟨_, rfl, _, rfl, p, S, _, t3, rfl, hp3, hS3, nS, by rw [List.length_map]; omega, by rw [List.length_map]; omega, by omega, fun j v t4 o4 hj4 tt4 hp4 => ?_⟩
            obtain ⟨g, hg, rfl⟩ := get_map hj4
            have hgm := List.mem_of_getElem? hg
            have b4 := b3.trans (But.upd p H3 o4)
            have hD4 : TurnsAt (L2.upd H3 p o4) D ts := by rw [TurnsAt, upd_ne nDp]; exact hD3
            generalize L2.upd H3 p o4 = H4 at b4 hD4 hp4
            refine ⟨_, rfl, _, rfl, _, rfl, D, _, rfl, .inl hD4, fun q7 hq7 => ?_⟩
            rw [ek]
            refine ⟨p, q7, _, t4, rfl, hp4.new hq7, upd_same, hp4.ne hq7, by rw [List.length_map, List.length_map]; omega, by rw [List.length_map, List.length_map]; omega, by omega, fun j v t8 o8 hj8 tt8 hp8 => ?_⟩
            obtain ⟨k8, hk8, rfl⟩ := get_map hj8
            have hkt : k8 ∈ ts.map (·.1) := List.mem_of_getElem? hk8
            have hkm : k8 ∈ ws := by
              obtain ⟨u, hu, e⟩ := List.mem_map.mp hkt
              rw [← e]; exact tok.ks u hu
            refine ⟨D, _, rfl, DPut.k (kvs := kT ts) (k := Sum.inr k8) (by rw [upd_ne nDp]; exact hD4.same (Same.new hq7)) (by rw [kl, sizeLine_eq]; omega), ?_⟩
            rw [putK_kT]
            exact ⟨_, rfl, _, rfl, by show 2 ≤ sizeLine; decide, fin _ kd _ t8 (But.ofL hD ((b4.newt hq7).trans (But.upd p _ o8))) (hp8.upd nDp.symm) (by omega) upd_same kk putT_ne (tok.put hkm hgm)⟩
      · refine iteF ?_
        refine ⟨_, rfl, rfl, _, rfl, ite2 (fun c5 => ?_) (fun c5 => ?_)⟩
        · refine ⟨_, rfl, rfl, _, rfl, ite2 (fun c6 => ?_) (fun c6 => ?_)⟩
          · exact ⟨_, rfl, _, rfl, by show 2 ≤ sizeLine; decide, fin H3 "says" ts t3 b3 hp3 (by omega) hD3 (.inl rfl) tne tok⟩
          · exact ⟨_, rfl, _, rfl, by show 2 ≤ sizeLine; decide, fin H3 "hears" ts t3 b3 hp3 (by omega) hD3 (.inr rfl) tne tok⟩
        · refine ⟨_, rfl, _, rfl, p, S, _, t3, rfl, hp3, hS3, nS, by rw [List.length_map]; omega, by rw [List.length_map]; omega, by omega, fun j v t4 o4 hj4 tt4 hp4 => ?_⟩
          obtain ⟨g, hg, rfl⟩ := get_map hj4
          have hgm := List.mem_of_getElem? hg
          have b4 := b3.trans (But.upd p H3 o4)
          have hD4 : TurnsAt (L2.upd H3 p o4) D ts := by rw [TurnsAt, upd_ne nDp]; exact hD3
          generalize L2.upd H3 p o4 = H4 at b4 hD4 hp4
          refine ⟨_, rfl, _, rfl, _, rfl, D, _, rfl, .inl hD4, fun q7 hq7 => ?_⟩
          rw [ek]
          refine ⟨p, q7, _, t4, rfl, hp4.new hq7, upd_same, hp4.ne hq7, by rw [List.length_map, List.length_map]; omega, by rw [List.length_map, List.length_map]; omega, by omega, fun j v t8 o8 hj8 tt8 hp8 => ?_⟩
          obtain ⟨k8, hk8, rfl⟩ := get_map hj8
          have hkt : k8 ∈ ts.map (·.1) := List.mem_of_getElem? hk8
          have hkm : k8 ∈ ws := by
            obtain ⟨u, hu, e⟩ := List.mem_map.mp hkt
            rw [← e]; exact tok.ks u hu
          refine ⟨D, _, rfl, DPut.k (kvs := kT ts) (k := Sum.inr k8) (by rw [upd_ne nDp]; exact hD4.same (Same.new hq7)) (by rw [kl, sizeLine_eq]; omega), ?_⟩
          rw [putK_kT]
          exact ⟨_, rfl, _, rfl, by show 2 ≤ sizeLine; decide, fin _ kd _ t8 (But.ofL hD ((b4.newt hq7).trans (But.upd p _ o8))) (hp8.upd nDp.symm) (by omega) upd_same kk putT_ne (tok.put hkm hgm)⟩
end
end D1
end L2
/-! calls by names alone; == of lists of words; what a list that is written leaves -/
namespace L2
namespace D1
open PySem PySem.Spec PyProof.Rows D2
/-- a def that is called by names alone keeps a promise -/
structure CalK (P : Program) (w : World) (K : PySem.W.Frag) (mg : Str → Option Value) (base : Heap) (x : Str) (k : Nat) (ps ks : List Str) (gV : List V → List V) (sp : Sp) : Prop where
  ex : ∃ f fd g, mg x = some (.ref f) ∧ PySem.W.keepIn K (.ref f) = true ∧ FnOk P w K mg base CX0 k f fd ps sp ∧ KBinds K fd ps ks g fun vs zs => vs ++ gV zs
theorem pe_calK {X : Cx} {x : Str} {k : Nat} {ps ks : List Str} {gV : List V → List V} {sp : Sp} {kws : List Keyword} {tk : TA} {p pos : Pos} (C : CalK X.prog X.w X.K X.mg X.base x k ps ks gV sp) (hr : Room k X.A) (hg : Gl X x) (hkw : PK X kws tk)
    (hall : (backToKw pos (keywordEach kws X.env)).all (·.1.isSome) = true := by rfl) (hks : (backToKw pos (keywordEach kws X.env)).filterMap (·.1) = ks := by rfl) (hdb : (x == ("__debug__" : Str)) = false := by decide)
    (hpl : ((backTo pos (starEach [] X.env)).any (·.1) || (backToKw pos (keywordEach kws X.env)).any (·.1.isNone)) = false := by rfl) : PE X (.Call (.Name x p) [] kws pos) (fun σ H Q => tk σ H fun zs H2 => sp (gV zs) H2 Q E0) := by
  obtain ⟨f, fd, g, h1, h2, h3, h4⟩ := C.ex
  refine ⟨fun pins s σ H Q I h => ?_⟩
  refine wpAny_Call_Name_kw (ld_glob I hg h1 ?_ hdb)
  refine PySem.W.callWith_KW0 (h₀ := X.base) I.ok.mod.kin h2 hall (thn (hkw.run pos pins s σ H _ I h) fun ws s2 ⟨zs, H2, I2, rz, q2⟩ => ⟨I2.kIn, ?_⟩) hpl
  rw [hks]
  exact run_fnk (us := []) (vs := []) h3 hr h4 pass0 I2 .nil rz q2
/-! ### == of words' lists -/
def dW (ss : List Str) : PyData := .list (ss.map PyData.str)
def dP (ps : List (Str × Str)) : PyData := .list (ps.map fun p => .tuple [.str p.1, .str p.2])
theorem lay_str {x : Str} (h : Wd x) : PyData.canLay0 (.str x) = true := by
  show (x.cps.all fun c => decide (c < 0x110000)) = true
  rw [← Array.all_toList]
  refine List.all_eq_true.mpr fun c hc => ?_
  have := h.ok c hc
  exact decide_eq_true (by omega)
theorem lay_words : ∀ {ss : List Str}, (∀ x ∈ ss, Wd x) → PyData.canLayAll0 (ss.map PyData.str) = true
  | [], _ => rfl
  | x :: r, h => by
    have a := lay_str (h x (.head _))
    have b := lay_words (ss := r) fun y hy => h y (.tail _ hy)
    show (PyData.canLay0 (.str x) && PyData.canLayAll0 (r.map PyData.str)) = true
    rw [a, b]; rfl
theorem dep_words : ∀ (ss : List Str), PyData.depthAll (ss.map PyData.str) = 0
  | [] => rfl
  | x :: r => by
    show max (PyData.depth (.str x)) (PyData.depthAll (r.map PyData.str)) = 0
    rw [dep_words r]; rfl
theorem sh_words {ss : List Str} (h : ∀ x ∈ ss, Wd x) : SeqAt.shaped (dW ss) = true := by
  show (PyData.canLayAll0 (ss.map PyData.str) && decide (PyData.depthAll (ss.map PyData.str) + 1 ≤ 64)) = true
  rw [lay_words h, dep_words]; rfl
theorem eq_words {ss : List Str} (h : ∀ x ∈ ss, Wd x) : PyData.eqv (dW ss) (dW ss) = true := SeqAt.eqv_refl _ (lay_words h)
theorem dpa_words {K : PySem.W.Frag} {H : Hp} : ∀ ss : List Str, DpAll K H (ss.map V.str) (ss.map PyData.str)
  | [] => .nil
  | x :: r => .cons (.str x) (dpa_words r)
theorem dp_words {K : PySem.W.Frag} {H : Hp} {a : Addr} {ss : List Str} (h : SL H a ss) : Dp K H (.ref a) (dW ss) := .lst h.sq (dpa_words ss)
theorem lay_pairs : ∀ {ps : List (Str × Str)}, (∀ p ∈ ps, Wd p.1 ∧ Wd p.2) → PyData.canLayAll0 (ps.map fun p => .tuple [.str p.1, .str p.2]) = true
  | [], _ => rfl
  | x :: r, h => by
    have a1 := lay_str (h x (.head _)).1
    have a2 := lay_str (h x (.head _)).2
    have b := lay_pairs (ps := r) fun y hy => h y (.tail _ hy)
    show ((PyData.canLay0 (.str x.1) && (PyData.canLay0 (.str x.2) && true)) && PyData.canLayAll0 (r.map fun p => .tuple [.str p.1, .str p.2])) = true
    rw [a1, a2, b]; rfl
theorem dep_pairs : ∀ (ps : List (Str × Str)), PyData.depthAll (ps.map fun p => .tuple [.str p.1, .str p.2]) ≤ 1
  | [] => Nat.zero_le _
  | x :: r => by
    show max 1 (PyData.depthAll (r.map fun p => .tuple [.str p.1, .str p.2])) ≤ 1
    have := dep_pairs r
    omega
theorem sh_pairs {ps : List (Str × Str)} (h : ∀ p ∈ ps, Wd p.1 ∧ Wd p.2) : SeqAt.shaped (dP ps) = true := by
  show (PyData.canLayAll0 (ps.map fun p => .tuple [.str p.1, .str p.2]) && decide (PyData.depthAll (ps.map fun p => .tuple [.str p.1, .str p.2]) + 1 ≤ 64)) = true
  rw [lay_pairs h, decide_eq_true (by have := dep_pairs ps; omega)]; rfl
theorem eq_pairs {ps : List (Str × Str)} (h : ∀ p ∈ ps, Wd p.1 ∧ Wd p.2) : PyData.eqv (dP ps) (dP ps) = true := SeqAt.eqv_refl _ (lay_pairs h)
theorem dp_pairs {K : PySem.W.Frag} {H : Hp} {a : Addr} {as : List Addr} {ps : List (Str × Str)} (h : H a = some (.lst (as.map V.ref))) (g : Paired (fun t (p : Str × Str) => H t = some (.tup [.str p.1, .str p.2])) as ps) : Dp K H (.ref a) (dP ps) := by
  refine .lst (SqL.of h) ?_
  clear h
  induction g with
  | nil => exact .nil
  | cons e _ ih => exact .cons (.tup (SqT.of e) (.cons (.str _) (.cons (.str _) .nil))) ih
/-! ### a list is written: what stands beside it -/
theorem TurnsAt.but {T : Addr} {H H' : Hp} {a : Addr} {ts : List (Str × Str)} {xs : List V} (h : TurnsAt H a ts) (b : But T H H') (hT : H T = some (.lst xs)) : TurnsAt H' a ts := b _ _ (fun e => by rw [TurnsAt, e, hT] at h; cases h) h
theorem BookAt.but {T : Addr} {H H' : Hp} {a : Addr} {bk : Bk} {xs : List V} (h : BookAt H a bk) (b : But T H H') (hT : H T = some (.lst xs)) : BookAt H' a bk := by
  obtain ⟨kvs, e, r⟩ := h
  refine ⟨kvs, b _ _ (fun z => by rw [z, hT] at e; cases e) e, ?_⟩
  clear e
  unfold Rows at r ⊢
  induction r with
  | nil => exact .nil
  | cons h1 _ ih =>
    obtain ⟨e1, t, a, ev, ht, ha⟩ := h1
    exact .cons ⟨e1, t, a, ev, b _ _ (fun z => by rw [z, hT] at ht; cases ht) ht, ha.but b hT⟩ ih
theorem BookR.but {T : Addr} {H H' : Hp} {a : Addr} {bk : Bk} {xs : List V} (h : BookR H a bk) (b : But T H H') (hT : H T = some (.lst xs)) : BookR H' a bk := by
  obtain ⟨kvs, e, r⟩ := h
  refine ⟨kvs, e.elim (fun e => .inl (b _ _ (fun z => by rw [z, hT] at e; cases e) e)) fun ⟨od, e⟩ => .inr ⟨od, b _ _ (fun z => by rw [z, hT] at e; cases e) e⟩, ?_⟩
  clear e
  unfold Rows at r ⊢
  induction r with
  | nil => exact .nil
  | cons h1 _ ih =>
    obtain ⟨e1, t, a, ev, ht, ha⟩ := h1
    exact .cons ⟨e1, t, a, ev, b _ _ (fun z => by rw [z, hT] at ht; cases ht) ht, ha.but b hT⟩ ih
theorem DeskAt.but {C T : Addr} {H H' : Hp} {q : Addr} {bk : Bk} {st : Str} {xs : List V} (h : DeskAt C H q bk st) (b : But T H H') (hT : H T = some (.lst xs)) : DeskAt C H' q bk st := by
  obtain ⟨dx, c, e, r⟩ := h
  exact ⟨dx, c, b _ _ (fun z => by rw [z, hT] at e; cases e) e, r.but b hT⟩
/-- a list of words held against the empty list -/
theorem eqv_nil (ss : List Str) : PyData.eqv (dW ss) (dW []) = decide (ss = []) := by
  cases ss with
  | nil => exact eq_words (fun _ h => by cases h)
  | cons x r => rfl
end D1
end L2
/-! the law's newer -/
namespace L2
namespace D1
open PySem PySem.Spec PyProof.Rows D2 X3
abbrev sNewer : Stmt := top 42
/-- a book with another row for a state that it has -/
def setR (bk : Bk) (s : Str) (k : Str) (ts : List (Str × Str)) : Bk := bk.map fun r => if r.1 = s then (r.1, k, ts) else r
theorem setR_names (bk : Bk) (s k : Str) (ts : List (Str × Str)) : (setR bk s k ts).map (·.1) = bk.map (·.1) := by
  rw [setR, List.map_map]
  refine List.map_congr_left fun r _ => ?_
  show (if r.1 = s then (r.1, k, ts) else r).1 = r.1
  split <;> rfl
theorem setR_mem {bk : Bk} {s k : Str} {ts : List (Str × Str)} {r : RowD} (h : r ∈ setR bk s k ts) : r ∈ bk ∨ (r = (s, k, ts) ∧ s ∈ bk.map (·.1)) := by
  obtain ⟨q, hq, e⟩ := List.mem_map.mp h
  by_cases c : q.1 = s
  · rw [if_pos c] at e
    exact .inr ⟨by rw [← e, c], by rw [← c]; exact List.mem_map_of_mem hq⟩
  · rw [if_neg c] at e
    exact .inl (e ▸ hq)
theorem Rows.set {H : Hp} {kvs : List (Key × V)} {bk : Bk} {s k : Str} {ts : List (Str × Str)} {v : V} (h : Rows H kvs bk) (hs : s ∈ bk.map (·.1)) (r : RowAt H v k ts) : Rows H (putK kvs (.inr s) v) (setR bk s k ts) := by
  have e : (kvs.any fun kv => decide (kv.1 = Sum.inr s)) = true := by
    have : (Sum.inr s : Key) ∈ kvs.map (·.1) := by
      rw [h.keys]
      obtain ⟨q, hq, e⟩ := List.mem_map.mp hs
      exact List.mem_map.mpr ⟨q, hq, by rw [e]⟩
    obtain ⟨p, hp, e⟩ := List.mem_map.mp this
    exact List.any_eq_true.mpr ⟨p, hp, decide_eq_true e⟩
  unfold putK
  rw [if_pos e]
  clear e hs
  unfold Rows at h ⊢
  unfold setR
  induction h with
  | nil => exact .nil
  | @cons kv q _ _ h1 _ ih =>
    refine .cons ?_ ih
    obtain ⟨e1, h2⟩ := h1
    by_cases c : q.1 = s
    · dsimp only
      rw [if_pos (show kv.1 = Sum.inr s by rw [e1, c]), if_pos c]
      exact ⟨e1, r⟩
    · dsimp only
      rw [if_neg (show ¬ kv.1 = Sum.inr s by rw [e1]; exact fun z => c (Sum.inr.inj z)), if_neg c]
      exact ⟨e1, h2⟩
theorem WF.row {bk : Bk} {st s : Str} {ws : List Str} (h : WF bk st ws) (hs : s ∈ bk.map (·.1)) (n : (rowOf bk s).1 ≠ "done") : ((rowOf bk s).1 = "says" ∨ (rowOf bk s).1 = "hears") ∧ (rowOf bk s).2 ≠ [] ∧ TOk (rowOf bk s).2 (bk.map (·.1)) ws := by
  rcases (h.rs _ (row_mem hs)).2 with ⟨e, _⟩ | e
  · exact absurd e n
  · exact e
theorem WF.set {bk : Bk} {st s k : Str} {ws : List Str} {ts : List (Str × Str)} (h : WF bk st ws) (hs : s ∈ bk.map (·.1)) (kk : k = "says" ∨ k = "hears") (ne : ts ≠ []) (tok : TOk ts (bk.map (·.1)) ws) : WF (setR bk s k ts) st ws := by
  refine ⟨by rw [setR_names]; exact h.nd, fun r hr => ?_, by rw [setR_names]; exact h.st, by rw [setR, List.length_map]; exact h.len⟩
  rw [setR_names]
  rcases setR_mem hr with m | ⟨rfl, _⟩
  · exact h.rs r m
  · exact ⟨(h.rs _ (row_mem hs)).1, .inr ⟨kk, ne, tok⟩⟩
def spNewer : Sp := fun vs H Q _ => ∃ (p W L : Addr) (bk : Bk) (st : Str) (ws : List Str) (n t : Int), vs = [.ref p, .ref W, .ref L, .int n] ∧ Purse H p t ∧ WorldAt (cut [p] H) W bk st ∧ SL H L ws ∧ L ≠ p ∧ WF bk st ws ∧ WsOk ws ∧ 0 ≤ n ∧ n ≤ 10 ∧ t < 2 ^ 25 ∧
  ∀ (H' : Hp) (R : Addr) (bk' : Bk) (t' : Int), But p H H' → Purse H' p t' → t' ≤ t + 200 → H R = none → WorldAt (cut [p] H') R bk' st → WF bk' st ws → Q (.ref R) H'
section
variable {P : Program} {w : World} {K : PySem.W.Frag} {mg : Str → Option Value} {base : Heap}
abbrev CChRow (P : Program) (w : World) (K : PySem.W.Frag) (mg : Str → Option Value) (base : Heap) := Cal P w K mg base "_law_changed_row" 4 ["_law_purse_here", "_law_row", "_law_words_here", "_law_states"] spChRow
abbrev neN : List Str := ["_law_purse_here", "_law_world_here", "_law_words_here", "_law_times", "_law_book", "_law_states", "_law_turn", "_law_live", "_law_state"]
theorem scNe : FnScope neN ["_law_purse_here", "_law_world_here", "_law_words_here", "_law_times"] (defScope sNewer) := ⟨rfl, rfl, rfl, by decide +kernel, rfl, by decide +kernel, by decide +kernel⟩
theorem ok_newer {f : Addr} {fd : FuncData} (F : Fun K "_law_newer" "_law_newer" sNewer f fd) (T : Free3 mg) (CO : COne P w K mg base) (CC : CChRow P w K mg base) : FnOk P w K mg base CX0 5 f fd ["_law_purse_here", "_law_world_here", "_law_words_here", "_law_times"] spNewer := by
  refine F.ok scNe (fun vs H Q E h => ?_) (fun cdv A outer s H vs Q E hr h => ?_)
  · obtain ⟨p, W, L, bk, st, ws, n, t, rfl, _⟩ := h; rfl
  · obtain ⟨p, W, L, bk, st, ws, n, t, rfl, hp, ⟨b, hWc, kvs, hbc, hRc⟩, hL, nL, wf, wok, n0, n10, t1, k⟩ := h
    have hu := hu_of hr
    refine ⟨_, pss_cons (ps_asg (pe_tup (pa_cons (pe_callTy call_dictD (by rfl) T.dict (by decide +kernel) (pa_cons (pe_ix ix_list (pv 1) pe_int (fun _ _ => rfl)) pa_nil)) (pa_cons (pe_callTy (call_listD rfl) (by rfl) T.list (by decide +kernel) (pa_cons (pe_ix ix_list (pv 1) pe_int (fun _ _ => rfl)) pa_nil)) pa_nil)))
        (pg_tup rfl (pgs_cons (pg_name (i := 4) scNe.nd rfl (Or.inr rfl)) (pgs_cons (pg_name (i := 5) scNe.nd rfl (Or.inl rfl)) pgs_nil))))
      (pss_cons (ps_for PassesOwn.never rfl (pi_range1 rfl T.range (pa_cons (pv 3) pa_nil)) (pg_name (i := 6) scNe.nd rfl (Or.inl rfl))
        (pss_cons (ps_setLc (i := 7) (own := [("_law_state", 8)]) (g := gName 8) (tt := tTest (tOp rNe (tOp (rIxT K) (tDGet (tVar 4) (tVar 8)) (tC (.int 0))) (tC (.str "done")))) (te := tVar 8) rfl scNe.nd rfl rfl (sw_true rfl rfl rfl rfl) (pi_list (pv 5))
            (blkOk_by (N := neN) (sc := defScope sNewer) (by decide +kernel)) (fun _ _ _ _ _ => pg_name (i := 8) scNe.nd rfl (Or.inl rfl)) (fun _ _ _ _ _ => pts_one (pt_cmpR op_ne (pe_ix ix_tup (pe_dget hu (pv 4) (pv 8) (fun _ _ => rfl)) pe_int (fun _ _ => rfl)) pe_str rfl)) (fun _ _ _ _ _ => pv 8))
        (pss_one (ps_if (pt_cmpR (op_neD hr.units) (pv 7) (pe_lst pa_nil) (by rfl))
          (pss_cons (ps_set (i := 8) scNe.nd rfl (Or.inl rfl) (pe_cal CO (hr.mono (by decide)) rfl (pa_cons (pv 0) (pa_cons (pv 7) pa_nil))))
          (pss_one (ps_dput hu (pv 4) (pv 8) (pe_cal CC (hr.mono (by decide)) rfl (pa_cons (pv 0) (pa_cons (pe_dget hu (pv 4) (pv 8) (fun _ _ => rfl)) (pa_cons (pv 2) (pa_cons (pv 5) pa_nil))))) rfl)))
          pss_nil))))
      (pss_one (ps_ret (pe_lst (pa_cons (pv 4) (pa_cons (pe_ix ix_list (pv 1) pe_int (fun _ _ => rfl)) pa_nil)))))), ?_⟩
    have hW := cut_le _ _ hWc
    have hb := cut_le _ _ hbc
    have nWp : W ≠ p := (fun e => by rw [e, cut_in (by simp)] at hWc; cases hWc)
    have nbp : b ≠ p := (fun e => by rw [e, cut_in (by simp)] at hbc; cases hbc)
    refine ⟨_, rfl, W, _, _, _, rfl, rfl, SqL.of hW, atI_nat (j := 0) rfl, b, kvs, rfl, .inl hb, fun B hB => ?_⟩
    have g1 := Same.new (o := .dK kvs) hB
    have eB1 : (L2.upd H B (.dK kvs)) B = some (.dK kvs) := upd_same
    have hp1 := hp.new (o := .dK kvs) hB
    have nBp := hp.ne hB
    generalize L2.upd H B (.dK kvs) = H1 at g1 eB1 hp1
    refine ⟨_, rfl, W, _, _, _, rfl, rfl, SqL.of (g1 _ _ hW), atI_nat (j := 0) rfl, b, kvs, rfl, .inl (g1 _ _ hb), fun S hS => ?_⟩
    have ek : kvs.map (fun kv => kV kv.1) = (bk.map (·.1)).map V.str := by
      have := congrArg (List.map kV) hRc.keys
      rw [List.map_map, List.map_map] at this
      rw [List.map_map]; exact this
    rw [ek]
    have nSp := hp1.ne hS
    have nBS : B ≠ S := ne_of_none eB1 hS
    have g2 := Same.new (o := .lst ((bk.map (·.1)).map V.str)) hS
    have eS2 : SL (L2.upd H1 S (.lst ((bk.map (·.1)).map V.str))) S (bk.map (·.1)) := upd_same
    have hp2 := hp1.new (o := .lst ((bk.map (·.1)).map V.str)) hS
    generalize L2.upd H1 S (.lst ((bk.map (·.1)).map V.str)) = H2 at g2 eS2 hp2
    refine ⟨by show 2 ≤ sizeLine; decide, fun T1 hT1 => ⟨T1, _, rfl, SqT.of upd_same, rfl, _, _, rfl, _, _, rfl, rfl, ?_⟩⟩
    have g3 := Same.new (o := .tup [.ref B, .ref S]) hT1
    have hp3 := hp2.new (o := .tup [.ref B, .ref S]) hT1
    generalize L2.upd H2 T1 (.tup [.ref B, .ref S]) = H3 at g3 hp3
    have s03 : Same H H3 := Same.trans (Same.trans g1 g2) g3
    refine ⟨_, rfl, n, rfl, by omega, by omega, ?_⟩
    have lb := wf.len
    have lpos : 1 ≤ (bk.map (·.1)).length := List.length_pos_iff.mpr fun e => by have := wf.st; rw [e] at this; cases this
    have lss : (bk.map (·.1)).length ≤ 6 := by rw [List.length_map]; exact lb
    refine for_range (n := n.toNat) (fun i σ H' => ∃ (v6 v7 v8 : Option V) (cl : Bk) (kv' : List (Key × V)) (t' : Int), σ = [some (.ref p), some (.ref W), some (.ref L), some (.int n), some (.ref B), some (.ref S), v6, v7, v8] ∧ But p H H' ∧ Purse H' p t' ∧ t' ≤ t + 12 * i ∧ SL H' S (bk.map (·.1)) ∧ H' B = some (.dK kv') ∧ Rows (cut [p, B] H') kv' cl ∧ WF cl st ws ∧ cl.map (·.1) = bk.map (·.1))
      ⟨none, none, none, bk, kvs, t, rfl, But.of s03, hp3, by omega, eS2.same g3, g3 _ _ (g2 _ _ eB1), ?_, wf, rfl⟩ ?_ ?_
    · refine hRc.same fun c u e => ?_
      obtain ⟨n1, e⟩ := cut_some e
      have n1 : c ≠ p := fun z => n1 (by rw [z]; simp)
      have n2 : c ≠ B := ne_of_none e hB
      rw [cut_out (by simp [n1, n2])]
      exact s03 _ _ e
    · rintro i σ H4 hi ⟨v6, v7, v8, cl, kv', t4, rfl, b04, hp4, tt4, hS4, hB4, hR4, wfc, enm⟩
      have hcm : ∀ {s : Str}, s ∈ bk.map (·.1) → s ∈ cl.map (·.1) := fun h => by rw [enm]; exact h
      have hlk : ∀ {s : Str}, s ∈ bk.map (·.1) → ∃ tu a, valV kv' (.inr s) = some (.ref tu) ∧ (cut [p, B] H4) tu = some (.tup [.str (rowOf cl s).1, .ref a]) ∧ TurnsAt (cut [p, B] H4) a (rowOf cl s).2 := fun h => by
        obtain ⟨v, ev, ⟨tu, a, rfl, e1, e2⟩, _⟩ := hR4.look (hcm h)
        exact ⟨tu, a, ev, e1, e2⟩
      refine ⟨_, rfl, S, rfl, ⟨_, hS4.sq⟩, fun M hM => ?_⟩
      have nMp := hp4.ne hM
      have nMB : B ≠ M := ne_of_none hB4 hM
      refine lc_list (K := K) (a := S) (xs := (bk.map (·.1)).map V.str) (fun j H' => Same H4 H' ∧ SL H' M (((bk.map (·.1)).take j).filter fun s => decide ((rowOf cl s).1 ≠ "done"))) ⟨Same.new hM, upd_same⟩ (fun j H' _ z => (hS4.same z.1).sq) ?_ ?_
      · rintro j x H5 hx0 ⟨sm, hM5⟩
        obtain ⟨s, hsj, rfl⟩ := get_map hx0
        have sm0 : s ∈ bk.map (·.1) := List.mem_of_getElem? hsj
        obtain ⟨tu, a, ev, htu, _⟩ := hlk sm0
        refine ⟨rfl, _, rfl, _, rfl, B, _, rfl, .inl ⟨kv', .inr s, .inl (sm _ _ hB4), rfl, ev.symm⟩, tu, _, _, _, rfl, rfl, SqT.of (sm _ _ (cut_le _ _ htu)), atI_nat (j := 0) rfl, rfl, _, rfl, ite2 (fun c => ?_) (fun c => ?_)⟩
        · have c' : (rowOf cl s).1 ≠ "done" := fun e => by rw [e] at c; exact absurd c (by decide +kernel)
          refine ⟨_, rfl, _, hM5, by rw [List.length_map, sizeLine_eq]; have := List.length_filter_le (fun s => decide ((rowOf cl s).1 ≠ "done")) ((bk.map (·.1)).take j); rw [List.length_take] at this; omega, fun c0 u e => ?_, ?_⟩
          · rw [upd_ne (ne_of_none e hM)]; exact sm _ _ e
          · rw [filt_yes hsj (decide_eq_true c'), SL, upd_same, List.map_append]; rfl
        · have c' : (rowOf cl s).1 = "done" := by
            by_cases z : (rowOf cl s).1 = "done"
            · exact z
            · exact absurd (show (!decide (V.str (rowOf cl s).1 = V.str "done")) = true by rw [decide_eq_false fun q => z (V.str.inj q)]; rfl) c
          rw [filt_no hsj (by rw [c']; rfl)]
          exact ⟨sm, hM5⟩
      rintro H5 ⟨s45, hM5⟩
      rw [List.length_map, List.take_length] at hM5
      generalize hz : (bk.map (·.1)).filter (fun s => decide ((rowOf cl s).1 ≠ "done")) = zs at hM5
      have lz : zs.length ≤ 6 := by rw [← hz]; exact Nat.le_trans (List.length_filter_le _ _) lss
      have zm : ∀ s ∈ zs, s ∈ bk.map (·.1) ∧ (rowOf cl s).1 ≠ "done" := fun s hs => by
        rw [← hz] at hs
        obtain ⟨a1, a2⟩ := List.mem_filter.mp hs
        exact ⟨a1, of_decide_eq_true a2⟩
      have zw : ∀ s ∈ zs, Wd s := fun s hs => by
        obtain ⟨q, hq, e⟩ := List.mem_map.mp (zm s hs).1
        rw [← e]; exact (wf.rs q hq).1
      refine ⟨_, rfl, by show 0 ≤ sizeLine; decide, fun N hN => ?_⟩
      have g6 := Same.new (o := .lst []) hN
      have hN6 : SL (L2.upd H5 N (.lst [])) N [] := upd_same
      generalize L2.upd H5 N (.lst []) = H6 at g6 hN6
      have s46 := Same.trans s45 g6
      refine ⟨dW zs, dW [], dp_words (hM5.same g6), dp_words hN6, sh_words zw, sh_words (fun _ h => by cases h), _, rfl, ?_⟩
      rw [eqv_nil]
      have b06 := b04.trans (But.of s46)
      have hp6 := hp4.same s46
      have hS6 := hS4.same s46
      have hB6 := s46 _ _ hB4
      refine ite2 (fun c => ?_) (fun c => ?_)
      · have zne : zs ≠ [] := fun e => by rw [e] at c; exact absurd c (by decide)
        have zpos := List.length_pos_iff.mpr zne
        refine ⟨_, rfl, _, rfl, p, M, _, t4, rfl, hp6, hM5.same g6, nMp, by rw [List.length_map]; omega, by rw [List.length_map]; omega, by omega, fun j v t7 o7 hj tt7 hp7 => ?_⟩
        obtain ⟨s, hsj, rfl⟩ := get_map hj
        obtain ⟨sm0, nd⟩ := zm s (List.mem_of_getElem? hsj)
        obtain ⟨tu, a, ev, htu, ha⟩ := hlk sm0
        have b67 := But.upd p H6 o7
        have nBp' := nBp
        have hS7 : SL (L2.upd H6 p o7) S (bk.map (·.1)) := by rw [SL, upd_ne nSp]; exact hS6
        have hB7 : (L2.upd H6 p o7) B = some (.dK kv') := by rw [upd_ne nBp]; exact hB6
        generalize L2.upd H6 p o7 = H7 at b67 hp7 hS7 hB7
        have b47 := (But.of s46).trans b67
        have b07 := b06.trans b67
        have sC : Same (cut [p, B] H4) (cut [p, B] H7) := cut_but b47 (by simp)
        have sC1 : Same (cut [p, B] H7) (cut [p] H7) := cut_mono (by simp)
        obtain ⟨kk, tne, tok⟩ := wfc.row (hcm sm0) nd
        rw [enm] at tok
        refine ⟨_, rfl, _, rfl, _, rfl, B, _, rfl, .inl ⟨kv', .inr s, .inl hB7, rfl, ev.symm⟩, _, rfl, _, rfl, p, L, S, .ref tu, _, _, _, ws, t7, rfl, hp7, ⟨tu, a, rfl, sC1 _ _ (sC _ _ htu), sC1 _ _ (sC _ _ ha)⟩, kk, tne, tok, b07 _ _ nL hL, hS7, nL, nSp, wok, lpos, by omega, by omega, fun H8 R k' ts' t8 b78 hp8 tt8 hrow kk' ne' tok' => ?_⟩
        have hB8 := b78 _ _ nBp hB7
        have lkv : kv'.length ≤ 6 := by rw [hR4.len, ← List.length_map (·.1), enm]; exact lss
        refine ⟨_, rfl, _, rfl, B, _, rfl, DPut.k (kvs := kv') (k := Sum.inr s) hB8 (by rw [sizeLine_eq]; omega), ?_⟩
        refine ⟨_, _, _, setR cl s k' ts', _, t8, rfl, But.ofL hB (b07.trans b78), hp8.upd nBp.symm, by omega, ?_, upd_same, ?_, wfc.set (hcm sm0) kk' ne' (by rw [enm]; exact tok'), by rw [setR_names, enm]⟩
        · rw [SL, upd_ne nBS.symm]; exact b78 _ _ nSp hS7
        · rw [cut_upd (by simp)]
          refine (hR4.same (Same.trans sC (cut_but b78 (by simp)))).set (hcm sm0) ?_
          obtain ⟨t9, a9, e9, x1, x2⟩ := hrow
          have out : ∀ {c : Addr} {u : HO}, newH H7 H8 c = some u → (cut [p, B] H8) c = some u := fun {c u} e => by
            obtain ⟨e0, e1⟩ := new_some e
            have n1 := hp7.ne e0
            have n2 : c ≠ B := fun z => by rw [z, hB7] at e0; cases e0
            rw [cut_out (by simp [n1, n2])]; exact e1
          exact ⟨t9, a9, e9, out x1, out x2⟩
      · refine ⟨_, _, _, cl, kv', t4, rfl, b06, hp6, by omega, hS6, hB6, hR4.same (cut_same s46), wfc, enm⟩
    · rintro σ H4 ⟨v6, v7, v8, cl, kv', t4, rfl, b04, hp4, tt4, hS4, hB4, hR4, wfc, enm⟩
      refine ⟨_, rfl, _, rfl, W, _, _, _, rfl, rfl, SqL.of (b04 _ _ nWp hW), atI_nat (j := 1) rfl, by show 2 ≤ sizeLine; decide, fun R hR => ?_⟩
      have nRp := hp4.ne hR
      have gR := Same.new (o := .lst [.ref B, .str st]) hR
      refine k _ R cl t4 (b04.newt hR) (hp4.new hR) (by omega) (b04.fr hR nRp) ⟨B, by rw [cut_out (by simpa using nRp)]; exact upd_same, kv', ?_, ?_⟩ wfc
      · rw [cut_out (by simpa using nBp)]; exact gR _ _ hB4
      · exact hR4.same (Same.trans (cut_mono (by simp)) (cut_same gR))
end
end D1
end L2
/-! the law's said_fewer -/
namespace L2
namespace D1
open PySem PySem.Spec PyProof.Rows D2 X3
abbrev sSaid : Stmt := top 43
def spSaid : Sp := fun vs H Q _ => ∃ (p W : Addr) (bk : Bk) (st : Str) (ws : List Str) (t : Int), vs = [.ref p, .ref W] ∧ Purse H p t ∧ WorldAt (cut [p] H) W bk st ∧ WF bk st ws ∧ WsOk ws ∧ t < 2 ^ 25 ∧
  ∀ (H' : Hp) (R : Addr) (bk' : Bk) (t' : Int), But p H H' → Purse H' p t' → t' ≤ t + 200 → H R = none → WorldAt (cut [p] H') R bk' st → WF bk' st ws → Q (.ref R) H'
theorem goal_in {ts : List (Str × Str)} {ss ws : List Str} (h : TOk ts ss ws) {k : Str} (m : k ∈ ts.map (·.1)) : goalT ts k ∈ ss := by
  obtain ⟨t, ht, rfl⟩ := List.mem_map.mp m
  rw [goalT_at h.nd ht]; exact h.gs t ht
theorem TOk.pick {ts : List (Str × Str)} {ss ws xs : List Str} (h : TOk ts ss ws) (nd : xs.Nodup) (m : ∀ x ∈ xs, x ∈ ts.map (·.1)) : TOk (xs.map fun x => (x, goalT ts x)) ss ws := by
  refine ⟨by rw [List.map_map]; exact (by rw [show ((fun x : Str × Str => x.1) ∘ fun x => (x, goalT ts x)) = id from rfl, List.map_id]; exact nd), fun t ht => ?_, fun t ht => ?_⟩
  · obtain ⟨x, hx, rfl⟩ := List.mem_map.mp ht
    obtain ⟨u, hu, e⟩ := List.mem_map.mp (m x hx)
    show x ∈ ws
    rw [← e]; exact h.ks u hu
  · obtain ⟨x, hx, rfl⟩ := List.mem_map.mp ht
    exact goal_in h (m x hx)
section
variable {P : Program} {w : World} {K : PySem.W.Frag} {mg : Str → Option Value} {base : Heap}
abbrev sfN : List Str := ["_law_purse_here", "_law_world_here", "_law_book", "_law_state", "_law_kind", "_law_turns_here", "_law_kept", "_law_word_here"]
theorem scSf : FnScope sfN ["_law_purse_here", "_law_world_here"] (defScope sSaid) := ⟨rfl, rfl, rfl, by decide +kernel, rfl, by decide +kernel, by decide +kernel⟩
theorem ok_said {f : Addr} {fd : FuncData} (F : Fun K "_law_said_fewer" "_law_said_fewer" sSaid f fd) (T : Free3 mg) (CD : CDraw P w K mg base) (CS : CShuf P w K mg base) : FnOk P w K mg base CX0 4 f fd ["_law_purse_here", "_law_world_here"] spSaid := by
  refine F.ok scSf (fun vs H Q E h => ?_) (fun cdv A outer s H vs Q E hr h => ?_)
  · obtain ⟨p, W, bk, st, ws, t, rfl, _⟩ := h; rfl
  · obtain ⟨p, W, bk, st, ws, t, rfl, hp, ⟨b, hWc, kvs, hbc, hRc⟩, wf, wok, t1, k⟩ := h
    have hu := hu_of hr
    refine ⟨_, pss_cons (ps_set (i := 2) scSf.nd rfl (Or.inl rfl) (pe_callTy call_dictD (by rfl) T.dict (by decide +kernel) (pa_cons (pe_ix ix_list (pv 1) pe_int (fun _ _ => rfl)) pa_nil)))
      (pss_cons (ps_lock (ps_for PassesOwn.never rfl (pi_keys (pe_ix ix_list (pv 1) pe_int (fun _ _ => rfl))) (pg_name (i := 3) scSf.nd rfl (Or.inl rfl))
        (pss_cons (ps_asg (pe_dget hu (pe_ix ix_list (pv 1) pe_int (fun _ _ => rfl)) (pv 3) (fun _ _ => rfl)) (pg_tup rfl (pgs_cons (pg_name (i := 4) scSf.nd rfl (Or.inl rfl)) (pgs_cons (pg_name (i := 5) scSf.nd rfl (Or.inr rfl)) pgs_nil))))
        (pss_one (ps_if (PW.pt (pw_and (pt_cmpR op_eq (pv 4) pe_str (nomark _)) (pw_and (pt_cmpR op_gt (pe_callB call_lenD (by rfl) T.len PySem.boot_len (pa_cons (pv 5) pa_nil)) pe_int (nomark _)) (pw_and1 (pt_cmpR op_eq (pe_cal CD (hr.mono (by decide)) rfl (pa_cons (pv 0) (pa_cons pe_int pa_nil))) pe_int (nomark _))))))
          (pss_cons (ps_set (i := 6) scSf.nd rfl (Or.inl rfl) (pe_slice sl_list (pe_cal CS (hr.mono (by decide)) rfl (pa_cons (pv 0) (pa_cons (pe_callTy (call_listD rfl) (by rfl) T.list (by decide +kernel) (pa_cons (pv 5) pa_nil)) pa_nil))) po_none
              (po_some (pe_op op_add pe_int (pe_cal CD (hr.mono (by decide)) rfl (pa_cons (pv 0) (pa_cons (pe_op op_sub (pe_callB call_lenD (by rfl) T.len PySem.boot_len (pa_cons (pv 5) pa_nil)) pe_int) pa_nil)))))))
          (pss_one (ps_dput hu (pv 2) (pv 3) (pe_tup (pa_cons (pv 4) (pa_cons (pe_callTy (call_dictP rfl) (by rfl) T.dict (by decide +kernel) (pa_cons (pe_lc (own := [("_law_word_here", 7)]) (g := gName 7) (tt := tYes) (te := tTup (tCons (tVar 7) (tCons (tDGet (tVar 5) (tVar 7)) tNil))) rfl scSf.nd (pi_list (pv 6))
              (blkOk_by (N := sfN) (sc := defScope sSaid) (by decide +kernel)) (fun _ _ _ _ _ => pg_name (i := 7) scSf.nd rfl (Or.inl rfl)) (fun _ _ _ _ _ => pts_nil) (fun _ _ _ _ _ => pe_tup (pa_cons (pv 7) (pa_cons (pe_dget hu (pv 5) (pv 7) (fun _ _ => rfl)) pa_nil)))) pa_nil)) pa_nil))) rfl)))
          pss_nil)))))
      (pss_one (ps_ret (pe_lst (pa_cons (pv 2) (pa_cons (pe_ix ix_list (pv 1) pe_int (fun _ _ => rfl)) pa_nil)))))), ?_⟩
    have hW := cut_le _ _ hWc
    have hb := cut_le _ _ hbc
    have nWp : W ≠ p := (fun e => by rw [e, cut_in (by simp)] at hWc; cases hWc)
    have nbp : b ≠ p := (fun e => by rw [e, cut_in (by simp)] at hbc; cases hbc)
    have nWb : W ≠ b := fun e => by rw [e, hb] at hW; cases hW
    have bne : bk ≠ [] := fun e => by have := wf.st; rw [e] at this; cases this
    refine ⟨_, rfl, W, _, _, _, rfl, rfl, SqL.of hW, atI_nat (j := 0) rfl, b, kvs, rfl, .inl hb, fun B hB => ?_⟩
    have g1 := Same.new (o := .dK kvs) hB
    have eB1 : (L2.upd H B (.dK kvs)) B = some (.dK kvs) := upd_same
    have hp1 := hp.new (o := .dK kvs) hB
    have nBp := hp.ne hB
    have nBb : B ≠ b := (ne_of_none hb hB).symm
    generalize L2.upd H B (.dK kvs) = H1 at g1 eB1 hp1
    refine ⟨b, _, g1 _ _ hb, trivial, fun od => ?_⟩
    have hWL : (L2.upd H1 b (.frz od (.dK kvs))) W = some (.lst [.ref b, .str st]) := by rw [upd_ne nWb]; exact g1 _ _ hW
    refine ⟨_, rfl, W, _, _, _, rfl, rfl, SqL.of hWL, atI_nat (j := 0) rfl, b, od, rfl, .inl ⟨kvs, upd_same, ?_⟩⟩
    have eqH : ∀ {c : Addr} {u : HO}, H c = some u → c ≠ b → (L2.upd H1 b (.frz od (.dK kvs))) c = some u := fun {c u} e n => by rw [upd_ne n]; exact g1 _ _ e
    have hRL0 : Rows (cut [p, B] (L2.upd H1 b (.frz od (.dK kvs)))) kvs bk := by
      refine (hRc.lock (o := .frz od (.dK kvs)) hbc bne).same fun c u e => ?_
      have nc : c ≠ p := fun z => by rw [z, upd_ne nbp.symm, cut_in (by simp)] at e; cases e
      have nc2 : c ≠ B := fun z => by rw [z, upd_ne nBb, cut_out (by simpa using nBp), hB] at e; cases e
      rw [cut_out (by simp [nc, nc2])]
      by_cases h : c = b
      · rw [h] at e ⊢; rw [upd_same] at e ⊢; exact e
      · rw [upd_ne h] at e ⊢; exact g1 _ _ (cut_le _ _ e)
    have hp1L := hp1.upd (o := .frz od (.dK kvs)) nbp.symm
    have lk0 : kvs.length = bk.length := hRc.len
    have lb := wf.len
    -- the locked heap, B unknown
    have bHL : But p (L2.upd H b (.frz od (.dK kvs))) (L2.upd H1 b (.frz od (.dK kvs))) := fun c u _ e => by
      by_cases h : c = b
      · rw [h] at e ⊢; rw [upd_same] at e ⊢; exact e
      · rw [upd_ne h] at e ⊢; exact g1 _ _ e
    have hBL : (L2.upd H b (.frz od (.dK kvs))) B = none := by rw [upd_ne nBb]; exact hB
    have hbL : (L2.upd H b (.frz od (.dK kvs))) b = some (.frz od (.dK kvs)) := upd_same
    have hWL0 : (L2.upd H b (.frz od (.dK kvs))) W = some (.lst [.ref b, .str st]) := by rw [upd_ne nWb]; exact hW
    have eB1L : (L2.upd H1 b (.frz od (.dK kvs))) B = some (.dK kvs) := by rw [upd_ne nBb]; exact eB1
    refine for_it (walk_keys (d := b) (o := od) (kvs := kvs)) (fun i σ H' => ∃ (v3 v4 v5 v6 : Option V) (cl : Bk) (kv' : List (Key × V)) (t' : Int), σ = [some (.ref p), some (.ref W), some (.ref B), v3, v4, v5, v6, none] ∧ But p (L2.upd H b (.frz od (.dK kvs))) H' ∧ Purse H' p t' ∧ t' ≤ t + 10 * i ∧ H' B = some (.dK kv') ∧ Rows (cut [p, B] H') kvs bk ∧ Rows (cut [p, B] H') kv' cl ∧ WF cl st ws ∧ cl.map (·.1) = bk.map (·.1))
      ⟨none, none, none, none, bk, kvs, t, rfl, bHL, hp1L, by omega, eB1L, hRL0, hRL0, wf, rfl⟩ (fun i σ H' _ ⟨_, _, _, _, _, _, _, _, z, _⟩ => z _ _ nbp hbL) ?_ ?_
    · rintro i x σ H3 H4 hi ⟨v3, v4, v5, v6, cl, kv', t4, rfl, b04, hp4, tt4, hB4, hR4, hS4, wfc, enm⟩ ⟨rfl, kk, v0, hkv, rfl⟩
      obtain ⟨r, hr', rfl, _⟩ := hRc.at hkv
      have hrm : r ∈ bk := List.mem_of_getElem? hr'
      have hs : r.1 ∈ bk.map (·.1) := List.mem_map_of_mem hrm
      have hcs : r.1 ∈ cl.map (·.1) := by rw [enm]; exact hs
      obtain ⟨v, ev, ⟨tu, a, rfl, htu, ha⟩, _⟩ := hR4.look hs
      rw [rowOf_self wf.nd hrm] at htu ha
      have hb4 := b04 _ _ nbp hbL
      have hW4 := b04 _ _ nWp hWL0
      have il : i < bk.length := (List.getElem?_eq_some_iff.mp hr').1
      have lkv : kv'.length ≤ 6 := by rw [hS4.len, ← List.length_map (·.1), enm, List.length_map]; exact lb
      have htu0 := cut_le _ _ htu
      have ha0 : TurnsAt H4 a r.2.2 := cut_le _ _ ha
      have nap : a ≠ p := fun e => by rw [TurnsAt, e, cut_in (by simp)] at ha; cases ha
      have naB : a ≠ B := fun e => by rw [TurnsAt, e, cut_in (by simp)] at ha; cases ha
      refine ⟨_, rfl, W, _, _, _, rfl, rfl, SqL.of hW4, atI_nat (j := 0) rfl, _, rfl, b, _, rfl, .inl ⟨kvs, .inr r.1, .inr ⟨od, hb4⟩, rfl, ev.symm⟩, tu, _, rfl, SqT.of htu0, rfl, _, _, rfl, _, _, rfl, rfl, ?_⟩
      refine ⟨_, rfl, rfl, _, rfl, ite2 (fun c1 => ?_) (fun c1 => iteF ⟨_, _, _, _, cl, kv', t4, rfl, b04, hp4, by omega, hB4, hR4, hS4, wfc, enm⟩)⟩
      have e1 : r.2.1 = "says" := V.str.inj (of_decide_eq_true c1)
      have tok : TOk r.2.2 (bk.map (·.1)) ws := by
        have := (wf.rs r hrm).2
        rcases this with ⟨z, _⟩ | ⟨_, _, z⟩
        · rw [z] at e1; exact absurd e1 (by decide +kernel)
        · exact z
      have lts := tok.len
      have whi := wok.hi
      have kl : (kT r.2.2).length = r.2.2.length := by rw [kT, List.length_map]
      refine ⟨_, rfl, a, _, rfl, ha0, _, _, rfl, rfl, _, rfl, ite2 (fun c2 => ?_) (fun c2 => iteF ⟨_, _, _, _, cl, kv', t4, rfl, b04, hp4, by omega, hB4, hR4, hS4, wfc, enm⟩)⟩
      have l2 : 1 < r.2.2.length := by have := of_decide_eq_true c2; rw [kl] at this; omega
      refine ⟨_, rfl, p, 2, t4, rfl, hp4, by decide, by decide, by omega, fun rr t5 o5 r0 r1 tt5 hp5 => ?_⟩
      have b45 := But.upd p H4 o5
      generalize L2.upd H4 p o5 = H5 at b45 hp5
      have b05 := b04.trans b45
      have hB5 := b45 _ _ nBp hB4
      have hR5 := hR4.same (cut_but b45 (by simp))
      have hS5 := hS4.same (cut_but b45 (by simp))
      refine ⟨rfl, _, rfl, ite2 (fun c3 => ?_) (fun c3 => ⟨_, _, _, _, cl, kv', t5, rfl, b05, hp5, by omega, hB5, hR5, hS5, wfc, enm⟩)⟩
      have ha5 : TurnsAt H5 a r.2.2 := b45 _ _ nap ha0
      have ek : (kT r.2.2).map (fun kv => kV kv.1) = (r.2.2.map (·.1)).map V.str := by rw [kT, List.map_map, List.map_map]; rfl
      refine ⟨_, rfl, _, rfl, a, kT r.2.2, rfl, .inl ha5, fun q hq => ?_⟩
      rw [ek]
      refine ⟨p, q, _, t5, rfl, hp5.new hq, upd_same, hp5.ne hq, by rw [List.length_map, List.length_map]; omega, by omega, fun H6 R6 ys t6 b6 nR6 hy pm hp6 tt6 => ?_⟩
      obtain ⟨zs, rfl, pz⟩ := perm_str pm
      rw [List.length_map, List.length_map] at tt6
      have b56 : But p H5 H6 := (But.new hq).trans b6
      have ha6 : TurnsAt H6 a r.2.2 := b56 _ _ nap ha5
      have nR6p : R6 ≠ p := fun e => by
        obtain ⟨g, bb, z, ep, _⟩ := hp5.new (o := .lst ((r.2.2.map (·.1)).map V.str)) hq
        rw [e, ep] at nR6; cases nR6
      have lz : zs.length = r.2.2.length := by rw [pz.length_eq, List.length_map]
      refine ⟨_, rfl, _, rfl, a, _, rfl, ha6, _, _, rfl, rfl, p, _, t6, rfl, hp6, by rw [kl]; omega, by rw [kl]; omega, by omega, fun r7 t7 o7 y0 y1 tt7 hp7 => ?_⟩
      have b67 := But.upd p H6 o7
      have hz7 : SL (L2.upd H6 p o7) R6 zs := by rw [SL, upd_ne nR6p]; exact hy
      generalize L2.upd H6 p o7 = H7 at b67 hp7 hz7
      refine ⟨_, _, rfl, rfl, _, rfl, R6, _, rfl, SqL.of hz7, fun q7 hq7 => ?_⟩
      rw [cutV_map, cutL_to _ (by omega)]
      have hm : 1 ≤ (1 + r7).toNat := by omega
      generalize (1 + r7).toNat = m at hm
      have lx : 1 ≤ (zs.take m).length ∧ (zs.take m).length ≤ 6 := by rw [List.length_take]; omega
      have xm : ∀ x ∈ zs.take m, x ∈ r.2.2.map (·.1) := fun x hx => pz.mem_iff.mp (List.mem_of_mem_take hx)
      have ndx : (zs.take m).Nodup := List.Nodup.sublist (List.take_sublist _ _) (pz.nodup_iff.mpr tok.nd)
      generalize zs.take m = xs at lx xm ndx
      have g8 := Same.new (o := .lst (xs.map V.str)) hq7
      have hq8 : SL (L2.upd H7 q7 (.lst (xs.map V.str))) q7 xs := upd_same
      have hp8 := hp7.new (o := .lst (xs.map V.str)) hq7
      generalize L2.upd H7 q7 (.lst (xs.map V.str)) = H8 at g8 hq8 hp8
      have b58 : But p H5 H8 := (b56.trans b67).trans (But.of g8)
      have ha8 : TurnsAt H8 a r.2.2 := b58 _ _ nap ha5
      refine ⟨_, rfl, _, rfl, q7, rfl, ⟨_, hq8.sq⟩, fun D hD => ?_⟩
      refine lc_list (K := K) (a := q7) (xs := xs.map V.str) (fun j H' => Same H8 H' ∧ ∃ qs : List Addr, H' D = some (.lst (qs.map V.ref)) ∧ Paired (fun a (kv : Key × V) => (cut [D] H') a = some (.tup [kV kv.1, kv.2])) qs (kT ((xs.take j).map fun x => (x, goalT r.2.2 x)))) ⟨Same.new hD, [], upd_same, .nil⟩ (fun j H' _ z => (hq8.same z.1).sq) ?_ ?_
      · rintro j v H9 hx0 ⟨sm, qs, hD5, hpr⟩
        obtain ⟨x, hxj, rfl⟩ := get_map hx0
        have xmm := xm x (List.mem_of_getElem? hxj)
        refine ⟨rfl, ?_⟩
        dsimp only [tYes]
        rw [if_pos rfl]
        refine ⟨_, rfl, _, rfl, _, rfl, a, _, rfl, .inl ⟨kT r.2.2, .inr x, .inl (ha8.same sm), rfl, (valV_goal xmm).symm⟩, by show 2 ≤ sizeLine; decide, fun T1 hT1 => ?_⟩
        have g := Same.new (o := .tup [.str x, .str (goalT r.2.2 x)]) hT1
        have nT : T1 ≠ D := fun e => by rw [e, hD5] at hT1; cases hT1
        have lqs : qs.length ≤ 60 := by rw [paired_len hpr, kT, List.length_map, List.length_map, List.length_take]; omega
        refine ⟨_, g _ _ hD5, by rw [List.length_map, sizeLine_eq]; omega, fun c u e => ?_, qs ++ [T1], by rw [upd_same, List.map_append]; rfl, ?_⟩
        · rw [upd_ne (ne_of_none e hD)]; exact g _ _ (sm _ _ e)
        · rw [cut_upd (by simp), take_succ_get hxj, List.map_append, kT_app]
          exact pair_app (paired_imp (fun p kv e => cut_same g _ _ e) hpr) (by rw [cut_out (by simpa using nT)]; exact upd_same)
      rintro H9 ⟨s89, qs, hD9, hpr⟩
      rw [List.length_map, List.take_length] at hpr
      refine ⟨D, qs, kT (xs.map fun x => (x, goalT r.2.2 x)), rfl, SqL.of hD9, paired_imp (fun p kv e => SqT.of (cut_le _ _ e)) hpr, fun T hT => ?_⟩
      have tok' : TOk (xs.map fun x => (x, goalT r.2.2 x)) (bk.map (·.1)) ws := tok.pick ndx xm
      have zne : (xs.map fun x => (x, goalT r.2.2 x)) ≠ [] := fun e => by have := congrArg List.length e; rw [List.length_map] at this; rw [this] at lx; exact absurd lx.1 (by decide)
      generalize (xs.map fun x => (x, goalT r.2.2 x)) = zt at tok' zne hT
      rw [merge_id2 (by rw [kT_keys2]; exact inr_nd' tok'.nd)]
      have g10 := Same.new (o := .dK (kT zt)) hT
      have hT10 : TurnsAt (L2.upd H9 T (.dK (kT zt))) T zt := upd_same
      have hp9 := hp8.same s89
      have hp10 := hp9.new (o := .dK (kT zt)) hT
      have nTp := hp9.ne hT
      have b59 : But p H5 H9 := b58.trans (But.of s89)
      have nTB : T ≠ B := fun e => by rw [e, b59 _ _ nBp hB5] at hT; cases hT
      generalize L2.upd H9 T (.dK (kT zt)) = H10 at g10 hT10 hp10
      refine ⟨by show 2 ≤ sizeLine; decide, fun T1 hT1 => ?_⟩
      have b510 := b59.trans (But.of g10)
      have nT1p := hp10.ne hT1
      have nT1B : T1 ≠ B := fun e => by rw [e, b510 _ _ nBp hB5] at hT1; cases hT1
      have g11 := Same.new (o := .tup [.str r.2.1, .ref T]) hT1
      have e11 : (L2.upd H10 T1 (.tup [.str r.2.1, .ref T])) T1 = some (.tup [.str r.2.1, .ref T]) := upd_same
      have hp11 := hp10.new (o := .tup [.str r.2.1, .ref T]) hT1
      generalize L2.upd H10 T1 (.tup [.str r.2.1, .ref T]) = H11 at g11 e11 hp11
      have b511 := b510.trans (But.of g11)
      refine ⟨_, rfl, _, rfl, B, _, rfl, DPut.k (kvs := kv') (k := Sum.inr r.1) (b511 _ _ nBp hB5) (by rw [sizeLine_eq]; omega), ?_⟩
      refine ⟨_, _, _, _, setR cl r.1 r.2.1 zt, _, t7, rfl, But.ofL hBL (b05.trans b511), hp11.upd nBp.symm, by omega, upd_same, ?_, ?_, wfc.set hcs (.inl e1) zne (by rw [enm]; exact tok'), by rw [setR_names, enm]⟩
      · rw [cut_upd (by simp)]
        exact hR5.same (cut_but b511 (by simp))
      · rw [cut_upd (by simp)]
        refine (hS5.same (cut_but b511 (by simp))).set hcs ⟨T1, T, rfl, ?_, ?_⟩
        · rw [cut_out (by simp [nT1p, nT1B])]; exact e11
        · rw [TurnsAt, cut_out (by simp [nTp, nTB])]; exact g11 _ _ hT10
    · rintro σ H4 ⟨v3, v4, v5, v6, cl, kv', t4, rfl, b04, hp4, tt4, hB4, hR4, hS4, wfc, enm⟩
      rw [lk0] at tt4
      have hb4 := b04 _ _ nbp hbL
      have bu := But.unlock hb b04
      have hSu : Rows (cut [p, B] (L2.upd H4 b (.dK kvs))) kv' cl := by
        have hbc4 : (cut [p, B] H4) b = some (.frz od (.dK kvs)) := by rw [cut_out (by simp [nbp, nBb.symm])]; exact hb4
        refine (rows_unl (o := .dK kvs) hbc4 hS4).same fun c u e => ?_
        by_cases h : c = b
        · rw [h, cut_out (by simp [nbp, nBb.symm]), upd_same]; rw [h, upd_same] at e; exact e
        · rw [upd_ne h] at e
          obtain ⟨n1, e⟩ := cut_some e
          rw [cut_out n1, upd_ne h]; exact e
      refine ⟨hb4, ?_⟩
      have hBu : (L2.upd H4 b (.dK kvs)) B = some (.dK kv') := by rw [upd_ne nBb]; exact hB4
      have hpu := hp4.upd (o := .dK kvs) nbp.symm
      generalize L2.upd H4 b (.dK kvs) = H5 at bu hSu hBu hpu
      refine ⟨_, rfl, _, rfl, W, _, _, _, rfl, rfl, SqL.of (bu _ _ nWp hW), atI_nat (j := 1) rfl, by show 2 ≤ sizeLine; decide, fun R hR => ?_⟩
      have nRp := hpu.ne hR
      have gR := Same.new (o := .lst [.ref B, .str st]) hR
      refine k _ R cl t4 (bu.newt hR) (hpu.new hR) (by omega) (bu.fr hR nRp) ⟨B, by rw [cut_out (by simpa using nRp)]; exact upd_same, kv', ?_, ?_⟩ wfc
      · rw [cut_out (by simpa using nBp)]; exact gR _ _ hBu
      · exact hSu.same (Same.trans (cut_mono (by simp)) (cut_same gR))
end
end D1
end L2
/-! shape -/
namespace L2
namespace D1
open PySem PySem.Spec PyProof.Rows
theorem merge_nd : ∀ (more kvs : List (Key × V)), (∀ p ∈ more, p.1 ∉ kvs.map (·.1)) → (more.map (·.1)).Nodup → mergeK kvs more = kvs ++ more
  | [], kvs, _, _ => (List.append_nil _).symm
  | p :: r, kvs, h, nd => by
    have nd' := List.nodup_cons.mp nd
    show mergeK (putK kvs p.1 p.2) r = _
    rw [putK_new (h p List.mem_cons_self), merge_nd r _ ?_ nd'.2, List.append_assoc]
    · rfl
    · intro q hq z
      rw [List.map_append] at z
      rcases List.mem_append.mp z with z | z
      · exact h q (List.mem_cons_of_mem _ hq) z
      · have : q.1 = p.1 := List.mem_singleton.mp z
        exact nd'.1 (by show p.1 ∈ _; rw [← this]; exact List.mem_map_of_mem hq)
theorem merge_id {kvs : List (Key × V)} (nd : (kvs.map (·.1)).Nodup) : mergeK [] kvs = kvs := by
  rw [merge_nd kvs [] (by simp) nd]; rfl
theorem inr_nd {l : List Str} (h : l.Nodup) : (l.map (Sum.inr : Str → Key)).Nodup := by
  induction l with
  | nil => exact List.nodup_nil
  | cons a r ih =>
    have h' := List.nodup_cons.mp h
    refine List.nodup_cons.mpr ⟨fun z => ?_, ih h'.2⟩
    obtain ⟨b, hb, e⟩ := List.mem_map.mp z
    exact h'.1 (by rw [← Sum.inr.inj e]; exact hb)
theorem kT_nd {ts : List (Str × Str)} (h : (ts.map (·.1)).Nodup) : ((kT ts).map (·.1)).Nodup := by
  have : (kT ts).map (·.1) = (ts.map (·.1)).map Sum.inr := by rw [kT, List.map_map, List.map_map]; rfl
  rw [this]; exact inr_nd h
/-- a new row, its words and goals in slots -/
def tRow (k : Str) (l : List (Nat × Nat)) : TE := fun σ H Q => ∃ ts : List (Str × Str), Paired (fun ij t => σ[ij.1]? = some (some (.str t.1)) ∧ σ[ij.2]? = some (some (.str t.2))) l ts ∧ (ts.map (·.1)).Nodup ∧
  ∀ (H' : Hp) (T E : Addr), Same H H' → H T = none → H E = none → H' T = some (.tup [.str k, .ref E]) → TurnsAt H' E ts → Q (.ref T) H'
theorem row2 {X : Cx} {k : Str} {i j m n : Nat} {e1 e2 e3 e4 : Expr} {pos pos' : Pos} {x1 j0 : Nat} {ps : Pos} (h1 : PE X e1 (tVar i)) (h2 : PE X e2 (tVar j)) (h3 : PE X e3 (tVar m)) (h4 : PE X e4 (tVar n)) :
    PE X (.Tuple [.Constant (.str k) j0 ps, .Dict [some e1, some e3] [e2, e4] pos] x1 pos') (tRow k [(i, j), (m, n)]) := by
  refine pe_imp (pe_tup (pa_cons pe_str (pa_cons (pe_disp (pps_cons h1 h2 (pps_cons h3 h4 pps_nil)) (by rfl) (by rfl) (fun z => by cases z) (by show 2 ≤ 15; decide)) pa_nil))) ?_
  rintro σ H Q ⟨ts, pr, nd, kk⟩
  cases pr with
  | @cons _ t1 _ _ a pr =>
    cases pr with
    | @cons _ t2 _ _ b pr =>
      cases pr
      refine fun E hE => ⟨_, a.1, _, a.2, _, b.1, _, b.2, upd_same, kT [t1, t2], rfl, by show 2 ≤ 15; decide, by show 2 ≤ sizeLine; decide, fun T hT => ?_⟩
      rw [merge_id (kT_nd nd)] at hT ⊢
      have hT2 := upd_none' hT
      have nET : E ≠ T := fun e => by rw [← e, upd_same] at hT; cases hT
      refine kk _ T E (fun c u ec => ?_) (upd_none' hT2) hE upd_same (by rw [TurnsAt, upd_ne nET, upd_same])
      rw [upd_ne (ne_of_none ec (upd_none' hT2)), upd_ne (ne_of_none ec hE), upd_ne (ne_of_none ec hE)]; exact ec
theorem row1 {X : Cx} {k : Str} {i j : Nat} {e1 e2 : Expr} {pos pos' : Pos} {x1 j0 : Nat} {ps : Pos} (h1 : PE X e1 (tVar i)) (h2 : PE X e2 (tVar j)) :
    PE X (.Tuple [.Constant (.str k) j0 ps, .Dict [some e1] [e2] pos] x1 pos') (tRow k [(i, j)]) := by
  refine pe_imp (pe_tup (pa_cons pe_str (pa_cons (pe_disp (pps_cons h1 h2 pps_nil) (by rfl) (by rfl) (fun z => by cases z) (by show 1 ≤ 15; decide)) pa_nil))) ?_
  rintro σ H Q ⟨ts, pr, nd, kk⟩
  cases pr with
  | @cons _ t1 _ _ a pr =>
    cases pr
    refine fun E hE => ⟨_, a.1, _, a.2, upd_same, kT [t1], rfl, by show 1 ≤ 15; decide, by show 2 ≤ sizeLine; decide, fun T hT => ?_⟩
    rw [merge_id (kT_nd nd)] at hT ⊢
    have hT2 := upd_none' hT
    have nET : E ≠ T := fun e => by rw [← e, upd_same] at hT; cases hT
    refine kk _ T E (fun c u ec => ?_) (upd_none' hT2) hE upd_same (by rw [TurnsAt, upd_ne nET, upd_same])
    rw [upd_ne (ne_of_none ec (upd_none' hT2)), upd_ne (ne_of_none ec hE), upd_ne (ne_of_none ec hE)]; exact ec
theorem row0 {X : Cx} {k : Str} {pos pos' : Pos} {x1 j0 : Nat} {ps : Pos} :
    PE X (.Tuple [.Constant (.str k) j0 ps, .Dict [] [] pos] x1 pos') (tRow k []) := by
  refine pe_imp (pe_tup (pa_cons pe_str (pa_cons pe_dnewK pa_nil))) ?_
  rintro σ H Q ⟨ts, pr, nd, kk⟩
  cases pr
  refine fun E hE => ⟨by show 2 ≤ sizeLine; decide, fun T hT => ?_⟩
  have nET : E ≠ T := fun e => by rw [← e, upd_same] at hT; cases hT
  refine kk _ T E (fun c u ec => ?_) (upd_none' hT) hE upd_same (by rw [TurnsAt, upd_ne nET, upd_same]; rfl)
  rw [upd_ne (ne_of_none ec (upd_none' hT)), upd_ne (ne_of_none ec hE)]; exact ec
/-- a row that stands new -/
theorem RowAt.mk' {S : List Addr} {H H' : Hp} {T E : Addr} {k : Str} {ts : List (Str × Str)} (hS : ∀ b ∈ S, ∃ u, H b = some u) (nT : H T = none) (nE : H E = none) (h1 : H' T = some (.tup [.str k, .ref E])) (h2 : TurnsAt H' E ts) : RowAt (cut S H') (.ref T) k ts := by
  refine ⟨T, E, rfl, ?_, ?_⟩
  · rw [cut_out fun z => by obtain ⟨u, hu⟩ := hS T z; rw [hu] at nT; cases nT]; exact h1
  · rw [TurnsAt, cut_out fun z => by obtain ⟨u, hu⟩ := hS E z; rw [hu] at nE; cases nE]; exact h2
abbrev sShape : Stmt := top 38
def spShape : Sp := fun vs H Q _ => ∃ (p W : Addr) (ws : List Str) (t : Int), vs = [.ref p, .ref W] ∧ Purse H p t ∧ SL H W ws ∧ W ≠ p ∧ WsOk ws ∧ 4 ≤ ws.length ∧ t < 2 ^ 26 ∧
  ∀ (H' : Hp) (R : Addr) (bk : Bk) (st : Str) (t' : Int), But p H H' → H R = none → WorldAt (cut [p] H') R bk st → WF bk st ws → Purse H' p t' → t' ≤ t + 700 → Q (.ref R) H'
/-- the end of a display of a book -/
theorem book_end {p B R : Addr} {H3 : Hp} {kvs : List (Key × V)} {bk : Bk} {st : Str} (hp : p ≠ B) (hRw : Rows (cut [p, B] H3) kvs bk) (nd : (bk.map (·.1)).Nodup) (hR : (L2.upd H3 B (.dK (mergeK [] kvs))) R = none) (nRp : R ≠ p) :
    WorldAt (cut [p] (L2.upd (L2.upd H3 B (.dK (mergeK [] kvs))) R (.lst [.ref B, .str st]))) R bk st := by
  have nd2 : (kvs.map (·.1)).Nodup := by
    have z := inr_nd nd
    rw [List.map_map] at z
    rw [hRw.keys]; exact z
  have nBR : B ≠ R := fun e => by rw [← e, upd_same] at hR; cases hR
  refine ⟨B, by rw [cut_out (by simpa using nRp)]; exact upd_same, kvs, ?_, ?_⟩
  · rw [cut_out (by simpa using hp.symm), upd_ne nBR, upd_same, merge_id nd2]
  · refine hRw.same fun c u e => ?_
    obtain ⟨nc, e⟩ := cut_some e
    simp only [List.mem_cons, List.not_mem_nil, or_false, not_or] at nc
    have ncR : c ≠ R := fun z => by rw [z] at e nc; rw [upd_ne nc.2] at hR; rw [hR] at e; cases e
    rw [cut_out (by simpa using nc.1), upd_ne ncR, upd_ne nc.2]; exact e
theorem tok2 {a b c d : Str} {ss ws : List Str} (n : a ≠ b) (ha : a ∈ ws) (hb : b ∈ ws) (hc : c ∈ ss) (hd : d ∈ ss) : TOk [(a, c), (b, d)] ss ws :=
  ⟨by simpa using n, by simp [ha, hb], by simp [hc, hd]⟩
theorem tok1 {a c : Str} {ss ws : List Str} (ha : a ∈ ws) (hc : c ∈ ss) : TOk [(a, c)] ss ws := ⟨by simp, by simp [ha], by simp [hc]⟩
end D1
end L2
/-! shape, its body -/
namespace L2
namespace D1
open PySem PySem.Spec PyProof.Rows
section
variable {P : Program} {w : World} {K : PySem.W.Frag} {mg : Str → Option Value} {base : Heap}
theorem scSa : FnScope ["_law_purse_here", "_law_words_here", "_law_way", "_law_states", "_law_begin", "_law_second", "_law_third", "_law_last", "_law_go", "_law_out", "_law_on", "_law_end", "_law_row"] ["_law_purse_here", "_law_words_here"] (defScope sShape) := ⟨rfl, rfl, rfl, by decide +kernel, rfl, by decide +kernel, by decide +kernel⟩
theorem ok_shape {f : Addr} {fd : FuncData} (F : Fun K "_law_shape" "_law_shape" sShape f fd) (T : Free2 mg) (CD : CDraw P w K mg base) (CW : CWords P w K mg base) :
    FnOk P w K mg base CX0 5 f fd ["_law_purse_here", "_law_words_here"] spShape := by
  refine F.ok scSa (fun vs H Q E h => ?_) (fun cdv A outer s H vs Q E hr h => ?_)
  · obtain ⟨p, W, ws, t, rfl, _⟩ := h; rfl
  · obtain ⟨p, W, ws, t, rfl, hp, hW, nW, wok, l4, t1, k⟩ := h
    have hu := hu_of hr
    refine ⟨_, pss_cons (ps_par (i := 2) (j := 3) rfl scSa.nd rfl rfl (by decide) rfl rfl (pa_cons (pe_cal CD (hr.mono (by decide)) rfl (pa_cons (pv 0) (pa_cons pe_int pa_nil))) (pa_cons (pe_cal CW (hr.mono (by decide)) rfl (pa_cons (pv 0) (pa_cons pe_int pa_nil))) pa_nil)) (by rfl))
      (pss_cons (ps_asg (pv 3) (pg_lst rfl (pgs_cons (pg_name (i := 4) scSa.nd rfl (Or.inl rfl)) (pgs_cons (pg_name (i := 5) scSa.nd rfl (Or.inl rfl)) (pgs_cons (pg_name (i := 6) scSa.nd rfl (Or.inl rfl)) (pgs_cons (pg_name (i := 7) scSa.nd rfl (Or.inl rfl)) pgs_nil))))))
      (pss_cons (ps_asg (pe_slice sl_list (pv 1) po_none (po_some pe_int)) (pg_lst rfl (pgs_cons (pg_name (i := 8) scSa.nd rfl (Or.inl rfl)) (pgs_cons (pg_name (i := 9) scSa.nd rfl (Or.inl rfl)) (pgs_cons (pg_name (i := 10) scSa.nd rfl (Or.inl rfl)) (pgs_cons (pg_name (i := 11) scSa.nd rfl (Or.inl rfl)) pgs_nil))))))
      (pss_cons (ps_if (pt_cmpR op_eq (pv 2) pe_int (nomark _)) (pss_one (ps_ret (pe_lst (pa_cons (pe_disp (pps_cons (pv 4) (row2 (pv 8) (pv 4) (pv 9) (pv 5)) (pps_cons (pv 5) row0 pps_nil)) (by rfl) (by rfl) (fun z => by cases z) (by show 2 ≤ 15; decide)) (pa_cons (pv 4) pa_nil))))) pss_nil)
      (pss_cons (ps_if (pt_cmpR op_eq (pv 2) pe_int (nomark _)) (pss_one (ps_ret (pe_lst (pa_cons (pe_disp (pps_cons (pv 4) (row2 (pv 8) (pv 5) (pv 9) (pv 6)) (pps_cons (pv 5) (row2 (pv 10) (pv 4) (pv 11) (pv 6)) (pps_cons (pv 6) row0 pps_nil))) (by rfl) (by rfl) (fun z => by cases z) (by show 3 ≤ 15; decide)) (pa_cons (pv 4) pa_nil))))) pss_nil)
      (pss_cons (ps_set (i := 12) scSa.nd rfl (Or.inl rfl) (pe_disp (pps_cons (pv 4) (row2 (pv 8) (pv 5) (pv 9) (pv 6)) (pps_cons (pv 5) (row2 (pv 10) (pv 4) (pv 11) (pv 7)) (pps_cons (pv 7) row0 pps_nil))) (by rfl) (by rfl) (fun z => by cases z) (by show 3 ≤ 15; decide)))
      (pss_cons (ps_dput hu (pv 12) (pv 6) (pe_ifExp (pt_cmpR op_eq (pv 2) pe_int (nomark _)) (row2 (pv 10) (pv 4) (pv 11) (pv 7)) (row1 (pv 10) (pv 6))) rfl)
      (pss_one (ps_ret (pe_lst (pa_cons (pv 12) (pa_cons (pv 4) pa_nil))))))))))), ?_⟩
    refine ⟨_, rfl, p, 4, t, rfl, hp, by decide, by decide, by omega, fun way t2 o r0 r1 tt2 hp2 => ?_⟩
    have b2 := But.upd p H o
    have hW2 : SL (L2.upd H p o) W ws := by rw [SL, upd_ne nW]; exact hW
    generalize L2.upd H p o = H2 at b2 hW2 hp2
    refine ⟨_, rfl, p, 4, t2, rfl, hp2, by decide, by decide, by omega, fun H3 S ss t3 b3 hS hSS ls nd aw hp3 tt3 => ⟨_, _, rfl, ?_⟩⟩
    have b03 := b2.trans b3
    have hW3 : SL H3 W ws := b3 _ _ nW hW2
    have ls4 : ss.length = 4 := ls
    obtain ⟨b', s', d', l', rfl⟩ : ∃ a b c d, ss = [a, b, c, d] := by
      match ss, ls4 with
      | [a, b, c, d], _ => exact ⟨a, b, c, d, rfl⟩
    refine ⟨_, rfl, S, _, rfl, hSS.sq, rfl, _, _, rfl, _, _, rfl, _, _, rfl, _, _, rfl, rfl, ?_⟩
    refine ⟨_, rfl, _, rfl, W, _, rfl, hW3.sq, fun q hq => ?_⟩
    rw [cutV_map, cutL_to _ (by decide)]
    obtain ⟨g', o', n', e', ew⟩ : ∃ a b c d, ws.take (4 : Int).toNat = [a, b, c, d] := by
      match ws, l4 with
      | a :: b :: c :: d :: r, _ => exact ⟨a, b, c, d, rfl⟩
    rw [ew]
    have wnd : ([g', o', n', e'] : List Str).Nodup := ew ▸ List.Nodup.sublist (List.take_sublist _ _) wok.nd
    have wm : ∀ x ∈ ([g', o', n', e'] : List Str), x ∈ ws := fun x hx => List.mem_of_mem_take (by rw [ew]; exact hx)
    refine ⟨q, _, rfl, SqL.of upd_same, rfl, _, _, rfl, _, _, rfl, _, _, rfl, _, _, rfl, rfl, ?_⟩
    have hp4 : Purse (L2.upd H3 q (.lst ([g', o', n', e'].map V.str))) p t3 := hp3.new hq
    have b04 : But p H (L2.upd H3 q (.lst ([g', o', n', e'].map V.str))) := b03.newt hq
    generalize L2.upd H3 q (.lst ([g', o', n', e'].map V.str)) = H4 at hp4 b04
    simp only [List.nodup_cons, List.mem_cons, List.not_mem_nil, or_false, not_or, not_false_eq_true, List.nodup_nil, and_true] at nd wnd
    obtain ⟨⟨nbs, nbd, nbl⟩, ⟨nsd, nsl⟩, ndl⟩ := nd
    obtain ⟨⟨ngo, ngn, nge⟩, ⟨non, noe⟩, nne⟩ := wnd
    have nld : ¬ l' = d' := fun e => ndl e.symm
    have gm := wm g' (by simp)
    have om := wm o' (by simp)
    have nm := wm n' (by simp)
    have em := wm e' (by simp)
    have wb := aw b' (by simp)
    have wsc := aw s' (by simp)
    have wd' := aw d' (by simp)
    have wl := aw l' (by simp)
    change Ends.nx _ [some (.ref p), some (.ref W), some (.int way), some (.ref S), some (.str b'), some (.str s'), some (.str d'), some (.str l'), some (.str g'), some (.str o'), some (.str n'), some (.str e'), none] _
    clear wm aw ls ls4 hSS hW3 hp3 hq b03 b3 hp2 b2 hW2
    refine ⟨_, rfl, rfl, _, rfl, ?_⟩
    refine ite2 (fun _ => ?_) (fun _ => ?_)
    · skip
      refine fun B hB => ?_
      have nBp := hp4.ne hB
      have hB0 : H B = none := b04.fr hB nBp
      have k0 : ∀ c ∈ [p, B], ∃ u, (L2.upd H4 B (.dK [])) c = some u := fun c hc => by
        rcases List.mem_cons.mp hc with rfl | hc
        · exact (hp4.new hB).some
        · obtain rfl := List.mem_singleton.mp hc; exact ⟨_, upd_same⟩
      have s0 : Same (L2.upd H4 B (.dK [])) (L2.upd H4 B (.dK [])) := Same.refl _
      refine ⟨_, rfl, [(g', b'), (o', s')], (.cons ⟨rfl, rfl⟩ (.cons ⟨rfl, rfl⟩ .nil)), by simpa using ngo, fun G1 T1 E1 s1 nT1 nE1 h1 e1 => ?_⟩
      have R1 := RowAt.mk' k0 nT1 nE1 h1 e1
      have k1 : ∀ c ∈ [p, B], ∃ u, G1 c = some u := fun c hc => by obtain ⟨u, hu⟩ := k0 c hc; exact ⟨u, s1 _ _ hu⟩
      refine ⟨_, rfl, [], .nil, by simp, fun G2 T2 E2 s2 nT2 nE2 h2 e2 => ?_⟩
      have R2 := RowAt.mk' k1 nT2 nE2 h2 e2
      have k2 : ∀ c ∈ [p, B], ∃ u, G2 c = some u := fun c hc => by obtain ⟨u, hu⟩ := k1 c hc; exact ⟨u, s2 _ _ hu⟩
      have hRw : Rows (cut [p, B] G2) [(.inr b', .ref T1), (.inr s', .ref T2)] [(b', "says", [(g', b'), (o', s')]), (s', "done", [])] := (.cons ⟨rfl, (R1).same (cut_same s2)⟩ (.cons ⟨rfl, R2⟩ .nil))
      have sT : Same (L2.upd H4 B (.dK [])) G2 := (Same.trans s1 s2)
      have hG := (hp4.new (o := .dK []) hB).same sT
      have bG : But p H G2 := (b04.newt hB).trans (But.of sT)
      refine ⟨sT _ _ upd_same, [(.inr b', .ref T1), (.inr s', .ref T2)], rfl, by show 2 ≤ 15; decide, ?_⟩
      refine ⟨_, rfl, by show 2 ≤ sizeLine; decide, fun R hR => ?_⟩
      have hG2 : Purse (L2.upd G2 B (.dK (mergeK [] [(.inr b', .ref T1), (.inr s', .ref T2)]))) p t3 := hG.upd nBp.symm
      have bG2 : But p H (L2.upd G2 B (.dK (mergeK [] [(.inr b', .ref T1), (.inr s', .ref T2)]))) := But.ofL hB0 bG
      refine k _ R [(b', "says", [(g', b'), (o', s')]), (s', "done", [])] b' t3 (bG2.newt hR) (bG2.fr hR (hG2.ne hR)) (book_end nBp.symm hRw (by simp [nbs, nbd, nbl, nsd, nsl, ndl, nld]) hR (hG2.ne hR)) ?_ (hG2.new hR) (by omega)
      refine ⟨by simp [nbs, nbd, nbl, nsd, nsl, ndl, nld], fun r hr => ?_, by simp, by simp⟩
      simp only [List.mem_cons, List.not_mem_nil, or_false] at hr
      rcases hr with rfl | rfl
      · exact ⟨wb, .inr ⟨.inl rfl, by simp, tok2 ngo gm om (by simp) (by simp)⟩⟩
      · exact ⟨wsc, .inl ⟨rfl, rfl⟩⟩
    · refine ⟨_, rfl, rfl, _, rfl, ?_⟩
      refine ite2 (fun _ => ?_) (fun _ => ?_)
      · skip
        refine fun B hB => ?_
        have nBp := hp4.ne hB
        have hB0 : H B = none := b04.fr hB nBp
        have k0 : ∀ c ∈ [p, B], ∃ u, (L2.upd H4 B (.dK [])) c = some u := fun c hc => by
          rcases List.mem_cons.mp hc with rfl | hc
          · exact (hp4.new hB).some
          · obtain rfl := List.mem_singleton.mp hc; exact ⟨_, upd_same⟩
        have s0 : Same (L2.upd H4 B (.dK [])) (L2.upd H4 B (.dK [])) := Same.refl _
        refine ⟨_, rfl, [(g', s'), (o', d')], (.cons ⟨rfl, rfl⟩ (.cons ⟨rfl, rfl⟩ .nil)), by simpa using ngo, fun G1 T1 E1 s1 nT1 nE1 h1 e1 => ?_⟩
        have R1 := RowAt.mk' k0 nT1 nE1 h1 e1
        have k1 : ∀ c ∈ [p, B], ∃ u, G1 c = some u := fun c hc => by obtain ⟨u, hu⟩ := k0 c hc; exact ⟨u, s1 _ _ hu⟩
        refine ⟨_, rfl, [(n', b'), (e', d')], (.cons ⟨rfl, rfl⟩ (.cons ⟨rfl, rfl⟩ .nil)), by simpa using nne, fun G2 T2 E2 s2 nT2 nE2 h2 e2 => ?_⟩
        have R2 := RowAt.mk' k1 nT2 nE2 h2 e2
        have k2 : ∀ c ∈ [p, B], ∃ u, G2 c = some u := fun c hc => by obtain ⟨u, hu⟩ := k1 c hc; exact ⟨u, s2 _ _ hu⟩
        refine ⟨_, rfl, [], .nil, by simp, fun G3 T3 E3 s3 nT3 nE3 h3 e3 => ?_⟩
        have R3 := RowAt.mk' k2 nT3 nE3 h3 e3
        have k3 : ∀ c ∈ [p, B], ∃ u, G3 c = some u := fun c hc => by obtain ⟨u, hu⟩ := k2 c hc; exact ⟨u, s3 _ _ hu⟩
        have hRw : Rows (cut [p, B] G3) [(.inr b', .ref T1), (.inr s', .ref T2), (.inr d', .ref T3)] [(b', "says", [(g', s'), (o', d')]), (s', "says", [(n', b'), (e', d')]), (d', "done", [])] := (.cons ⟨rfl, ((R1).same (cut_same s2)).same (cut_same s3)⟩ (.cons ⟨rfl, (R2).same (cut_same s3)⟩ (.cons ⟨rfl, R3⟩ .nil)))
        have sT : Same (L2.upd H4 B (.dK [])) G3 := (Same.trans (Same.trans s1 s2) s3)
        have hG := (hp4.new (o := .dK []) hB).same sT
        have bG : But p H G3 := (b04.newt hB).trans (But.of sT)
        refine ⟨sT _ _ upd_same, [(.inr b', .ref T1), (.inr s', .ref T2), (.inr d', .ref T3)], rfl, by show 3 ≤ 15; decide, ?_⟩
        refine ⟨_, rfl, by show 2 ≤ sizeLine; decide, fun R hR => ?_⟩
        have hG2 : Purse (L2.upd G3 B (.dK (mergeK [] [(.inr b', .ref T1), (.inr s', .ref T2), (.inr d', .ref T3)]))) p t3 := hG.upd nBp.symm
        have bG2 : But p H (L2.upd G3 B (.dK (mergeK [] [(.inr b', .ref T1), (.inr s', .ref T2), (.inr d', .ref T3)]))) := But.ofL hB0 bG
        refine k _ R [(b', "says", [(g', s'), (o', d')]), (s', "says", [(n', b'), (e', d')]), (d', "done", [])] b' t3 (bG2.newt hR) (bG2.fr hR (hG2.ne hR)) (book_end nBp.symm hRw (by simp [nbs, nbd, nbl, nsd, nsl, ndl, nld]) hR (hG2.ne hR)) ?_ (hG2.new hR) (by omega)
        refine ⟨by simp [nbs, nbd, nbl, nsd, nsl, ndl, nld], fun r hr => ?_, by simp, by simp⟩
        simp only [List.mem_cons, List.not_mem_nil, or_false] at hr
        rcases hr with rfl | rfl | rfl
        · exact ⟨wb, .inr ⟨.inl rfl, by simp, tok2 ngo gm om (by simp) (by simp)⟩⟩
        · exact ⟨wsc, .inr ⟨.inl rfl, by simp, tok2 nne nm em (by simp) (by simp)⟩⟩
        · exact ⟨wd', .inl ⟨rfl, rfl⟩⟩
      · skip
        refine fun B hB => ?_
        have nBp := hp4.ne hB
        have hB0 : H B = none := b04.fr hB nBp
        have k0 : ∀ c ∈ [p, B], ∃ u, (L2.upd H4 B (.dK [])) c = some u := fun c hc => by
          rcases List.mem_cons.mp hc with rfl | hc
          · exact (hp4.new hB).some
          · obtain rfl := List.mem_singleton.mp hc; exact ⟨_, upd_same⟩
        have s0 : Same (L2.upd H4 B (.dK [])) (L2.upd H4 B (.dK [])) := Same.refl _
        refine ⟨_, rfl, [(g', s'), (o', d')], (.cons ⟨rfl, rfl⟩ (.cons ⟨rfl, rfl⟩ .nil)), by simpa using ngo, fun G1 T1 E1 s1 nT1 nE1 h1 e1 => ?_⟩
        have R1 := RowAt.mk' k0 nT1 nE1 h1 e1
        have k1 : ∀ c ∈ [p, B], ∃ u, G1 c = some u := fun c hc => by obtain ⟨u, hu⟩ := k0 c hc; exact ⟨u, s1 _ _ hu⟩
        refine ⟨_, rfl, [(n', b'), (e', l')], (.cons ⟨rfl, rfl⟩ (.cons ⟨rfl, rfl⟩ .nil)), by simpa using nne, fun G2 T2 E2 s2 nT2 nE2 h2 e2 => ?_⟩
        have R2 := RowAt.mk' k1 nT2 nE2 h2 e2
        have k2 : ∀ c ∈ [p, B], ∃ u, G2 c = some u := fun c hc => by obtain ⟨u, hu⟩ := k1 c hc; exact ⟨u, s2 _ _ hu⟩
        refine ⟨_, rfl, [], .nil, by simp, fun G3 T3 E3 s3 nT3 nE3 h3 e3 => ?_⟩
        have R3 := RowAt.mk' k2 nT3 nE3 h3 e3
        have k3 : ∀ c ∈ [p, B], ∃ u, G3 c = some u := fun c hc => by obtain ⟨u, hu⟩ := k2 c hc; exact ⟨u, s3 _ _ hu⟩
        have hRw : Rows (cut [p, B] G3) [(.inr b', .ref T1), (.inr s', .ref T2), (.inr l', .ref T3)] [(b', "hears", [(g', s'), (o', d')]), (s', "says", [(n', b'), (e', l')]), (l', "done", [])] := (.cons ⟨rfl, ((R1).same (cut_same s2)).same (cut_same s3)⟩ (.cons ⟨rfl, (R2).same (cut_same s3)⟩ (.cons ⟨rfl, R3⟩ .nil)))
        have sT : Same (L2.upd H4 B (.dK [])) G3 := (Same.trans (Same.trans s1 s2) s3)
        have hG := (hp4.new (o := .dK []) hB).same sT
        have bG : But p H G3 := (b04.newt hB).trans (But.of sT)
        refine ⟨sT _ _ upd_same, [(.inr b', .ref T1), (.inr s', .ref T2), (.inr l', .ref T3)], rfl, by show 3 ≤ 15; decide, ?_⟩
        have mid : mergeK [] [(.inr b', .ref T1), (.inr s', .ref T2), (.inr l', .ref T3)] = [(.inr b', .ref T1), (.inr s', .ref T2), (.inr l', .ref T3)] := merge_id (inr_nd (l := [b', s', l']) (by simp [nbs, nbl, nsl]))
        have hG2 : Purse (L2.upd G3 B (.dK (mergeK [] [(.inr b', .ref T1), (.inr s', .ref T2), (.inr l', .ref T3)]))) p t3 := hG.upd nBp.symm
        have bG2 : But p H (L2.upd G3 B (.dK (mergeK [] [(.inr b', .ref T1), (.inr s', .ref T2), (.inr l', .ref T3)]))) := But.ofL hB0 bG
        have hRw5 : Rows (cut [p, B] (L2.upd G3 B (.dK (mergeK [] [(.inr b', .ref T1), (.inr s', .ref T2), (.inr l', .ref T3)])))) [(.inr b', .ref T1), (.inr s', .ref T2), (.inr l', .ref T3)] [(b', "hears", [(g', s'), (o', d')]), (s', "says", [(n', b'), (e', l')]), (l', "done", [])] := by rw [cut_upd (by simp)]; exact hRw
        have k4 : ∀ c ∈ [p, B], ∃ u, (L2.upd G3 B (.dK (mergeK [] [(.inr b', .ref T1), (.inr s', .ref T2), (.inr l', .ref T3)]))) c = some u := fun c hc => by
          rcases List.mem_cons.mp hc with rfl | hc
          · exact hG2.some
          · obtain rfl := List.mem_singleton.mp hc; exact ⟨_, upd_same⟩
        refine ⟨_, rfl, rfl, _, rfl, ?_⟩
        refine ite2 (fun _ => ?_) (fun _ => ?_)
        ·   refine ⟨[(n', b'), (e', l')], (.cons ⟨rfl, rfl⟩ (.cons ⟨rfl, rfl⟩ .nil)), by simpa using nne, fun G4 T4 E4 s4 nT4 nE4 h4 e4 => ?_⟩
            have R4 := RowAt.mk' k4 nT4 nE4 h4 e4
            have hB4 : G4 B = some (.dK [(.inr b', .ref T1), (.inr s', .ref T2), (.inr l', .ref T3)]) := s4 _ _ (by rw [upd_same, mid])
            have hRw4 : Rows (cut [p, B] G4) [(.inr b', .ref T1), (.inr s', .ref T2), (.inr l', .ref T3)] [(b', "hears", [(g', s'), (o', d')]), (s', "says", [(n', b'), (e', l')]), (l', "done", [])] := (hRw5.same (cut_same s4))
            refine ⟨_, rfl, _, rfl, B, _, rfl, DPut.k (k := Sum.inr d') hB4 (by rw [sizeLine_eq]; show 3 < _; decide), ?_⟩
            have hRw6 := hRw4.app (s := d') R4
            have ep : putK ([(.inr b', .ref T1), (.inr s', .ref T2), (.inr l', .ref T3)] : List (Key × V)) (.inr d') (.ref T4) = ([(.inr b', .ref T1), (.inr s', .ref T2), (.inr l', .ref T3)] : List (Key × V)) ++ ([(.inr d', .ref T4)] : List (Key × V)) := putK_new (hRw4.fresh (by simp [Ne.symm nbd, Ne.symm nsd, ndl]))
            rw [ep]
            have hG4 := hG2.same s4
            have bG4 := bG2.trans (But.of s4)
            refine ⟨_, rfl, _, rfl, by show 2 ≤ sizeLine; decide, fun R hR => ?_⟩
            have hG5 : Purse (L2.upd G4 B (.dK (([(.inr b', .ref T1), (.inr s', .ref T2), (.inr l', .ref T3)] : List (Key × V)) ++ ([(.inr d', .ref T4)] : List (Key × V))))) p t3 := hG4.upd nBp.symm
            have bG5 : But p H (L2.upd G4 B (.dK (([(.inr b', .ref T1), (.inr s', .ref T2), (.inr l', .ref T3)] : List (Key × V)) ++ ([(.inr d', .ref T4)] : List (Key × V))))) := But.ofL hB0 bG4
            have nRp := hG5.ne hR
            have nBR : B ≠ R := fun e => by rw [← e, upd_same] at hR; cases hR
            refine k _ R [(b', "hears", [(g', s'), (o', d')]), (s', "says", [(n', b'), (e', l')]), (l', "done", []), (d', "says", [(n', b'), (e', l')])] b' t3 (bG5.newt hR) (bG5.fr hR nRp) ⟨B, by rw [cut_out (by simpa using nRp)]; exact upd_same, _, by rw [cut_out (by simpa using nBp), upd_ne nBR, upd_same], hRw6.same fun c u e => ?_⟩ ?_ (hG5.new hR) (by omega)
            · obtain ⟨nc, e⟩ := cut_some e
              simp only [List.mem_cons, List.not_mem_nil, or_false, not_or] at nc
              have ncR : c ≠ R := fun z => by rw [z] at e nc; rw [upd_ne nc.2] at hR; rw [hR] at e; cases e
              rw [cut_out (by simpa using nc.1), upd_ne ncR, upd_ne nc.2]; exact e
            · refine ⟨by simp [nbs, nbd, nbl, nsd, nsl, ndl, nld], fun r hr => ?_, by simp, by simp⟩
              simp only [List.mem_cons, List.not_mem_nil, or_false] at hr
              rcases hr with rfl | rfl | rfl | rfl
              · exact ⟨wb, .inr ⟨.inr rfl, by simp, tok2 ngo gm om (by simp) (by simp)⟩⟩
              · exact ⟨wsc, .inr ⟨.inl rfl, by simp, tok2 nne nm em (by simp) (by simp)⟩⟩
              · exact ⟨wl, .inl ⟨rfl, rfl⟩⟩
              · exact ⟨wd', .inr ⟨.inl rfl, by simp, tok2 nne nm em (by simp) (by simp)⟩⟩
        ·   refine ⟨[(n', d')], (.cons ⟨rfl, rfl⟩ .nil), by simp, fun G4 T4 E4 s4 nT4 nE4 h4 e4 => ?_⟩
            have R4 := RowAt.mk' k4 nT4 nE4 h4 e4
            have hB4 : G4 B = some (.dK [(.inr b', .ref T1), (.inr s', .ref T2), (.inr l', .ref T3)]) := s4 _ _ (by rw [upd_same, mid])
            have hRw4 : Rows (cut [p, B] G4) [(.inr b', .ref T1), (.inr s', .ref T2), (.inr l', .ref T3)] [(b', "hears", [(g', s'), (o', d')]), (s', "says", [(n', b'), (e', l')]), (l', "done", [])] := (hRw5.same (cut_same s4))
            refine ⟨_, rfl, _, rfl, B, _, rfl, DPut.k (k := Sum.inr d') hB4 (by rw [sizeLine_eq]; show 3 < _; decide), ?_⟩
            have hRw6 := hRw4.app (s := d') R4
            have ep : putK ([(.inr b', .ref T1), (.inr s', .ref T2), (.inr l', .ref T3)] : List (Key × V)) (.inr d') (.ref T4) = ([(.inr b', .ref T1), (.inr s', .ref T2), (.inr l', .ref T3)] : List (Key × V)) ++ ([(.inr d', .ref T4)] : List (Key × V)) := putK_new (hRw4.fresh (by simp [Ne.symm nbd, Ne.symm nsd, ndl]))
            rw [ep]
            have hG4 := hG2.same s4
            have bG4 := bG2.trans (But.of s4)
            refine ⟨_, rfl, _, rfl, by show 2 ≤ sizeLine; decide, fun R hR => ?_⟩
            have hG5 : Purse (L2.upd G4 B (.dK (([(.inr b', .ref T1), (.inr s', .ref T2), (.inr l', .ref T3)] : List (Key × V)) ++ ([(.inr d', .ref T4)] : List (Key × V))))) p t3 := hG4.upd nBp.symm
            have bG5 : But p H (L2.upd G4 B (.dK (([(.inr b', .ref T1), (.inr s', .ref T2), (.inr l', .ref T3)] : List (Key × V)) ++ ([(.inr d', .ref T4)] : List (Key × V))))) := But.ofL hB0 bG4
            have nRp := hG5.ne hR
            have nBR : B ≠ R := fun e => by rw [← e, upd_same] at hR; cases hR
            refine k _ R [(b', "hears", [(g', s'), (o', d')]), (s', "says", [(n', b'), (e', l')]), (l', "done", []), (d', "says", [(n', d')])] b' t3 (bG5.newt hR) (bG5.fr hR nRp) ⟨B, by rw [cut_out (by simpa using nRp)]; exact upd_same, _, by rw [cut_out (by simpa using nBp), upd_ne nBR, upd_same], hRw6.same fun c u e => ?_⟩ ?_ (hG5.new hR) (by omega)
            · obtain ⟨nc, e⟩ := cut_some e
              simp only [List.mem_cons, List.not_mem_nil, or_false, not_or] at nc
              have ncR : c ≠ R := fun z => by rw [z] at e nc; rw [upd_ne nc.2] at hR; rw [hR] at e; cases e
              rw [cut_out (by simpa using nc.1), upd_ne ncR, upd_ne nc.2]; exact e
            · refine ⟨by simp [nbs, nbd, nbl, nsd, nsl, ndl, nld], fun r hr => ?_, by simp, by simp⟩
              simp only [List.mem_cons, List.not_mem_nil, or_false] at hr
              rcases hr with rfl | rfl | rfl | rfl
              · exact ⟨wb, .inr ⟨.inr rfl, by simp, tok2 ngo gm om (by simp) (by simp)⟩⟩
              · exact ⟨wsc, .inr ⟨.inl rfl, by simp, tok2 nne nm em (by simp) (by simp)⟩⟩
              · exact ⟨wl, .inl ⟨rfl, rfl⟩⟩
              · exact ⟨wd', .inr ⟨.inl rfl, by simp, tok1 nm (by simp)⟩⟩
end
end D1
end L2
/-! long -/
namespace L2
namespace D1
open PySem PySem.Spec PyProof.Rows
def spLong : Sp := fun vs H Q _ => ∃ (p W : Addr) (ws : List Str) (most t : Int), vs = [.ref p, .ref W, .int most] ∧ Purse H p t ∧ SL H W ws ∧ W ≠ p ∧ WsOk ws ∧ 3 ≤ most ∧ most ≤ 6 ∧ t < 2 ^ 26 ∧
  ∀ (H' : Hp) (R : Addr) (bk : Bk) (st : Str) (t' : Int), But p H H' → H R = none → WorldAt (cut [p] H') R bk st → WF bk st ws → Purse H' p t' → t' ≤ t + 700 → Q (.ref R) H'
theorem atI_last {xs : List V} {v : V} (h : xs[xs.length - 1]? = some v) : atI xs (-1) = some v := by
  have hl : 0 < xs.length := by
    rcases Nat.eq_zero_or_pos xs.length with e | e
    · rw [List.length_eq_zero_iff.mp e] at h; cases h
    · exact e
  unfold atI ixN
  rw [if_neg (by decide), if_pos (by omega)]
  show xs[(-1 + (xs.length : Int)).toNat]? = _
  rw [show (-1 + (xs.length : Int)).toNat = xs.length - 1 by omega]
  exact h
theorem updd {H : Hp} {a : Addr} {o o' : HO} : L2.upd (L2.upd H a o) a o' = L2.upd H a o' := by
  funext b
  by_cases h : b = a
  · rw [h, upd_same, upd_same]
  · rw [upd_ne h, upd_ne h, upd_ne h]
section
variable {P : Program} {w : World} {K : PySem.W.Frag} {mg : Str → Option Value} {base : Heap}
end
end D1
end L2
/-! the law's grown_right -/
namespace L2
namespace D1
open PySem PySem.Spec PyProof.Rows D2 X3
abbrev sGrown : Stmt := top 52
def spGrown : Sp := fun vs H Q _ => ∃ (W : Addr) (bk : Bk) (st : Str) (ws : List Str), vs = [.ref W] ∧ WorldAt H W bk st ∧ DOk bk st ∧ WsIn bk ws ∧ ∀ H', Same H H' → Q (.bl true) H'
/-- a book with a row put -/
def putB (bk : Bk) (s k : Str) (ts : List (Str × Str)) : Bk := if s ∈ bk.map (·.1) then setR bk s k ts else bk ++ [(s, k, ts)]
theorem putB_names (bk : Bk) (s k : Str) (ts : List (Str × Str)) : (putB bk s k ts).map (·.1) = if s ∈ bk.map (·.1) then bk.map (·.1) else bk.map (·.1) ++ [s] := by
  unfold putB
  split
  · exact setR_names _ _ _ _
  · rw [List.map_append]; rfl
theorem putB_has (bk : Bk) (s k : Str) (ts : List (Str × Str)) (x : Str) : x ∈ (putB bk s k ts).map (·.1) ↔ x ∈ bk.map (·.1) ∨ x = s := by
  rw [putB_names]
  by_cases h : s ∈ bk.map (·.1)
  · rw [if_pos h]; exact ⟨.inl, fun z => z.elim id fun e => e ▸ h⟩
  · rw [if_neg h, List.mem_append, List.mem_singleton]
theorem putB_mem {bk : Bk} {s k : Str} {ts : List (Str × Str)} {r : RowD} (h : r ∈ putB bk s k ts) : r ∈ bk ∨ r = (s, k, ts) := by
  unfold putB at h
  split at h
  · rcases setR_mem h with z | ⟨z, _⟩
    · exact .inl z
    · exact .inr z
  · rcases List.mem_append.mp h with z | z
    · exact .inl z
    · exact .inr (List.mem_singleton.mp z)
theorem Rows.put {H : Hp} {kvs : List (Key × V)} {bk : Bk} {s k : Str} {ts : List (Str × Str)} {v : V} (h : Rows H kvs bk) (r : RowAt H v k ts) : Rows H (putK kvs (.inr s) v) (putB bk s k ts) := by
  unfold putB
  by_cases hs : s ∈ bk.map (·.1)
  · rw [if_pos hs]; exact h.set hs r
  · rw [if_neg hs, D1.putK_new (h.fresh hs)]; exact h.app r
/-- a book that grows: its rows are cut from those of another -/
structure Gro (bk gb : Bk) : Prop where
  nd : (gb.map (·.1)).Nodup
  sub : ∀ s ∈ gb.map (·.1), s ∈ bk.map (·.1)
  rs : ∀ r ∈ gb, RForm r.2.1 r.2.2 ∧ (r.2.2.map (·.1)).Nodup ∧ r.2.2.length ≤ 60 ∧ (∀ t ∈ r.2.2, t.2 ∈ gb.map (·.1)) ∧ ∀ x ∈ r.2.2.map (·.1), ∃ r0 ∈ bk, x ∈ r0.2.2.map (·.1)
theorem Gro.nil {bk : Bk} : Gro bk [] := ⟨List.nodup_nil, (fun _ h => by cases h), (fun _ h => by cases h)⟩
theorem Gro.put {bk gb : Bk} {s k : Str} {ts : List (Str × Str)} (g : Gro bk gb) (hs : s ∈ bk.map (·.1)) (f : RForm k ts) (nd : (ts.map (·.1)).Nodup) (l : ts.length ≤ 60) (go : ∀ t ∈ ts, t.2 ∈ gb.map (·.1) ∨ t.2 = s) (wd : ∀ x ∈ ts.map (·.1), ∃ r0 ∈ bk, x ∈ r0.2.2.map (·.1)) : Gro bk (putB gb s k ts) := by
  refine ⟨?_, fun x hx => ?_, fun r hr => ?_⟩
  · rw [putB_names]
    by_cases h : s ∈ gb.map (·.1)
    · rw [if_pos h]; exact g.nd
    · rw [if_neg h]; exact nodup_app g.nd h
  · rcases (putB_has _ _ _ _ _).mp hx with z | rfl
    · exact g.sub x z
    · exact hs
  · rcases putB_mem hr with z | rfl
    · obtain ⟨a, b, c, d, e⟩ := g.rs r z
      exact ⟨a, b, c, fun t ht => (putB_has _ _ _ _ _).mpr (.inl (d t ht)), e⟩
    · exact ⟨f, nd, l, fun t ht => (putB_has _ _ _ _ _).mpr (go t ht), wd⟩
theorem Gro.dok {bk gb : Bk} {st s : Str} (g : Gro bk gb) (ok : DOk bk st) (hs : s ∈ gb.map (·.1)) : DOk gb s := by
  have wdn : ∀ r ∈ gb, Wd r.1 := fun r hr => by
    obtain ⟨q, hq, e⟩ := List.mem_map.mp (g.sub _ (List.mem_map_of_mem hr))
    rw [← e]; exact (ok.rs q hq).1
  refine ⟨⟨(fun e => by rw [e] at hs; cases hs), g.nd, ?_, fun r hr => ⟨wdn r hr, (g.rs r hr).1, (g.rs r hr).2.2.2.1⟩, fun r hr => (g.rs r hr).2.2.1⟩, fun r hr => (g.rs r hr).2.1, hs⟩
  have := pigeon _ _ g.nd g.sub
  rw [List.length_map, List.length_map] at this
  have := ok.len; omega
theorem Gro.ws {bk gb : Bk} {ws : List Str} (g : Gro bk gb) (wi : WsIn bk ws) : WsIn gb ws := by
  refine ⟨wi.1, fun r hr x hx => ?_⟩
  obtain ⟨r0, h0, hx0⟩ := (g.rs r hr).2.2.2.2 x hx
  exact wi.2 r0 h0 x hx0
section
variable {P : Program} {w : World} {K : PySem.W.Frag} {mg : Str → Option Value} {base : Heap} {C : Addr}
abbrev grN : List Str := ["_law_world_here", "_law_book", "_law_last", "_law_state", "_law_kind", "_law_turns_here", "_law_goals", "_law_word_here"]
theorem scGw : FnScope grN ["_law_world_here"] (defScope sGrown) := ⟨rfl, rfl, rfl, by decide +kernel, rfl, by decide +kernel, by decide +kernel⟩
theorem ok_grown {f : Addr} {fd : FuncData} (F : Fun K "_law_grown_right" "_law_grown_right" sGrown f fd) (T : Free3 mg) (D : DTxt K mg C) (MI : CMInit P w K mg base C) (CD : CDeskR P w K mg base C) : FnOk P w K mg base CX0 9 f fd ["_law_world_here"] spGrown := by
  obtain ⟨fI, fdI, mI, FI, bI⟩ := MI
  refine F.ok scGw (fun vs H Q E h => ?_) (fun cdv A outer s H vs Q E hr h => ?_)
  · obtain ⟨W, bk, st, ws, rfl, _⟩ := h; rfl
  · obtain ⟨W, bk, st, ws, rfl, ⟨b, hW, kvs, hb, hR⟩, ok, wi, k⟩ := h
    have hu := hu_of hr
    have lcS : ∀ {X : Cx} {a : Expr} {e : Expr}, True := trivial
    refine ⟨_, pss_cons (ps_asg (pe_tup (pa_cons pe_dnewK (pa_cons (pe_ix ix_list (pe_lock (pe_lc (own := [("_law_state", 3)]) (g := gName 3) (tt := tYes) (te := tVar 3) rfl scGw.nd (pi_keys (pe_ix ix_list (pv 0) pe_int (fun _ _ => rfl)))
          (blkOk_by (N := grN) (sc := defScope sGrown) (by decide +kernel)) (fun _ _ _ _ _ => pg_name (i := 3) scGw.nd rfl (Or.inl rfl)) (fun _ _ _ _ _ => pts_nil) (fun _ _ _ _ _ => pv 3))) (pe_un un_neg pe_int) (fun _ _ => rfl)) pa_nil)))
        (pg_tup rfl (pgs_cons (pg_name (i := 1) scGw.nd rfl (Or.inr rfl)) (pgs_cons (pg_name (i := 2) scGw.nd rfl (Or.inl rfl)) pgs_nil))))
      (pss_cons (ps_for PassesOwn.never rfl (pi_list (pe_op op_cat (pe_lst (pa_cons (pv 2) pa_nil)) (pe_lock (pe_lc (own := [("_law_state", 3)]) (g := gName 3) (tt := tYes) (te := tVar 3) rfl scGw.nd (pi_keys (pe_ix ix_list (pv 0) pe_int (fun _ _ => rfl)))
          (blkOk_by (N := grN) (sc := defScope sGrown) (by decide +kernel)) (fun _ _ _ _ _ => pg_name (i := 3) scGw.nd rfl (Or.inl rfl)) (fun _ _ _ _ _ => pts_nil) (fun _ _ _ _ _ => pv 3))))) (pg_name (i := 3) scGw.nd rfl (Or.inr rfl))
        (pss_cons (ps_asg (pe_dget hu (pe_ix ix_list (pv 0) pe_int (fun _ _ => rfl)) (pv 3) (fun _ _ => rfl)) (pg_tup rfl (pgs_cons (pg_name (i := 4) scGw.nd rfl (Or.inl rfl)) (pgs_cons (pg_name (i := 5) scGw.nd rfl (Or.inr rfl)) pgs_nil))))
        (pss_cons (ps_set (i := 6) scGw.nd rfl (Or.inl rfl) (pe_callTy (call_dictP rfl) (by rfl) T.dict (by decide +kernel) (pa_cons (pe_lock (pe_lc (own := [("_law_word_here", 7)]) (g := gName 7) (tt := tOr (tTest (tDIn (tDGet (tVar 5) (tVar 7)) (tVar 1))) (tTest (tOp rEq (tDGet (tVar 5) (tVar 7)) (tVar 3)))) (te := tTup (tCons (tVar 7) (tCons (tDGet (tVar 5) (tVar 7)) tNil))) rfl scGw.nd (pi_keys (pv 5))
            (blkOk_by (N := grN) (sc := defScope sGrown) (by decide +kernel)) (fun _ _ _ _ _ => pg_name (i := 7) scGw.nd rfl (Or.inl rfl))
            (fun _ _ _ _ _ => pts_one (PW.pt (pw_or (pt_cmp (pc_din hu (pe_dget hu (pv 5) (pv 7) (fun _ _ => rfl)) (pv 1)) rfl) (pw_or1 (pt_cmpR op_eq (pe_dget hu (pv 5) (pv 7) (fun _ _ => rfl)) (pv 3) (nomark _))))))
            (fun _ _ _ _ _ => pe_tup (pa_cons (pv 7) (pa_cons (pe_dget hu (pv 5) (pv 7) (fun _ _ => rfl)) pa_nil))))) pa_nil)))
        (pss_cons (ps_dput hu (pv 1) (pv 3) (pe_ifExp (pt_cmpR (op_neNil hr.units0) (pv 6) pe_dnewK (by rfl)) (pe_tup (pa_cons (pv 4) (pa_cons (pv 6) pa_nil))) row0) rfl)
        (pss_one (ps_if (pt_not (pt_val (pe_cal CD (hr.mono (by decide)) rfl (pa_cons (pe_make mI FI (hr.mono (by decide)) rfl D.mgC bI .nil pass0 (pa_cons (pv 1) (pa_cons (pv 3) pa_nil))) (pa_cons (pe_lst (pa_cons (pe_callTy (call_dictP rfl) (by rfl) T.dict (by decide +kernel) (pa_cons (LiI.pe_listItems rfl (pv 1) (by rfl) T.list (by decide +kernel)) pa_nil)) (pa_cons (pv 3) pa_nil))) pa_nil))))) (pss_one (ps_ret pe_bl)) pss_nil))))))
      (pss_one (ps_ret pe_bl))), ?_⟩
    have lk0 : kvs.length = bk.length := hR.len
    have lb := ok.len
    have nWb : W ≠ b := fun e => by rw [e, hb] at hW; cases hW
    intro B hB
    have g1 := Same.new (o := .dK []) hB
    have eB1 : (L2.upd H B (.dK [])) B = some (.dK []) := upd_same
    have nBb : B ≠ b := (ne_of_none hb hB).symm
    generalize L2.upd H B (.dK []) = H1 at g1 eB1
    refine ⟨b, _, g1 _ _ hb, trivial, fun od => ?_⟩
    have hWL : (L2.upd H1 b (.frz od (.dK kvs))) W = some (.lst [.ref b, .str st]) := by rw [upd_ne nWb]; exact g1 _ _ hW
    refine ⟨_, rfl, W, _, _, _, rfl, rfl, SqL.of hWL, atI_nat (j := 0) rfl, b, od, rfl, .inl ⟨kvs, upd_same, fun M hM => ?_⟩⟩
    have nMb : M ≠ b := fun e => by rw [e, upd_same] at hM; cases hM
    refine lc_it (walk_keys (d := b) (o := od) (kvs := kvs)) (fun i H' => Same (L2.upd H1 b (.frz od (.dK kvs))) H' ∧ SL H' M ((bk.take i).map (·.1))) ⟨Same.new hM, upd_same⟩ (fun i H' _ z => z.1 _ _ upd_same) ?_ ?_
    · rintro i x H2 H3 hi ⟨sm, hM2⟩ ⟨rfl, kk, v0, hkv, rfl⟩
      obtain ⟨r, hr', rfl, _⟩ := hR.at hkv
      refine ⟨rfl, ?_⟩
      dsimp only [tYes]
      rw [if_pos rfl]
      refine ⟨_, rfl, _, hM2, by rw [List.length_map, List.length_map, List.length_take, sizeLine_eq]; omega, fun c u e => ?_, by rw [take_succ_get hr', List.map_append, SL, upd_same, List.map_append]; rfl⟩
      rw [upd_ne (ne_of_none e hM)]; exact sm _ _ e
    rintro H2 ⟨sm, hM2⟩
    rw [lk0, List.take_length] at hM2
    have su := Same.unlock (g1 _ _ hb) sm
    refine ⟨sm _ _ upd_same, ?_⟩
    have hM3 : SL (L2.upd H2 b (.dK kvs)) M (bk.map (·.1)) := by rw [SL, upd_ne nMb]; exact hM2
    generalize L2.upd H2 b (.dK kvs) = H3 at su hM3
    have s03 := Same.trans g1 su
    obtain ⟨lst, hlst⟩ : ∃ z, (bk.map (·.1))[bk.length - 1]? = some z := ⟨_, List.getElem?_eq_getElem (by rw [List.length_map]; have := List.length_pos_iff.mpr ok.ne; omega)⟩
    have lstm : lst ∈ bk.map (·.1) := List.mem_of_getElem? hlst
    refine ⟨_, rfl, M, _, _, _, rfl, rfl, SqL.of hM3, atI_last (xs := (bk.map (·.1)).map V.str) (v := V.str lst) (by rw [List.length_map, List.length_map, List.getElem?_map, hlst]; rfl), by show 2 ≤ sizeLine; decide, fun T1 hT1 => ⟨T1, _, rfl, SqT.of upd_same, rfl, _, _, rfl, _, _, rfl, rfl, ?_⟩⟩
    have g4 := Same.new (o := .tup [.ref B, .str lst]) hT1
    have eB3 : H3 B = some (.dK []) := su _ _ eB1
    generalize L2.upd H3 T1 (.tup [.ref B, .str lst]) = H4 at g4
    refine ⟨_, rfl, by show 1 ≤ sizeLine; decide, fun L1 hL1 => ?_⟩
    have g5 := Same.new (o := .lst [.str lst]) hL1
    have eL5 : (L2.upd H4 L1 (.lst [.str lst])) L1 = some (.lst [.str lst]) := upd_same
    generalize L2.upd H4 L1 (.lst [.str lst]) = H5 at g5 eL5
    have s05 := Same.trans (Same.trans s03 g4) g5
    have eB5 : H5 B = some (.dK []) := g5 _ _ (g4 _ _ eB3)
    have nL1b : L1 ≠ b := fun e => by rw [e, s05 _ _ hb] at eL5; cases eL5
    refine ⟨b, _, s05 _ _ hb, trivial, fun od2 => ?_⟩
    have hWL2 : (L2.upd H5 b (.frz od2 (.dK kvs))) W = some (.lst [.ref b, .str st]) := by rw [upd_ne nWb]; exact s05 _ _ hW
    refine ⟨_, rfl, W, _, _, _, rfl, rfl, SqL.of hWL2, atI_nat (j := 0) rfl, b, od2, rfl, .inl ⟨kvs, upd_same, fun M2 hM2 => ?_⟩⟩
    have nM2b : M2 ≠ b := fun e => by rw [e, upd_same] at hM2; cases hM2
    refine lc_it (walk_keys (d := b) (o := od2) (kvs := kvs)) (fun i H' => Same (L2.upd H5 b (.frz od2 (.dK kvs))) H' ∧ SL H' M2 ((bk.take i).map (·.1))) ⟨Same.new hM2, upd_same⟩ (fun i H' _ z => z.1 _ _ upd_same) ?_ ?_
    · rintro i x H6 H7 hi ⟨sm, hM6⟩ ⟨rfl, kk, v0, hkv, rfl⟩
      obtain ⟨r, hr', rfl, _⟩ := hR.at hkv
      refine ⟨rfl, ?_⟩
      dsimp only [tYes]
      rw [if_pos rfl]
      refine ⟨_, rfl, _, hM6, by rw [List.length_map, List.length_map, List.length_take, sizeLine_eq]; omega, fun c u e => ?_, by rw [take_succ_get hr', List.map_append, SL, upd_same, List.map_append]; rfl⟩
      rw [upd_ne (ne_of_none e hM2)]; exact sm _ _ e
    rintro H6 ⟨sm2, hM6⟩
    rw [lk0, List.take_length] at hM6
    have su2 := Same.unlock (s05 _ _ hb) sm2
    refine ⟨sm2 _ _ upd_same, ?_⟩
    have hM7 : SL (L2.upd H6 b (.dK kvs)) M2 (bk.map (·.1)) := by rw [SL, upd_ne nM2b]; exact hM6
    generalize L2.upd H6 b (.dK kvs) = H7 at su2 hM7
    have s07 := Same.trans s05 su2
    refine ⟨L1, M2, _, _, rfl, rfl, su2 _ _ eL5, hM7, by rw [List.length_map, List.length_map, sizeLine_eq]; show 1 + _ ≤ _; omega, fun L hL => ⟨L, rfl, ⟨_, SqL.of upd_same⟩, ?_⟩⟩
    have g8 := Same.new (o := .lst ([.str lst] ++ (bk.map (·.1)).map V.str)) hL
    have eL8 : SL (L2.upd H7 L (.lst ([.str lst] ++ (bk.map (·.1)).map V.str))) L (lst :: bk.map (·.1)) := upd_same
    have eB8 := g8 _ _ (su2 _ _ eB5)
    generalize L2.upd H7 L (.lst ([.str lst] ++ (bk.map (·.1)).map V.str)) = H8 at g8 eL8 eB8
    have s08 := Same.trans s07 g8
    have nLB : L ≠ B := fun e => by rw [SL, e, eB8] at eL8; cases eL8
    clear hWL hWL2 hM3 hM7 eL5 sm sm2 hM2 hM6
    refine for_list (K := K) (a := L) (xs := (lst :: bk.map (·.1)).map V.str) (fun i σ H' => ∃ (v3 v4 v5 v6 : Option V) (gb : Bk) (kv' : List (Key × V)), σ = [some (.ref W), some (.ref B), some (.str lst), v3, v4, v5, v6, none] ∧ Same H H' ∧ SL H' L (lst :: bk.map (·.1)) ∧ H' B = some (.dK kv') ∧ Rows (cut [B] H') kv' gb ∧ Gro bk gb)
      ⟨none, none, none, none, [], [], rfl, s08, eL8, eB8, .nil, Gro.nil⟩ (fun i σ H' _ ⟨_, _, _, _, _, _, _, _, z, _⟩ => z.sq) ?_ ?_
    · rintro i x σ H4 hx ⟨v3, v4, v5, v6, gb, kv', rfl, s04, hL4, hB4, hR4, gro⟩
      obtain ⟨z, hzi, rfl⟩ := get_map hx
      have zm : z ∈ bk.map (·.1) := (List.mem_cons.mp (List.mem_of_getElem? hzi)).elim (fun e => e ▸ lstm) id
      obtain ⟨v, ev, ⟨tu, a, rfl, htu, ha⟩, hmm⟩ := (hR.same s04).look zm
      have rowF := (ok.rs _ hmm).2.1
      have rowN := ok.tk _ hmm
      have rowL := ok.len2 _ hmm
      have rowF : RForm (rowOf bk z).1 (rowOf bk z).2 := rowF
      have rowN : ((rowOf bk z).2.map (·.1)).Nodup := rowN
      have rowL : (rowOf bk z).2.length ≤ 60 := rowL
      have naB : a ≠ B := fun e => by
        obtain ⟨v9, ev9, ⟨tu9, a9, rfl, htu9, ha9⟩, _⟩ := hR.look zm
        rw [ev] at ev9
        cases ev9
        have z1 := s04 _ _ htu9
        rw [htu] at z1
        have z2 := HO.tup.inj (Option.some.inj z1)
        injection z2 with _ z3
        injection z3 with z4
        injection z4 with z5
        rw [TurnsAt, ← z5, e, hB] at ha9
        cases ha9
      refine ⟨_, rfl, W, _, _, _, rfl, rfl, SqL.of (s04 _ _ hW), atI_nat (j := 0) rfl, _, rfl, b, _, rfl, .inl ⟨kvs, .inr z, .inl (s04 _ _ hb), rfl, ev.symm⟩, tu, _, rfl, SqT.of htu, rfl, _, _, rfl, _, _, rfl, rfl, ?_⟩
      refine ⟨a, _, ha, trivial, fun od3 => ?_⟩
      refine ⟨_, rfl, a, od3, rfl, .inl ⟨kT (rowOf bk z).2, upd_same, fun Dl hDl => ?_⟩⟩
      have nDa : Dl ≠ a := fun e => by rw [e, upd_same] at hDl; cases hDl
      have hB4L : (L2.upd H4 a (.frz od3 (.dK (kT (rowOf bk z).2)))) B = some (.dK kv') := by rw [upd_ne naB.symm]; exact hB4
      let fG : Str × Str → Bool := fun t => (valV kv' (.inr t.2)).isSome || decide (t.2 = z)
      refine lc_it (walk_keys (d := a) (o := od3) (kvs := kT (rowOf bk z).2)) (fun j H' => Same (L2.upd H4 a (.frz od3 (.dK (kT (rowOf bk z).2)))) H' ∧ ∃ qs : List Addr, H' Dl = some (.lst (qs.map V.ref)) ∧ Paired (fun a (kv : Key × V) => (cut [Dl] H') a = some (.tup [kV kv.1, kv.2])) qs (kT (((rowOf bk z).2.take j).filter fG))) ⟨Same.new hDl, [], upd_same, .nil⟩ (fun j H' _ z => z.1 _ _ upd_same) ?_ ?_
      · rintro j x H5 H6 hj ⟨sm, qs, hD5, hpr⟩ ⟨rfl, kk, v0, hkv9, rfl⟩
        rw [kT, List.getElem?_map] at hkv9
        obtain ⟨t1, ht1, e9⟩ := Option.map_eq_some_iff.mp hkv9
        cases e9
        have tm : t1 ∈ (rowOf bk z).2 := List.mem_of_getElem? ht1
        have hv1 : valV (kT (rowOf bk z).2) (.inr t1.1) = some (.str t1.2) := by rw [valV_goal (List.mem_map_of_mem tm), goalT_at rowN tm]
        have dg : DGet H6 a (V.str t1.1) (some (.str t1.2)) := .inl ⟨kT (rowOf bk z).2, .inr t1.1, .inr ⟨od3, sm _ _ upd_same⟩, rfl, hv1.symm⟩
        refine ⟨rfl, _, rfl, _, rfl, a, _, rfl, dg, _, rfl, B, _, rfl, .inl ⟨kv', .inr t1.2, .inl (sm _ _ hB4L), rfl, rfl⟩, _, rfl, ite2 (fun c1 => iteT ?_) (fun c1 => ⟨_, rfl, _, rfl, a, _, rfl, dg, _, rfl, rfl, _, rfl, ite2 (fun c2 => ?_) (fun c2 => ?_)⟩)⟩
        · have hf : fG t1 = true := by
            show ((valV kv' (.inr t1.2)).isSome || decide (t1.2 = z)) = true
            rw [c1]; rfl
          refine ⟨_, rfl, _, rfl, _, rfl, a, _, rfl, dg, by show 2 ≤ sizeLine; decide, fun T1 hT1 => ?_⟩
          have g := Same.new (o := .tup [.str t1.1, .str t1.2]) hT1
          have nT : T1 ≠ Dl := fun e => by rw [e, hD5] at hT1; cases hT1
          have lqs : qs.length ≤ 60 := by rw [paired_len hpr, kT, List.length_map]; have := List.length_filter_le fG ((rowOf bk z).2.take j); rw [List.length_take] at this; omega
          refine ⟨_, g _ _ hD5, by rw [List.length_map, sizeLine_eq]; omega, fun c u e => ?_, qs ++ [T1], by rw [upd_same, List.map_append]; rfl, ?_⟩
          · rw [upd_ne (ne_of_none e hDl)]; exact g _ _ (sm _ _ e)
          · rw [cut_upd (by simp), filt_yes ht1 hf, kT_app]
            exact pair_app (paired_imp (fun p kv e => cut_same g _ _ e) hpr) (by rw [cut_out (by simpa using nT)]; exact upd_same)
        · have hf : fG t1 = true := by
            show ((valV kv' (.inr t1.2)).isSome || decide (t1.2 = z)) = true
            rw [decide_eq_true (V.str.inj (of_decide_eq_true c2)), Bool.or_true]
          refine ⟨_, rfl, _, rfl, _, rfl, a, _, rfl, dg, by show 2 ≤ sizeLine; decide, fun T1 hT1 => ?_⟩
          have g := Same.new (o := .tup [.str t1.1, .str t1.2]) hT1
          have nT : T1 ≠ Dl := fun e => by rw [e, hD5] at hT1; cases hT1
          have lqs : qs.length ≤ 60 := by rw [paired_len hpr, kT, List.length_map]; have := List.length_filter_le fG ((rowOf bk z).2.take j); rw [List.length_take] at this; omega
          refine ⟨_, g _ _ hD5, by rw [List.length_map, sizeLine_eq]; omega, fun c u e => ?_, qs ++ [T1], by rw [upd_same, List.map_append]; rfl, ?_⟩
          · rw [upd_ne (ne_of_none e hDl)]; exact g _ _ (sm _ _ e)
          · rw [cut_upd (by simp), filt_yes ht1 hf, kT_app]
            exact pair_app (paired_imp (fun p kv e => cut_same g _ _ e) hpr) (by rw [cut_out (by simpa using nT)]; exact upd_same)
        · have hf : fG t1 = false := by
            show ((valV kv' (.inr t1.2)).isSome || decide (t1.2 = z)) = false
            rw [Bool.eq_false_iff.mpr c1, decide_eq_false fun e => c2 (decide_eq_true (by rw [e]))]; rfl
          rw [filt_no ht1 hf]
          exact ⟨sm, qs, hD5, hpr⟩
      rintro H5 ⟨sm, qs, hD5, hpr⟩
      rw [show (kT (rowOf bk z).2).length = (rowOf bk z).2.length by rw [kT, List.length_map], List.take_length] at hpr
      have su3 := Same.unlock ha sm
      have hp3 : Paired (fun p (kv : Key × V) => SqT K (L2.upd H5 a (.dK (kT (rowOf bk z).2))) p [kV kv.1, kv.2]) qs (kT ((rowOf bk z).2.filter fG)) := paired_imp (fun p kv e => SqT.of (unl_at (sm _ _ upd_same) (cut_le _ _ e))) hpr
      refine ⟨sm _ _ upd_same, Dl, qs, kT ((rowOf bk z).2.filter fG), rfl, SqL.of (by rw [upd_ne nDa]; exact hD5), hp3, fun T hT => ?_⟩
      have gN : (((rowOf bk z).2.filter fG).map (·.1)).Nodup := List.Nodup.sublist (List.filter_sublist.map _) rowN
      have gG : ∀ t ∈ (rowOf bk z).2.filter fG, t ∈ (rowOf bk z).2 ∧ (t.2 ∈ gb.map (·.1) ∨ t.2 = z) := fun t ht => by
        obtain ⟨h1, h2⟩ := List.mem_filter.mp ht
        refine ⟨h1, ?_⟩
        rcases Bool.or_eq_true_iff.mp h2 with h3 | h3
        · refine .inl ?_
          rw [← valV_any] at h3
          obtain ⟨p, hp, e⟩ := List.any_eq_true.mp h3
          have : (Sum.inr t.2 : Key) ∈ kv'.map (·.1) := by rw [← of_decide_eq_true e]; exact List.mem_map_of_mem hp
          rw [hR4.keys] at this
          obtain ⟨y, hy, e⟩ := List.mem_map.mp this
          rw [← Sum.inr.inj e]
          exact List.mem_map_of_mem hy
        · exact .inr (of_decide_eq_true h3)
      have gL : ((rowOf bk z).2.filter fG).length ≤ 60 := Nat.le_trans (List.length_filter_le _ _) rowL
      generalize (rowOf bk z).2.filter fG = gs at hp3 gN gG gL hT
      rw [merge_id2 (by rw [kT_keys2]; exact inr_nd' gN)]
      generalize L2.upd H5 a (.dK (kT (rowOf bk z).2)) = H6 at su3 hp3 hT
      have g7 := Same.new (o := .dK (kT gs)) hT
      have hT7 : TurnsAt (L2.upd H6 T (.dK (kT gs))) T gs := upd_same
      have nTB : T ≠ B := fun e => by rw [e, su3 _ _ hB4] at hT; cases hT
      generalize L2.upd H6 T (.dK (kT gs)) = H7 at g7 hT7
      refine ⟨_, rfl, fun N hN => ?_⟩
      have g8 := Same.new (o := .dK []) hN
      have eN8 : (L2.upd H7 N (.dK [])) N = some (.dK []) := upd_same
      generalize L2.upd H7 N (.dK []) = H8 at g8 eN8
      have s48 := Same.trans (Same.trans su3 g7) g8
      have hT8 := hT7.same g8
      refine ⟨T, N, kT gs, rfl, rfl, hT8, eN8, _, rfl, ite2 (fun c => ?_) (fun c => ?_)⟩
      · have gne : gs ≠ [] := fun e => by rw [e] at c; cases c
        have kd : (rowOf bk z).1 = "says" ∨ (rowOf bk z).1 = "hears" ∧ True := by
          rcases rowF with ⟨_, e⟩ | ⟨h, _⟩
          · exfalso
            obtain ⟨t0, r0, e0⟩ := List.exists_cons_of_ne_nil gne
            have := (gG t0 (by rw [e0]; simp)).1
            rw [e] at this; cases this
          · exact h.elim .inl fun e => .inr ⟨e, trivial⟩
        have gF : RForm (rowOf bk z).1 gs := by
          refine .inr ⟨kd.elim .inl fun h => .inr h.1, gne, by omega, fun t ht => ?_⟩
          rcases rowF with ⟨_, e⟩ | ⟨_, _, _, h⟩
          · have := (gG t ht).1; rw [e] at this; cases this
          · exact h t (gG t ht).1
        refine ⟨_, rfl, _, rfl, by show 2 ≤ sizeLine; decide, fun T1 hT1 => ?_⟩
        have g9 := Same.new (o := .tup [.str (rowOf bk z).1, .ref T]) hT1
        have e9 : (L2.upd H8 T1 (.tup [.str (rowOf bk z).1, .ref T])) T1 = some (.tup [.str (rowOf bk z).1, .ref T]) := upd_same
        have hTB : T1 ≠ B := fun e => by rw [e, s48 _ _ hB4] at hT1; cases hT1
        generalize L2.upd H8 T1 (.tup [.str (rowOf bk z).1, .ref T]) = H9 at g9 e9
        have s49 := Same.trans s48 g9
        have hB9 := s49 _ _ hB4
        have hrow : RowAt (cut [B] H9) (.ref T1) (rowOf bk z).1 gs := ⟨T1, T, rfl, by rw [cut_out (by simpa using hTB)]; exact e9, by rw [TurnsAt, cut_out (by simpa using nTB)]; exact hT8.same g9⟩
        have nT1B : T1 ≠ B := fun e => by rw [e] at hTB; exact hTB rfl
        have gro' := gro.put (k := (rowOf bk z).1) (ts := gs) zm gF gN gL (fun t ht => (gG t ht).2) (fun x hx => by obtain ⟨t, ht, rfl⟩ := List.mem_map.mp hx; exact ⟨_, hmm, List.mem_map_of_mem (gG t ht).1⟩)
        refine ⟨_, rfl, _, rfl, B, _, rfl, DPut.k (kvs := kv') (k := Sum.inr z) hB9 (by rw [sizeLine_eq]; have := pigeon _ _ gro.nd gro.sub; rw [List.length_map, List.length_map] at this; rw [hR4.len]; omega), ?_⟩
        have hR10 : Rows (cut [B] (L2.upd H9 B (.dK (putK kv' (Sum.inr z) (.ref T1))))) (putK kv' (Sum.inr z) (.ref T1)) (putB gb z (rowOf bk z).1 gs) := by
          rw [cut_upd (by simp)]
          exact (hR4.same (cut_same s49)).put hrow
        have s010 : Same H (L2.upd H9 B (.dK (putK kv' (Sum.inr z) (.ref T1)))) := fun c u e => by rw [upd_ne (ne_of_none e hB)]; exact s49 _ _ (s04 _ _ e)
        have hL10 : SL (L2.upd H9 B (.dK (putK kv' (Sum.inr z) (.ref T1)))) L (lst :: bk.map (·.1)) := by rw [SL, upd_ne nLB]; exact s49 _ _ hL4
        have hB10 : (L2.upd H9 B (.dK (putK kv' (Sum.inr z) (.ref T1)))) B = some (.dK (putK kv' (Sum.inr z) (.ref T1))) := upd_same
        generalize putK kv' (Sum.inr z) (.ref T1) = kv2 at hR10 s010 hL10 hB10
        generalize L2.upd H9 B (.dK kv2) = H10 at hR10 s010 hL10 hB10
        have okG : DOk (putB gb z (rowOf bk z).1 gs) z := gro'.dok ok ((putB_has _ _ _ _ _).mpr (.inr rfl))
        have hBk : BookAt H10 B (putB gb z (rowOf bk z).1 gs) := ⟨kv2, hB10, hR10.same cut_le⟩
        have wsG := gro'.ws wi
        generalize putB gb z (rowOf bk z).1 gs = g2 at gro' hR10 okG hBk wsG
        refine ⟨_, rfl, _, rfl, fun q dx hq hdx _ => ?_⟩
        have s44 : Same H10 (L2.upd (L2.upd H10 dx (.own q)) q (.ins C dx [])) := fun c u e => by rw [upd_ne (ne_of_none e hq), upd_ne (ne_of_none e hdx)]; exact e
        refine ⟨q, dx, B, g2, z, rfl, upd_same, hBk.same s44, okG, fun H11 b5 hd _ => ⟨rfl, ?_⟩⟩
        have s11 : Same H10 H11 := fun c u e => b5 _ _ (ne_of_none e hq) (s44 _ _ e)
        refine ⟨_, rfl, B, kv2, rfl, s11 _ _ hB10, fun H12 pL tsL s12 _ _ _ hpL hprL => ?_⟩
        refine ⟨pL, tsL, kv2, rfl, SqL.of hpL, paired_imp (fun _ _ e => SqT.of e) hprL, fun B2 hB2 => ?_⟩
        have ek2 : kv2.map (·.1) = (g2.map (·.1)).map Sum.inr := by rw [hR10.keys, List.map_map]; rfl
        rw [merge_id2 (by rw [ek2]; exact inr_nd' okG.nd)]
        have g13 := Same.new (o := .dK kv2) hB2
        have e13 : (L2.upd H12 B2 (.dK kv2)) B2 = some (.dK kv2) := upd_same
        generalize L2.upd H12 B2 (.dK kv2) = H13 at g13 e13
        refine ⟨_, rfl, by show 2 ≤ sizeLine; decide, fun W2 hW2 => ?_⟩
        have g14 := Same.new (o := .lst [.ref B2, .str z]) hW2
        have e14 : (L2.upd H13 W2 (.lst [.ref B2, .str z])) W2 = some (.lst [.ref B2, .str z]) := upd_same
        generalize L2.upd H13 W2 (.lst [.ref B2, .str z]) = H14 at g14 e14
        have s1114 : Same H11 H14 := Same.trans (Same.trans s12 g13) g14
        have s1014 := Same.trans s11 s1114
        refine ⟨q, W2, g2, g2, z, ws, rfl, hd.same s1114, ⟨B2, e14, kv2, g14 _ _ e13, hR10.same (Same.trans cut_le s1014)⟩, okG, rfl, wsG, fun H15 s15 => ⟨_, rfl, iteF ?_⟩⟩
        have s1015 := Same.trans s1014 s15
        exact ⟨_, _, _, _, g2, kv2, rfl, Same.trans s010 s1015, hL10.same s1015, s1015 _ _ hB10, hR10.same (cut_same s1015), gro'⟩
      · refine ⟨[], .nil, List.nodup_nil, fun H9 T1 E1 g9 nT1 nE1 e9 f9 => ?_⟩
        have hTB : T1 ≠ B := fun e => by rw [e, s48 _ _ hB4] at nT1; cases nT1
        have hEB : E1 ≠ B := fun e => by rw [e, s48 _ _ hB4] at nE1; cases nE1
        have s49 := Same.trans s48 g9
        have hB9 := s49 _ _ hB4
        have hrow : RowAt (cut [B] H9) (.ref T1) "done" [] := ⟨T1, E1, rfl, by rw [cut_out (by simpa using hTB)]; exact e9, by rw [TurnsAt, cut_out (by simpa using hEB)]; exact f9⟩
        have nT1B : T1 ≠ B := fun e => by rw [e] at hTB; exact hTB rfl
        have gro' := gro.put (k := "done") (ts := []) zm (.inl ⟨rfl, rfl⟩) List.nodup_nil (Nat.zero_le _) (fun t ht => by cases ht) (fun x hx => by cases hx)
        refine ⟨_, rfl, _, rfl, B, _, rfl, DPut.k (kvs := kv') (k := Sum.inr z) hB9 (by rw [sizeLine_eq]; have := pigeon _ _ gro.nd gro.sub; rw [List.length_map, List.length_map] at this; rw [hR4.len]; omega), ?_⟩
        have hR10 : Rows (cut [B] (L2.upd H9 B (.dK (putK kv' (Sum.inr z) (.ref T1))))) (putK kv' (Sum.inr z) (.ref T1)) (putB gb z "done" []) := by
          rw [cut_upd (by simp)]
          exact (hR4.same (cut_same s49)).put hrow
        have s010 : Same H (L2.upd H9 B (.dK (putK kv' (Sum.inr z) (.ref T1)))) := fun c u e => by rw [upd_ne (ne_of_none e hB)]; exact s49 _ _ (s04 _ _ e)
        have hL10 : SL (L2.upd H9 B (.dK (putK kv' (Sum.inr z) (.ref T1)))) L (lst :: bk.map (·.1)) := by rw [SL, upd_ne nLB]; exact s49 _ _ hL4
        have hB10 : (L2.upd H9 B (.dK (putK kv' (Sum.inr z) (.ref T1)))) B = some (.dK (putK kv' (Sum.inr z) (.ref T1))) := upd_same
        generalize putK kv' (Sum.inr z) (.ref T1) = kv2 at hR10 s010 hL10 hB10
        generalize L2.upd H9 B (.dK kv2) = H10 at hR10 s010 hL10 hB10
        have okG : DOk (putB gb z "done" []) z := gro'.dok ok ((putB_has _ _ _ _ _).mpr (.inr rfl))
        have hBk : BookAt H10 B (putB gb z "done" []) := ⟨kv2, hB10, hR10.same cut_le⟩
        have wsG := gro'.ws wi
        generalize putB gb z "done" [] = g2 at gro' hR10 okG hBk wsG
        refine ⟨_, rfl, _, rfl, fun q dx hq hdx _ => ?_⟩
        have s44 : Same H10 (L2.upd (L2.upd H10 dx (.own q)) q (.ins C dx [])) := fun c u e => by rw [upd_ne (ne_of_none e hq), upd_ne (ne_of_none e hdx)]; exact e
        refine ⟨q, dx, B, g2, z, rfl, upd_same, hBk.same s44, okG, fun H11 b5 hd _ => ⟨rfl, ?_⟩⟩
        have s11 : Same H10 H11 := fun c u e => b5 _ _ (ne_of_none e hq) (s44 _ _ e)
        refine ⟨_, rfl, B, kv2, rfl, s11 _ _ hB10, fun H12 pL tsL s12 _ _ _ hpL hprL => ?_⟩
        refine ⟨pL, tsL, kv2, rfl, SqL.of hpL, paired_imp (fun _ _ e => SqT.of e) hprL, fun B2 hB2 => ?_⟩
        have ek2 : kv2.map (·.1) = (g2.map (·.1)).map Sum.inr := by rw [hR10.keys, List.map_map]; rfl
        rw [merge_id2 (by rw [ek2]; exact inr_nd' okG.nd)]
        have g13 := Same.new (o := .dK kv2) hB2
        have e13 : (L2.upd H12 B2 (.dK kv2)) B2 = some (.dK kv2) := upd_same
        generalize L2.upd H12 B2 (.dK kv2) = H13 at g13 e13
        refine ⟨_, rfl, by show 2 ≤ sizeLine; decide, fun W2 hW2 => ?_⟩
        have g14 := Same.new (o := .lst [.ref B2, .str z]) hW2
        have e14 : (L2.upd H13 W2 (.lst [.ref B2, .str z])) W2 = some (.lst [.ref B2, .str z]) := upd_same
        generalize L2.upd H13 W2 (.lst [.ref B2, .str z]) = H14 at g14 e14
        have s1114 : Same H11 H14 := Same.trans (Same.trans s12 g13) g14
        have s1014 := Same.trans s11 s1114
        refine ⟨q, W2, g2, g2, z, ws, rfl, hd.same s1114, ⟨B2, e14, kv2, g14 _ _ e13, hR10.same (Same.trans cut_le s1014)⟩, okG, rfl, wsG, fun H15 s15 => ⟨_, rfl, iteF ?_⟩⟩
        have s1015 := Same.trans s1014 s15
        exact ⟨_, _, _, _, g2, kv2, rfl, Same.trans s010 s1015, hL10.same s1015, s1015 _ _ hB10, hR10.same (cut_same s1015), gro'⟩
    · rintro σ H4 ⟨v3, v4, v5, v6, gb, kv', rfl, s04, hL4, hB4, hR4, gro⟩
      exact k _ s04
end
end D1
end L2
/-! the law's others -/
namespace L2
namespace D1
open PySem PySem.Spec PyProof.Rows D2 X3
abbrev sOthers : Stmt := top 53
/-- a list that is no world -/
def NoW (H : Hp) (c : Addr) : Prop := ∃ xs : List V, H c = some (.lst xs) ∧ ∀ b st, xs ≠ [.ref b, .str st]
theorem Purse.noW {H : Hp} {p : Addr} {t : Int} (h : Purse H p t) : NoW H p := by
  obtain ⟨g, b, z, e, _⟩ := h
  exact ⟨_, e, fun _ _ e => by simp at e⟩
theorem refs_noW {H : Hp} {c : Addr} {as : List Addr} (h : H c = some (.lst (as.map V.ref))) : NoW H c := by
  refine ⟨_, h, fun b st e => ?_⟩
  match as, e with
  | [x, y], e => simp at e
theorem Rows.out {S : List Addr} {H : Hp} {kvs : List (Key × V)} {bk : Bk} (h : Rows H kvs bk) (hS : ∀ c ∈ S, NoW H c) : Rows (cut S H) kvs bk := by
  unfold Rows at h ⊢
  induction h with
  | nil => exact .nil
  | cons h1 _ ih =>
    obtain ⟨e, t, a, ev, ht, ha⟩ := h1
    refine .cons ⟨e, t, a, ev, ?_, ?_⟩ ih
    · rw [cut_out fun m => by obtain ⟨xs, ex, _⟩ := hS _ m; rw [ht] at ex; cases ex]; exact ht
    · rw [TurnsAt, cut_out fun m => by obtain ⟨xs, ex, _⟩ := hS _ m; rw [TurnsAt, ex] at ha; cases ha]; exact ha
theorem WorldAt.out {S : List Addr} {H : Hp} {R : Addr} {bk : Bk} {st : Str} (h : WorldAt H R bk st) (hS : ∀ c ∈ S, NoW H c) : WorldAt (cut S H) R bk st := by
  obtain ⟨b, e, kvs, eb, r⟩ := h
  refine ⟨b, ?_, kvs, ?_, r.out hS⟩
  · rw [cut_out fun m => by obtain ⟨xs, ex, n⟩ := hS _ m; rw [e] at ex; exact n _ _ (HO.lst.inj (Option.some.inj ex)).symm]; exact e
  · rw [cut_out fun m => by obtain ⟨xs, ex, _⟩ := hS _ m; rw [eb] at ex; cases ex]; exact eb
theorem WorldAt.off {S : List Addr} {H H' : Hp} {R : Addr} {bk : Bk} {st : Str} (h : WorldAt H R bk st) (hS : ∀ c ∈ S, NoW H c) (s : ∀ c u, c ∉ S → H c = some u → H' c = some u) : WorldAt H' R bk st :=
  (h.out hS).same fun c u e => s _ _ (cut_some e).1 (cut_some e).2
theorem WorldAt.but {p : Addr} {H H' : Hp} {R : Addr} {bk : Bk} {st : Str} {t : Int} (h : WorldAt H R bk st) (hp : Purse H p t) (s : But p H H') : WorldAt H' R bk st :=
  h.off (S := [p]) (fun c m => by rw [List.mem_singleton.mp m]; exact hp.noW) fun c u n e => s _ _ (fun z => n (by rw [z]; simp)) e
theorem WorldAt.cutp {p : Addr} {H : Hp} {R : Addr} {bk : Bk} {st : Str} {t : Int} (h : WorldAt H R bk st) (hp : Purse H p t) : WorldAt (cut [p] H) R bk st :=
  h.out fun c m => by rw [List.mem_singleton.mp m]; exact hp.noW
theorem WF.at {bk : Bk} {st s : Str} {ws : List Str} (h : WF bk st ws) (m : s ∈ bk.map (·.1)) : WF bk s ws := ⟨h.nd, h.rs, m, h.len⟩
theorem TOk.mono {ts : List (Str × Str)} {ss ss' ws : List Str} (h : TOk ts ss ws) (m : ∀ x ∈ ss, x ∈ ss') : TOk ts ss' ws := ⟨h.nd, h.ks, fun t ht => m _ (h.gs t ht)⟩
theorem WF.turn {bk : Bk} {st : Str} {ws : List Str} (h : WF bk st ws) : WF (turnB bk) st ws := by
  refine ⟨by rw [turnB_names]; exact h.nd, fun r hr => ?_, by rw [turnB_names]; exact h.st, by rw [turnB, List.length_map]; exact h.len⟩
  rw [turnB_names]
  obtain ⟨q, hq, rfl⟩ := List.mem_map.mp hr
  obtain ⟨a, b⟩ := h.rs q hq
  refine ⟨a, ?_⟩
  rcases b with ⟨e, f⟩ | ⟨e, f⟩
  · exact .inl ⟨by show flipK q.2.1 = _; rw [e]; decide +kernel, f⟩
  · refine .inr ⟨?_, f⟩
    rcases e with e | e
    · exact .inr (by show flipK q.2.1 = _; rw [e]; decide +kernel)
    · exact .inl (by show flipK q.2.1 = _; rw [e]; decide +kernel)
theorem WF.more {bk : Bk} {st x : Str} {ws : List Str} (h : WF bk st ws) (n : x ∉ bk.map (·.1)) (wd : Wd x) (l : bk.length < 6) : WF (bk ++ [((x, "done", []) : RowD)]) st ws := by
  have en : (bk ++ [((x, "done", []) : RowD)]).map (·.1) = bk.map (·.1) ++ [x] := by rw [List.map_append]; rfl
  refine ⟨by rw [en]; exact nodup_app h.nd n, fun r hr => ?_, by rw [en]; exact List.mem_append_left _ h.st, by rw [List.length_append]; show _ + 1 ≤ 6; omega⟩
  rw [en]
  rcases List.mem_append.mp hr with m | m
  · obtain ⟨a, b⟩ := h.rs r m
    exact ⟨a, b.elim .inl fun ⟨c, d, e⟩ => .inr ⟨c, d, e.mono fun y hy => List.mem_append_left _ hy⟩⟩
  · rw [List.mem_singleton.mp m]
    exact ⟨wd, .inl ⟨rfl, rfl⟩⟩
/-! ### letters that no state has -/
def a10 : Str := Str.ofString "abcdefghij"
theorem a10_len : (signs a10).length = 10 := by decide +kernel
theorem a10_nd : (signs a10).Nodup := by decide +kernel
theorem a10_wd : ∀ x ∈ signs a10, Wd x := by
  have h : ∀ c ∈ tl a10, 97 ≤ c ∧ c ≤ 122 := by decide +kernel
  intro x hx
  obtain ⟨c, hc, rfl⟩ := List.mem_map.mp hx
  exact wd_let (h c hc).1 (h c hc).2
theorem a10_left {ss : List Str} (h : ss.length ≤ 6) : ∃ x y r, (signs a10).filter (fun x => decide (x ∉ ss)) = x :: y :: r ∧ x ∉ ss ∧ y ∉ ss ∧ Wd x ∧ Wd y ∧ x ≠ y := by
  have big : ∀ ts : List Str, (∀ x ∈ (signs a10).filter (fun x => decide (x ∉ ss)), x ∈ ts) → 10 ≤ (ts ++ ss).length := fun ts ht => by
    have := pigeon (signs a10) (ts ++ ss) a10_nd fun x hx => by
      by_cases c : x ∈ ss
      · exact List.mem_append_right _ c
      · exact List.mem_append_left _ (ht x (List.mem_filter.mpr ⟨hx, decide_eq_true c⟩))
    rw [a10_len] at this; exact this
  have nd : ((signs a10).filter (fun x => decide (x ∉ ss))).Nodup := List.Nodup.sublist List.filter_sublist a10_nd
  have mem : ∀ x ∈ (signs a10).filter (fun x => decide (x ∉ ss)), x ∉ ss ∧ Wd x := fun x hx => by
    obtain ⟨a, b⟩ := List.mem_filter.mp hx
    exact ⟨of_decide_eq_true b, a10_wd x a⟩
  generalize (signs a10).filter (fun x => decide (x ∉ ss)) = fs at big nd mem
  match fs, big, nd, mem with
  | [], big, _, _ => have := big [] (fun _ h => by cases h); rw [List.length_append] at this; simp at this; omega
  | [x], big, _, _ => have := big [x] (fun _ h => h); rw [List.length_append] at this; simp at this; omega
  | x :: y :: r, _, nd, mem =>
    refine ⟨x, y, r, rfl, (mem x (by simp)).1, (mem y (by simp)).1, (mem x (by simp)).2, (mem y (by simp)).2, fun e => ?_⟩
    exact (List.nodup_cons.mp nd).1 (by rw [e]; simp)
abbrev Wor := Addr × Bk × Str
def refsW (ls : List Wor) : List V := (ls.map (·.1)).map V.ref
def WsAt (H : Hp) (ws : List Str) (ls : List Wor) : Prop := ∀ x ∈ ls, WorldAt H x.1 x.2.1 x.2.2 ∧ WF x.2.1 x.2.2 ws
theorem WsAt.off {S : List Addr} {H H' : Hp} {ws : List Str} {ls : List Wor} (h : WsAt H ws ls) (hS : ∀ c ∈ S, NoW H c) (s : ∀ c u, c ∉ S → H c = some u → H' c = some u) : WsAt H' ws ls := fun x hx => ⟨(h x hx).1.off hS s, (h x hx).2⟩
theorem WsAt.same {H H' : Hp} {ws : List Str} {ls : List Wor} (h : WsAt H ws ls) (s : Same H H') : WsAt H' ws ls := fun x hx => ⟨(h x hx).1.same s, (h x hx).2⟩
theorem WsAt.but {p : Addr} {H H' : Hp} {ws : List Str} {ls : List Wor} {t : Int} (h : WsAt H ws ls) (hp : Purse H p t) (s : But p H H') : WsAt H' ws ls := fun x hx => ⟨(h x hx).1.but hp s, (h x hx).2⟩
theorem WsAt.app {H : Hp} {ws : List Str} {ls ms : List Wor} (h : WsAt H ws ls) (g : WsAt H ws ms) : WsAt H ws (ls ++ ms) := fun x hx => (List.mem_append.mp hx).elim (h x) (g x)
theorem WsAt.one {H : Hp} {ws : List Str} {a : Addr} {bk : Bk} {st : Str} (h : WorldAt H a bk st) (g : WF bk st ws) : WsAt H ws [(a, bk, st)] := fun x hx => by rw [List.mem_singleton.mp hx]; exact ⟨h, g⟩
theorem starts_ws {H : Hp} {b : Addr} {bk : Bk} {st : Str} {ws : List Str} (hb : BookAt H b bk) (wf : WF bk st ws) : ∀ {as : List Addr} {l : List RowD}, (∀ r ∈ l, r.1 ∈ bk.map (·.1)) → Paired (fun a (r : RowD) => H a = some (.lst [.ref b, .str r.1])) as l → ∃ ms : List Wor, ms.map (·.1) = as ∧ ms.length = l.length ∧ WsAt H ws ms
  | [], [], _, .nil => ⟨[], rfl, rfl, fun _ h => by cases h⟩
  | a :: as, r :: l, m, .cons h1 t => by
    obtain ⟨ms, e1, e2, e3⟩ := starts_ws hb wf (fun r hr => m r (List.mem_cons_of_mem _ hr)) t
    refine ⟨(a, bk, r.1) :: ms, by rw [List.map_cons, e1], by rw [List.length_cons, List.length_cons, e2], fun x hx => ?_⟩
    rcases List.mem_cons.mp hx with z | z
    · rw [z]; exact ⟨⟨b, h1, hb⟩, wf.at (m r List.mem_cons_self)⟩
    · exact e3 x z
theorem Rows.isSome {H : Hp} {kvs : List (Key × V)} {bk : Bk} (h : Rows H kvs bk) (x : Str) : (valV kvs (.inr x)).isSome = decide (x ∈ bk.map (·.1)) := by
  rw [← valV_any]
  by_cases c : x ∈ bk.map (·.1)
  · rw [decide_eq_true c]
    obtain ⟨r, hr, e⟩ := List.mem_map.mp c
    have : (Sum.inr x : Key) ∈ kvs.map (·.1) := by rw [h.keys]; exact List.mem_map.mpr ⟨r, hr, by rw [e]⟩
    obtain ⟨p, hp, e⟩ := List.mem_map.mp this
    exact List.any_eq_true.mpr ⟨p, hp, decide_eq_true e⟩
  · rw [decide_eq_false c]
    refine Bool.eq_false_iff.mpr fun z => c ?_
    obtain ⟨p, hp, e⟩ := List.any_eq_true.mp z
    have : (Sum.inr x : Key) ∈ kvs.map (·.1) := by rw [← of_decide_eq_true e]; exact List.mem_map_of_mem hp
    rw [h.keys] at this
    obtain ⟨y, hy, e⟩ := List.mem_map.mp this
    rw [← Sum.inr.inj e]
    exact List.mem_map_of_mem hy
def spOthers : Sp := fun vs H Q _ => ∃ (p W L : Addr) (bk : Bk) (st : Str) (ws : List Str) (t : Int), vs = [.ref p, .ref W, .ref L] ∧ Purse H p t ∧ WorldAt H W bk st ∧ SL H L ws ∧ L ≠ p ∧ WF bk st ws ∧ WsOk ws ∧ t < 2 ^ 24 ∧
  ∀ (H' : Hp) (R : Addr) (ls : List Wor) (t' : Int), But p H H' → Purse H' p t' → t' ≤ t + 1100 → H R = none → H' R = some (.lst (refsW ls)) → ls.length ≤ 20 → WsAt H' ws ls → Q (.ref R) H'
section
variable {P : Program} {w : World} {K : PySem.W.Frag} {mg : Str → Option Value} {base : Heap}
abbrev CNewer (P : Program) (w : World) (K : PySem.W.Frag) (mg : Str → Option Value) (base : Heap) := Cal P w K mg base "_law_newer" 5 ["_law_purse_here", "_law_world_here", "_law_words_here", "_law_times"] spNewer
abbrev CLTurned (P : Program) (w : World) (K : PySem.W.Frag) (mg : Str → Option Value) (base : Heap) := Cal P w K mg base "_law_turned" 1 ["_law_world_here"] spLTurned
abbrev CSaid (P : Program) (w : World) (K : PySem.W.Frag) (mg : Str → Option Value) (base : Heap) := Cal P w K mg base "_law_said_fewer" 4 ["_law_purse_here", "_law_world_here"] spSaid
abbrev otN : List Str := ["_law_purse_here", "_law_world_here", "_law_words_here", "_law_found", "_law_fresh", "_law_turn", "_law_state", "_law_letter"]
theorem scOh : FnScope otN ["_law_purse_here", "_law_world_here", "_law_words_here"] (defScope sOthers) := ⟨rfl, rfl, rfl, by decide +kernel, rfl, by decide +kernel, by decide +kernel⟩
theorem ok_others {f : Addr} {fd : FuncData} (F : Fun K "_law_others" "_law_others" sOthers f fd) (T : Free3 mg) (CN : CNewer P w K mg base) (CT : CLTurned P w K mg base) (CS : CSaid P w K mg base) : FnOk P w K mg base CX0 6 f fd ["_law_purse_here", "_law_world_here", "_law_words_here"] spOthers := by
  refine F.ok scOh (fun vs H Q E h => ?_) (fun cdv A outer s H vs Q E hr h => ?_)
  · obtain ⟨p, W, L, bk, st, ws, t, rfl, _⟩ := h; rfl
  · obtain ⟨p, W, L, bk, st, ws, t, rfl, hp, hWo, hL, nL, wf, wok, t1, k⟩ := h
    have hu := hu_of hr
    refine ⟨_, pss_cons (ps_set (i := 3) scOh.nd rfl (Or.inl rfl) (pe_op op_cat (pe_lc (own := [("_law_turn", 5)]) (g := gName 5) (tt := tYes) (te := tCall spNewer [] E0 (tCons (tVar 0) (tCons (tVar 1) (tCons (tVar 2) (tCons (tOp (rI0 fun i j => .int (i + j)) (tC (.int 1)) (tVar 5)) tNil))))) rfl scOh.nd (pi_range1 rfl T.range (pa_cons pe_int pa_nil))
          (blkOk_by (N := otN) (sc := defScope sOthers) (by decide +kernel)) (fun _ _ _ _ _ => pg_name (i := 5) scOh.nd rfl (Or.inl rfl)) (fun _ _ _ _ _ => pts_nil) (fun _ _ _ _ _ => pe_cal CN (hr.mono (by decide)) rfl (pa_cons (pv 0) (pa_cons (pv 1) (pa_cons (pv 2) (pa_cons (pe_op op_add pe_int (pv 5)) pa_nil))))))
        (pe_lst (pa_cons (pe_cal CT (hr.mono (by decide)) rfl (pa_cons (pv 1) pa_nil)) (pa_cons (pe_cal CS (hr.mono (by decide)) rfl (pa_cons (pv 0) (pa_cons (pv 1) pa_nil))) pa_nil)))))
      (pss_cons (ps_set (i := 3) scOh.nd rfl (Or.inl rfl) (pe_op op_cat (pv 3) (pe_lock (pe_lc (own := [("_law_state", 6)]) (g := gName 6) (tt := tYes) (te := tLst (tCons (tOp (rIxL K) (tVar 1) (tC (.int 0))) (tCons (tVar 6) tNil))) rfl scOh.nd (pi_keys (pe_ix ix_list (pv 1) pe_int (fun _ _ => rfl)))
          (blkOk_by (N := otN) (sc := defScope sOthers) (by decide +kernel)) (fun _ _ _ _ _ => pg_name (i := 6) scOh.nd rfl (Or.inl rfl)) (fun _ _ _ _ _ => pts_nil) (fun _ _ _ _ _ => pe_lst (pa_cons (pe_ix ix_list (pv 1) pe_int (fun _ _ => rfl)) (pa_cons (pv 6) pa_nil)))))))
      (pss_cons (ps_set (i := 4) scOh.nd rfl (Or.inl rfl) (pe_ix ix_list (pe_lc (own := [("_law_letter", 7)]) (g := gName 7) (tt := tTest (tDNotIn (tVar 7) (tOp (rIxL K) (tVar 1) (tC (.int 0))))) (te := tVar 7) rfl scOh.nd (pi_list (pe_callTy (call_listStr rfl) (by rfl) T.list (by decide +kernel) (pa_cons pe_str pa_nil)))
          (blkOk_by (N := otN) (sc := defScope sOthers) (by decide +kernel)) (fun _ _ _ _ _ => pg_name (i := 7) scOh.nd rfl (Or.inl rfl)) (fun _ _ _ _ _ => pts_one (pt_cmp (pc_dnotin hu (pv 7) (pe_ix ix_list (pv 1) pe_int (fun _ _ => rfl))) rfl)) (fun _ _ _ _ _ => pv 7)) pe_int (fun _ _ => rfl)))
      (pss_cons (ps_if (pt_cmpR op_lt (pe_callB call_lenD (by rfl) T.len PySem.boot_len (pa_cons (pe_ix ix_list (pv 1) pe_int (fun _ _ => rfl)) pa_nil)) pe_int (nomark _))
          (pss_one (ps_expr (pe_bm PySem.F.plainAttrs_list PySem.F.slot_list_append PySem.F.type_list_append mt_append (pv 3) (pa_cons (pe_lst (pa_cons (pe_callTy (call_dictP rfl) (by rfl) T.dict (by decide +kernel) (pa_cons (pe_op op_cat (LiI.pe_listItems rfl (pe_ix ix_list (pv 1) pe_int (fun _ _ => rfl)) (by rfl) T.list (by decide +kernel)) (pe_lst (pa_cons (pe_tup (pa_cons (pv 4) (pa_cons row0 pa_nil))) pa_nil))) pa_nil)) (pa_cons (pe_ix ix_list (pv 1) pe_int (fun _ _ => rfl)) pa_nil))) pa_nil)))) pss_nil)
      (pss_one (ps_ret (pv 3)))))), ?_⟩
    have ok := wf.dok wok
    have hWt := hWo
    replace hWo := hWo.cutp hp
    obtain ⟨b, hW, kvs, hb, hR⟩ := id hWt
    have lb := wf.len
    have lkv : kvs.length = bk.length := hR.len
    have nWp : W ≠ p := fun e => by obtain ⟨b0, e0, _⟩ := hWo; rw [e, cut_in (by simp)] at e0; cases e0
    have nWb : W ≠ b := fun e => by rw [e, hb] at hW; cases hW
    have nbp : b ≠ p := fun e => by obtain ⟨_, _, _, ep, _⟩ := hp; rw [e, ep] at hb; cases hb
    refine ⟨4, rfl, by decide, by decide, fun D hD => ?_⟩
    have nDp := hp.ne hD
    refine lc_range (n := 4) (fun i H' => ∃ (ls : List Wor) (t' : Int), ls.length = i ∧ But p H H' ∧ Purse H' p t' ∧ t' ≤ t + 210 * i ∧ H' D = some (.lst (refsW ls)) ∧ WsAt H' ws ls) ⟨[], t, rfl, But.new hD, hp.new hD, by omega, upd_same, fun x hx => by cases hx⟩ ?_ ?_
    · rintro i H3 hi ⟨ls, t3, li, b3, hp3, tt3, hD3, wa⟩
      refine ⟨rfl, ?_⟩
      dsimp only [tYes]
      rw [if_pos rfl]
      refine ⟨_, rfl, _, rfl, _, rfl, _, rfl, _, _, rfl, rfl, p, W, L, bk, st, ws, _, t3, rfl, hp3, hWo.same b3.cut, b3 _ _ nL hL, nL, wf, wok, by omega, by omega, by omega, fun H4 R bk' t4 b4 hp4 tt4 nR hW4 wf4 => ?_⟩
      have hD4 := b4 _ _ nDp hD3
      refine ⟨_, hD4, by rw [refsW, List.length_map, List.length_map, sizeLine_eq]; omega, ls ++ [(R, bk', st)], t4, by rw [List.length_append, li]; rfl, But.ofL hD (b3.trans b4), hp4.upd nDp.symm, by omega, by rw [upd_same]; simp [refsW], ?_⟩
      have w4 : WsAt H4 ws (ls ++ [(R, bk', st)]) := (wa.but hp3 b4).app (WsAt.one (hW4.same cut_le) wf4)
      exact w4.off (S := [D]) (fun c m => by rw [List.mem_singleton.mp m]; exact refs_noW hD4) fun c u n e => by rw [upd_ne (by simpa using n)]; exact e
    rintro H3 ⟨ls, t3, li, b3, hp3, tt3, hD3, wa3⟩
    refine ⟨_, rfl, W, bk, st, rfl, hWt.but hp b3, ok, fun H4 T s4 nT hT4 => ?_⟩
    have b4 := b3.trans (But.of s4)
    have hp4 := hp3.same s4
    refine ⟨_, rfl, _, rfl, p, W, bk, st, ws, t3, rfl, hp4, hWo.same b4.cut, wf, wok, by omega, fun H5 R bk' t5 b45 hp5 tt5 nR hW5 wf5 => ⟨by show 2 ≤ sizeLine; decide, fun Lz hL2 => ?_⟩⟩
    have b5 := b4.trans b45
    have hD5 := b45 _ _ nDp (s4 _ _ hD3)
    have wa5 : WsAt H5 ws (ls ++ [(T, turnB bk, st), (R, bk', st)]) := ((wa3.same s4).but hp4 b45).app ((WsAt.one (hT4.but hp4 b45) wf.turn).app (WsAt.one (hW5.same cut_le) wf5))
    have g6 := Same.new (o := .lst [.ref T, .ref R]) hL2
    have e6 : (L2.upd H5 Lz (.lst [.ref T, .ref R])) Lz = some (.lst [.ref T, .ref R]) := upd_same
    generalize L2.upd H5 Lz (.lst [.ref T, .ref R]) = H6 at g6 e6
    refine ⟨D, Lz, _, _, rfl, rfl, g6 _ _ hD5, e6, by rw [refsW, List.length_map, List.length_map, sizeLine_eq]; show _ + 2 ≤ _; omega, fun F1 hF1 => ?_⟩
    rw [show refsW ls ++ [V.ref T, V.ref R] = refsW (ls ++ [(T, turnB bk, st), (R, bk', st)]) by simp [refsW]]
    have l2 : (ls ++ [((T, turnB bk, st) : Wor), (R, bk', st)]).length = 6 := by rw [List.length_append, li]; rfl
    generalize ls ++ [((T, turnB bk, st) : Wor), (R, bk', st)] = ls2 at wa5 l2 hF1
    have g7 := Same.new (o := .lst (refsW ls2)) hF1
    have e7 : (L2.upd H6 F1 (.lst (refsW ls2))) F1 = some (.lst (refsW ls2)) := upd_same
    generalize L2.upd H6 F1 (.lst (refsW ls2)) = H7 at g7 e7
    have s57 := Same.trans g6 g7
    have b7 := b5.trans (But.of s57)
    have hp7 := hp5.same s57
    have wa7 := wa5.same s57
    have hW7 := b7 _ _ nWp hW
    have hb7 := b7 _ _ nbp hb
    have hR7 : Rows H7 kvs bk := (hR.out (S := [p]) fun c m => by rw [List.mem_singleton.mp m]; exact hp.noW).same (Same.trans b7.cut cut_le)
    -- the same book, other starts
    refine ⟨_, rfl, b, _, hb7, trivial, fun od => ?_⟩
    have hWL : (L2.upd H7 b (.frz od (.dK kvs))) W = some (.lst [.ref b, .str st]) := by rw [upd_ne nWb]; exact hW7
    refine ⟨_, rfl, W, _, _, _, rfl, rfl, SqL.of hWL, atI_nat (j := 0) rfl, b, od, rfl, .inl ⟨kvs, upd_same, fun M hM => ?_⟩⟩
    have nMb : M ≠ b := fun e => by rw [e, upd_same] at hM; cases hM
    refine lc_it (walk_keys (d := b) (o := od) (kvs := kvs)) (fun i H' => Same (L2.upd H7 b (.frz od (.dK kvs))) H' ∧ ∃ as : List Addr, H' M = some (.lst (as.map V.ref)) ∧ Paired (fun a (r : RowD) => (cut [M] H') a = some (.lst [.ref b, .str r.1])) as (bk.take i)) ⟨Same.new hM, [], upd_same, .nil⟩ (fun i H' _ z => z.1 _ _ upd_same) ?_ ?_
    · rintro i x H8 H9 hi ⟨sm, as, hM8, hpr⟩ ⟨rfl, kk, v0, hkv, rfl⟩
      obtain ⟨r, hr', rfl, _⟩ := hR.at hkv
      refine ⟨rfl, ?_⟩
      dsimp only [tYes]
      rw [if_pos rfl]
      refine ⟨_, rfl, W, _, _, _, rfl, rfl, SqL.of (sm _ _ hWL), atI_nat (j := 0) rfl, _, rfl, by show 2 ≤ sizeLine; decide, fun T2 hT2 => ?_⟩
      have g := Same.new (o := .lst [.ref b, .str r.1]) hT2
      have nT : T2 ≠ M := fun e => by rw [e, hM8] at hT2; cases hT2
      refine ⟨_, g _ _ hM8, by rw [List.length_map, paired_len hpr, List.length_take, sizeLine_eq]; omega, fun c u e => ?_, as ++ [T2], by rw [upd_same, List.map_append]; rfl, ?_⟩
      · rw [upd_ne (ne_of_none e hM)]; exact g _ _ (sm _ _ e)
      · rw [cut_upd (by simp), take_succ_get hr']
        exact pair_app (paired_imp (fun p kv e => cut_same g _ _ e) hpr) (by rw [cut_out (by simpa using nT)]; exact upd_same)
    rintro H8 ⟨sm, as, hM8, hpr⟩
    rw [lkv, List.take_length] at hpr
    have hb8 := sm _ _ (upd_same (H := H7) (a := b) (o := .frz od (.dK kvs)))
    have su := Same.unlock hb7 sm
    refine ⟨hb8, ?_⟩
    have hM9 : (L2.upd H8 b (.dK kvs)) M = some (.lst (as.map V.ref)) := by rw [upd_ne nMb]; exact hM8
    have hpr9 : Paired (fun a (r : RowD) => (L2.upd H8 b (.dK kvs)) a = some (.lst [.ref b, .str r.1])) as bk := paired_imp (fun a r e => by rw [upd_ne fun z => by rw [z] at e; have := cut_le _ _ e; rw [hb8] at this; cases this]; exact cut_le _ _ e) hpr
    generalize L2.upd H8 b (.dK kvs) = H9 at su hM9 hpr9
    have hBk9 : BookAt H9 b bk := ⟨kvs, su _ _ hb7, hR7.same su⟩
    obtain ⟨ms, em, lm, wm⟩ := starts_ws hBk9 wf (fun r hr => List.mem_map_of_mem hr) hpr9
    refine ⟨F1, M, _, _, rfl, rfl, su _ _ e7, hM9, by rw [refsW, List.length_map, List.length_map, List.length_map, ← em, List.length_map, sizeLine_eq]; omega, fun F2 hF2 => ?_⟩
    rw [show refsW ls2 ++ as.map V.ref = refsW (ls2 ++ ms) by rw [refsW, refsW, List.map_append, List.map_append, em]]
    have wa9 : WsAt H9 ws (ls2 ++ ms) := (wa7.same su).app wm
    have l3 : (ls2 ++ ms).length ≤ 12 := by rw [List.length_append]; omega
    generalize ls2 ++ ms = ls3 at wa9 l3 hF2
    have g10 := Same.new (o := .lst (refsW ls3)) hF2
    have e10 : (L2.upd H9 F2 (.lst (refsW ls3))) F2 = some (.lst (refsW ls3)) := upd_same
    generalize L2.upd H9 F2 (.lst (refsW ls3)) = H10 at g10 e10
    have s710 := Same.trans su g10
    have b10 := b7.trans (But.of s710)
    have nF2H : H F2 = none := (b7.trans (But.of su)).fr hF2 ((hp7.same su).ne hF2)
    have wa10 := wa9.same g10
    have hp10 := hp7.same s710
    have hW10 := s710 _ _ hW7
    have hb10 := s710 _ _ hb7
    have hR10 := hR7.same s710
    clear hWL hM8 hM9 sm hM hp3 hp4 hp5 hD3 hD5 e6 e7
    -- a letter that no state has
    refine ⟨_, rfl, by decide +kernel, fun l hl => ⟨l, rfl, ⟨_, SqL.of upd_same⟩, fun D2 hD2 => ?_⟩⟩
    have g11 := Same.new (o := .lst ((signs a10).map V.str)) hl
    have e11 : SL (L2.upd H10 l (.lst ((signs a10).map V.str))) l (signs a10) := upd_same
    refine lc_list (K := K) (a := l) (xs := (signs a10).map V.str) (fun j H' => Same (L2.upd H10 l (.lst ((signs a10).map V.str))) H' ∧ SL H' D2 (((signs a10).take j).filter fun x => decide (x ∉ bk.map (·.1)))) ⟨Same.new hD2, upd_same⟩ (fun j H' _ z => (e11.same z.1).sq) ?_ ?_
    · rintro j v H12 hx0 ⟨sm, hD12⟩
      obtain ⟨x, hxj, rfl⟩ := get_map hx0
      refine ⟨rfl, _, rfl, _, rfl, W, _, _, _, rfl, rfl, SqL.of (sm _ _ (g11 _ _ hW10)), atI_nat (j := 0) rfl, b, _, rfl, .inl ⟨kvs, .inr x, .inl (sm _ _ (g11 _ _ hb10)), rfl, rfl⟩, _, rfl, ?_⟩
      rw [hR10.isSome]
      refine ite2 (fun c => ?_) (fun c => ?_)
      · have c' : x ∉ bk.map (·.1) := fun z => by rw [decide_eq_true z] at c; cases c
        refine ⟨_, rfl, _, hD12, by rw [List.length_map, sizeLine_eq]; have := List.length_filter_le (fun x => decide (x ∉ bk.map (·.1))) ((signs a10).take j); rw [List.length_take, a10_len] at this; omega, fun c0 u e => ?_, ?_⟩
        · rw [upd_ne (ne_of_none e hD2)]; exact sm _ _ e
        · rw [filt_yes hxj (decide_eq_true c'), SL, upd_same, List.map_append]; rfl
      · have c' : x ∈ bk.map (·.1) := Classical.byContradiction fun z => c (by rw [decide_eq_false z]; rfl)
        rw [filt_no hxj (decide_eq_false fun z => z c')]
        exact ⟨sm, hD12⟩
    rintro H12 ⟨sm12, hD12⟩
    rw [List.length_map, List.take_length] at hD12
    obtain ⟨x, y, r0, efs, nx, _, wx, _, _⟩ := a10_left (ss := bk.map (·.1)) (by rw [List.length_map]; exact lb)
    rw [efs] at hD12
    have s12 := Same.trans g11 sm12
    refine ⟨D2, _, 0, V.str x, rfl, rfl, hD12.sq, atI_nat (j := 0) rfl, ?_⟩
    have hW12 := s12 _ _ hW10
    have hb12 := s12 _ _ hb10
    have hF12 := s12 _ _ e10
    have wa12 := wa10.same s12
    have hp12 := hp10.same s12
    have b12 := b10.trans (But.of s12)
    have hR12 := hR10.same s12
    refine ⟨_, rfl, W, _, _, _, rfl, rfl, SqL.of hW12, atI_nat (j := 0) rfl, b, kvs, rfl, hb12, _, _, rfl, rfl, _, rfl, ite2 (fun c => ?_) (fun c => ?_)⟩
    · have l6 : bk.length < 6 := by have := of_decide_eq_true c; rw [lkv] at this; omega
      refine ⟨_, rfl, .inl ⟨rfl, _, SqL.of hF12⟩, _, rfl, W, _, _, _, rfl, rfl, SqL.of hW12, atI_nat (j := 0) rfl, b, kvs, rfl, hb12, fun H13 pL tsL s13 npL ntL nmem hpL hprL => ?_⟩
      refine ⟨_, rfl, [], .nil, List.nodup_nil, fun H14 T1 E1 g14 nT1 nE1 e14 f14 => ⟨by show 2 ≤ sizeLine; decide, fun T2 hT2 => ⟨by show 1 ≤ sizeLine; decide, fun L3 hL3 => ?_⟩⟩⟩
      have g15 := Same.new (o := .tup [.str x, .ref T1]) hT2
      have e15 : (L2.upd H14 T2 (.tup [.str x, .ref T1])) T2 = some (.tup [.str x, .ref T1]) := upd_same
      generalize L2.upd H14 T2 (.tup [.str x, .ref T1]) = H15 at g15 e15 hL3
      have g16 := Same.new (o := .lst [.ref T2]) hL3
      have e16 : (L2.upd H15 L3 (.lst [.ref T2])) L3 = some (.lst [.ref T2]) := upd_same
      generalize L2.upd H15 L3 (.lst [.ref T2]) = H16 at g16 e16
      have s1316 := Same.trans (Same.trans g14 g15) g16
      have ltsl : tsL.length ≤ 6 := by rw [paired_len hprL, lkv]; exact lb
      refine ⟨pL, L3, _, _, rfl, rfl, s1316 _ _ hpL, e16, by rw [List.length_map, sizeLine_eq]; show _ + 1 ≤ _; omega, fun L4 hL4 => ?_⟩
      have g17 := Same.new (o := .lst (tsL.map V.ref ++ [.ref T2])) hL4
      have e17 : (L2.upd H16 L4 (.lst (tsL.map V.ref ++ [.ref T2]))) L4 = some (.lst ((tsL ++ [T2]).map V.ref)) := by rw [upd_same, List.map_append]; rfl
      generalize L2.upd H16 L4 (.lst (tsL.map V.ref ++ [.ref T2])) = H17 at g17 e17
      have s1317 := Same.trans s1316 g17
      have e15' : SqT K H17 T2 [kV (Sum.inr x), V.ref T1] := SqT.of (g17 _ _ (g16 _ _ e15))
      have hpp : Paired (fun p (kv : Key × V) => SqT K H17 p [kV kv.1, kv.2]) (tsL ++ [T2]) (kvs ++ [((Sum.inr x, V.ref T1) : Key × V)]) := pair_app (paired_imp (fun _ _ e => SqT.of (s1317 _ _ e)) hprL) (by exact e15')
      refine ⟨L4, tsL ++ [T2], kvs ++ [((Sum.inr x, V.ref T1) : Key × V)], rfl, SqL.of e17, hpp, fun B2 hB2 => ?_⟩
      have s1417 := Same.trans (Same.trans g15 g16) g17
      have hR17 : Rows H17 (kvs ++ [((Sum.inr x, V.ref T1) : Key × V)]) (bk ++ [((x, "done", []) : RowD)]) := (hR12.same (Same.trans s13 s1317)).app ⟨T1, E1, rfl, s1417 _ _ e14, f14.same s1417⟩
      have wf' := wf.more nx wx l6
      rw [merge_id2 (by rw [hR17.keys, show ((bk ++ [((x, "done", []) : RowD)]).map fun r => (Sum.inr r.1 : Key)) = ((bk ++ [((x, "done", []) : RowD)]).map (·.1)).map Sum.inr by rw [List.map_map]; rfl]; exact inr_nd' wf'.nd)]
      generalize kvs ++ [((Sum.inr x, V.ref T1) : Key × V)] = kv2 at hR17
      have g18 := Same.new (o := .dK kv2) hB2
      have e18 : (L2.upd H17 B2 (.dK kv2)) B2 = some (.dK kv2) := upd_same
      generalize L2.upd H17 B2 (.dK kv2) = H18 at g18 e18
      have s1218 := Same.trans (Same.trans s13 s1317) g18
      refine ⟨_, rfl, W, _, _, _, rfl, rfl, SqL.of (s1218 _ _ hW12), atI_nat (j := 1) rfl, by show 2 ≤ sizeLine; decide, fun W2 hW2 => ?_⟩
      have g19 := Same.new (o := .lst [.ref B2, .str st]) hW2
      have e19 : (L2.upd H18 W2 (.lst [.ref B2, .str st])) W2 = some (.lst [.ref B2, .str st]) := upd_same
      generalize L2.upd H18 W2 (.lst [.ref B2, .str st]) = H19 at g19 e19
      have s1219 := Same.trans s1218 g19
      have hF19 := s1219 _ _ hF12
      have wa19 : WsAt H19 ws (ls3 ++ [((W2, bk ++ [((x, "done", []) : RowD)], st) : Wor)]) := (wa12.same s1219).app (WsAt.one ⟨B2, e19, kv2, g19 _ _ e18, hR17.same (Same.trans g18 g19)⟩ wf')
      refine ⟨F2, _, _, rfl, rfl, hF19, by rw [refsW, List.length_map, List.length_map, sizeLine_eq]; omega, ?_⟩
      have hp19 := hp12.same s1219
      have nF2p : F2 ≠ p := hp.ne nF2H
      refine ⟨_, rfl, k _ F2 (ls3 ++ [((W2, bk ++ [((x, "done", []) : RowD)], st) : Wor)]) t5 (But.ofL nF2H (b12.trans (But.of s1219))) (hp19.upd nF2p.symm) (by omega) nF2H (by rw [upd_same]; simp [refsW]) (by rw [List.length_append]; show _ + 1 ≤ 20; omega) ?_⟩
      exact wa19.off (S := [F2]) (fun c m => by rw [List.mem_singleton.mp m]; exact refs_noW hF19) fun c u n e => by rw [upd_ne (by simpa using n)]; exact e
    · exact ⟨_, rfl, k _ F2 ls3 t5 b12 hp12 (by omega) nF2H hF12 (by omega) wa12⟩
end
end D1
end L2
/-! the law's compared_right -/
namespace L2
namespace D1
open PySem PySem.Spec PyProof.Rows D2 X3 Gd
abbrev sCompR : Stmt := top 54
def spCompR : Sp := fun vs H Q _ => ∃ (p W L : Addr) (bk : Bk) (st : Str) (ws : List Str) (t : Int), vs = [.ref p, .ref W, .ref L] ∧ Purse H p t ∧ WorldAt H W bk st ∧ SL H L ws ∧ L ≠ p ∧ WF bk st ws ∧ WsOk ws ∧ t < 2 ^ 23 ∧
  ∀ (H' : Hp) (t' : Int), But p H H' → Purse H' p t' → t' ≤ t + 90000 → Q (.bl true) H'
theorem dsym {α : Type} [DecidableEq α] (a b : α) : decide (a = b) = decide (b = a) := by
  by_cases h : a = b
  · rw [decide_eq_true h, decide_eq_true h.symm]
  · rw [decide_eq_false h, decide_eq_false fun e => h e.symm]
theorem more_ne {bk : Bk} {x y : Str} (nx : x ∉ bk.map (·.1)) (n : x ≠ y) : ¬ ordB (bk ++ [((x, "done", []) : RowD)]) = ordB (bk ++ [((y, "done", []) : RowD)]) := fun e => by
  have e1 := congrArg (fun b : Bk => b.map (·.1)) e
  rw [ordB_names, ordB_names] at e1
  have m : x ∈ srt ((bk ++ [((y, "done", []) : RowD)]).map (·.1)) := by
    rw [← e1]
    refine (srt_perm _).mem_iff.mpr ?_
    rw [List.map_append]; simp
  have m := (srt_perm _).mem_iff.mp m
  rw [List.map_append] at m
  rcases List.mem_append.mp m with z | z
  · exact nx z
  · exact n (by simpa using z)
/-- what is due: the same book, the same start -/
def tDue : TE := fun σ H Q => ∃ (Wo W : Addr) (bo bk : Bk) (so st : Str), σ[4]? = some (some (.ref Wo)) ∧ σ[1]? = some (some (.ref W)) ∧ WorldAt H Wo bo so ∧ WorldAt H W bk st ∧ BOk bo ∧ BOk bk ∧ Q (.bl (decide (ordB bo = ordB bk) && decide (so = st))) H
theorem dec_str (a b : Str) : decide (V.str a = V.str b) = decide (a = b) := by
  by_cases h : a = b
  · rw [h, decide_eq_true rfl, decide_eq_true rfl]
  · rw [decide_eq_false h, decide_eq_false fun z => h (V.str.inj z)]
theorem due_imp {K : PySem.W.Frag} (σ : L2.St) (H : Hp) (Q : VK) (h : tDue σ H Q) : tAndV (tOp rEqBk (tOp (rIxL K) (tVar 4) (tC (.int 0))) (tOp (rIxL K) (tVar 1) (tC (.int 0)))) (tOp rEq (tOp (rIxL K) (tVar 4) (tC (.int 1))) (tOp (rIxL K) (tVar 1) (tC (.int 1)))) σ H Q := by
  obtain ⟨Wo, W, bo, bk, so, st, h4, h1, ⟨bO, eO, hO⟩, ⟨b, eW, hb⟩, o1, o2, q⟩ := h
  refine ⟨_, h4, Wo, _, _, _, rfl, rfl, SqL.of eO, atI_nat (j := 0) rfl, _, h1, W, _, _, _, rfl, rfl, SqL.of eW, atI_nat (j := 0) rfl, bO, b, bo, bk, rfl, rfl, hO.r, hb.r, o1, o2, _, rfl, ?_⟩
  by_cases e : ordB bo = ordB bk
  · rw [decide_eq_true e] at q ⊢
    refine iteT ⟨_, h4, Wo, _, _, _, rfl, rfl, SqL.of eO, atI_nat (j := 1) rfl, _, h1, W, _, _, _, rfl, rfl, SqL.of eW, atI_nat (j := 1) rfl, rfl, ?_⟩
    rw [dec_str]
    exact q
  · rw [decide_eq_false e] at q ⊢
    exact iteF q
section
variable {P : Program} {w : World} {K : PySem.W.Frag} {mg : Str → Option Value} {base : Heap} {C : Addr}
abbrev COthers (P : Program) (w : World) (K : PySem.W.Frag) (mg : Str → Option Value) (base : Heap) := Cal P w K mg base "_law_others" 6 ["_law_purse_here", "_law_world_here", "_law_words_here"] spOthers
abbrev cpN : List Str := ["_law_purse_here", "_law_world_here", "_law_words_here", "_law_made", "_law_other", "_law_due", "_law_late", "_law_told", "_law_fresh", "_law_some", "_law_letter", "_law_word_here"]
theorem scCp : FnScope cpN ["_law_purse_here", "_law_world_here", "_law_words_here"] (defScope sCompR) := ⟨rfl, rfl, rfl, by decide +kernel, rfl, by decide +kernel, by decide +kernel⟩
theorem ok_compr {f : Addr} {fd : FuncData} (F : Fun K "_law_compared_right" "_law_compared_right" sCompR f fd) (T : Free3 mg) (D : DTxt K mg C) (MI : CMInit P w K mg base C) (EV : EqV P w K mg base C) (CL : CLDesk P w K mg base C) (CO : COthers P w K mg base) (CM : CMixed2 P w K mg base) (CE : CExact P w K mg base 5) :
    FnOk P w K mg base CX0 8 f fd ["_law_purse_here", "_law_world_here", "_law_words_here"] spCompR := by
  obtain ⟨fI, fdI, mI, FI, bI⟩ := MI
  refine F.ok scCp (fun vs H Q E h => ?_) (fun cdv A outer s H vs Q E hr h => ?_)
  · obtain ⟨p, W, L, bk, st, ws, t, rfl, _⟩ := h; rfl
  · obtain ⟨p, W, L, bk, st, ws, t, rfl, hp, hWo, hL, nL, wf, wok, t1, k⟩ := h
    have hu := hu_of hr
    have hu4 : ∀ {X : Cx}, Room 7 X.A → X.A.units + 4 < cLine := fun hr => Nat.lt_of_le_of_lt (Nat.add_le_add_left (by decide : 4 ≤ 64) _) hr.units
    refine ⟨_, pss_cons (ps_set (i := 3) scCp.nd rfl (Or.inl rfl) (pe_cal CL (hr.mono (by decide)) rfl (pa_cons (pv 1) pa_nil)))
      (pss_cons (ps_for PassesOwn.never rfl (pi_list (pe_cal CO (hr.mono (by decide)) rfl (pa_cons (pv 0) (pa_cons (pv 1) (pa_cons (pv 2) pa_nil))))) (pg_name (i := 4) scCp.nd rfl (Or.inl rfl))
        (pss_cons (ps_par (i := 5) (j := 6) rfl scCp.nd rfl rfl (by decide) rfl rfl (pa_cons (pe_imp (t' := tDue) (pe_and (pe_cmpR (op_eqBk (hu4 hr)) (pe_ix ix_list (pv 4) pe_int (fun _ _ => rfl)) (pe_ix ix_list (pv 1) pe_int (fun _ _ => rfl)) (nomark _)) (pe_one (pe_cmpR op_eq (pe_ix ix_list (pv 4) pe_int (fun _ _ => rfl)) (pe_ix ix_list (pv 1) pe_int (fun _ _ => rfl)) (nomark _)))) due_imp)
            (pa_cons (pe_make mI FI (hr.mono (by decide)) rfl D.mgC bI .nil pass0 (pa_cons (pe_cal CM (hr.mono (by decide)) rfl (pa_cons (pv 0) (pa_cons (pe_ix ix_list (pv 4) pe_int (fun _ _ => rfl)) pa_nil))) (pa_cons (pe_ix ix_list (pv 4) pe_int (fun _ _ => rfl)) pa_nil))) pa_nil)) (by rfl))
        (pss_one (ps_for PassesOwn.never rfl (pi_tup (pe_tup (pa_cons (pe_cmpR (Gd.eqV EV (hr.mono (by decide))) (pv 3) (pv 6) (nomark _)) (pa_cons (pe_cmpR (Gd.eqV EV (hr.mono (by decide))) (pv 6) (pv 3) (nomark _)) (pa_cons (pe_not (pe_cmpR (Gd.neV EV (hr.mono (by decide))) (pv 3) (pv 6) (nomark _))) (pa_cons (pe_not (pe_cmpR (Gd.neV EV (hr.mono (by decide))) (pv 6) (pv 3) (nomark _))) pa_nil)))))) (pg_name (i := 7) scCp.nd rfl (Or.inl rfl))
          (pss_one (ps_if (pt_not (pt_val (pe_cal CE (hr.mono (by decide)) rfl (pa_cons (pv 7) (pa_cons (pv 5) pa_nil))))) (pss_one (ps_ret pe_bl)) pss_nil))))))
      (pss_cons (ps_set (i := 8) scCp.nd rfl (Or.inl rfl) (pe_slice sl_list (pe_lc (own := [("_law_letter", 10)]) (g := gName 10) (tt := tTest (tDNotIn (tVar 10) (tOp (rIxL K) (tVar 1) (tC (.int 0))))) (te := tVar 10) rfl scCp.nd (pi_list (pe_callTy (call_listStr rfl) (by rfl) T.list (by decide +kernel) (pa_cons pe_str pa_nil)))
          (blkOk_by (N := cpN) (sc := defScope sCompR) (by decide +kernel)) (fun _ _ _ _ _ => pg_name (i := 10) scCp.nd rfl (Or.inl rfl)) (fun _ _ _ _ _ => pts_one (pt_cmp (pc_dnotin hu (pv 10) (pe_ix ix_list (pv 1) pe_int (fun _ _ => rfl))) rfl)) (fun _ _ _ _ _ => pv 10)) po_none (po_some pe_int)))
      (pss_cons (ps_if (pt_cmpR op_lt (pe_callB call_lenD (by rfl) T.len PySem.boot_len (pa_cons (pe_ix ix_list (pv 1) pe_int (fun _ _ => rfl)) pa_nil)) pe_int (nomark _))
          (pss_cons (ps_setLc (i := 9) (own := [("_law_word_here", 11)]) (g := gName 11) (tt := tYes) (te := tMake C (spDInit C) [] E0 (tCons (tCB (fun xs H Q => ∃ (a : Addr) (ps : List Addr) (kvs : List (Key × V)), xs = [.ref a] ∧ SqL K H a (ps.map V.ref) ∧ Paired (fun p kv => SqT K H p [kV kv.1, kv.2]) ps kvs ∧ ∀ p, H p = none → Q (.ref p) (L2.upd H p (.dK (mergeK [] kvs)))) (tCons (tOp rCat (LiI.tListItems (tOp (rIxL K) (tVar 1) (tC (.int 0)))) (tLst (tCons (tTup (tCons (tVar 11) (tCons (tRow "done" []) tNil))) tNil))) tNil)) (tCons (tOp (rIxL K) (tVar 1) (tC (.int 1))) tNil))) rfl scCp.nd rfl rfl (sw_true rfl rfl rfl rfl) (pi_list (pv 8))
            (blkOk_by (N := cpN) (sc := defScope sCompR) (by decide +kernel)) (fun _ _ _ _ _ => pg_name (i := 11) scCp.nd rfl (Or.inl rfl)) (fun _ _ _ _ _ => pts_nil)
            (fun _ _ _ _ _ => pe_make mI FI (hr.mono (by decide)) rfl D.mgC bI .nil pass0 (pa_cons (pe_callTy (call_dictP rfl) (by rfl) T.dict (by decide +kernel) (pa_cons (pe_op op_cat (LiI.pe_listItems rfl (pe_ix ix_list (pv 1) pe_int (fun _ _ => rfl)) (by rfl) T.list (by decide +kernel)) (pe_lst (pa_cons (pe_tup (pa_cons (pv 11) (pa_cons row0 pa_nil))) pa_nil))) pa_nil)) (pa_cons (pe_ix ix_list (pv 1) pe_int (fun _ _ => rfl)) pa_nil))))
          (pss_one (ps_if (PW.pt (pw_or (pt_cmpR (Gd.eqV EV (hr.mono (by decide))) (pe_ix ix_list (pv 9) pe_int (fun _ _ => rfl)) (pe_ix ix_list (pv 9) pe_int (fun _ _ => rfl)) (nomark _)) (pw_or1 (pt_not (pt_cmpR (Gd.neV EV (hr.mono (by decide))) (pe_ix ix_list (pv 9) pe_int (fun _ _ => rfl)) (pe_ix ix_list (pv 9) pe_int (fun _ _ => rfl)) (nomark _)))))) (pss_one (ps_ret pe_bl)) pss_nil))) pss_nil)
      (pss_cons (ps_for PassesOwn.never rfl (pi_tup (pe_tup (pa_cons pe_non (pa_cons pe_int (pa_cons pe_bl (pa_cons pe_str (pa_cons (pe_lst pa_nil) (pa_cons (pe_tup pa_nil) (pa_cons pe_dnewK (pa_cons (pe_callTy call_dictD (by rfl) T.dict (by decide +kernel) (pa_cons (pe_ix ix_list (pv 1) pe_int (fun _ _ => rfl)) pa_nil)) (pa_cons (pe_lst (pa_cons (pe_ix ix_list (pv 1) pe_int (fun _ _ => rfl)) (pa_cons (pe_ix ix_list (pv 1) pe_int (fun _ _ => rfl)) pa_nil))) (pa_cons (pe_tup (pa_cons (pe_ix ix_list (pv 1) pe_int (fun _ _ => rfl)) (pa_cons (pe_ix ix_list (pv 1) pe_int (fun _ _ => rfl)) pa_nil))) (pa_cons (pe_ix ix_list (pv 1) pe_int (fun _ _ => rfl)) pa_nil))))))))))))) (pg_name (i := 4) scCp.nd rfl (Or.inl rfl))
        (pss_one (ps_if (PW.pt (pw_or (pt_cmpR (Gd.eqV EV (hr.mono (by decide))) (pv 3) (pv 4) (nomark _)) (pw_or (pt_not (pt_cmpR (Gd.neV EV (hr.mono (by decide))) (pv 3) (pv 4) (nomark _))) (pw_or1 (pt_cmpR (Gd.eqO EV (hr.mono (by decide))) (pv 4) (pv 3) (nomark _)))))) (pss_one (ps_ret pe_bl)) pss_nil)))
      (pss_one (ps_ret pe_bl)))))), ?_⟩
    have ok := wf.dok wok
    have hpT : ∀ {G : Hp} {t0 : Int}, Purse G p t0 → ∃ xs : List V, G p = some (.lst xs) := fun h => by obtain ⟨_, _, _, e, _⟩ := h; exact ⟨_, e⟩
    refine ⟨_, rfl, W, bk, st, rfl, hWo, ok, fun H1 q s1 nq hq => ?_⟩
    have hp1 := hp.same s1
    refine ⟨_, rfl, _, rfl, _, rfl, p, W, L, bk, st, ws, t, rfl, hp1, hWo.same s1, s1 _ _ hL, nL, wf, wok, by omega, fun H2 R ls t2 b12 hp2 tt2 nR hR2 lls wa2 => ⟨R, rfl, ⟨_, SqL.of hR2⟩, ?_⟩⟩
    have nRp := hp1.ne nR
    obtain ⟨xs2, ex2⟩ := hpT hp1
    have hq2 : DeskAt C H2 q bk st := hq.but b12 ex2
    have hW2 : WorldAt H2 W bk st := (hWo.same s1).but hp1 b12
    have b02 := (But.of s1).trans b12
    refine for_list (K := K) (a := R) (xs := refsW ls) (fun i σ H' => ∃ (v4 v5 v6 v7 : Option V) (t' : Int), σ = [some (.ref p), some (.ref W), some (.ref L), some (.ref q), v4, v5, v6, v7, none, none, none, none] ∧ But p H2 H' ∧ Purse H' p t' ∧ t' ≤ t2 + 4000 * i)
      ⟨none, none, none, none, t2, rfl, But.refl _ _, hp2, by omega⟩ (fun i σ H' _ ⟨_, _, _, _, _, _, z, _⟩ => SqL.of (z _ _ nRp hR2)) ?_ ?_
    · rintro i x0 σ H3 hx ⟨v4, v5, v6, v7, t3, rfl, b23, hp3, tt3⟩
      obtain ⟨a0, ha0, rfl⟩ := get_map hx
      obtain ⟨⟨Wo, bo, so⟩, hwr, e0⟩ := get_map ha0
      have e0 : Wo = a0 := e0.symm
      subst e0
      have li : i < ls.length := (List.getElem?_eq_some_iff.mp hwr).1
      obtain ⟨wO, wfO⟩ := (wa2.but hp2 b23) _ (List.mem_of_getElem? hwr)
      have wO : WorldAt H3 Wo bo so := wO
      have wfO : WF bo so ws := wfO
      have okO := wfO.dok wok
      have hW3 := hW2.but hp2 b23
      refine ⟨Wo, W, bo, bk, so, st, rfl, rfl, wO, hW3, okO.bok, ok.bok, ?_⟩
      obtain ⟨bO, eOc, hbOc⟩ := wO.cutp hp3
      have eO := cut_le _ _ eOc
      have nWp : Wo ≠ p := fun e => by rw [e, cut_in (by simp)] at eOc; cases eOc
      refine ⟨_, rfl, _, rfl, Wo, _, _, _, rfl, rfl, SqL.of eO, atI_nat (j := 0) rfl, p, bO, bo, t3, rfl, hp3, hbOc, okO.nd, okO.len, okO.allw, by omega, fun H4 Rm cl t4 b34 hp4 tt4 nRm hBm mx => ?_⟩
      have okM := mx.dok okO
      have eo := mx.ord okO.nd okO.tk
      refine ⟨_, rfl, Wo, _, _, _, rfl, rfl, SqL.of (b34 _ _ nWp eO), atI_nat (j := 1) rfl, fun x dx hx hdx _ => ?_⟩
      have s44 : Same H4 (L2.upd (L2.upd H4 dx (.own x)) x (.ins C dx [])) := fun c u e => by rw [upd_ne (ne_of_none e hx), upd_ne (ne_of_none e hdx)]; exact e
      refine ⟨x, dx, Rm, cl, so, rfl, upd_same, (hBm.same new_le).same s44, okM, fun H5 b5 hd _ => ⟨rfl, _, _, rfl, ?_⟩⟩
      have s45 : Same H4 H5 := fun c u e => b5 _ _ (ne_of_none e hx) (s44 _ _ e)
      have b35 := b34.trans (But.of s45)
      have hp5 := hp4.same s45
      obtain ⟨xs2, ex2⟩ := hpT hp2
      have hq5 : DeskAt C H5 q bk st := hq2.but (b23.trans b35) ex2
      refine ⟨_, rfl, _, rfl, rv_desks hq5 hd ok okM ⟨_, rfl, _, rfl, rv_desks hd hq5 okM ok ⟨_, rfl, _, rfl, rv_desks hq5 hd ok okM ⟨_, rfl, _, rfl, _, rfl, rv_desks hd hq5 okM ok ⟨_, rfl, by show 4 ≤ sizeLine; decide, fun T4 hT4 => ⟨T4, rfl, ⟨_, SqT.of upd_same⟩, ?_⟩⟩⟩⟩⟩⟩
      have eA : (decide (ordB bk = ordB cl) && decide (st = so)) = (decide (ordB bo = ordB bk) && decide (so = st)) := by rw [eo, dsym (ordB bk), dsym st]
      have eB : (decide (ordB cl = ordB bk) && decide (so = st)) = (decide (ordB bo = ordB bk) && decide (so = st)) := by rw [eo]
      rw [eA, eB]
      generalize (decide (ordB bo = ordB bk) && decide (so = st)) = d
      rw [Bool.not_not]
      refine for_tup (K := K) (a := T4) (xs := [.bl d, .bl d, .bl d, .bl d]) (fun j σ H' => ∃ v7 : Option V, σ = [some (.ref p), some (.ref W), some (.ref L), some (.ref q), some (.ref Wo), some (.bl d), some (.ref x), v7, none, none, none, none] ∧ Same (L2.upd H5 T4 (.tup [.bl d, .bl d, .bl d, .bl d])) H') ⟨_, rfl, Same.refl _⟩ (fun j σ H' _ ⟨_, _, z⟩ => SqT.of (z _ _ upd_same)) ?_ ?_
      · rintro j y σ H6 hy ⟨v7, rfl, s6⟩
        have ey : y = .bl d := by
          have := List.mem_of_getElem? hy
          simpa using this
        subst ey
        exact ⟨_, rfl, _, rfl, _, _, rfl, EqX.up (m := 0) ⟨.bl d, rfl⟩ (Nat.zero_le _), fun H7 s7 => ⟨_, rfl, iteF ⟨_, rfl, Same.trans s6 s7⟩⟩⟩
      · rintro σ H6 ⟨v7, rfl, s6⟩
        have s56 := Same.trans (Same.new hT4) s6
        exact ⟨_, _, _, _, t4, rfl, (b23.trans b35).trans (But.of s56), hp5.same s56, by omega⟩
    · rintro σ H3 ⟨v4, v5, v6, v7, t3, rfl, b23, hp3, tt3⟩
      rw [show (refsW ls).length = ls.length by rw [refsW, List.length_map, List.length_map]] at tt3
      obtain ⟨xs2, ex2⟩ := hpT hp2
      have hq3 := hq2.but b23 ex2
      obtain ⟨b, hW3, kvs, hb3, hR3⟩ := hW2.but hp2 b23
      have b03 := b02.trans b23
      have lb := wf.len
      have lkv : kvs.length = bk.length := hR3.len
      refine ⟨_, rfl, by decide +kernel, fun l hl => ⟨l, rfl, ⟨_, SqL.of upd_same⟩, fun D2 hD2 => ?_⟩⟩
      have g11 := Same.new (o := .lst ((signs a10).map V.str)) hl
      have e11 : SL (L2.upd H3 l (.lst ((signs a10).map V.str))) l (signs a10) := upd_same
      refine lc_list (K := K) (a := l) (xs := (signs a10).map V.str) (fun j H' => Same (L2.upd H3 l (.lst ((signs a10).map V.str))) H' ∧ SL H' D2 (((signs a10).take j).filter fun x => decide (x ∉ bk.map (·.1)))) ⟨Same.new hD2, upd_same⟩ (fun j H' _ z => (e11.same z.1).sq) ?_ ?_
      · rintro j v H12 hx0 ⟨sm, hD12⟩
        obtain ⟨x, hxj, rfl⟩ := get_map hx0
        refine ⟨rfl, _, rfl, _, rfl, W, _, _, _, rfl, rfl, SqL.of (sm _ _ (g11 _ _ hW3)), atI_nat (j := 0) rfl, b, _, rfl, .inl ⟨kvs, .inr x, .inl (sm _ _ (g11 _ _ hb3)), rfl, rfl⟩, _, rfl, ?_⟩
        rw [hR3.isSome]
        refine ite2 (fun c => ?_) (fun c => ?_)
        · have c' : x ∉ bk.map (·.1) := fun z => by rw [decide_eq_true z] at c; cases c
          refine ⟨_, rfl, _, hD12, by rw [List.length_map, sizeLine_eq]; have := List.length_filter_le (fun x => decide (x ∉ bk.map (·.1))) ((signs a10).take j); rw [List.length_take, a10_len] at this; omega, fun c0 u e => ?_, ?_⟩
          · rw [upd_ne (ne_of_none e hD2)]; exact sm _ _ e
          · rw [filt_yes hxj (decide_eq_true c'), SL, upd_same, List.map_append]; rfl
        · have c' : x ∈ bk.map (·.1) := Classical.byContradiction fun z => c (by rw [decide_eq_false z]; rfl)
          rw [filt_no hxj (decide_eq_false fun z => z c')]
          exact ⟨sm, hD12⟩
      rintro H12 ⟨sm12, hD12⟩
      rw [List.length_map, List.take_length] at hD12
      obtain ⟨x, y, r0, efs, nx, ny, wx, wy, nxy⟩ := a10_left (ss := bk.map (·.1)) (by rw [List.length_map]; exact lb)
      rw [efs] at hD12
      have s312 := Same.trans g11 sm12
      refine ⟨_, rfl, D2, _, rfl, hD12.sq, fun q7 hq7 => ?_⟩
      rw [cutV_map, cutL_to _ (by decide), show (x :: y :: r0).take (2 : Int).toNat = [x, y] from rfl]
      have g13 := Same.new (o := .lst ([x, y].map V.str)) hq7
      have e13 : SL (L2.upd H12 q7 (.lst ([x, y].map V.str))) q7 [x, y] := upd_same
      generalize L2.upd H12 q7 (.lst ([x, y].map V.str)) = H13 at g13 e13
      have s313 := Same.trans s312 g13
      have hW13 := s313 _ _ hW3
      have hb13 := s313 _ _ hb3
      have hR13 := hR3.same s313
      have hq13 := hq3.same s313
      have hp13 := hp3.same s313
      have b013 := b03.trans (But.of s313)
      clear hl hD2 g11 e11 sm12 hD12 hW3 hb3 hR3 hq3 hp3
      refine ⟨_, rfl, W, _, _, _, rfl, rfl, SqL.of hW13, atI_nat (j := 0) rfl, b, kvs, rfl, hb13, _, _, rfl, rfl, _, rfl, ite2 (fun c => ?_) (fun c => ?_)⟩
      · have l6 : bk.length < 6 := by have := of_decide_eq_true c; rw [lkv] at this; omega
        refine ⟨_, rfl, q7, rfl, ⟨_, e13.sq⟩, fun M hM => ?_⟩
        refine lc_list (K := K) (a := q7) (xs := [x, y].map V.str) (fun j H' => Same H13 H' ∧ ∃ ds : List Addr, H' M = some (.lst (ds.map V.ref)) ∧ Paired (fun d z => DeskAt C (cut [M] H') d (bk ++ [((z, "done", []) : RowD)]) st) ds ([x, y].take j)) ⟨Same.new hM, [], upd_same, .nil⟩ (fun j H' _ z => (e13.same z.1).sq) ?_ ?_
        · rintro j v H14 hx0 ⟨sm, ds, hM14, hpr⟩
          obtain ⟨z, hzj, rfl⟩ := get_map hx0
          have zz : z ∉ bk.map (·.1) ∧ Wd z := by
            have := List.mem_of_getElem? hzj
            simp only [List.mem_cons, List.not_mem_nil, or_false] at this
            rcases this with rfl | rfl
            · exact ⟨nx, wx⟩
            · exact ⟨ny, wy⟩
          refine ⟨rfl, ?_⟩
          dsimp only [tYes]
          rw [if_pos rfl]
          refine ⟨_, rfl, W, _, _, _, rfl, rfl, SqL.of (sm _ _ hW13), atI_nat (j := 0) rfl, b, kvs, rfl, sm _ _ hb13, fun H15 pL tsL s15 npL ntL nmem hpL hprL => ?_⟩
          refine ⟨_, rfl, [], .nil, List.nodup_nil, fun H16 T1 E1 g16 nT1 nE1 e16 f16 => ⟨by show 2 ≤ sizeLine; decide, fun T2 hT2 => ⟨by show 1 ≤ sizeLine; decide, fun L3 hL3 => ?_⟩⟩⟩
          have g17 := Same.new (o := .tup [.str z, .ref T1]) hT2
          have e17 : (L2.upd H16 T2 (.tup [.str z, .ref T1])) T2 = some (.tup [.str z, .ref T1]) := upd_same
          generalize L2.upd H16 T2 (.tup [.str z, .ref T1]) = H17 at g17 e17 hL3
          have g18 := Same.new (o := .lst [.ref T2]) hL3
          have e18 : (L2.upd H17 L3 (.lst [.ref T2])) L3 = some (.lst [.ref T2]) := upd_same
          generalize L2.upd H17 L3 (.lst [.ref T2]) = H18 at g18 e18
          have s1518 := Same.trans (Same.trans g16 g17) g18
          have ltsl : tsL.length ≤ 6 := by rw [paired_len hprL, lkv]; exact lb
          refine ⟨pL, L3, _, _, rfl, rfl, s1518 _ _ hpL, e18, by rw [List.length_map, sizeLine_eq]; show _ + 1 ≤ _; omega, fun L4 hL4 => ?_⟩
          have g19 := Same.new (o := .lst (tsL.map V.ref ++ [.ref T2])) hL4
          have e19 : (L2.upd H18 L4 (.lst (tsL.map V.ref ++ [.ref T2]))) L4 = some (.lst ((tsL ++ [T2]).map V.ref)) := by rw [upd_same, List.map_append]; rfl
          generalize L2.upd H18 L4 (.lst (tsL.map V.ref ++ [.ref T2])) = H19 at g19 e19
          have s1519 := Same.trans s1518 g19
          have e17' : SqT K H19 T2 [kV (Sum.inr z), V.ref T1] := SqT.of (g19 _ _ (g18 _ _ e17))
          have hpp : Paired (fun p (kv : Key × V) => SqT K H19 p [kV kv.1, kv.2]) (tsL ++ [T2]) (kvs ++ [((Sum.inr z, V.ref T1) : Key × V)]) := pair_app (paired_imp (fun _ _ e => SqT.of (s1519 _ _ e)) hprL) (by exact e17')
          refine ⟨L4, tsL ++ [T2], kvs ++ [((Sum.inr z, V.ref T1) : Key × V)], rfl, SqL.of e19, hpp, fun B2 hB2 => ?_⟩
          have s1619 := Same.trans (Same.trans g17 g18) g19
          have s1319 := Same.trans sm (Same.trans s15 s1519)
          have hR19 : Rows H19 (kvs ++ [((Sum.inr z, V.ref T1) : Key × V)]) (bk ++ [((z, "done", []) : RowD)]) := (hR13.same s1319).app ⟨T1, E1, rfl, s1619 _ _ e16, f16.same s1619⟩
          have wf' := wf.more zz.1 zz.2 l6
          rw [merge_id2 (by rw [hR19.keys, show ((bk ++ [((z, "done", []) : RowD)]).map fun r => (Sum.inr r.1 : Key)) = ((bk ++ [((z, "done", []) : RowD)]).map (·.1)).map Sum.inr by rw [List.map_map]; rfl]; exact inr_nd' wf'.nd)]
          generalize kvs ++ [((Sum.inr z, V.ref T1) : Key × V)] = kv2 at hR19
          have g20 := Same.new (o := .dK kv2) hB2
          have e20 : (L2.upd H19 B2 (.dK kv2)) B2 = some (.dK kv2) := upd_same
          generalize L2.upd H19 B2 (.dK kv2) = H20 at g20 e20
          have s1320 := Same.trans s1319 g20
          have s1420 := Same.trans (Same.trans s15 s1519) g20
          refine ⟨_, rfl, W, _, _, _, rfl, rfl, SqL.of (s1320 _ _ hW13), atI_nat (j := 1) rfl, fun qd dx hqd hdx _ => ?_⟩
          have s44 : Same H20 (L2.upd (L2.upd H20 dx (.own qd)) qd (.ins C dx [])) := fun c u e => by rw [upd_ne (ne_of_none e hqd), upd_ne (ne_of_none e hdx)]; exact e
          refine ⟨qd, dx, B2, bk ++ [((z, "done", []) : RowD)], st, rfl, upd_same, ⟨kv2, s44 _ _ e20, hR19.same (Same.trans g20 s44)⟩, wf'.dok wok, fun H21 b5 hd _ => ⟨rfl, ?_⟩⟩
          have s21 : Same H20 H21 := fun c u e => b5 _ _ (ne_of_none e hqd) (s44 _ _ e)
          have s1421 := Same.trans s1420 s21
          have hM21 := s1421 _ _ hM14
          have lds : ds.length ≤ 2 := by rw [paired_len hpr, List.length_take]; exact Nat.min_le_right _ _
          refine ⟨_, hM21, by rw [List.length_map, sizeLine_eq]; omega, fun c u e => ?_, ds ++ [qd], by rw [upd_same, List.map_append]; rfl, ?_⟩
          · rw [upd_ne (ne_of_none e hM)]; exact s1421 _ _ (sm _ _ e)
          · rw [cut_upd (by simp), take_succ_get hzj]
            exact pair_app (paired_imp (fun d z e => e.same (cut_same s1421)) hpr) (hd.but (T := M) (fun c u n e => by rw [cut_out (by simpa using n)]; exact e) hM21)
        rintro H14 ⟨sm, ds, hM14, hpr⟩
        obtain ⟨d1, d2, rfl, h1, h2⟩ : ∃ d1 d2, ds = [d1, d2] ∧ DeskAt C H14 d1 (bk ++ [((x, "done", []) : RowD)]) st ∧ DeskAt C H14 d2 (bk ++ [((y, "done", []) : RowD)]) st := by
          cases hpr with
          | cons h1 t1 => cases t1 with
            | cons h2 t2 => cases t2; exact ⟨_, _, rfl, h1.same cut_le, h2.same cut_le⟩
        have k1 := (wf.more nx wx l6).dok wok
        have k2 := (wf.more ny wy l6).dok wok
        have hWZ := sm _ _ hW13
        have hbZ := sm _ _ hb13
        have hqZ := hq13.same sm
        have bZ := b013.trans (But.of sm)
        have hpZ := hp13.same sm
        refine ⟨_, rfl, M, _, _, _, rfl, rfl, SqL.of hM14, atI_nat (j := 0) rfl, _, rfl, M, _, _, _, rfl, rfl, SqL.of hM14, atI_nat (j := 1) rfl, rv_desks h1 h2 k1 k2 ?_⟩
        rw [decide_eq_false (more_ne nx nxy)]
        refine ⟨_, rfl, iteF ?_⟩
        refine ⟨_, rfl, M, _, _, _, rfl, rfl, SqL.of hM14, atI_nat (j := 1) rfl, _, rfl, M, _, _, _, rfl, rfl, SqL.of hM14, atI_nat (j := 0) rfl, rv_desks h2 h1 k2 k1 ?_⟩
        rw [decide_eq_false (more_ne ny (Ne.symm nxy))]
        refine ⟨_, rfl, iteF ?_⟩
        clear hpr hM14 h1 h2 k1 k2
        refine ⟨by show 0 ≤ sizeLine; decide, fun N1 hN1 => ?_⟩
        have g1 := Same.new (o := .lst []) hN1
        have e1 : (L2.upd H14 N1 (.lst [])) N1 = some (.lst []) := upd_same
        generalize L2.upd H14 N1 (.lst []) = G1 at g1 e1
        refine ⟨by show 0 ≤ sizeLine; decide, fun N2 hN2 => ?_⟩
        have g2 := Same.new (o := .tup []) hN2
        have e2 : (L2.upd G1 N2 (.tup [])) N2 = some (.tup []) := upd_same
        generalize L2.upd G1 N2 (.tup []) = G2 at g2 e2
        refine fun N3 hN3 => ?_
        have g3 := Same.new (o := .dK []) hN3
        have e3 : (L2.upd G2 N3 (.dK [])) N3 = some (.dK []) := upd_same
        generalize L2.upd G2 N3 (.dK []) = G3 at g3 e3
        have z3 := Same.trans (Same.trans g1 g2) g3
        refine ⟨_, rfl, W, _, _, _, rfl, rfl, SqL.of (z3 _ _ hWZ), atI_nat (j := 0) rfl, b, kvs, rfl, .inl (z3 _ _ hbZ), fun N4 hN4 => ?_⟩
        have g4 := Same.new (o := .dK kvs) hN4
        have e4 : (L2.upd G3 N4 (.dK kvs)) N4 = some (.dK kvs) := upd_same
        generalize L2.upd G3 N4 (.dK kvs) = G4 at g4 e4
        have z4 := Same.trans z3 g4
        refine ⟨_, rfl, W, _, _, _, rfl, rfl, SqL.of (z4 _ _ hWZ), atI_nat (j := 0) rfl, _, rfl, W, _, _, _, rfl, rfl, SqL.of (z4 _ _ hWZ), atI_nat (j := 1) rfl, by show 2 ≤ sizeLine; decide, fun N5 hN5 => ?_⟩
        have g5 := Same.new (o := .lst [.ref b, .str st]) hN5
        have e5 : (L2.upd G4 N5 (.lst [.ref b, .str st])) N5 = some (.lst [.ref b, .str st]) := upd_same
        generalize L2.upd G4 N5 (.lst [.ref b, .str st]) = G5 at g5 e5
        have z5 := Same.trans z4 g5
        refine ⟨_, rfl, W, _, _, _, rfl, rfl, SqL.of (z5 _ _ hWZ), atI_nat (j := 0) rfl, _, rfl, W, _, _, _, rfl, rfl, SqL.of (z5 _ _ hWZ), atI_nat (j := 1) rfl, by show 2 ≤ sizeLine; decide, fun N6 hN6 => ?_⟩
        have g6 := Same.new (o := .tup [.ref b, .str st]) hN6
        have e6 : (L2.upd G5 N6 (.tup [.ref b, .str st])) N6 = some (.tup [.ref b, .str st]) := upd_same
        generalize L2.upd G5 N6 (.tup [.ref b, .str st]) = G6 at g6 e6
        have z6 := Same.trans z5 g6
        refine ⟨_, rfl, W, _, _, _, rfl, rfl, SqL.of (z6 _ _ hWZ), atI_nat (j := 1) rfl, by show 11 ≤ sizeLine; decide, fun N7 hN7 => ⟨N7, rfl, ⟨_, SqT.of upd_same⟩, ?_⟩⟩
        have g7 := Same.new (o := .tup [.non, .int 0, .bl true, .str "", .ref N1, .ref N2, .ref N3, .ref N4, .ref N5, .ref N6, .str st]) hN7
        have e7 : (L2.upd G6 N7 (.tup [.non, .int 0, .bl true, .str "", .ref N1, .ref N2, .ref N3, .ref N4, .ref N5, .ref N6, .str st])) N7 = some (.tup [.non, .int 0, .bl true, .str "", .ref N1, .ref N2, .ref N3, .ref N4, .ref N5, .ref N6, .str st]) := upd_same
        generalize L2.upd G6 N7 (.tup [.non, .int 0, .bl true, .str "", .ref N1, .ref N2, .ref N3, .ref N4, .ref N5, .ref N6, .str st]) = G7 at g7 e7
        have z7 := Same.trans z6 g7
        have hq7 := hqZ.same z7
        have y6 := g7
        have y5 := Same.trans g6 y6
        have y4 := Same.trans g5 y5
        have y3 := Same.trans g4 y4
        have y2 := Same.trans g3 y3
        have y1 := Same.trans g2 y2
        have all : ∀ y ∈ ([.non, .int 0, .bl true, .str "", .ref N1, .ref N2, .ref N3, .ref N4, .ref N5, .ref N6, .str st] : List V), ∃ T0 ∈ kinds, TyOf K G7 y (.type T0) := by
          simp only [List.mem_cons, List.not_mem_nil, or_false, forall_eq_or_imp, forall_eq]
          exact ⟨⟨"NoneType", by decide, .non⟩, ⟨"int", by decide, .int 0⟩, ⟨"bool", by decide, .bl true⟩, ⟨"str", by decide, .str ""⟩, ⟨"list", by decide, .lst (y1 _ _ e1)⟩, ⟨"tuple", by decide, .tup (y2 _ _ e2)⟩, ⟨"dict", by decide, .dK (y3 _ _ e3)⟩, ⟨"dict", by decide, .dK (y4 _ _ e4)⟩, ⟨"list", by decide, .lst (y5 _ _ e5)⟩, ⟨"tuple", by decide, .tup (y6 _ _ e6)⟩, ⟨"str", by decide, .str st⟩⟩
        refine for_tup (K := K) (a := N7) (xs := [.non, .int 0, .bl true, .str "", .ref N1, .ref N2, .ref N3, .ref N4, .ref N5, .ref N6, .str st]) (fun j σ H' => ∃ v4 : Option V, σ = [some (.ref p), some (.ref W), some (.ref L), some (.ref q), v4, v5, v6, v7, some (.ref q7), some (.ref M), none, none] ∧ H' = G7) ⟨_, rfl, rfl⟩ (fun j σ H' _ ⟨_, _, z⟩ => by rw [z]; exact SqT.of e7) ?_ ?_
        · rintro j y σ H' hy ⟨v4, rfl, rfl⟩
          obtain ⟨T0, hT0, ty⟩ := all y (List.mem_of_getElem? hy)
          refine ⟨_, rfl, _, rfl, rv_other EV.no hq7 ok ty hT0 ⟨_, rfl, iteF ⟨_, rfl, _, rfl, rv_other EV.no hq7 ok ty hT0 ⟨_, rfl, iteF ⟨_, rfl, _, rfl, ro_other EV.no hq7 ok ty hT0 ⟨_, rfl, iteF ⟨_, rfl, rfl⟩⟩⟩⟩⟩⟩⟩
        · rintro σ H' ⟨v4, rfl, rfl⟩
          exact k _ t3 (bZ.trans (But.of z7)) (hpZ.same z7) (by omega)
      · have hWZ := hW13
        have hbZ := hb13
        have hqZ := hq13
        have bZ := b013
        have hpZ := hp13
        refine ⟨by show 0 ≤ sizeLine; decide, fun N1 hN1 => ?_⟩
        have g1 := Same.new (o := .lst []) hN1
        have e1 : (L2.upd H13 N1 (.lst [])) N1 = some (.lst []) := upd_same
        generalize L2.upd H13 N1 (.lst []) = G1 at g1 e1
        refine ⟨by show 0 ≤ sizeLine; decide, fun N2 hN2 => ?_⟩
        have g2 := Same.new (o := .tup []) hN2
        have e2 : (L2.upd G1 N2 (.tup [])) N2 = some (.tup []) := upd_same
        generalize L2.upd G1 N2 (.tup []) = G2 at g2 e2
        refine fun N3 hN3 => ?_
        have g3 := Same.new (o := .dK []) hN3
        have e3 : (L2.upd G2 N3 (.dK [])) N3 = some (.dK []) := upd_same
        generalize L2.upd G2 N3 (.dK []) = G3 at g3 e3
        have z3 := Same.trans (Same.trans g1 g2) g3
        refine ⟨_, rfl, W, _, _, _, rfl, rfl, SqL.of (z3 _ _ hWZ), atI_nat (j := 0) rfl, b, kvs, rfl, .inl (z3 _ _ hbZ), fun N4 hN4 => ?_⟩
        have g4 := Same.new (o := .dK kvs) hN4
        have e4 : (L2.upd G3 N4 (.dK kvs)) N4 = some (.dK kvs) := upd_same
        generalize L2.upd G3 N4 (.dK kvs) = G4 at g4 e4
        have z4 := Same.trans z3 g4
        refine ⟨_, rfl, W, _, _, _, rfl, rfl, SqL.of (z4 _ _ hWZ), atI_nat (j := 0) rfl, _, rfl, W, _, _, _, rfl, rfl, SqL.of (z4 _ _ hWZ), atI_nat (j := 1) rfl, by show 2 ≤ sizeLine; decide, fun N5 hN5 => ?_⟩
        have g5 := Same.new (o := .lst [.ref b, .str st]) hN5
        have e5 : (L2.upd G4 N5 (.lst [.ref b, .str st])) N5 = some (.lst [.ref b, .str st]) := upd_same
        generalize L2.upd G4 N5 (.lst [.ref b, .str st]) = G5 at g5 e5
        have z5 := Same.trans z4 g5
        refine ⟨_, rfl, W, _, _, _, rfl, rfl, SqL.of (z5 _ _ hWZ), atI_nat (j := 0) rfl, _, rfl, W, _, _, _, rfl, rfl, SqL.of (z5 _ _ hWZ), atI_nat (j := 1) rfl, by show 2 ≤ sizeLine; decide, fun N6 hN6 => ?_⟩
        have g6 := Same.new (o := .tup [.ref b, .str st]) hN6
        have e6 : (L2.upd G5 N6 (.tup [.ref b, .str st])) N6 = some (.tup [.ref b, .str st]) := upd_same
        generalize L2.upd G5 N6 (.tup [.ref b, .str st]) = G6 at g6 e6
        have z6 := Same.trans z5 g6
        refine ⟨_, rfl, W, _, _, _, rfl, rfl, SqL.of (z6 _ _ hWZ), atI_nat (j := 1) rfl, by show 11 ≤ sizeLine; decide, fun N7 hN7 => ⟨N7, rfl, ⟨_, SqT.of upd_same⟩, ?_⟩⟩
        have g7 := Same.new (o := .tup [.non, .int 0, .bl true, .str "", .ref N1, .ref N2, .ref N3, .ref N4, .ref N5, .ref N6, .str st]) hN7
        have e7 : (L2.upd G6 N7 (.tup [.non, .int 0, .bl true, .str "", .ref N1, .ref N2, .ref N3, .ref N4, .ref N5, .ref N6, .str st])) N7 = some (.tup [.non, .int 0, .bl true, .str "", .ref N1, .ref N2, .ref N3, .ref N4, .ref N5, .ref N6, .str st]) := upd_same
        generalize L2.upd G6 N7 (.tup [.non, .int 0, .bl true, .str "", .ref N1, .ref N2, .ref N3, .ref N4, .ref N5, .ref N6, .str st]) = G7 at g7 e7
        have z7 := Same.trans z6 g7
        have hq7 := hqZ.same z7
        have y6 := g7
        have y5 := Same.trans g6 y6
        have y4 := Same.trans g5 y5
        have y3 := Same.trans g4 y4
        have y2 := Same.trans g3 y3
        have y1 := Same.trans g2 y2
        have all : ∀ y ∈ ([.non, .int 0, .bl true, .str "", .ref N1, .ref N2, .ref N3, .ref N4, .ref N5, .ref N6, .str st] : List V), ∃ T0 ∈ kinds, TyOf K G7 y (.type T0) := by
          simp only [List.mem_cons, List.not_mem_nil, or_false, forall_eq_or_imp, forall_eq]
          exact ⟨⟨"NoneType", by decide, .non⟩, ⟨"int", by decide, .int 0⟩, ⟨"bool", by decide, .bl true⟩, ⟨"str", by decide, .str ""⟩, ⟨"list", by decide, .lst (y1 _ _ e1)⟩, ⟨"tuple", by decide, .tup (y2 _ _ e2)⟩, ⟨"dict", by decide, .dK (y3 _ _ e3)⟩, ⟨"dict", by decide, .dK (y4 _ _ e4)⟩, ⟨"list", by decide, .lst (y5 _ _ e5)⟩, ⟨"tuple", by decide, .tup (y6 _ _ e6)⟩, ⟨"str", by decide, .str st⟩⟩
        refine for_tup (K := K) (a := N7) (xs := [.non, .int 0, .bl true, .str "", .ref N1, .ref N2, .ref N3, .ref N4, .ref N5, .ref N6, .str st]) (fun j σ H' => ∃ v4 : Option V, σ = [some (.ref p), some (.ref W), some (.ref L), some (.ref q), v4, v5, v6, v7, some (.ref q7), none, none, none] ∧ H' = G7) ⟨_, rfl, rfl⟩ (fun j σ H' _ ⟨_, _, z⟩ => by rw [z]; exact SqT.of e7) ?_ ?_
        · rintro j y σ H' hy ⟨v4, rfl, rfl⟩
          obtain ⟨T0, hT0, ty⟩ := all y (List.mem_of_getElem? hy)
          refine ⟨_, rfl, _, rfl, rv_other EV.no hq7 ok ty hT0 ⟨_, rfl, iteF ⟨_, rfl, _, rfl, rv_other EV.no hq7 ok ty hT0 ⟨_, rfl, iteF ⟨_, rfl, _, rfl, ro_other EV.no hq7 ok ty hT0 ⟨_, rfl, iteF ⟨_, rfl, rfl⟩⟩⟩⟩⟩⟩⟩
        · rintro σ H' ⟨v4, rfl, rfl⟩
          exact k _ t3 (bZ.trans (But.of z7)) (hpZ.same z7) (by omega)
end
end D1
end L2
/-! written desks -/
namespace L2
namespace D1
open PySem PySem.Spec PyProof.Rows D2
def wdB (x : Str) : Bool := decide (1 ≤ x.length) && decide (x.length ≤ 8) && (tl x).all fun c => decide (97 ≤ c) && decide (c ≤ 122)
theorem wd_by {x : Str} (h : wdB x = true) : Wd x := by
  unfold wdB at h
  simp only [Bool.and_eq_true, decide_eq_true_eq, List.all_eq_true] at h
  exact ⟨h.1.1, h.1.2, fun c hc => h.2 c hc⟩
def dokB (bk : Bk) (st : Str) : Bool := !bk.isEmpty && decide ((bk.map (·.1)).Nodup) && decide (bk.length ≤ 60) && decide (st ∈ bk.map (·.1)) &&
  bk.all fun r => wdB r.1 && decide (r.2.2.length ≤ 60) && decide ((r.2.2.map (·.1)).Nodup) && (r.2.2.all fun t => wdB t.1 && wdB t.2 && decide (t.2 ∈ bk.map (·.1))) &&
    ((decide (r.2.1 = "done") && r.2.2.isEmpty) || ((decide (r.2.1 = "says") || decide (r.2.1 = "hears")) && !r.2.2.isEmpty))
theorem dok_by {bk : Bk} {st : Str} (h : dokB bk st = true) : DOk bk st := by
  unfold dokB at h
  simp only [Bool.and_eq_true, Bool.or_eq_true, decide_eq_true_eq, List.all_eq_true, Bool.not_eq_true'] at h
  obtain ⟨⟨⟨⟨h1, h2⟩, h3⟩, h4⟩, h5⟩ := h
  refine ⟨⟨(fun e => by rw [e] at h1; cases h1), h2, h3, fun r hr => ?_, fun r hr => (h5 r hr).1.1.1.2⟩, fun r hr => (h5 r hr).1.1.2, h4⟩
  obtain ⟨⟨⟨⟨a, b⟩, c⟩, d⟩, e⟩ := h5 r hr
  refine ⟨wd_by a, ?_, fun t ht => (d t ht).2⟩
  rcases e with ⟨e1, e2⟩ | ⟨e1, e2⟩
  · exact .inl ⟨e1, List.isEmpty_iff.mp e2⟩
  · exact .inr ⟨e1, (fun z => by rw [z] at e2; cases e2), by omega, fun t ht => ⟨wd_by (d t ht).1.1, wd_by (d t ht).1.2⟩⟩
/-- a written row -/
def tCRow (k : Str) (ts : List (Str × Str)) : TE := fun σ H Q => ∀ (H' : Hp) (T E : Addr), Same H H' → H T = none → H E = none → H' T = some (.tup [.str k, .ref E]) → TurnsAt H' E ts → Q (.ref T) H'
def trT (ts : List (Str × Str)) : List (TE × TE) := ts.map fun t => (tC (.str t.1), tC (.str t.2))
theorem trT_run (σ : L2.St) (H : Hp) : ∀ (ts : List (Str × Str)) (Q : List (V × V) → Hp → Prop), Q (ts.map fun t => (V.str t.1, V.str t.2)) H → tPairs (trT ts) σ H Q
  | [], _, q => q
  | t :: r, Q, q => trT_run σ H r (fun ps H3 => Q ((V.str t.1, V.str t.2) :: ps) H3) q
theorem crow {X : Cx} {k : Str} {ts : List (Str × Str)} {ks : List (Option Expr)} {vs : List Expr} {dp pos' : Pos} {x1 j0 : Nat} {ps : Pos} (he : PE X (.Dict ks vs dp) (tDisp (trT ts))) (nd : (ts.map (·.1)).Nodup) (l : ts.length ≤ 15) : PE X (.Tuple [.Constant (.str k) j0 ps, .Dict ks vs dp] x1 pos') (tCRow k ts) := by
  refine pe_imp (pe_tup (pa_cons pe_str (pa_cons he pa_nil))) ?_
  intro σ H Q kk E hE
  refine trT_run σ _ ts _ ⟨upd_same, kT ts, by rw [kT, List.map_map]; rfl, by rw [kT, List.length_map]; exact l, by show 2 ≤ sizeLine; decide, fun T hT => ?_⟩
  rw [updd2, merge_id2 (by rw [kT_keys]; exact inr_nd' nd)] at hT ⊢
  have s1 := Same.new (o := .dK (kT ts)) hE
  have hT0 := s1.free hT
  refine kk _ T E (Same.trans s1 (Same.new hT)) hT0 hE upd_same ?_
  have h : TurnsAt (L2.upd H E (.dK (kT ts))) E ts := upd_same
  exact h.same (Same.new hT)
theorem crow0 {X : Cx} {k : Str} {pos pos' : Pos} {x1 j0 : Nat} {ps : Pos} : PE X (.Tuple [.Constant (.str k) j0 ps, .Dict [] [] pos] x1 pos') (tCRow k []) := by
  refine pe_imp (pe_tup (pa_cons pe_str (pa_cons pe_dnewK pa_nil))) ?_
  intro σ H Q kk E hE
  refine ⟨by show 2 ≤ sizeLine; decide, fun T hT => ?_⟩
  have s1 := Same.new (o := .dK []) hE
  have h : TurnsAt (L2.upd H E (.dK [])) E [] := upd_same
  exact kk _ T E (Same.trans s1 (Same.new hT)) (s1.free hT) hE upd_same (h.same (Same.new hT))
def trB (bk : Bk) : List (TE × TE) := bk.map fun r => (tC (.str r.1), tCRow r.2.1 r.2.2)
theorem trB_run (σ : L2.St) (p : Addr) : ∀ (bk : Bk) (H : Hp) (Q : List (V × V) → Hp → Prop), (∃ u, H p = some u) → (∀ (H' : Hp) (kvs : List (Key × V)), Same H H' → Rows (cut [p] H') kvs bk → Q (kvs.map fun kv => (kV kv.1, kv.2)) H') → tPairs (trB bk) σ H Q
  | [], H, Q, _, q => q H [] (Same.refl H) .nil
  | r :: bk, H, Q, hp, q => fun H1 T E s nT nE hT hE => by
    obtain ⟨u, hu⟩ := hp
    have n1 : T ≠ p := fun e => by rw [e, hu] at nT; cases nT
    have n2 : E ≠ p := fun e => by rw [e, hu] at nE; cases nE
    refine trB_run σ p bk H1 _ ⟨u, s _ _ hu⟩ fun H2 kvs s2 hR => ?_
    refine q H2 ((.inr r.1, .ref T) :: kvs) (Same.trans s s2) (.cons ⟨rfl, T, E, rfl, ?_, ?_⟩ hR)
    · rw [cut_out (by simpa using n1)]; exact s2 _ _ hT
    · rw [TurnsAt, cut_out (by simpa using n2)]; exact s2 _ _ hE
theorem disp_book {σ : L2.St} {bk : Bk} {H : Hp} {Q : VK} (nd : (bk.map (·.1)).Nodup) (l : bk.length ≤ 15) (k : ∀ H' b, Same H H' → H b = none → BookAt H' b bk → Q (.ref b) H') : tDisp (trB bk) σ H Q := fun p hp => by
  have s1 := Same.new (o := .dK []) hp
  refine trB_run σ p bk _ _ ⟨_, upd_same⟩ fun H' kvs s2 hR => ⟨s2 _ _ upd_same, kvs, rfl, by rw [hR.len]; exact l, ?_⟩
  have e1 : kvs.map (·.1) = (bk.map (·.1)).map Sum.inr := by rw [hR.keys, List.map_map]; rfl
  rw [merge_id2 (by rw [e1]; exact inr_nd' nd)]
  refine k _ p (fun c u e => ?_) hp ⟨kvs, upd_same, ?_⟩
  · rw [upd_ne (ne_of_none e hp)]; exact s2 _ _ (s1 _ _ e)
  · refine hR.same fun c u e => ?_
    obtain ⟨nc, e⟩ := cut_some e
    rw [upd_ne (by simpa using nc)]; exact e
end D1
end L2
/-! repr of a book -/
namespace L2
namespace Gd
open PySem PySem.Spec PyProof.Rows D1
def strD (x : Str) : PyData := .str x
def turnsKv (ts : List (Str × Str)) : List (PyData × PyData) := ts.map fun t => (.str t.1, .str t.2)
def bookKv (bk : Bk) : List (PyData × PyData) := bk.map fun r => (.str r.1, .tuple [.str r.2.1, .dict (turnsKv r.2.2)])
def bookD (bk : Bk) : PyData := .dict (bookKv bk)
theorem rds_turns {P : Program} {w : World} {h : Heap} : ∀ {ts : List (Str × Str)} {es : List DictEntry} {vs : List (Key × Value)}, KV (kT ts) vs → PySem.Pairs (mixKind P w) es vs → ReadsAll h (es.map (·.key)) ((turnsKv ts).map (·.1)) [] ∧ ReadsAll h (es.map (·.val)) ((turnsKv ts).map (·.2)) []
  | [], es, vs, kv, p => by
    have kv : Paired _ ([] : List (Key × V)) vs := kv
    cases kv
    cases p
    exact ⟨.nil, .nil⟩
  | t :: r, es, vs, kv, p => by
    have kw : Paired (fun (p : Key × V) (q : Key × Value) => p.1 = q.1 ∧ RelV p.2 q.2) ((Sum.inr t.1, V.str t.2) :: kT r) vs := kv
    cases kw with
    | cons h1 kv2 =>
      cases p with
      | cons k1 e1 p2 =>
        obtain ⟨i1, i2⟩ := rds_turns (h := h) (P := P) (w := w) (ts := r) kv2 p2
        obtain ⟨a, b⟩ := h1
        rw [← a] at k1
        have k1 : keyIs (Sum.inr t.1) _ = true := k1
        rcases keyIs_shape k1 with ⟨_, _, z, _⟩ | ⟨x, tk, z, z2⟩
        · cases z
        · cases z
          obtain ⟨tv, b⟩ := b
          refine ⟨?_, ?_⟩
          · show ReadsAll h (_ :: _) (_ :: _) ([] ++ [])
            exact .cons (by dsimp only; rw [z2]; exact .str _ _) i1
          · show ReadsAll h (_ :: _) (_ :: _) ([] ++ [])
            exact .cons (by dsimp only; rw [e1, b]; exact .str _ _) i2
section
variable {X : Cx} {pins : List (Addr × Obj)} {σ : L2.St} {H : Hp} {s : Shared}
theorem reads_turns (I : Inv X pins σ H s) {a : Addr} {ts : List (Str × Str)} (h : TurnsAt H a ts) : Reads s.heap (.ref a) (.dict (turnsKv ts)) (a :: [] ++ []) ∧ a ≠ sysModules := by
  obtain ⟨_, low, vs, kv, o, es, ep, e, ex, ed, _, p, _⟩ := dk_of I.hok h
  obtain ⟨i1, i2⟩ := rds_turns (h := s.heap) kv p
  exact ⟨.dict e ex.1 ed i1 i2, fun z => by rw [z] at low; cases low⟩
theorem reads_rows (I : Inv X pins σ H s) : ∀ {bk : Bk} {kvs : List (Key × V)} {es : List DictEntry} {vs : List (Key × Value)}, Rows H kvs bk → KV kvs vs → PySem.Pairs (mixKind X.prog X.w) es vs → ∃ bs, ReadsAll s.heap (es.map (·.key)) ((bookKv bk).map (·.1)) [] ∧ ReadsAll s.heap (es.map (·.val)) ((bookKv bk).map (·.2)) bs ∧ sysModules ∉ bs
  | [], kvs, es, vs, hr, kv, p => by
    cases hr
    cases kv
    cases p
    exact ⟨[], .nil, .nil, List.not_mem_nil⟩
  | r :: bk, kvs, es, vs, hr, kv, p => by
    cases hr with
    | cons h0 hr =>
      cases kv with
      | cons h1 kv =>
        cases p with
        | cons k1 e1 p =>
          obtain ⟨bs, i1, i2, i3⟩ := reads_rows I hr kv p
          obtain ⟨a0, t, a, a1, a2, a3⟩ := h0
          obtain ⟨b0, b1⟩ := h1
          rw [← b0, a0] at k1
          have k1 : keyIs (Sum.inr r.1) _ = true := k1
          rcases keyIs_shape k1 with ⟨_, _, z, _⟩ | ⟨x, tk, z, z2⟩
          · cases z
          · cases z
            rw [a1] at b1
            have b1 := (show _ = Value.ref t from b1)
            obtain ⟨its, rv, ⟨o, ho, hc, n, hd⟩, _⟩ := I.tuple (SqT.of a2)
            obtain ⟨rt, nt⟩ := reads_turns I a3
            cases rv with
            | cons r1 rv =>
              cases rv with
              | cons r2 rv =>
                cases rv
                obtain ⟨t1, r1⟩ := r1
                cases r2
                subst r1
                refine ⟨([] ++ ((a :: [] ++ []) ++ [])) ++ bs, ?_, ?_, ?_⟩
                · show ReadsAll s.heap (_ :: _) (_ :: _) ([] ++ [])
                  exact .cons (by dsimp only; rw [z2]; exact .str _ _) i1
                · exact .cons (by dsimp only; rw [e1, b1]; exact .tuple ho hc hd (.cons (.str _ _) (.cons rt .nil))) i2
                · simp only [List.nil_append, List.append_nil, List.cons_append, List.mem_cons, not_or]
                  exact ⟨fun z => nt z.symm, i3⟩
theorem reads_book (I : Inv X pins σ H s) {a : Addr} {bk : Bk} (h : BookAt H a bk) : ∃ as, Reads s.heap (.ref a) (bookD bk) as ∧ sysModules ∉ as := by
  obtain ⟨kvs, e0, hr⟩ := h
  obtain ⟨_, low, vs, kv, o, es, ep, e, ex, ed, _, p, _⟩ := dk_of I.hok e0
  obtain ⟨bs, i1, i2, i3⟩ := reads_rows I hr kv p
  refine ⟨a :: [] ++ bs, .dict e ex.1 ed i1 i2, ?_⟩
  simp only [List.cons_append, List.nil_append, List.mem_cons, not_or]
  exact ⟨fun z => by (rw [← z] at low; cases low), i3⟩
end
/-! its size -/
theorem wd_leaf {x : Str} (h : Wd x) : PyData.leavesShort 8 (.str x) = true := by
  simp only [PyData.leavesShort, List.all_eq_true, decide_eq_true_eq]
  intro c hc
  have := h.ok c hc
  omega
theorem wd_weight {x : Str} (h : Wd x) : PyData.weight (.str x) ≤ 8 := by
  show x.cps.size ≤ 8
  exact h.hi
theorem kind_wd {k : Str} {ts : List (Str × Str)} (h : RForm k ts) : Wd k := by
  have f : ∀ y : Str, y = "says" ∨ y = "hears" ∨ y = "done" → Wd y := fun y hy => by
    rcases hy with rfl | rfl | rfl <;> exact ⟨by decide +kernel, by decide +kernel, by decide +kernel⟩
  rcases h with ⟨a, _⟩ | ⟨a, _⟩
  · exact f _ (.inr (.inr a))
  · exact f _ (a.elim .inl fun z => .inr (.inl z))
theorem turns_small : ∀ {ts : List (Str × Str)}, (∀ t ∈ ts, Wd t.1 ∧ Wd t.2) → PyData.leavesShortKv 8 (turnsKv ts) = true ∧ PyData.weightKv (turnsKv ts) ≤ 18 * ts.length ∧ PyData.showableKv (turnsKv ts) = true ∧ PyData.depthKv (turnsKv ts) = 0
  | [], _ => ⟨rfl, by decide, rfl, rfl⟩
  | t :: r, h => by
    obtain ⟨a, b⟩ := h t (.head _)
    obtain ⟨i1, i2, i3, i4⟩ := turns_small fun u hu => h u (.tail _ hu)
    have w1 := wd_weight a
    have w2 := wd_weight b
    refine ⟨?_, ?_, ?_, ?_⟩
    · show (PyData.leavesShort 8 (.str t.1) && PyData.leavesShort 8 (.str t.2) && PyData.leavesShortKv 8 (turnsKv r)) = true
      rw [wd_leaf a, wd_leaf b, i1]; rfl
    · show PyData.weight (.str t.1) + PyData.weight (.str t.2) + 2 + PyData.weightKv (turnsKv r) ≤ 18 * (r.length + 1)
      omega
    · show (PyData.showable (.str t.1) && PyData.showable (.str t.2) && PyData.showableKv (turnsKv r)) = true
      rw [i3]; rfl
    · show max (max 0 0) (PyData.depthKv (turnsKv r)) = 0
      rw [i4]; rfl
theorem book_small : ∀ {bk : Bk}, (∀ r ∈ bk, Wd r.1 ∧ Wd r.2.1 ∧ r.2.2.length ≤ 60 ∧ ∀ t ∈ r.2.2, Wd t.1 ∧ Wd t.2) → PyData.leavesShortKv 8 (bookKv bk) = true ∧ PyData.weightKv (bookKv bk) ≤ 1200 * bk.length ∧ PyData.showableKv (bookKv bk) = true ∧ PyData.depthKv (bookKv bk) ≤ 2
  | [], _ => ⟨rfl, by decide, rfl, by decide⟩
  | r :: bk, h => by
    obtain ⟨a, b, c, d⟩ := h r (.head _)
    obtain ⟨i1, i2, i3, i4⟩ := book_small fun u hu => h u (.tail _ hu)
    obtain ⟨j1, j2, j3, j4⟩ := turns_small d
    have w1 := wd_weight a
    have w2 := wd_weight b
    refine ⟨?_, ?_, ?_, ?_⟩
    · show (PyData.leavesShort 8 (.str r.1) && (PyData.leavesShort 8 (.str r.2.1) && (PyData.leavesShortKv 8 (turnsKv r.2.2) && true)) && PyData.leavesShortKv 8 (bookKv bk)) = true
      rw [wd_leaf a, wd_leaf b, j1, i1]; rfl
    · show PyData.weight (.str r.1) + (PyData.weight (.str r.2.1) + 1 + (PyData.weightKv (turnsKv r.2.2) + 1 + 0)) + 2 + PyData.weightKv (bookKv bk) ≤ 1200 * (bk.length + 1)
      omega
    · show (PyData.showable (.str r.1) && (PyData.showable (.str r.2.1) && (PyData.showableKv (turnsKv r.2.2) && true)) && PyData.showableKv (bookKv bk)) = true
      rw [j3, i3]; rfl
    · show max (max 0 (max 0 (max (PyData.depthKv (turnsKv r.2.2) + 1) 0) + 1)) (PyData.depthKv (bookKv bk)) ≤ 2
      rw [j4]; omega
theorem bwf_small {bk : Bk} (h : BWf bk) : ∀ r ∈ bk, Wd r.1 ∧ Wd r.2.1 ∧ r.2.2.length ≤ 60 ∧ ∀ t ∈ r.2.2, Wd t.1 ∧ Wd t.2 := fun r hr => by
  obtain ⟨a, b, c⟩ := h.rs r hr
  refine ⟨a, kind_wd b, h.len2 r hr, ?_⟩
  rcases b with ⟨_, e⟩ | ⟨_, _, _, e⟩
  · rw [e]; intro t ht; cases ht
  · exact e
section
variable {X : Cx}
theorem call_reprB (g : X.A.guards = some []) (hu : X.A.units + 8 < cLine) : CallR X (.builtin "repr") (fun xs H Q => ∃ (a : Addr) (bk : Bk), xs = [.ref a] ∧ BookAt H a bk ∧ BWf bk ∧ Q (.str (PyData.shown (bookD bk))) H) := by
  intro pins s σ H xs us Q I r h
  obtain ⟨a, bk, rfl, hb, wf, q⟩ := h
  cases r with
  | cons r0 r =>
    cases r
    cases r0
    obtain ⟨as, rd, nm⟩ := reads_book I hb
    obtain ⟨j1, j2, j3, j4⟩ := book_small (bwf_small wf)
    have ln := wf.len
    refine repr_of_reads' rd j3 (fun _ => nm) g (by show X.A.units + ((PyData.depthKv (bookKv bk) + 1) + 1) < cLine; omega) (fun _ _ e => e) (fun h' u tk hk => ?_) (PyData.shown_fits (B := 8) (by decide) (by decide) j1 (by show PyData.weightKv (bookKv bk) ≤ 2 ^ 20; omega))
    exact ⟨.str _, H, I.kept (t' := tk) hk, ⟨u, rfl⟩, q⟩
end
end Gd
end L2
/-! a promise of a def that stands under no builtin: the guards are known -/
namespace L2
namespace Gd
open PySem PySem.Spec PyProof.Rows
structure FnG (P : Program) (w : World) (K : PySem.W.Frag) (mg : Str → Option Value) (base : Heap) (k : Nat) (f : Addr) (fd : FuncData) (ps : List Str) (sp : Sp) : Prop where
  len : ∀ vs H Q E, sp vs H Q E → vs.length = ps.length
  run : ∀ (A : Around) (out : List Env) (s : Shared) (H : Hp) (ar : Args) (us : List Value) (vs : List V) (Q : VK) (E : XK), A.guards = some [] → Room k A → Env0 P w K mg base A out s H → BindsTo s fd ar (ps.zip us) → Vals vs us → sp vs H Q E →
    codeAny (model P w) A (.call (.ref f) ar) (CR CX0 out P w H s Q E) s
theorem deep_guards (A : Around) (env : Env) : (A.deeper env).guards = A.guards := by rfl
theorem Fun.okG {P : Program} {w : World} {K : PySem.W.Frag} {mg : Str → Option Value} {base : Heap} {x qual : Str} {st : Stmt} {f : Addr} {fd : FuncData} {N ps : List Str} {k : Nat} {sp : Sp} (F : Fun K x qual st f fd) (S : FnScope N ps (defScope st)) (len : ∀ vs H Q E, sp vs H Q E → vs.length = ps.length)
    (hb : ∀ (cdv : Value) (A : Around) (out : List Env) (s : Shared) (H : Hp) (vs : List V) (Q : VK) (E : XK), A.guards = some [] → Room k (A.deeper (envOfC qual (defScope st) s.heap.objs.size f cdv)) → sp vs H Q E →
      ∃ t, PSs (cxOf CX0 P w K mg base N qual (defScope st) f cdv A out s H E).nox (defBody st) t ∧ t { nx := fun _ H' => Q .non H', rt := Q } (start N vs) H) : FnG P w K mg base (k + 1) f fd ps sp := by
  obtain ⟨oc, od, kV, doc, pm, an, cdv, ct, osl, rfl, lk, hcd⟩ := F.ex
  refine ⟨len, fun A out s H ar us vs Q E gA rm e0 bd rv hsp => ?_⟩
  have lv := len _ _ _ _ hsp
  have kx : K.In s.heap := e0.mod.kin.keeps (fun b o e => (e0.bs b o e).1)
  have nl : s.heap.NoLimit := e0.mod.nolimit.keeps (fun b o e => (e0.bs b o e).1)
  refine codeAny_call_function rm.depth (kx _ _ lk) rfl S.co S.gen rfl (PySem.W.codeRec_of kx hcd) (bd _ _ _ _ ?_)
  refine wpAny_newFunctionEnv_cells S.kind (fun y hy => ?_) (fun env he s1 z => ?_)
  · rcases S.par y.1 (List.of_mem_zip (a := y.1) (b := y.2) hy).1 with q | q
    · exact .inl q
    · exact .inr ⟨q, PySem.W.cellsFrom_some _ _ _ (.inl q)⟩
  · subst he
    refine ⟨nl.keeps z.toInCall.keep, codeAny_func ?_⟩
    obtain ⟨t, ht, hq⟩ := hb cdv A out s H vs Q E gA (rm.deeper _) hsp
    have I0 : Inv (cxOf CX0 P w K mg base N qual (defScope st) f cdv A out s H E) [] (start N vs) H s1 := inv_start S rm.hd e0 lv rv z
    refine wpAny_mono (ht.nox.run [] s1 (start N vs) H _ I0 hq) (fun fl s' hs => ?_) (fun e s' hs => hs)
    match fl with
    | .ret u =>
      obtain ⟨v, σ', H', J, r, q⟩ := hs
      exact ⟨v, H', J.os, J.bare, J.base, J.hok, r, q⟩
    | .next =>
      obtain ⟨σ', H', J, q⟩ := hs
      exact ⟨V.non, H', J.os, J.bare, J.base, J.hok, rfl, q⟩
    | .brk => obtain ⟨_, _, _, q⟩ := hs; exact q.elim
    | .cont => obtain ⟨_, _, _, q⟩ := hs; exact q.elim
end Gd
end L2
/-! the law's call, its promise being one with known guards -/
namespace L2
namespace Gd
open PySem PySem.Spec PyProof.Rows
theorem law_callG {P : Program} {w : World} {K : PySem.W.Frag} {mg mb : Str → Option Value} {k : Nat} {fa a : Addr} {fd : FuncData} {x : Str} {sp : Sp} {t : Shared} {vs : List Value} {ns : List Int} (kx : K.In t.heap) (nsG : t.heap.Ns mainGlobals mg) (nsB : t.heap.Ns builtinsNs mb)
    (bb : ∀ x : Str, x ≠ "__name__" → mb x = bootBuiltins x) (lim : t.heap.NoLimit) (g0 : t.gens = #[]) (ha : t.heap.get? a = some { cls := .type "list", data := .seq vs.toArray }) (iv : IntsAre vs ns) (lz : ns.length ≤ sizeLine) (rm : Room k callerA)
    (F : ∀ base : Heap, K.In base → base.Ns mainGlobals mg → FnG P w K mg base k fa fd [x] sp) (bd : ∀ (s : Shared) (u : Value), BindsTo s fd ⟨[u], []⟩ [(x, u)]) (hsp : ∀ H : Hp, Only H → SqL K H a (ns.map V.int) → sp [.ref a] H (fun v _ => v = .bl true) fun _ _ _ => False) :
    codeAny (model P w) callerA (.call (.ref fa) ⟨[.ref a], []⟩) (fun r s' => r = .ok (.ret (.bool true)) ∧ OldK t.heap s'.heap ∧ s'.os = t.os ∧ AllBare s'.gens) t := by
  have lv : vs.length = ns.length := iv.length
  have rel := vals_ints iv
  have main : ∀ H : Hp, Only H → SqL K H a (ns.map V.int) → HOk P w H t.heap → (∀ b, H b ≠ none → b = a) → (H a ≠ none → K.lookup a = none) → codeAny (model P w) callerA (.call (.ref fa) ⟨[.ref a], []⟩) (fun r s' => r = .ok (.ret (.bool true)) ∧ OldK t.heap s'.heap ∧ s'.os = t.os ∧ AllBare s'.gens) t := by
    intro H on sq hok only hid
    have free : ∀ b, b ≠ a → H b = none := fun b n => by
      cases q : H b with
      | none => rfl
      | some u => exact absurd (only b (fun z => by rw [q] at z; cases z)) n
    have dict_free : ∀ {b : Addr} {o : Obj} {es : Array DictEntry} {ep : Nat}, t.heap.get? b = some o → o.data = .dict es ep → H b = none := fun {b o es ep} e d => free b fun z => by
      subst z
      rw [ha] at e
      cases e
      exact nomatch (show Data.seq vs.toArray _ = Data.dict es ep from d)
    have ns_to : ∀ {b : Addr} {m : Str → Option Value}, t.heap.Ns b m → (hidT t.heap H).Ns b m := fun {b m} n => by
      obtain ⟨o, es, ep, e, d, r⟩ := n
      exact ⟨o, es, ep, hidT_get e (dict_free e d), d, r⟩
    have k_to : K.In (hidT t.heap H) := fun b o e => hidT_get (kx b o e) (by
      by_cases z : b = a
      · subst z
        cases q : H b with
        | none => rfl
        | some u =>
          have := hid (fun y => by rw [q] at y; cases y)
          rw [this] at e; cases e
      · exact free b z)
    have md : Mod K mg (hidT t.heap H) := by
      obtain ⟨mc, h1, h2⟩ := lim
      exact ⟨k_to, ns_to nsG, ⟨mb, ns_to nsB, bb⟩, mc, ns_to h1, h2⟩
    have e0 : Env0 P w K mg (hidT t.heap H) callerA [] t H := ⟨rfl, md, fun b o => of_hidT, Nat.le_of_eq (hidT_size _ _), trivial, fun b hb => (List.not_mem_nil hb).elim, hok, .of_eq g0⟩
    refine codeAny_mono ((F _ k_to (ns_to nsG)).run callerA [] t H ⟨[.ref a], []⟩ [.ref a] [.ref a] _ _ rfl rm e0 (bd t (.ref a)) (.cons rfl .nil) (hsp H on sq)) (fun r s' h => ?_)
    match r, h with
    | .error e, h => exact False.elim h
    | .ok .next, h => exact h.elim
    | .ok .brk, h => exact h.elim
    | .ok .cont, h => exact h.elim
    | .ok (.ret u), ⟨v, H', os, bare, un, hok', r', q⟩ =>
      have q : v = .bl true := q
      subst q
      have r' : u = Value.bool true := r'
      subst r'
      refine ⟨rfl, OldK.of_keep (fun b o e => ?_), os, bare⟩
      rcases on b with z | ⟨ob, xs, z⟩
      · exact un.keep b o e z (fun y => (List.not_mem_nil y).elim) (fun y => (List.not_mem_nil y).elim)
      · have e1 := (hok b _ z).1
        have e2 := (hok' b _ (un.frzs b ob _ z)).1
        rw [e] at e1
        cases e1
        exact e2
  by_cases hk : K.lookup a = none
  · let o0 : Obj := { cls := .type "list", data := .seq vs.toArray }
    refine main (fun b => if b = a then some (.frz o0 (.lst (ns.map V.int))) else none) (fun b => ?_) (.inl (.inr ⟨o0, if_pos rfl⟩)) (fun b u z => ?_) (fun b z => ?_) fun _ => hk
    · by_cases e : b = a
      · exact .inr ⟨o0, _, if_pos e⟩
      · exact .inl (if_neg e)
    · by_cases e : b = a
      · subst e
        cases (if_pos rfl : (if b = b then some (HO.frz o0 (.lst (ns.map V.int))) else none) = _).symm.trans z
        exact ⟨ha, by rw [List.length_map]; exact lz, vs, _, rel, ha⟩
      · cases (if_neg e : (if b = a then some (HO.frz o0 (.lst (ns.map V.int))) else none) = _).symm.trans z
    · by_cases e : b = a
      · exact e
      · exact absurd (if_neg e) z
  · obtain ⟨o, ho⟩ := Option.ne_none_iff_exists'.mp hk
    have e := kx a o ho
    rw [ha] at e
    cases e
    exact main (fun _ => none) (fun _ => .inl rfl) (.inr ⟨_, vs.toArray, _, ho, rfl, rfl, rfl, by rw [List.size_toArray, lv]; exact lz, by simpa using rel⟩) (fun b u z => nomatch (show (none : Option HO) = some u from z)) (fun b z => absurd rfl z) fun z => absurd rfl z
theorem walk_ofG {l : PySem.W.OpenLaw} {n k : Nat} {q : Program} {loose : List Str} {XP : (Str → Option Value) → Heap → Prop} {YP : World → Heap → Prop} {d : DefRec} {K : Params → PySem.W.Frag} {sp : World → Sp} {x : Str} (hn : l.most = some n) (hn2 : n ≤ sizeLine) (hdf : d.params.defaults = []) (rm : Room k callerA)
    (hY : ∀ (w : World) (h : Heap), YP w h → (K w.params).In h)
    (F : ∀ (w : World) (mg : Str → Option Value) (fa : Addr) (h : Heap), (K w.params).In h → h.Ns mainGlobals mg → mg d.name = some (.ref fa) → ∃ fd : FuncData, (∀ (s : Shared) (u : Value), BindsTo s fd ⟨[u], []⟩ [(x, u)]) ∧ ∀ base : Heap, (K w.params).In base → base.Ns mainGlobals mg → FnG l.prog w (K w.params) mg base k fa fd [x] (sp w))
    (hsp : ∀ (w : World) (H : Hp) (a : Addr) (ns : List Int), ns.length ≤ n → Only H → SqL (K w.params) H a (ns.map V.int) → sp w [.ref a] H (fun v _ => v = .bl true) fun _ _ _ => False) : PySem.W.WalkO q loose XP YP l.row.toRowW d [] (fun f vs => PySem.call f vs) := by
  refine Att.attach_call hn hdf (fun w s₀ t mg mb fa o pm cd doc a vs ns G Y ho hd hcd hmg hobj iv ln g0 => ?_)
  have kx := hY w _ Y
  obtain ⟨fd, bd, FF⟩ := F w mg fa _ kx G.T.g hmg
  exact law_callG kx G.T.g G.T.b G.T.builtins G.T.nolimit g0 hobj iv (Nat.le_trans ln hn2) rm FF bd (fun H on sq => hsp w H a ns ln on sq)
end Gd
end L2
/-! row_of, rich -/
namespace L2
namespace D1
open PySem PySem.Spec PyProof.Rows
abbrev sRowOf : Stmt := top 44
/-- a list of a world and its words -/
def RichAt (H : Hp) (R : Addr) (bk : Bk) (st : Str) (ws : List Str) : Prop := ∃ W L, H R = some (.lst [.ref W, .ref L]) ∧ WorldAt H W bk st ∧ SL H L ws
theorem RichAt.same {H H' : Hp} {R : Addr} {bk : Bk} {st : Str} {ws : List Str} (h : RichAt H R bk st ws) (s : Same H H') : RichAt H' R bk st ws := by
  obtain ⟨W, L, h1, h2, h3⟩ := h; exact ⟨W, L, s _ _ h1, h2.same s, h3.same s⟩
def spRow (c d : Int) : Sp := fun vs H Q _ => ∃ (p : Addr) (top' t : Int), vs = [.ref p, .int top'] ∧ Purse H p t ∧ 3 ≤ top' ∧ top' ≤ 6 ∧ t < c ∧
  ∀ (H' : Hp) (R : Addr) (bk : Bk) (st : Str) (ws : List Str) (t' : Int), But p H H' → RichAt (cut [p] H') R bk st ws → WF bk st ws → WsOk ws → Purse H' p t' → t' ≤ t + d → Q (.ref R) H'
theorem rich_new {p R W L : Addr} {H : Hp} {bk : Bk} {st : Str} {ws : List Str} (hR : H R = none) (nR : R ≠ p) (hW : WorldAt (cut [p] H) W bk st) (hL : SL H L ws) (nL : L ≠ p) : RichAt (cut [p] (L2.upd H R (.lst [.ref W, .ref L]))) R bk st ws :=
  ⟨W, L, by rw [cut_out (by simpa using nR)]; exact upd_same, hW.same (cut_new hR), by rw [SL, cut_out (by simpa using nL)]; exact hL.new hR⟩
theorem ws_take {ws : List Str} (l : ws.length = 6) (nd : ws.Nodup) (aw : ∀ x ∈ ws, Wd x) {k : Nat} (h : 1 ≤ k) : WsOk (ws.take k) :=
  ⟨by rw [List.length_take]; omega, by rw [List.length_take]; omega, List.Nodup.sublist (List.take_sublist _ _) nd, fun x hx => aw x (List.mem_of_mem_take hx)⟩
section
variable {P : Program} {w : World} {K : PySem.W.Frag} {mg : Str → Option Value} {base : Heap}
abbrev CPool (P : Program) (w : World) (K : PySem.W.Frag) (mg : Str → Option Value) (base : Heap) := Cal P w K mg base "_law_pool" 5 ["_law_purse_here"] spPool
abbrev CWorld (P : Program) (w : World) (K : PySem.W.Frag) (mg : Str → Option Value) (base : Heap) := Cal P w K mg base "_law_world" 5 ["_law_purse_here", "_law_many", "_law_words_here", "_law_top"] spWorld
abbrev CShape (P : Program) (w : World) (K : PySem.W.Frag) (mg : Str → Option Value) (base : Heap) := Cal P w K mg base "_law_shape" 5 ["_law_purse_here", "_law_words_here"] spShape
abbrev CLong (P : Program) (w : World) (K : PySem.W.Frag) (mg : Str → Option Value) (base : Heap) := Cal P w K mg base "_law_long" 5 ["_law_purse_here", "_law_words_here", "_law_most"] spLong
abbrev CRow (P : Program) (w : World) (K : PySem.W.Frag) (mg : Str → Option Value) (base : Heap) := Cal P w K mg base "_law_row_of" 6 ["_law_purse_here", "_law_top"] (spRow (2 ^ 25) 1800)
theorem scRo : FnScope ["_law_purse_here", "_law_top", "_law_pool_here", "_law_words_here"] ["_law_purse_here", "_law_top"] (defScope sRowOf) := ⟨rfl, rfl, rfl, by decide +kernel, rfl, by decide +kernel, by decide +kernel⟩
theorem ok_row {f : Addr} {fd : FuncData} (F : Fun K "_law_row_of" "_law_row_of" sRowOf f fd) (T : Free2 mg) (CD : CDraw P w K mg base) (CP : CPool P w K mg base) (CW : CWorld P w K mg base) (CS : CShape P w K mg base) :
    FnOk P w K mg base CX0 6 f fd ["_law_purse_here", "_law_top"] (spRow (2 ^ 25) 1800) := by
  refine F.ok scRo (fun vs H Q E h => ?_) (fun cdv A outer s H vs Q E hr h => ?_)
  · obtain ⟨p, m, t, rfl, _⟩ := h; rfl
  · obtain ⟨p, top', t, rfl, hp, m3, m6, t1, k⟩ := h
    refine ⟨_, pss_cons (ps_set (i := 2) scRo.nd rfl (Or.inl rfl) (pe_cal CP (hr.mono (by decide)) rfl (pa_cons (pv 0) pa_nil)))
      (pss_cons (ps_if (pt_cmpR op_eq (pe_cal CD (hr.mono (by decide)) rfl (pa_cons (pv 0) (pa_cons pe_int pa_nil))) pe_int (nomark _))
        (pss_one (ps_ret (pe_lst (pa_cons (pe_cal CW (hr.mono (by decide)) rfl (pa_cons (pv 0) (pa_cons (pe_op op_add pe_int (pe_cal CD (hr.mono (by decide)) rfl (pa_cons (pv 0) (pa_cons (pv 1) pa_nil)))) (pa_cons (pe_slice sl_list (pv 2) po_none (po_some pe_int)) (pa_cons pe_int pa_nil))))) (pa_cons (pe_slice sl_list (pv 2) po_none (po_some pe_int)) pa_nil))))) pss_nil)
      (pss_cons (ps_set (i := 3) scRo.nd rfl (Or.inl rfl) (pe_slice sl_list (pv 2) po_none (po_some (pe_op op_add pe_int (pe_cal CD (hr.mono (by decide)) rfl (pa_cons (pv 0) (pa_cons (pe_callB (call_min2 rfl) (by rfl) T.min (by decide +kernel) (pa_cons pe_int (pa_cons (pe_callB call_len_seq (by rfl) T.len PySem.boot_len (pa_cons (pv 2) pa_nil)) pa_nil))) pa_nil)))))))
      (pss_cons (ps_if (PW.pt (pw_and (pt_cmpR op_gt (pe_callB call_len_seq (by rfl) T.len PySem.boot_len (pa_cons (pv 3) pa_nil)) pe_int (nomark _)) (pw_and1 (pt_cmpR op_eq (pe_cal CD (hr.mono (by decide)) rfl (pa_cons (pv 0) (pa_cons pe_int pa_nil))) pe_int (nomark _)))))
        (pss_one (ps_ret (pe_lst (pa_cons (pe_cal CS (hr.mono (by decide)) rfl (pa_cons (pv 0) (pa_cons (pv 3) pa_nil))) (pa_cons (pv 3) pa_nil))))) pss_nil)
      (pss_one (ps_ret (pe_lst (pa_cons (pe_cal CW (hr.mono (by decide)) rfl (pa_cons (pv 0) (pa_cons (pe_op op_add pe_int (pe_cal CD (hr.mono (by decide)) rfl (pa_cons (pv 0) (pa_cons (pv 1) pa_nil)))) (pa_cons (pv 3) (pa_cons pe_int pa_nil))))) (pa_cons (pv 3) pa_nil)))))))), ?_⟩
    refine ⟨_, rfl, p, t, rfl, hp, by omega, fun H1 L ps t1 b1 hL hLL lp nd aw hp1 tt1 => ?_⟩
    have nL := hp.ne hL
    refine ⟨_, rfl, p, 8, t1, rfl, hp1, by decide, by decide, by omega, fun r t2 o r0 r1 tt2 hp2 => ?_⟩
    have b2 := b1.trans (But.upd p H1 o)
    have hL2 : SL (L2.upd H1 p o) L ps := by rw [SL, upd_ne nL]; exact hLL
    generalize L2.upd H1 p o = H2 at b2 hL2 hp2
    refine ⟨rfl, _, rfl, ?_⟩
    refine ite2 (fun _ => ?_) (fun _ => ?_)
    · refine ⟨_, rfl, _, rfl, _, rfl, p, top', t2, rfl, hp2, by omega, by omega, by omega, fun r3 t3 o3 r30 r31 tt3 hp3 => ?_⟩
      have b3 := b2.trans (But.upd p H2 o3)
      have hL3 : SL (L2.upd H2 p o3) L ps := by rw [SL, upd_ne nL]; exact hL2
      generalize L2.upd H2 p o3 = H3 at b3 hL3 hp3
      refine ⟨_, _, rfl, rfl, _, rfl, _, rfl, L, _, rfl, hL3.sq, fun q hq => ?_⟩
      rw [cutV_map, cutL_to _ (by decide)]
      have wok := ws_take lp nd aw (k := (6 : Int).toNat) (by decide)
      refine ⟨p, q, ps.take (6 : Int).toNat, 1 + r3, 6, t3, rfl, hp3.new hq, upd_same, hp3.ne hq, wok, by omega, by omega, by decide, by decide, by omega, fun H4 W bk st t4 b4 hW0 hW wf hp4 tt4 => ?_⟩
      have hL4 : SL H4 L ps := b4 _ _ nL (hL3.new hq)
      have b04 := (b3.newt hq).trans b4
      refine ⟨_, rfl, _, rfl, L, _, rfl, hL4.sq, fun q2 hq2 => ?_⟩
      rw [cutV_map, cutL_to _ (by decide)]
      refine ⟨by show 2 ≤ sizeLine; decide, fun R hR => ?_⟩
      exact k _ R bk st _ t4 ((b04.newt hq2).newt hR) (rich_new hR ((hp4.new hq2).ne hR) (hW.same (cut_new hq2)) upd_same (hp4.ne hq2)) wf wok ((hp4.new hq2).new hR) (by omega)
    · refine ⟨_, rfl, _, rfl, _, rfl, L, _, rfl, .inl hL2.sq, 5, _, rfl, ?_⟩
      rw [List.length_map, lp]
      refine ⟨p, 5, t2, rfl, hp2, by decide, by decide, by omega, fun r3 t3 o3 r30 r31 tt3 hp3 => ?_⟩
      have b3 := b2.trans (But.upd p H2 o3)
      have hL3 : SL (L2.upd H2 p o3) L ps := by rw [SL, upd_ne nL]; exact hL2
      generalize L2.upd H2 p o3 = H3 at b3 hL3 hp3
      refine ⟨_, _, rfl, rfl, _, rfl, L, _, rfl, hL3.sq, fun q hq => ?_⟩
      rw [cutV_map, cutL_to _ (by omega)]
      have wok := ws_take lp nd aw (k := (1 + r3).toNat) (by omega)
      generalize ps.take (1 + r3).toNat = ws at wok
      have hq3 : SL (L2.upd H3 q (.lst (ws.map V.str))) q ws := upd_same
      have hp4 := hp3.new (o := .lst (ws.map V.str)) hq
      have b4 := b3.newt (o := .lst (ws.map V.str)) hq
      have nq := hp3.ne hq
      generalize L2.upd H3 q (.lst (ws.map V.str)) = H4 at hq3 hp4 b4
      refine ⟨_, rfl, q, _, rfl, .inl hq3.sq, _, _, rfl, rfl, _, rfl, ?_⟩
      rw [List.length_map]
      refine ite2 (fun c => ?_) (fun c => ?_)
      · refine ⟨_, rfl, p, 3, t3, rfl, hp4, by decide, by decide, by omega, fun r5 t5 o5 r50 r51 tt5 hp5 => ?_⟩
        have b5 := b4.trans (But.upd p H4 o5)
        have hq5 : SL (L2.upd H4 p o5) q ws := by rw [SL, upd_ne nq]; exact hq3
        generalize L2.upd H4 p o5 = H5 at b5 hq5 hp5
        refine ⟨rfl, _, rfl, ?_⟩
        refine ite2 (fun c2 => ?_) (fun c2 => ?_)
        · have c' := of_decide_eq_true c
          refine ⟨_, rfl, _, rfl, p, q, ws, t5, rfl, hp5, hq5, nq, wok, by omega, by omega, fun H6 W bk st t6 b6 hW0 hW wf hp6 tt6 => ?_⟩
          have hq6 : SL H6 q ws := b6 _ _ nq hq5
          refine ⟨_, rfl, by show 2 ≤ sizeLine; decide, fun R hR => ?_⟩
          exact k _ R bk st _ t6 ((b5.trans b6).newt hR) (rich_new hR (hp6.ne hR) hW hq6 nq) wf wok (hp6.new hR) (by omega)
        · refine ⟨_, rfl, _, rfl, _, rfl, p, top', t5, rfl, hp5, by omega, by omega, by omega, fun r7 t7 o7 r70 r71 tt7 hp7 => ?_⟩
          have b7 := b5.trans (But.upd p H5 o7)
          have hq7 : SL (L2.upd H5 p o7) q ws := by rw [SL, upd_ne nq]; exact hq5
          generalize L2.upd H5 p o7 = H7 at b7 hq7 hp7
          refine ⟨_, _, rfl, rfl, _, rfl, p, q, ws, 1 + r7, 3, t7, rfl, hp7, hq7, nq, wok, by omega, by omega, by decide, by decide, by omega, fun H8 W bk st t8 b8 hW0 hW wf hp8 tt8 => ?_⟩
          have hq8 : SL H8 q ws := b8 _ _ nq hq7
          refine ⟨_, rfl, by show 2 ≤ sizeLine; decide, fun R hR => ?_⟩
          exact k _ R bk st _ t8 ((b7.trans b8).newt hR) (rich_new hR (hp8.ne hR) hW hq8 nq) wf wok (hp8.new hR) (by omega)
      · refine ⟨_, rfl, _, rfl, _, rfl, p, top', t3, rfl, hp4, by omega, by omega, by omega, fun r7 t7 o7 r70 r71 tt7 hp7 => ?_⟩
        have b7 := b4.trans (But.upd p H4 o7)
        have hq7 : SL (L2.upd H4 p o7) q ws := by rw [SL, upd_ne nq]; exact hq3
        generalize L2.upd H4 p o7 = H7 at b7 hq7 hp7
        refine ⟨_, _, rfl, rfl, _, rfl, p, q, ws, 1 + r7, 3, t7, rfl, hp7, hq7, nq, wok, by omega, by omega, by decide, by decide, by omega, fun H8 W bk st t8 b8 hW0 hW wf hp8 tt8 => ?_⟩
        have hq8 : SL H8 q ws := b8 _ _ nq hq7
        refine ⟨_, rfl, by show 2 ≤ sizeLine; decide, fun R hR => ?_⟩
        exact k _ R bk st _ t8 ((b7.trans b8).newt hR) (rich_new hR (hp8.ne hR) hW hq8 nq) wf wok (hp8.new hR) (by omega)
end
end D1
end L2
/-! the law -/
namespace L2
namespace D1
open PySem PySem.Spec PyProof.Rows D2 X3 Gd
abbrev sLaw : Stmt := top 55
def spLaw (K : PySem.W.Frag) : Sp := fun vs H Q _ => ∃ (a : Addr) (ns : List Int), vs = [.ref a] ∧ SqL K H a (ns.map V.int) ∧ ns.length ≤ 63 ∧ ∀ H', Q (.bl true) H'
def aB : Bk := [("a", "done", [])]
def dnB : Bk := [("done", "done", [])]
theorem mk_same {C : Addr} {H : Hp} {q dx : Addr} (hq : H q = none) (hdx : H dx = none) : Same H (L2.upd (L2.upd H dx (.own q)) q (.ins C dx [])) := fun c u e => by
  rw [upd_ne (ne_of_none e hq), upd_ne (ne_of_none e hdx)]; exact e
theorem WF.wsIn {bk : Bk} {st : Str} {ws : List Str} (h : WF bk st ws) (w : WsOk ws) : WsIn bk ws := by
  refine ⟨by have := w.hi; omega, fun r hr x hx => ?_⟩
  rcases (h.rs r hr).2 with ⟨_, e⟩ | ⟨_, _, tok⟩
  · rw [e] at hx; cases hx
  · obtain ⟨t, ht, rfl⟩ := List.mem_map.mp hx
    exact tok.ks t ht
theorem words_wd {bk : Bk} {st : Str} {ys : List Str} (ok : DOk bk st) (h : WordsOf bk ys) : ∀ y ∈ ys, Wd y := fun y hy => by
  obtain ⟨r, hr, hx⟩ := (h.mem y).mp hy
  obtain ⟨t, ht, rfl⟩ := List.mem_map.mp hx
  rcases (ok.rs r hr).2.1 with ⟨_, e⟩ | ⟨_, _, _, f⟩
  · rw [e] at ht; cases ht
  · exact (f t ht).1
section
variable {P : Program} {w : World} {K : PySem.W.Frag} {mg : Str → Option Value} {base : Heap} {C : Addr}
abbrev CSpoilt (P : Program) (w : World) (K : PySem.W.Frag) (mg : Str → Option Value) (base : Heap) (C : Addr) := Cal P w K mg base "_law_spoilt" 7 ["_law_made"] (spSpoilt C)
abbrev CLent (P : Program) (w : World) (K : PySem.W.Frag) (mg : Str → Option Value) (base : Heap) := Cal P w K mg base "_law_lent_right" 9 ["_law_purse_here", "_law_world_here"] spLent
abbrev CCompR (P : Program) (w : World) (K : PySem.W.Frag) (mg : Str → Option Value) (base : Heap) := Cal P w K mg base "_law_compared_right" 8 ["_law_purse_here", "_law_world_here", "_law_words_here"] spCompR
abbrev CGrown (P : Program) (w : World) (K : PySem.W.Frag) (mg : Str → Option Value) (base : Heap) := Cal P w K mg base "_law_grown_right" 9 ["_law_world_here"] spGrown
abbrev CTurned (P : Program) (w : World) (K : PySem.W.Frag) (mg : Str → Option Value) (base : Heap) (C : Addr) := Cal P w K mg base "turned" 6 ["desk"] (spTurned C)
abbrev CPurses (P : Program) (w : World) (K : PySem.W.Frag) (mg : Str → Option Value) (base : Heap) := Cal P w K mg base "_law_purses" 2 ["_law_script", "_law_few"] (spPurses K)
abbrev KKindOf (P : Program) (w : World) (K : PySem.W.Frag) (mg : Str → Option Value) (base : Heap) (C : Addr) := CalK P w K mg base "kind_of" 5 ["desk", "state"] ["state", "desk"] List.reverse (spKind C)
abbrev KTurnsOf (P : Program) (w : World) (K : PySem.W.Frag) (mg : Str → Option Value) (base : Heap) (C : Addr) := CalK P w K mg base "turns_of" 5 ["desk", "state"] ["state", "desk"] List.reverse (spTurnsOf C)
abbrev KStates (P : Program) (w : World) (K : PySem.W.Frag) (mg : Str → Option Value) (base : Heap) (C : Addr) := CalK P w K mg base "states_of" 4 ["desk"] ["desk"] id (spStates C)
abbrev KWordsOf (P : Program) (w : World) (K : PySem.W.Frag) (mg : Str → Option Value) (base : Heap) (C : Addr) := CalK P w K mg base "words_of" 5 ["desk"] ["desk"] id (spWordsOf C)
/-- the class called by names alone -/
def KMInit (P : Program) (w : World) (K : PySem.W.Frag) (mg : Str → Option Value) (base : Heap) (C : Addr) : Prop := ∃ f fd g, Mk K C f ∧ FnOk P w K mg base CX0 4 f fd ["self", "book", "start"] (spDInit C) ∧ KBn K fd ["self", "book", "start"] 1 ["start", "book"] g fun vs zs => vs ++ zs.reverse
abbrev lwN : List Str := ["_law_script", "_law_purse_here", "_law_world_here", "_law_words_here", "_law_handed", "_law_before", "_law_made", "_law_twin", "_law_state"]
theorem scLw : FnScope lwN ["_law_script"] (defScope sLaw) := ⟨rfl, rfl, rfl, by decide +kernel, rfl, by decide +kernel, by decide +kernel⟩
theorem ok_law {f : Addr} {fd : FuncData} (F : Fun K "law" "law" sLaw f fd) (T : Free3 mg) (mr : mg "repr" = none) (D : DTxt K mg C) (MI : CMInit P w K mg base C) (KMI : KMInit P w K mg base C) (EV : EqV P w K mg base C) (MB : CMBook P w K mg base C) (CP : CPurses P w K mg base) (CO : CRow P w K mg base) (CM : CMixed2 P w K mg base) (CD : CDeskR P w K mg base C) (CSp : CSpoilt P w K mg base C)
    (CT : CTurned P w K mg base C) (KK : KKindOf P w K mg base C) (KT : KTurnsOf P w K mg base C) (KS : KStates P w K mg base C) (KW : KWordsOf P w K mg base C) (CA : CAllW P w K mg base) (CL : CLent P w K mg base) (CC : CCompR P w K mg base) (CG : CGrown P w K mg base) (CW : CWordsOf P w K mg base C) :
    FnG P w K mg base 10 f fd ["_law_script"] (spLaw K) := by
  obtain ⟨fI, fdI, mI, FI, bI⟩ := MI
  obtain ⟨fJ, fdJ, gJ, mJ, FJ, bJ⟩ := KMI
  obtain ⟨fB, fdB, mB, FB, bB⟩ := MB.ex
  refine Gd.Fun.okG F scLw (fun vs H Q E h => ?_) (fun cdv A outer s H vs Q E gA hr h => ?_)
  · obtain ⟨a, ns, rfl, _⟩ := h; rfl
  · obtain ⟨a, ns, rfl, hS, l63, k⟩ := h
    have hu := hu_of hr
    have hu4 : ∀ {X : Cx}, Room 9 X.A → X.A.units + 4 < cLine := fun hr => Nat.lt_of_le_of_lt (Nat.add_le_add_left (by decide : 4 ≤ 64) _) hr.units
    have hu8 : ∀ {X : Cx}, Room 9 X.A → X.A.units + 8 < cLine := fun hr => Nat.lt_of_le_of_lt (Nat.add_le_add_left (by decide : 8 ≤ 64) _) hr.units
    have dB : ∀ {X : Cx} {pos p1 p3 p4 p5 : Pos} {a : Str} {j1 j3 x1 : Nat}, PE X (.Dict [some (.Constant (.str a) j1 p1)] [.Tuple [.Constant (.str "done") j3 p3, .Dict [] [] p4] x1 p5] pos) (tDisp (trB [(a, "done", [])])) := pe_disp (pps_cons pe_str crow0 pps_nil) (by rfl) (by rfl) (fun z => by cases z) (by show 1 ≤ 15; decide)
    refine ⟨_, pss_cons (ps_for PassesOwn.never rfl (pi_list (pe_cal CP (hr.mono (by decide)) rfl (pa_cons (pv 0) (pa_cons pe_int pa_nil)))) (pg_name (i := 1) scLw.nd rfl (Or.inl rfl))
        (pss_cons (ps_asg (pe_cal CO (hr.mono (by decide)) rfl (pa_cons (pv 1) (pa_cons pe_int pa_nil))) (pg_lst rfl (pgs_cons (pg_name (i := 2) scLw.nd rfl (Or.inl rfl)) (pgs_cons (pg_name (i := 3) scLw.nd rfl (Or.inl rfl)) pgs_nil))))
        (pss_cons (ps_set (i := 4) scLw.nd rfl (Or.inl rfl) (pe_cal CM (hr.mono (by decide)) rfl (pa_cons (pv 1) (pa_cons (pe_ix ix_list (pv 2) pe_int (fun _ _ => rfl)) pa_nil))))
        (pss_cons (ps_set (i := 5) scLw.nd rfl (Or.inl rfl) (pe_callB (call_reprB gA (hu8 hr)) (by rfl) mr (by decide +kernel) (pa_cons (pv 4) pa_nil)))
        (pss_cons (ps_set (i := 6) scLw.nd rfl (Or.inl rfl) (pe_make mI FI (hr.mono (by decide)) rfl D.mgC bI .nil pass0 (pa_cons (pv 4) (pa_cons (pe_ix ix_list (pv 2) pe_int (fun _ _ => rfl)) pa_nil))))
        (pss_cons (ps_if (PW.pt (pw_or (pt_cmpR op_ne (pe_callB (call_reprB gA (hu8 hr)) (by rfl) mr (by decide +kernel) (pa_cons (pv 4) pa_nil)) (pv 5) (by rfl)) (pw_or1 (pt_not (pt_val (pe_cal CD (hr.mono (by decide)) rfl (pa_cons (pv 6) (pa_cons (pv 2) pa_nil)))))))) (pss_one (ps_ret pe_bl)) pss_nil)
        (pss_cons (ps_expr (pe_cal CSp (hr.mono (by decide)) rfl (pa_cons (pv 6) pa_nil)))
        (pss_cons (ps_set (i := 7) scLw.nd rfl (Or.inl rfl) (pe_makeK0 mJ FJ (hr.mono (by decide)) rfl D.mgC bJ pass0 (pk_cons (pe_ix ix_list (pv 2) pe_int (fun _ _ => rfl)) (pk_cons (pe_cal CM (hr.mono (by decide)) rfl (pa_cons (pv 1) (pa_cons (pe_ix ix_list (pv 2) pe_int (fun _ _ => rfl)) pa_nil))) pk_nil))))
        (pss_cons (ps_if (PW.pt (pw_or (pt_not (pt_val (pe_cal CD (hr.mono (by decide)) rfl (pa_cons (pv 6) (pa_cons (pv 2) pa_nil))))) (pw_or (pt_not (pt_cmpR (Gd.eqV EV (hr.mono (by decide))) (pv 6) (pv 7) (nomark _))) (pw_or (pt_cmpR (Gd.neV EV (hr.mono (by decide))) (pv 6) (pv 7) (nomark _)) (pw_or1 (pt_cmpR (Gd.neV EV (hr.mono (by decide))) (pe_cal CT (hr.mono (by decide)) rfl (pa_cons (pe_cal CT (hr.mono (by decide)) rfl (pa_cons (pv 6) pa_nil)) pa_nil)) (pv 7) (by rfl))))))) (pss_one (ps_ret pe_bl)) pss_nil)
        (pss_cons (ps_lock (ps_for PassesOwn.never rfl (pi_keys (pe_ix ix_list (pv 2) pe_int (fun _ _ => rfl))) (pg_name (i := 8) scLw.nd rfl (Or.inl rfl))
          (pss_one (ps_if (PW.pt (pw_or (pt_cmpR op_ne (pe_calK KK (hr.mono (by decide)) rfl (pk_cons (pv 8) (pk_cons (pv 7) pk_nil))) (pe_ix ix_tup (pe_dget hu (pe_ix ix_list (pv 2) pe_int (fun _ _ => rfl)) (pv 8) (fun _ _ => rfl)) pe_int (fun _ _ => rfl)) (by rfl))
              (pw_or1 (pt_cmpR (op_ne_dictA hr.units0) (pe_calK KT (hr.mono (by decide)) rfl (pk_cons (pv 8) (pk_cons (pv 7) pk_nil))) (pe_ix ix_tup (pe_dget hu (pe_ix ix_list (pv 2) pe_int (fun _ _ => rfl)) (pv 8) (fun _ _ => rfl)) pe_int (fun _ _ => rfl)) (by rfl))))) (pss_one (ps_ret pe_bl)) pss_nil))))
        (pss_cons (ps_if (PW.pt (pw_or (pt_cmpR (op_neD hr.units) (pe_calK KS (hr.mono (by decide)) rfl (pk_cons (pv 7) pk_nil)) (pe_callB (call_sortedD rfl) (by rfl) T.sorted (by decide +kernel) (pa_cons (pe_ix ix_list (pv 2) pe_int (fun _ _ => rfl)) pa_nil)) (by rfl))
              (pw_or1 (pt_cmpR (op_neD hr.units) (pe_calK KW (hr.mono (by decide)) rfl (pk_cons (pv 7) pk_nil)) (pe_cal CA (hr.mono (by decide)) rfl (pa_cons (pe_ix ix_list (pv 2) pe_int (fun _ _ => rfl)) pa_nil)) (by rfl))))) (pss_one (ps_ret pe_bl)) pss_nil)
        (pss_one (ps_if (PW.pt (pw_or (pt_not (pt_val (pe_cal CL (hr.mono (by decide)) rfl (pa_cons (pv 1) (pa_cons (pv 2) pa_nil))))) (pw_or (pt_not (pt_val (pe_cal CC (hr.mono (by decide)) rfl (pa_cons (pv 1) (pa_cons (pv 2) (pa_cons (pv 3) pa_nil)))))) (pw_or1 (pt_not (pt_val (pe_cal CG (hr.mono (by decide)) rfl (pa_cons (pv 2) pa_nil)))))))) (pss_one (ps_ret pe_bl)) pss_nil)))))))))))))
      (pss_one (ps_ret (pe_and (pe_cmpR (op_eqBk (hu4 hr)) (pe_meth0 (pe_make mI FI (hr.mono (by decide)) rfl D.mgC bI .nil pass0 (pa_cons dB (pa_cons pe_str pa_nil))) D.cl mB FB (hr.mono (by decide)) bB .nil pass0) dB (by rfl))
        (pe_one (pe_cmpR (op_eqD hr.units) (pe_cal CW (hr.mono (by decide)) rfl (pa_cons (pe_make mI FI (hr.mono (by decide)) rfl D.mgC bI .nil pass0 (pa_cons dB (pa_cons pe_str pa_nil))) pa_nil)) (pe_lst pa_nil) (by rfl)))))), ?_⟩
    refine ⟨_, rfl, a, ns, 4, rfl, hS, l63, by decide, by decide, fun H1 L ps s1 hL0 hL al nd nL lp => ?_⟩
    refine ⟨L, rfl, ⟨_, SqL.of hL⟩, ?_⟩
    refine for_list (K := K) (a := L) (xs := ps.map V.ref) (fun i σ H' => ∃ v1 v2 v3 v4 v5 v6 v7 v8 : Option V, σ = [some (.ref a), v1, v2, v3, v4, v5, v6, v7, v8] ∧ H' L = some (.lst (ps.map V.ref)) ∧ ∀ j p, i ≤ j → ps[j]? = some p → Purse H' p 0) ⟨none, none, none, none, none, none, none, none, rfl, hL, fun j p _ e => (al p (List.mem_of_getElem? e)).2⟩ (fun i σ H' _ ⟨_, _, _, _, _, _, _, _, _, z, _⟩ => SqL.of z) ?_ ?_
    · rintro i x σ H2 hx ⟨v1, v2, v3, v4, v5, v6, v7, v8, rfl, hL2, hp⟩
      obtain ⟨p, e, rfl⟩ := D1.get_map hx
      have hpi := hp i p (Nat.le_refl _) e
      have nLp : L ≠ p := fun h => nL (h ▸ List.mem_of_getElem? e)
      have hpT : ∀ {G : Hp} {t0 : Int}, Purse G p t0 → ∃ xs : List V, G p = some (.lst xs) := fun h => by obtain ⟨_, _, _, e, _⟩ := h; exact ⟨_, e⟩
      refine ⟨_, rfl, p, 6, 0, rfl, hpi, by decide, by decide, by decide, fun H3 R bk st ws t3 b3 ⟨W, Lw, hR, hW, hLw⟩ wf wok hp3 tt3 => ?_⟩
      have ok := wf.dok wok
      have wi := wf.wsIn wok
      have hRc := cut_some hR
      have hLc := cut_some hLw
      have nLw : Lw ≠ p := by simpa using hLc.1
      refine ⟨R, _, rfl, SqL.of hRc.2, rfl, _, _, rfl, _, _, rfl, rfl, ?_⟩
      obtain ⟨b, hWc, hbc⟩ := id hW
      have nWp : W ≠ p := fun e => by rw [e, cut_in (by simp)] at hWc; cases hWc
      have hW3 := cut_le _ _ hWc
      refine ⟨_, rfl, _, rfl, W, _, _, _, rfl, rfl, SqL.of hW3, atI_nat (j := 0) rfl, p, b, bk, t3, rfl, hp3, hbc, ok.nd, ok.len, ok.allw, by omega, fun H4 Rm cl t4 b34 hp4 tt4 nRm hBm mx => ?_⟩
      have okM := mx.dok ok
      have eo := mx.ord ok.nd ok.tk
      have hB4 : BookAt H4 Rm cl := hBm.same new_le
      refine ⟨_, rfl, Rm, cl, rfl, hB4, okM.toBWf, ?_⟩
      refine ⟨_, rfl, _, rfl, W, _, _, _, rfl, rfl, SqL.of (b34 _ _ nWp hW3), atI_nat (j := 1) rfl, fun q dx hq hdx _ => ?_⟩
      have m44 := mk_same (C := C) hq hdx
      refine ⟨q, dx, Rm, cl, st, rfl, upd_same, hB4.same m44, okM, fun H5 b5 hd _ => ⟨rfl, ?_⟩⟩
      have s45 : Same H4 H5 := fun c u e => b5 _ _ (ne_of_none e hq) (m44 _ _ e)
      have b35 := b34.trans (But.of s45)
      have hd5 := hd.congr eo
      refine ⟨_, rfl, Rm, cl, rfl, hB4.same s45, okM.toBWf, _, rfl, rfl, ?_⟩
      rw [decide_eq_true rfl]
      refine ⟨_, rfl, iteF ?_⟩
      refine ⟨_, rfl, _, rfl, q, W, bk, bk, st, ws, rfl, hd5, (hW.same b35.cut).same cut_le, ok, rfl, wi, fun H6 s6 => ⟨_, rfl, iteF ?_⟩⟩
      refine ⟨_, rfl, q, bk, st, ws, rfl, hd5.same s6, ok, wi, fun H7 s7 => ?_⟩
      have s57 := Same.trans s6 s7
      have b37 := b35.trans (But.of s57)
      have hp7 := hp4.same (Same.trans s45 s57)
      have hW7 := b37 _ _ nWp hW3
      refine ⟨_, rfl, W, _, _, _, rfl, rfl, SqL.of hW7, atI_nat (j := 1) rfl, _, rfl, _, rfl, W, _, _, _, rfl, rfl, SqL.of hW7, atI_nat (j := 0) rfl, p, b, bk, t4, rfl, hp7, hbc.same b37.cut, ok.nd, ok.len, ok.allw, by omega, fun H8 Rt ct t8 b78 hp8 tt8 nRt hBt mt => ⟨rfl, rfl, fun tw dy htw hdy _ => ?_⟩⟩
      have okT := mt.dok ok
      have eot := mt.ord ok.nd ok.tk
      have m89 := mk_same (C := C) htw hdy
      refine ⟨tw, dy, Rt, ct, st, rfl, upd_same, (hBt.same new_le).same m89, okT, fun H9 b9 hdt _ => ⟨rfl, ?_⟩⟩
      have s89 : Same H8 H9 := fun c u e => b9 _ _ (ne_of_none e htw) (m89 _ _ e)
      have ht9 := hdt.congr eot
      have b79 := b78.trans (But.of s89)
      have b39 := b37.trans b79
      have hp9 := hp8.same s89
      obtain ⟨x7, ex7⟩ := hpT hp7
      have hq9 : DeskAt C H9 q bk st := (hd5.same s57).but b79 ex7
      have hW9 : WorldAt H9 W bk st := (hW.same b39.cut).same cut_le
      have d1 : (decide (ordB bk = ordB bk) && decide (st = st)) = true := by rw [decide_eq_true rfl, decide_eq_true rfl]; rfl
      refine ⟨_, rfl, _, rfl, q, W, bk, bk, st, ws, rfl, hq9, hW9, ok, rfl, wi, fun H10 s10 => ⟨_, rfl, iteF ?_⟩⟩
      have hq10 := hq9.same s10
      have ht10 := ht9.same s10
      refine ⟨_, rfl, _, rfl, rv_desks hq10 ht10 ok ok ?_⟩
      rw [d1]
      refine ⟨_, rfl, iteF ?_⟩
      refine ⟨_, rfl, _, rfl, rv_desks hq10 ht10 ok ok ?_⟩
      rw [d1]
      refine ⟨_, rfl, iteF ?_⟩
      refine ⟨_, rfl, q, bk, st, rfl, hq10, ok, fun H11 q1 s11 _ hq11 _ => ?_⟩
      refine ⟨q1, turnB bk, st, rfl, hq11, ok.turn, fun H12 q2 s12 _ hq12 _ => ?_⟩
      have s1012 := Same.trans s11 s12
      refine ⟨_, rfl, rv_desks hq12 (ht10.same s1012) ok.turn.turn ok ?_⟩
      rw [ordB_turn2 ok, d1]
      refine ⟨_, rfl, iteF ?_⟩
      have s912 := Same.trans s10 s1012
      have b312 := b39.trans (But.of s912)
      have hp12 := hp9.same s912
      have ht12 := ht9.same s912
      have hW12 := b312 _ _ nWp hW3
      obtain ⟨kvs, hb12, hR12⟩ : BookAt H12 b bk := (hbc.same b312.cut).same cut_le
      have lkv : kvs.length = bk.length := hR12.len
      have lb := ok.len
      have ek : kvs.map (·.1) = (bk.map (·.1)).map Sum.inr := by rw [hR12.keys, List.map_map]; rfl
      refine ⟨b, _, hb12, trivial, fun od => ?_⟩
      have nWb : W ≠ b := fun e => by rw [e, hb12] at hW12; cases hW12
      have hWL : (L2.upd H12 b (.frz od (.dK kvs))) W = some (.lst [.ref b, .str st]) := by rw [upd_ne nWb]; exact hW12
      have htL := ht12.lock (od := od) hb12 hR12 ok.ne
      have hRL := hR12.lock (o := .frz od (.dK kvs)) hb12 ok.ne
      refine ⟨_, rfl, W, _, _, _, rfl, rfl, SqL.of hWL, atI_nat (j := 0) rfl, b, od, rfl, .inl ⟨kvs, upd_same, ?_⟩⟩
      refine for_it (walk_keys (d := b) (o := od) (kvs := kvs)) (fun i σ H' => ∃ v8 : Option V, σ = [some (.ref a), some (.ref p), some (.ref W), some (.ref Lw), some (.ref Rm), some (.str (PyData.shown (bookD cl))), some (.ref q), some (.ref tw), v8] ∧ Same (L2.upd H12 b (.frz od (.dK kvs))) H') ⟨_, rfl, Same.refl _⟩ (fun i σ H' _ ⟨_, _, z⟩ => z _ _ upd_same) ?_ ?_
      · rintro i x σ H13 H14 hi ⟨v8, rfl, sm⟩ ⟨rfl, kk, v0, hkv, rfl⟩
        obtain ⟨r, hr', rfl, _⟩ := hR12.at hkv
        have hs : r.1 ∈ bk.map (·.1) := List.mem_map_of_mem (List.mem_of_getElem? hr')
        refine ⟨_, rfl, _, rfl, tw, bk, st, r.1, rfl, htL.same sm, ok, hs, fun H15 s15 => ?_⟩
        have sm15 := Same.trans sm s15
        obtain ⟨v, ev, ⟨tu, c, rfl, htu, hc⟩, hmm⟩ := (hRL.same sm15).look hs
        refine ⟨_, rfl, W, _, _, _, rfl, rfl, SqL.of (sm15 _ _ hWL), atI_nat (j := 0) rfl, _, rfl, b, _, rfl, .inl ⟨kvs, .inr r.1, .inr ⟨od, sm15 _ _ upd_same⟩, rfl, ev.symm⟩, tu, _, _, _, rfl, rfl, SqT.of htu, atI_nat (j := 0) rfl, rfl, ?_⟩
        rw [decide_eq_true rfl]
        refine ⟨_, rfl, iteF ?_⟩
        refine ⟨_, rfl, _, rfl, tw, bk, st, r.1, rfl, htL.same sm15, ok, hs, fun H16 Rx s16 nRx hRx => ?_⟩
        have sm16 := Same.trans sm15 s16
        refine ⟨_, rfl, W, _, _, _, rfl, rfl, SqL.of (sm16 _ _ hWL), atI_nat (j := 0) rfl, _, rfl, b, _, rfl, .inl ⟨kvs, .inr r.1, .inr ⟨od, sm16 _ _ upd_same⟩, rfl, ev.symm⟩, tu, _, _, _, rfl, rfl, SqT.of (s16 _ _ htu), atI_nat (j := 1) rfl, Rx, c, _, _, rfl, rfl, hRx, hc.same s16, by rw [kT, kT, List.length_map, List.length_map, ordT_len], fun y hy => ?_, ?_⟩
        · obtain ⟨t, ht, rfl⟩ := List.mem_map.mp hy
          obtain ⟨k0, hk0, rfl⟩ := List.mem_map.mp ht
          exact ⟨valV_goal ((srt_perm _).mem_iff.mp hk0), rfl⟩
        · exact ⟨_, rfl, iteF ⟨_, rfl, sm16⟩⟩
      rintro σ H13 ⟨v8, rfl, sm⟩
      have su := Same.unlock hb12 sm
      refine ⟨sm _ _ upd_same, ?_⟩
      generalize L2.upd H13 b (.dK kvs) = H14 at su
      have ht14 := ht12.same su
      refine ⟨_, rfl, tw, bk, st, rfl, ht14, ok, fun H15 R15 s15 _ hR15 => ?_⟩
      have su15 := Same.trans su s15
      refine ⟨_, rfl, W, _, _, _, rfl, rfl, SqL.of (su15 _ _ hW12), atI_nat (j := 0) rfl, b, kvs, bk.map (·.1), rfl, .inl (su15 _ _ hb12), ek, by rw [List.length_map]; omega, fun ys S pm so hS2 => ?_⟩
      rw [srt_of pm so]
      have g16 := Same.new (o := .lst ((srt (bk.map (·.1))).map V.str)) hS2
      have eS : SL (L2.upd H15 S (.lst ((srt (bk.map (·.1))).map V.str))) S (srt (bk.map (·.1))) := upd_same
      generalize L2.upd H15 S (.lst ((srt (bk.map (·.1))).map V.str)) = H16 at g16 eS
      have su16 := Same.trans su15 g16
      have nw : ∀ x ∈ srt (bk.map (·.1)), Wd x := fun x hx => by
        obtain ⟨r, hr, rfl⟩ := List.mem_map.mp ((srt_perm _).mem_iff.mp hx)
        exact (ok.rs r hr).1
      refine ⟨dW (srt (bk.map (·.1))), dW (srt (bk.map (·.1))), dp_words (hR15.same g16), dp_words eS, sh_words nw, sh_words nw, ?_⟩
      rw [eq_words nw]
      refine ⟨_, rfl, iteF ?_⟩
      refine ⟨_, rfl, tw, bk, st, rfl, (ht12.same su16), ok, fun H17 R17 ys1 s17 _ hR17 w1 => ?_⟩
      have su17 := Same.trans su16 s17
      refine ⟨_, rfl, W, _, _, _, rfl, rfl, SqL.of (su17 _ _ hW12), atI_nat (j := 0) rfl, b, bk, ws, rfl, wi, ⟨kvs, su17 _ _ hb12, hR12.same su17⟩, ok.ne, ok.len, ok.nd, ok.allw, fun H18 R18 ys2 s18 _ hR18 w2 => ?_⟩
      have ey : ys1 = ys2 := w1.one w2 fun _ => Iff.rfl
      subst ey
      have yw := words_wd ok w1
      refine ⟨dW ys1, dW ys1, dp_words (hR17.same s18), dp_words hR18, sh_words yw, sh_words yw, ?_⟩
      rw [eq_words yw]
      refine ⟨_, rfl, iteF ?_⟩
      have su18 := Same.trans su17 s18
      have b318 := b312.trans (But.of su18)
      have hp18 := hp12.same su18
      refine ⟨_, rfl, _, rfl, p, W, bk, st, ws, t8, rfl, hp18, hW.same b318.cut, ok, wi, by omega, fun H19 t19 b19 hp19 tt19 => ⟨_, rfl, iteF ?_⟩⟩
      have b319 := b318.trans b19
      refine ⟨_, rfl, _, rfl, _, rfl, p, W, Lw, bk, st, ws, t19, rfl, hp19, (hW.same b319.cut).same cut_le, b319 _ _ nLw hLc.2, nLw, wf, wok, by omega, fun H20 t20 b20 hp20 tt20 => ⟨_, rfl, iteF ?_⟩⟩
      have b320 := b319.trans b20
      refine ⟨_, rfl, W, bk, st, ws, rfl, (hW.same b320.cut).same cut_le, ok, wi, fun H21 s21 => ⟨_, rfl, iteF ?_⟩⟩
      have b221 : But p H2 H21 := b3.trans (b320.trans (But.of s21))
      refine ⟨_, _, _, _, _, _, _, _, rfl, b221 _ _ nLp hL2, fun j' p' hj e' => ?_⟩
      have nn : p' ≠ p := fun h => by
        rw [h] at e'
        have hil : i < ps.length := (List.getElem?_eq_some_iff.mp e).1
        have := (List.getElem?_inj hil nd).mp (e.trans e'.symm)
        omega
      obtain ⟨g, bb, z, hl, r⟩ := hp j' p' (by omega) e'
      exact ⟨g, bb, z, b221 _ _ nn hl, r⟩
    · rintro σ H2 ⟨v1, v2, v3, v4, v5, v6, v7, v8, rfl, hL2, hp⟩
      have okA : DOk aB "a" := dok_by (by decide +kernel)
      have okD : DOk dnB "done" := dok_by (by decide +kernel)
      dsimp only [tRet, tAndV, tOp, tMeth, tMake, tCons]
      refine disp_book (bk := aB) (by decide +kernel) (by decide) fun H3 b3 s3 n3 hB3 => ?_
      intro qa dx h1 h2 _
      have m4 := mk_same (C := C) h1 h2
      refine ⟨qa, dx, b3, aB, "a", rfl, upd_same, hB3.same m4, okA, fun H4 b4 hqa _ => ⟨rfl, ?_⟩⟩
      obtain ⟨dx2, bz, e0, _⟩ := id hqa
      refine ⟨qa, dx2, _, rfl, e0, dflds_no _ _ (by decide +kernel) (by decide +kernel), qa, aB, "a", rfl, hqa, okA, fun H5 Rb s5 nRb hRb _ => ?_⟩
      refine disp_book (bk := aB) (by decide +kernel) (by decide) fun H6 b6 s6 n6 hB6 => ?_
      refine ⟨Rb, b6, ordB aB, aB, rfl, rfl, (hRb.same s6).r, hB6.r, okA.obok, okA.bok, _, rfl, ?_⟩
      rw [decide_eq_true (ordB_ordB okA.nd)]
      refine iteT ?_
      dsimp only [tCall, tMake, tCons]
      refine disp_book (bk := dnB) (by decide +kernel) (by decide) fun H7 b7 s7 n7 hB7 => ?_
      intro qd dy h3 h4 _
      have m8 := mk_same (C := C) h3 h4
      refine ⟨qd, dy, b7, dnB, "done", rfl, upd_same, hB7.same m8, okD, fun H8 b8 hqd _ => ⟨rfl, ?_⟩⟩
      refine ⟨qd, dnB, "done", rfl, hqd, okD, fun H9 R ys s9 _ hR w9 => ⟨by show 0 ≤ sizeLine; decide, fun N hN => ?_⟩⟩
      have ey : ys = [] := List.eq_nil_iff_forall_not_mem.mpr fun x hx => by
        obtain ⟨r, hr, h⟩ := (w9.mem x).mp hx
        rw [List.mem_singleton.mp hr] at h
        cases h
      subst ey
      have nw : ∀ x ∈ ([] : List Str), Wd x := fun _ h => by cases h
      refine ⟨dW [], dW [], dp_words (hR.same (Same.new hN)), dp_words upd_same, sh_words nw, sh_words nw, ?_⟩
      rw [eq_words nw]
      exact k _
end
end D1
end L2
/-! the rows of the text, the law's promise -/
namespace L2
namespace D1
open PySem PySem.Spec PyProof.Rows D2
section
variable {K : PySem.W.Frag} {h : Heap} {mg : Str → Option Value}
/-- a def of the text -/
def RowF (K : PySem.W.Frag) (mg : Str → Option Value) (x : Str) (st : Stmt) : Prop := ∃ f fd, mg x = some (.ref f) ∧ Fun K x x st f fd
theorem rowF (X : K.In h) (G : h.Ns mainGlobals mg) {x : Str} {st : Stmt} {f : Addr} {oc kV doc pm cdv ct : Value} {od an : Option Addr} {osl : Array (Option Value)} (a : PySem.W.nsIn K mainGlobals x = some (some (.ref f)))
    (l : K.lookup f = some ⟨oc, od, .func (PySem.W.fnOf x x (defArgs st) (defBody st) (defScope st) .none kV doc pm an cdv ct), osl⟩) (c : PySem.W.codeIn K cdv x = true) (k : PySem.W.keepIn K (.ref f) = true) : RowF K mg x st :=
  ⟨f, _, PySem.W.mg_of X G a, fun_mk l c k⟩
/-- a method of the class at C -/
def RowM (K : PySem.W.Frag) (C : Addr) (m q : Str) (st : Stmt) : Prop := ∃ f fd, PySem.W.findIn K (.ref C) m = some (some (.ref f)) ∧ PySem.W.isFn K (.ref f) = true ∧ Fun K m q st f fd
theorem rowM (_ : K.In h) {C : Addr} {m q : Str} {st : Stmt} {f : Addr} {oc kV doc pm cdv ct : Value} {od an : Option Addr} {osl : Array (Option Value)} (a : PySem.W.findIn K (.ref C) m = some (some (.ref f))) (i : PySem.W.isFn K (.ref f) = true)
    (l : K.lookup f = some ⟨oc, od, .func (PySem.W.fnOf m q (defArgs st) (defBody st) (defScope st) .none kV doc pm an cdv ct), osl⟩) (c : PySem.W.codeIn K cdv q = true) (k : PySem.W.keepIn K (.ref f) = true) : RowM K C m q st :=
  ⟨f, _, a, i, fun_mk l c k⟩
/-- the class Desk -/
structure DeskRow (K : PySem.W.Frag) (mg : Str → Option Value) (C : Addr) : Prop where
  txt : DTxt K mg C
  ins : C8.InsC K C
  mkD : PySem.W.makesIn K C = true
  kp : PySem.W.keepIn K (.ref C) = true
  m0 : RowM K C "__init__" "Desk.__init__" sDInit
  m1 : RowM K C "__eq__" "Desk.__eq__" sDEq
  m2 : RowM K C "book" "Desk.book" sDBook
  m3 : RowM K C "start" "Desk.start" sDStart
theorem deskRow (X : K.In h) (G : h.Ns mainGlobals mg) {C : Addr} (aC : PySem.W.nsIn K mainGlobals "Desk" = some (some (.ref C)))
    (pg : PySem.W.plainGet K C Str.empty = true) (hd : PySem.W.hasDictIn K C = true) (po : PySem.W.plainOver K C = true) (sa : PySem.W.findIn K (.ref C) "__setattr__" = some (some (.builtin "object.__setattr__")))
    (nB : PySem.W.findIn K (.ref C) "_book" = some none) (nS : PySem.W.findIn K (.ref C) "_start" = some none)
    (ca : PySem.W.findIn K (.ref C) "__class__" = some (some (.builtin "object.__class__"))) (gs : PySem.W.specialIn K (.builtin "object.__class__") "__get__" = some (some (.builtin "getset_descriptor.__get__"))) (ss : PySem.W.takesIn K (.builtin "object.__class__") = some true)
    (mo : PySem.W.mroIn K C (.type "object") = some true) (mk : PySem.W.makesIn K C = true) (kp : PySem.W.keepIn K (.ref C) = true)
    (m0 : RowM K C "__init__" "Desk.__init__" sDInit) (m1 : RowM K C "__eq__" "Desk.__eq__" sDEq) (m2 : RowM K C "book" "Desk.book" sDBook) (m3 : RowM K C "start" "Desk.start" sDStart) : ∃ C, DeskRow K mg C :=
  ⟨C, ⟨⟨pg, hd, po, sa⟩, nB, nS, PySem.W.mg_of X G aC⟩, ⟨⟨pg, hd, po, sa⟩, ca, gs, ss, mo, by unfold PySem.W.kitOne; rw [if_pos (beq_self_eq_true _)]⟩, mk, kp, m0, m1, m2, m3⟩
theorem bind1 {x : Str} {st : Stmt} {f : Addr} {fd : FuncData} {a : Str} (F : Fun K x x st f fd) (e : ∀ (kV doc pm : Value) (an : Option Addr) (cdv ct u : Value), bindArgs (PySem.W.fnOf x x (defArgs st) (defBody st) (defScope st) .none kV doc pm an cdv ct) ⟨[u], []⟩ = pure [(a, u)]) (s : Shared) (u : Value) : BindsTo s fd ⟨[u], []⟩ [(a, u)] := by
  obtain ⟨oc, od, kV, doc, pm, an, cdv, ct, osl, rfl, lk, hcd⟩ := F.ex
  exact .of_eq (e kV doc pm an cdv ct u)
theorem paired_cat {α β : Type} {R : α → β → Prop} {xs : List α} {ys : List β} {zs : List α} {ws : List β} (h : Paired R xs ys) (g : Paired R zs ws) : Paired R (xs ++ zs) (ys ++ ws) := by
  induction h with
  | nil => exact g
  | cons a _ ih => exact .cons a ih
theorem paired_rev {α β : Type} {R : α → β → Prop} {xs : List α} {ys : List β} (h : Paired R xs ys) : Paired R xs.reverse ys.reverse := by
  induction h with
  | nil => exact .nil
  | cons a _ ih => rw [List.reverse_cons, List.reverse_cons]; exact paired_cat ih (.cons a .nil)
/-- a call by names: one parameter -/
theorem kb1 {x : Str} {st : Stmt} {f : Addr} {fd : FuncData} {a : Str} (F : Fun K x x st f fd) (e : ∀ (kV doc pm : Value) (an : Option Addr) (cdv ct u : Value), bindArgs (PySem.W.fnOf x x (defArgs st) (defBody st) (defScope st) .none kV doc pm an cdv ct) ⟨[u], []⟩ = pure [(a, u)])
    (e2 : ∀ (kV doc pm : Value) (an : Option Addr) (cdv ct u : Value), bindArgs (PySem.W.fnOf x x (defArgs st) (defBody st) (defScope st) .none kV doc pm an cdv ct) ⟨[], [(a, u)]⟩ = pure [(a, u)]) : KBinds K fd [a] [a] (fun us ws => us ++ ws) fun vs zs => vs ++ id zs := by
  obtain ⟨oc, od, kV, doc, pm, an, cdv, ct, osl, rfl, lk, hcd⟩ := F.ex
  refine ⟨fun s us ws _ hl => ?_, fun r1 r2 => paired_cat r1 r2⟩
  have hl : (us ++ ws).length = 1 := hl
  match us, ws, hl with
  | [], [u], _ => exact .of_eq (e2 kV doc pm an cdv ct u)
  | [u], [], _ => exact .of_eq (e kV doc pm an cdv ct u)
  | [], [], h => cases h
  | [], _ :: _ :: _, h => simp at h
  | [_], _ :: _, h => simp at h
  | _ :: _ :: _, _, h => simp at h
/-- two parameters, the names the other way about -/
theorem kb2 {x : Str} {st : Stmt} {f : Addr} {fd : FuncData} {a b : Str} (F : Fun K x x st f fd) (e : ∀ (kV doc pm : Value) (an : Option Addr) (cdv ct u v : Value), bindArgs (PySem.W.fnOf x x (defArgs st) (defBody st) (defScope st) .none kV doc pm an cdv ct) ⟨[u, v], []⟩ = pure [(a, u), (b, v)])
    (e1 : ∀ (kV doc pm : Value) (an : Option Addr) (cdv ct u v : Value), bindArgs (PySem.W.fnOf x x (defArgs st) (defBody st) (defScope st) .none kV doc pm an cdv ct) ⟨[u], [(b, v)]⟩ = pure [(a, u), (b, v)])
    (e2 : ∀ (kV doc pm : Value) (an : Option Addr) (cdv ct u v : Value), bindArgs (PySem.W.fnOf x x (defArgs st) (defBody st) (defScope st) .none kV doc pm an cdv ct) ⟨[], [(b, v), (a, u)]⟩ = pure [(a, u), (b, v)]) : KBinds K fd [a, b] [b, a] (fun us ws => us ++ ws.reverse) fun vs zs => vs ++ zs.reverse := by
  obtain ⟨oc, od, kV, doc, pm, an, cdv, ct, osl, rfl, lk, hcd⟩ := F.ex
  refine ⟨fun s us ws _ hl => ?_, fun r1 r2 => paired_cat r1 (paired_rev r2)⟩
  have hl : (us ++ ws.reverse).length = 2 := hl
  match us, ws, hl with
  | [], [v, u], _ => exact .of_eq (e2 kV doc pm an cdv ct u v)
  | [u], [v], _ => exact .of_eq (e1 kV doc pm an cdv ct u v)
  | [u, v], [], _ => exact .of_eq (e kV doc pm an cdv ct u v)
  | [], [], h => simp at h
  | [], [_], h => simp at h
  | [], _ :: _ :: _ :: _, h => simp at h
  | [_], [], h => simp at h
  | [_], _ :: _ :: _, h => simp at h
  | [_, _], _ :: _, h => simp at h
  | _ :: _ :: _ :: _, _, h => simp at h
theorem eq_obj : typeLookup (.type "object") (Str.ofString "__eq__") = pure (some (.builtin "object.__eq__")) := by rw [typeLookup_type, builtinLookup_eq_fast]; kernel_rfl
/-- the keys are texts -/
def KStr : List DictEntry → Prop
  | [] => True
  | e :: r => (∃ x t, e.key = .str x t) ∧ KStr r
theorem KStr.all : ∀ {l : List DictEntry}, KStr l → ∀ e ∈ l, ∃ x t, e.key = .str x t
  | _ :: _, ⟨h, _⟩, _, .head _ => h
  | _ :: _, ⟨_, r⟩, _, .tail _ m => r.all _ m
/-- the class has an own == and no own != -/
theorem neF_mk {C f N : Addr} {nm q0 : Str} {bs : List Value} {hdct : Bool} {sn : List Str} {sub : List Value} {ab : Bool} {col : Option Bool} {dd : Option Addr} {k0 k1 k2 k3 k5 : Option Value} {newId : String} {oN oc : Value} {dN od : Option Addr} {es : Array DictEntry} {n : Nat} {sN osl : Array (Option Value)} {dt : Data}
    (l : K.lookup C = some (excClassObj nm q0 C N bs [.type "object"] hdct sn sub ab col dd k0 k1 k2 k3 k5 newId)) (lN : K.lookup N = some ⟨oN, dN, .dict es n, sN⟩) (hk : KStr es.toList)
    (e1 : PySem.W.nsIn K N "__eq__" = some (some (.ref f))) (e2 : PySem.W.nsIn K N "__ne__" = some none) (lI : K.lookup f = some ⟨oc, od, dt, osl⟩) (tI : oc = .type "function") : NeF K C f := by
  refine ⟨fun h x o X hx hc => ?_⟩
  have hN : h.Ns N (fun n => nsFind es n) := ⟨_, es, n, X _ _ lN, rfl, fun e he => hk.all e (Array.mem_toList_iff.mpr he), fun _ => rfl⟩
  refine ⟨o, _, nm, q0, N, bs, hdct, sn, sub, ab, col, dd, k0, k1, k2, k3, k5, newId, _, some (.builtin "object.__eq__"), hx, hc, X _ _ l, hN, ?_, X _ _ lI, tI, PySem.F.mro_object, eq_obj, PySem.W.ns_none_of X hN e2⟩
  unfold PySem.W.nsIn at e1
  rw [lN] at e1
  dsimp only at e1
  split at e1
  · rename_i en he
    show nsFind es _ = _
    unfold nsFind findBy
    rw [← Array.find?_toList, he]
    exact Option.some.inj e1
  · split at e1 <;> cases e1
theorem neRow (X : K.In h) (G : h.Ns mainGlobals mg) {C f N : Addr} {nm q0 : Str} {bs : List Value} {hdct : Bool} {sn : List Str} {sub : List Value} {ab : Bool} {col : Option Bool} {dd : Option Addr} {k0 k1 k2 k3 k5 : Option Value} {newId : String} {oN oc : Value} {dN od : Option Addr} {es : Array DictEntry} {n : Nat} {sN osl : Array (Option Value)} {dt : Data}
    (aC : PySem.W.nsIn K mainGlobals "Desk" = some (some (.ref C))) (a1 : PySem.W.findIn K (.ref C) "__eq__" = some (some (.ref f)))
    (l : K.lookup C = some (excClassObj nm q0 C N bs [.type "object"] hdct sn sub ab col dd k0 k1 k2 k3 k5 newId)) (lN : K.lookup N = some ⟨oN, dN, .dict es n, sN⟩) (hk : KStr es.toList)
    (e1 : PySem.W.nsIn K N "__eq__" = some (some (.ref f))) (e2 : PySem.W.nsIn K N "__ne__" = some none) (lI : K.lookup f = some ⟨oc, od, dt, osl⟩) (tI : oc = .type "function") : ∀ C2 f2, mg "Desk" = some (.ref C2) → PySem.W.findIn K (.ref C2) "__eq__" = some (some (.ref f2)) → NeF K C2 f2 := by
  intro C2 f2 h1 h2
  have h3 := PySem.W.mg_of X G aC
  rw [h1] at h3
  cases h3
  rw [a1] at h2
  cases h2
  exact neF_mk l lN hk e1 e2 lI tI
theorem tuRow {w : World} (X : K.In h) (G : h.Ns mainGlobals mg) {d : Addr} {es : Array DictEntry} {n : Nat} {t1 t2 t3 : Tok} (aT : PySem.W.nsIn K mainGlobals "TURNED" = some (some (.ref d))) (l : K.lookup d = some ⟨.type "dict", none, .dict es n, #[]⟩)
    (lit : PySem.W.KeysLit w.params es.toList) (low : (d == sysModules) = false) (u1 : PySem.W.nsIn K d "says" = some (some (.str "hears" t1))) (u2 : PySem.W.nsIn K d "hears" = some (some (.str "says" t2))) (u3 : PySem.W.nsIn K d "done" = some (some (.str "done" t3))) : TuT K w mg :=
  ⟨d, es, n, t1, t2, t3, PySem.W.mg_of X G aT, ⟨l, lit, low⟩, u1, u2, u3⟩

/-- the class by names alone -/
theorem kbI {f : Addr} {fd : FuncData} (F : Fun K "__init__" "Desk.__init__" sDInit f fd) : KBn K fd ["self", "book", "start"] 1 ["start", "book"] (fun us ws => us ++ ws.reverse) fun vs zs => vs ++ zs.reverse := by
  obtain ⟨oc, od, kV, doc, pm, an, cdv, ct, osl, rfl, lk, hcd⟩ := F.ex
  refine ⟨fun s us ws _ h1 h2 => ?_, fun r1 r2 => paired_cat r1 (paired_rev r2)⟩
  match us, ws, h1, h2 with
  | [u], [a, b], _, _ => exact .of_eq rfl
theorem noRow (X : K.In h) (G : h.Ns mainGlobals mg) {C : Addr} (aC : PySem.W.nsIn K mainGlobals "Desk" = some (some (.ref C)))
    (k0 : PySem.W.kitOne K (.type "NoneType") (.ref C) = some false) (s0 : PySem.W.subIn K (.type "NoneType") (.ref C) = some false) (b0 : PySem.W.subIn K (.ref C) (.type "NoneType") = some false)
    (k1 : PySem.W.kitOne K (.type "int") (.ref C) = some false) (s1 : PySem.W.subIn K (.type "int") (.ref C) = some false) (b1 : PySem.W.subIn K (.ref C) (.type "int") = some false)
    (k2 : PySem.W.kitOne K (.type "bool") (.ref C) = some false) (s2 : PySem.W.subIn K (.type "bool") (.ref C) = some false) (b2 : PySem.W.subIn K (.ref C) (.type "bool") = some false)
    (k3 : PySem.W.kitOne K (.type "str") (.ref C) = some false) (s3 : PySem.W.subIn K (.type "str") (.ref C) = some false) (b3 : PySem.W.subIn K (.ref C) (.type "str") = some false)
    (k4 : PySem.W.kitOne K (.type "list") (.ref C) = some false) (s4 : PySem.W.subIn K (.type "list") (.ref C) = some false) (b4 : PySem.W.subIn K (.ref C) (.type "list") = some false)
    (k5 : PySem.W.kitOne K (.type "tuple") (.ref C) = some false) (s5 : PySem.W.subIn K (.type "tuple") (.ref C) = some false) (b5 : PySem.W.subIn K (.ref C) (.type "tuple") = some false)
    (k6 : PySem.W.kitOne K (.type "dict") (.ref C) = some false) (s6 : PySem.W.subIn K (.type "dict") (.ref C) = some false) (b6 : PySem.W.subIn K (.ref C) (.type "dict") = some false)
    : ∀ C2, mg "Desk" = some (.ref C2) → Gd.NoK K C2 := by
  intro C2 h1
  have h3 := PySem.W.mg_of X G aC
  rw [h1] at h3
  cases h3
  refine ⟨fun T hT => ?_, fun T hT => ?_, fun T hT => ?_⟩ <;> (simp only [Gd.kinds, List.mem_cons, List.not_mem_nil, or_false] at hT; rcases hT with rfl | rfl | rfl | rfl | rfl | rfl | rfl <;> assumption)

theorem law_of {P : Program} {w : World} {fa : Addr} (hfa : mg "law" = some (.ref fa)) (T : Free3 mg) (mr : mg "repr" = none) (no : ∀ C, mg "Desk" = some (.ref C) → Gd.NoK K C) (dr : ∃ C, DeskRow K mg C) (nf : ∀ C f, mg "Desk" = some (.ref C) → PySem.W.findIn K (.ref C) "__eq__" = some (some (.ref f)) → NeF K C f) (U : TuT K w mg)
    (r0 : RowF K mg "is_name" sIsName)
    (r1 : RowF K mg "is_row" sIsRow)
    (r2 : RowF K mg "is_state_of" sIsState)
    (r3 : RowF K mg "is_book" sIsBook)
    (r4 : RowF K mg "ordered_turns" sOrdT)
    (r5 : RowF K mg "ordered_book" sOrdB)
    (r6 : RowF K mg "need_desk" sNeed)
    (r7 : RowF K mg "graph_of" sGraph)
    (r8 : RowF K mg "book_with" sBookWith)
    (r9 : RowF K mg "states_of" sStates)
    (r10 : RowF K mg "kind_of" sKind)
    (r11 : RowF K mg "turns_of" sTurnsOf)
    (r12 : RowF K mg "words_of" sWordsOf)
    (r13 : RowF K mg "turned" sTurned)
    (r14 : RowF K mg "_law_purse" sPurse)
    (r15 : RowF K mg "_law_mixed" sMixed)
    (r16 : RowF K mg "_law_draw" sDraw)
    (r17 : RowF K mg "_law_purses" sPurses)
    (r18 : RowF K mg "_law_one_of" sOneOf)
    (r19 : RowF K mg "_law_shuffled" sShuf)
    (r20 : RowF K mg "_law_exact" sExact)
    (r21 : RowF K mg "_law_word" sWord)
    (r22 : RowF K mg "_law_words" sWords)
    (r23 : RowF K mg "_law_pool" sPool)
    (r24 : RowF K mg "_law_turns" sTurns)
    (r25 : RowF K mg "_law_world" sWorld)
    (r26 : RowF K mg "_law_shape" sShape)
    (r27 : RowF K mg "_law_desk" sLDesk)
    (r28 : RowF K mg "_law_turned" sLTurned)
    (r29 : RowF K mg "_law_changed_row" sChRow)
    (r30 : RowF K mg "_law_newer" sNewer)
    (r31 : RowF K mg "_law_said_fewer" sSaid)
    (r32 : RowF K mg "_law_row_of" sRowOf)
    (r33 : RowF K mg "_law_row_ordered" sRowOrd)
    (r34 : RowF K mg "_law_ordered" sOrdered)
    (r35 : RowF K mg "_law_mixed_up" sMixed2)
    (r36 : RowF K mg "_law_all_words" sAllW)
    (r37 : RowF K mg "_law_desk_right" sDeskR)
    (r38 : RowF K mg "_law_spoilt" sSpoilt)
    (r39 : RowF K mg "_law_lent_right" sLent)
    (r40 : RowF K mg "_law_grown_right" sGrown)
    (r41 : RowF K mg "_law_others" sOthers)
    (r42 : RowF K mg "_law_compared_right" sCompR)
    (r43 : RowF K mg "law" sLaw)
    : ∃ fd : FuncData, (∀ (s : Shared) (u : Value), BindsTo s fd ⟨[u], []⟩ [("_law_script", u)]) ∧ ∀ base : Heap, K.In base → base.Ns mainGlobals mg → Gd.FnG P w K mg base 10 fa fd ["_law_script"] (spLaw K) := by
  obtain ⟨C, R⟩ := dr
  obtain ⟨f0, d0, g0, F0⟩ := r0
  obtain ⟨f1, d1, g1, F1⟩ := r1
  obtain ⟨f2, d2, g2, F2⟩ := r2
  obtain ⟨f3, d3, g3, F3⟩ := r3
  obtain ⟨f4, d4, g4, F4⟩ := r4
  obtain ⟨f5, d5, g5, F5⟩ := r5
  obtain ⟨f6, d6, g6, F6⟩ := r6
  obtain ⟨f7, d7, g7, F7⟩ := r7
  obtain ⟨f8, d8, g8, F8⟩ := r8
  obtain ⟨f9, d9, g9, F9⟩ := r9
  obtain ⟨f10, d10, g10, F10⟩ := r10
  obtain ⟨f11, d11, g11, F11⟩ := r11
  obtain ⟨f12, d12, g12, F12⟩ := r12
  obtain ⟨f13, d13, g13, F13⟩ := r13
  obtain ⟨f14, d14, g14, F14⟩ := r14
  obtain ⟨f15, d15, g15, F15⟩ := r15
  obtain ⟨f16, d16, g16, F16⟩ := r16
  obtain ⟨f17, d17, g17, F17⟩ := r17
  obtain ⟨f18, d18, g18, F18⟩ := r18
  obtain ⟨f19, d19, g19, F19⟩ := r19
  obtain ⟨f20, d20, g20, F20⟩ := r20
  obtain ⟨f21, d21, g21, F21⟩ := r21
  obtain ⟨f22, d22, g22, F22⟩ := r22
  obtain ⟨f23, d23, g23, F23⟩ := r23
  obtain ⟨f24, d24, g24, F24⟩ := r24
  obtain ⟨f25, d25, g25, F25⟩ := r25
  obtain ⟨f26, d26, g26, F26⟩ := r26
  obtain ⟨f27, d27, g27, F27⟩ := r27
  obtain ⟨f28, d28, g28, F28⟩ := r28
  obtain ⟨f29, d29, g29, F29⟩ := r29
  obtain ⟨f30, d30, g30, F30⟩ := r30
  obtain ⟨f31, d31, g31, F31⟩ := r31
  obtain ⟨f32, d32, g32, F32⟩ := r32
  obtain ⟨f33, d33, g33, F33⟩ := r33
  obtain ⟨f34, d34, g34, F34⟩ := r34
  obtain ⟨f35, d35, g35, F35⟩ := r35
  obtain ⟨f36, d36, g36, F36⟩ := r36
  obtain ⟨f37, d37, g37, F37⟩ := r37
  obtain ⟨f38, d38, g38, F38⟩ := r38
  obtain ⟨f39, d39, g39, F39⟩ := r39
  obtain ⟨f40, d40, g40, F40⟩ := r40
  obtain ⟨f41, d41, g41, F41⟩ := r41
  obtain ⟨f42, d42, g42, F42⟩ := r42
  obtain ⟨f43, d43, g43, F43⟩ := r43
  rw [hfa] at g43
  cases g43
  obtain ⟨fM0, dM0, aM0, iM0, FM0⟩ := R.m0
  obtain ⟨fM1, dM1, aM1, iM1, FM1⟩ := R.m1
  obtain ⟨fM2, dM2, aM2, iM2, FM2⟩ := R.m2
  obtain ⟨fM3, dM3, aM3, iM3, FM3⟩ := R.m3
  have b0 := F0.binds (ps := ["value"]) fun _ _ _ _ _ _ us hl => match us, hl with | [_], _ => rfl
  have b1 := F1.binds (ps := ["value"]) fun _ _ _ _ _ _ us hl => match us, hl with | [_], _ => rfl
  have b2 := F2.binds (ps := ["book", "value"]) fun _ _ _ _ _ _ us hl => match us, hl with | [_, _], _ => rfl
  have b3 := F3.binds (ps := ["value"]) fun _ _ _ _ _ _ us hl => match us, hl with | [_], _ => rfl
  have b4 := F4.binds (ps := ["turns"]) fun _ _ _ _ _ _ us hl => match us, hl with | [_], _ => rfl
  have b5 := F5.binds (ps := ["book"]) fun _ _ _ _ _ _ us hl => match us, hl with | [_], _ => rfl
  have b6 := F6.binds (ps := ["desk"]) fun _ _ _ _ _ _ us hl => match us, hl with | [_], _ => rfl
  have b7 := F7.binds (ps := ["desk"]) fun _ _ _ _ _ _ us hl => match us, hl with | [_], _ => rfl
  have b8 := F8.binds (ps := ["desk", "state"]) fun _ _ _ _ _ _ us hl => match us, hl with | [_, _], _ => rfl
  have b9 := F9.binds (ps := ["desk"]) fun _ _ _ _ _ _ us hl => match us, hl with | [_], _ => rfl
  have b10 := F10.binds (ps := ["desk", "state"]) fun _ _ _ _ _ _ us hl => match us, hl with | [_, _], _ => rfl
  have b11 := F11.binds (ps := ["desk", "state"]) fun _ _ _ _ _ _ us hl => match us, hl with | [_, _], _ => rfl
  have b12 := F12.binds (ps := ["desk"]) fun _ _ _ _ _ _ us hl => match us, hl with | [_], _ => rfl
  have b13 := F13.binds (ps := ["desk"]) fun _ _ _ _ _ _ us hl => match us, hl with | [_], _ => rfl
  have b14 := F14.binds (ps := ["_law_script", "_law_at"]) fun _ _ _ _ _ _ us hl => match us, hl with | [_, _], _ => rfl
  have b15 := F15.binds (ps := ["_law_seed", "_law_turn", "_law_at"]) fun _ _ _ _ _ _ us hl => match us, hl with | [_, _, _], _ => rfl
  have b16 := F16.binds (ps := ["_law_purse_here", "_law_many"]) fun _ _ _ _ _ _ us hl => match us, hl with | [_, _], _ => rfl
  have b17 := F17.binds (ps := ["_law_script", "_law_few"]) fun _ _ _ _ _ _ us hl => match us, hl with | [_, _], _ => rfl
  have b18 := F18.binds (ps := ["_law_purse_here", "_law_some"]) fun _ _ _ _ _ _ us hl => match us, hl with | [_, _], _ => rfl
  have b19 := F19.binds (ps := ["_law_purse_here", "_law_some"]) fun _ _ _ _ _ _ us hl => match us, hl with | [_, _], _ => rfl
  have b20 := F20.binds (ps := ["_law_mine", "_law_theirs"]) fun _ _ _ _ _ _ us hl => match us, hl with | [_, _], _ => rfl
  have b21 := F21.binds (ps := ["_law_purse_here"]) fun _ _ _ _ _ _ us hl => match us, hl with | [_], _ => rfl
  have b22 := F22.binds (ps := ["_law_purse_here", "_law_many"]) fun _ _ _ _ _ _ us hl => match us, hl with | [_, _], _ => rfl
  have b23 := F23.binds (ps := ["_law_purse_here"]) fun _ _ _ _ _ _ us hl => match us, hl with | [_], _ => rfl
  have b24 := F24.binds (ps := ["_law_purse_here", "_law_states", "_law_words_here", "_law_at", "_law_top"]) fun _ _ _ _ _ _ us hl => match us, hl with | [_, _, _, _, _], _ => rfl
  have b25 := F25.binds (ps := ["_law_purse_here", "_law_many", "_law_words_here", "_law_top"]) fun _ _ _ _ _ _ us hl => match us, hl with | [_, _, _, _], _ => rfl
  have b26 := F26.binds (ps := ["_law_purse_here", "_law_words_here"]) fun _ _ _ _ _ _ us hl => match us, hl with | [_, _], _ => rfl
  have b27 := F27.binds (ps := ["_law_world_here"]) fun _ _ _ _ _ _ us hl => match us, hl with | [_], _ => rfl
  have b28 := F28.binds (ps := ["_law_world_here"]) fun _ _ _ _ _ _ us hl => match us, hl with | [_], _ => rfl
  have b29 := F29.binds (ps := ["_law_purse_here", "_law_row", "_law_words_here", "_law_states"]) fun _ _ _ _ _ _ us hl => match us, hl with | [_, _, _, _], _ => rfl
  have b30 := F30.binds (ps := ["_law_purse_here", "_law_world_here", "_law_words_here", "_law_times"]) fun _ _ _ _ _ _ us hl => match us, hl with | [_, _, _, _], _ => rfl
  have b31 := F31.binds (ps := ["_law_purse_here", "_law_world_here"]) fun _ _ _ _ _ _ us hl => match us, hl with | [_, _], _ => rfl
  have b32 := F32.binds (ps := ["_law_purse_here", "_law_top"]) fun _ _ _ _ _ _ us hl => match us, hl with | [_, _], _ => rfl
  have b33 := F33.binds (ps := ["_law_row"]) fun _ _ _ _ _ _ us hl => match us, hl with | [_], _ => rfl
  have b34 := F34.binds (ps := ["_law_book"]) fun _ _ _ _ _ _ us hl => match us, hl with | [_], _ => rfl
  have b35 := F35.binds (ps := ["_law_purse_here", "_law_book"]) fun _ _ _ _ _ _ us hl => match us, hl with | [_, _], _ => rfl
  have b36 := F36.binds (ps := ["_law_book"]) fun _ _ _ _ _ _ us hl => match us, hl with | [_], _ => rfl
  have b37 := F37.binds (ps := ["_law_made", "_law_world_here"]) fun _ _ _ _ _ _ us hl => match us, hl with | [_, _], _ => rfl
  have b38 := F38.binds (ps := ["_law_made"]) fun _ _ _ _ _ _ us hl => match us, hl with | [_], _ => rfl
  have b39 := F39.binds (ps := ["_law_purse_here", "_law_world_here"]) fun _ _ _ _ _ _ us hl => match us, hl with | [_, _], _ => rfl
  have b40 := F40.binds (ps := ["_law_world_here"]) fun _ _ _ _ _ _ us hl => match us, hl with | [_], _ => rfl
  have b41 := F41.binds (ps := ["_law_purse_here", "_law_world_here", "_law_words_here"]) fun _ _ _ _ _ _ us hl => match us, hl with | [_, _, _], _ => rfl
  have b42 := F42.binds (ps := ["_law_purse_here", "_law_world_here", "_law_words_here"]) fun _ _ _ _ _ _ us hl => match us, hl with | [_, _, _], _ => rfl
  have bM0 := FM0.binds (ps := ["self", "book", "start"]) fun _ _ _ _ _ _ us hl => match us, hl with | [_, _, _], _ => rfl
  have bM1 := FM1.binds (ps := ["self", "other"]) fun _ _ _ _ _ _ us hl => match us, hl with | [_, _], _ => rfl
  have bM2 := FM2.binds (ps := ["self"]) fun _ _ _ _ _ _ us hl => match us, hl with | [_], _ => rfl
  have bM3 := FM3.binds (ps := ["self"]) fun _ _ _ _ _ _ us hl => match us, hl with | [_], _ => rfl
  refine ⟨d43, bind1 F43 fun _ _ _ _ _ _ _ => rfl, fun base _ _ => ?_⟩
  have T2 := T.toFree2
  have T1 := T2.toFree
  have D := R.txt
  have GD : FnOk P w K mg base CX0 2 f16 d16 ["_law_purse_here", "_law_many"] spDraw := ok_draw F16 T1 F15 b15 g15
  have cDraw : CDraw P w K mg base := ⟨⟨f16, d16, g16, F16.kp, GD, b16⟩⟩
  have cPurses : CPurses P w K mg base := ⟨⟨f17, d17, g17, F17.kp, ok_purses F17 T1 F14 b14 g14, b17⟩⟩
  have cOne : COne P w K mg base := ⟨⟨f18, d18, g18, F18.kp, ok_oneof F18 T1 F16.kp GD b16 g16, b18⟩⟩
  have cWord : CWord P w K mg base := ⟨⟨f21, d21, g21, F21.kp, ok_word F21 T1 F16.kp GD b16 g16, b21⟩⟩
  have cShuf : CShuf P w K mg base := ⟨⟨f19, d19, g19, F19.kp, ok_shuf F19 T1 F16.kp GD b16 g16, b19⟩⟩
  have cWords : CWords P w K mg base := ⟨⟨f22, d22, g22, F22.kp, ok_words F22 T2 cDraw cWord, b22⟩⟩
  have cPool : CPool P w K mg base := ⟨⟨f23, d23, g23, F23.kp, ok_pool F23 T2 cDraw cWords cShuf, b23⟩⟩
  have cTurns : CTurns P w K mg base := ⟨⟨f24, d24, g24, F24.kp, ok_turns F24 T2 cDraw cOne cShuf, b24⟩⟩
  have cWorld : CWorld P w K mg base := ⟨⟨f25, d25, g25, F25.kp, ok_world F25 T2 cDraw cWords cShuf cTurns, b25⟩⟩
  have cShape : CShape P w K mg base := ⟨⟨f26, d26, g26, F26.kp, ok_shape F26 T2 cDraw cWords, b26⟩⟩
  have cRow : CRow P w K mg base := ⟨⟨f32, d32, g32, F32.kp, ok_row F32 T2 cDraw cPool cWorld cShape, b32⟩⟩
  have cIsName : CIsName P w K mg base := ⟨⟨f0, d0, g0, F0.kp, ok_isname F0 T, b0⟩⟩
  have cIsState : CIsState P w K mg base := ⟨⟨f2, d2, g2, F2.kp, ok_isstate F2 T, b2⟩⟩
  have cIsRow : CIsRow P w K mg base := ⟨⟨f1, d1, g1, F1.kp, ok_isrow F1 T cIsName, b1⟩⟩
  have cOrdT : COrdT P w K mg base := ⟨⟨f4, d4, g4, F4.kp, ok_ordT F4 T, b4⟩⟩
  have cOrdB : COrdB P w K mg base := ⟨⟨f5, d5, g5, F5.kp, ok_ordB F5 T cOrdT, b5⟩⟩
  have cIsBook : CIsBook P w K mg base := ⟨⟨f3, d3, g3, F3.kp, ok_isbook F3 T cIsName cIsRow, b3⟩⟩
  have gI := ok_dinit FM0 D cIsBook cIsState cOrdB (P := P) (w := w) (base := base)
  have MI : CMInit P w K mg base C := ⟨fM0, dM0, ⟨R.mkD, aM0, iM0, R.kp⟩, gI, bM0⟩
  have KMI : KMInit P w K mg base C := ⟨fM0, dM0, _, ⟨R.mkD, aM0, iM0, R.kp⟩, gI, kbI FM0⟩
  have EV : Gd.EqV P w K mg base C := ⟨⟨fM1, dM1, _, Gd.ok_deqV FM1 T D R.ins, bM1, aM1, iM1, nf C fM1 D.mgC aM1⟩, no C D.mgC⟩
  have MB : CMBook P w K mg base C := ⟨⟨fM2, dM2, ⟨aM2, iM2, FM2.kp⟩, ok_dbook FM2 D cOrdB, bM2⟩⟩
  have MS : CMStart P w K mg base C := ⟨⟨fM3, dM3, ⟨aM3, iM3, FM3.kp⟩, ok_dstart FM3 D, bM3⟩⟩
  have cNeed : CNeed P w K mg base C := ⟨⟨f6, d6, g6, F6.kp, ok_need F6 T D R.ins, b6⟩⟩
  have cGraph : CGraph P w K mg base C := ⟨⟨f7, d7, g7, F7.kp, ok_graph F7 D MB, b7⟩⟩
  have cBookW : CBookWith P w K mg base C := ⟨⟨f8, d8, g8, F8.kp, ok_bookwith F8 D MB cNeed cIsState, b8⟩⟩
  have GcStates := (ok_states F9 T D MB cNeed : FnOk P w K mg base CX0 _ f9 d9 ["desk"] _)
  have cStates : CStates P w K mg base C := ⟨⟨f9, d9, g9, F9.kp, GcStates, b9⟩⟩
  have kStates : KStates P w K mg base C := ⟨⟨f9, d9, _, g9, F9.kp, GcStates, kb1 F9 (fun _ _ _ _ _ _ _ => rfl) (fun _ _ _ _ _ _ _ => rfl)⟩⟩
  have GcKind := (ok_kind F10 cBookW : FnOk P w K mg base CX0 _ f10 d10 ["desk", "state"] _)
  have cKind : CKindOf P w K mg base C := ⟨⟨f10, d10, g10, F10.kp, GcKind, b10⟩⟩
  have kKind : KKindOf P w K mg base C := ⟨⟨f10, d10, _, g10, F10.kp, GcKind, kb2 F10 (fun _ _ _ _ _ _ _ _ => rfl) (fun _ _ _ _ _ _ _ _ => rfl) (fun _ _ _ _ _ _ _ _ => rfl)⟩⟩
  have GcTurnsOf := (ok_turnsof F11 cBookW : FnOk P w K mg base CX0 _ f11 d11 ["desk", "state"] _)
  have cTurnsOf : CTurnsOf P w K mg base C := ⟨⟨f11, d11, g11, F11.kp, GcTurnsOf, b11⟩⟩
  have kTurnsOf : KTurnsOf P w K mg base C := ⟨⟨f11, d11, _, g11, F11.kp, GcTurnsOf, kb2 F11 (fun _ _ _ _ _ _ _ _ => rfl) (fun _ _ _ _ _ _ _ _ => rfl) (fun _ _ _ _ _ _ _ _ => rfl)⟩⟩
  have GcWordsOf := (ok_wordsof F12 T cNeed cGraph : FnOk P w K mg base CX0 _ f12 d12 ["desk"] _)
  have cWordsOf : CWordsOf P w K mg base C := ⟨⟨f12, d12, g12, F12.kp, GcWordsOf, b12⟩⟩
  have kWordsOf : KWordsOf P w K mg base C := ⟨⟨f12, d12, _, g12, F12.kp, GcWordsOf, kb1 F12 (fun _ _ _ _ _ _ _ => rfl) (fun _ _ _ _ _ _ _ => rfl)⟩⟩
  have cTurned : CTurned P w K mg base C := ⟨⟨f13, d13, g13, F13.kp, ok_turned F13 D U cNeed MB MS MI, b13⟩⟩
  have cE : CExact P w K mg base 5 := ⟨⟨f20, d20, g20, F20.kp, ok_exact F20 T g20 b20 5, b20⟩⟩
  have cLDesk : CLDesk P w K mg base C := ⟨⟨f27, d27, g27, F27.kp, ok_ldesk F27 T D MI, b27⟩⟩
  have cLTurned : CLTurned P w K mg base := ⟨⟨f28, d28, g28, F28.kp, ok_lturned F28 T, b28⟩⟩
  have cChRow : CChRow P w K mg base := ⟨⟨f29, d29, g29, F29.kp, ok_chrow F29 T cDraw cOne, b29⟩⟩
  have cNewer : CNewer P w K mg base := ⟨⟨f30, d30, g30, F30.kp, ok_newer F30 T cOne cChRow, b30⟩⟩
  have cSaid : CSaid P w K mg base := ⟨⟨f31, d31, g31, F31.kp, ok_said F31 T cDraw cShuf, b31⟩⟩
  have cRowOrd : CRowOrd P w K mg base := ⟨⟨f33, d33, g33, F33.kp, ok_roword F33 T, b33⟩⟩
  have cOrdered : COrdered P w K mg base := ⟨⟨f34, d34, g34, F34.kp, ok_ordered F34 T cRowOrd, b34⟩⟩
  have cMixed : CMixed2 P w K mg base := ⟨⟨f35, d35, g35, F35.kp, ok_mixed2 F35 T cShuf, b35⟩⟩
  have cAllW : CAllW P w K mg base := ⟨⟨f36, d36, g36, F36.kp, ok_allw F36 T, b36⟩⟩
  have cDeskR : CDeskR P w K mg base C := ⟨⟨f37, d37, g37, F37.kp, ok_deskr F37 T D cE cOrdered MB MS cStates cWordsOf cAllW cKind cTurnsOf, b37⟩⟩
  have cSpoilt : CSpoilt P w K mg base C := ⟨⟨f38, d38, g38, F38.kp, ok_spoilt F38 T D MB cStates cWordsOf cTurnsOf, b38⟩⟩
  have cLent : CLent P w K mg base := ⟨⟨f39, d39, g39, F39.kp, ok_lent F39 T D MI EV cMixed cOne cDeskR cLDesk, b39⟩⟩
  have cGrown : CGrown P w K mg base := ⟨⟨f40, d40, g40, F40.kp, ok_grown F40 T D MI cDeskR, b40⟩⟩
  have cOthers : COthers P w K mg base := ⟨⟨f41, d41, g41, F41.kp, ok_others F41 T cNewer cLTurned cSaid, b41⟩⟩
  have cCompR : CCompR P w K mg base := ⟨⟨f42, d42, g42, F42.kp, ok_compr F42 T D MI EV cLDesk cOthers cMixed cE, b42⟩⟩
  exact ok_law F43 T mr D MI KMI EV MB cPurses cRow cMixed cDeskR cSpoilt cTurned kKind kTurnsOf kStates kWordsOf cAllW cLent cCompR cGrown cWordsOf
end
/-- what the head asks -/
theorem law_walk {l : PySem.W.OpenLaw} {q : Program} {loose : List Str} {XP : (Str → Option Value) → Heap → Prop} {YP : World → Heap → Prop} {d : DefRec} {K : Params → PySem.W.Frag} (hn : l.most = some 63) (hdf : d.params.defaults = []) (hY : ∀ (w : World) (h : Heap), YP w h → (K w.params).In h)
    (F : ∀ (w : World) (mg : Str → Option Value) (fa : Addr) (h : Heap), (K w.params).In h → h.Ns mainGlobals mg → mg d.name = some (.ref fa) →
      ∃ fd : FuncData, (∀ (s : Shared) (u : Value), BindsTo s fd ⟨[u], []⟩ [("_law_script", u)]) ∧ ∀ base : Heap, (K w.params).In base → base.Ns mainGlobals mg → Gd.FnG l.prog w (K w.params) mg base 10 fa fd ["_law_script"] (spLaw (K w.params))) :
    PySem.W.WalkO q loose XP YP l.row.toRowW d [] (fun f vs => PySem.call f vs) :=
  L2.Gd.walk_ofG (n := 63) (k := 10) (x := "_law_script") (sp := fun w => spLaw (K w.params)) hn (by decide) hdf ⟨rfl, by decide, by decide⟩ hY F (fun _ _ a ns hl _ hS => ⟨a, ns, rfl, hS, hl, fun _ => rfl⟩)
end D1
end L2
open PySem PySem.W PyProof.Rows in
set_option maxRecDepth 100000 in
set_option maxHeartbeats 0 in
theorem PySem.Challenge.cw_endswell_k02_desks_kept_and_compared_holds : PySem.Challenge.rw_endswell_k02_desks_kept_and_compared.Holds :=
  head (by
  k_fill
  refine L2.D1.law_walk (l := PySem.Challenge.rw_endswell_k02_desks_kept_and_compared) rfl rfl (fun w h Y => PySem.W.kIn_of Y) ?F
  intro w mg fa h KX G hmg
  have f0 : L2.D1.RowF (L2.KOf KX) mg "is_name" L2.D1.sIsName := by
    dsimp only [L2.KOf]
    refine' L2.D1.rowF KX G ?a ?l ?c ?k
    (case a => k_is)
    (case l => k_is)
    (case c => k_is)
    (case k => k_is)
  have f1 : L2.D1.RowF (L2.KOf KX) mg "is_row" L2.D1.sIsRow := by
    dsimp only [L2.KOf]
    refine' L2.D1.rowF KX G ?a ?l ?c ?k
    (case a => k_is)
    (case l => k_is)
    (case c => k_is)
    (case k => k_is)
  have f2 : L2.D1.RowF (L2.KOf KX) mg "is_state_of" L2.D1.sIsState := by
    dsimp only [L2.KOf]
    refine' L2.D1.rowF KX G ?a ?l ?c ?k
    (case a => k_is)
    (case l => k_is)
    (case c => k_is)
    (case k => k_is)
  have f3 : L2.D1.RowF (L2.KOf KX) mg "is_book" L2.D1.sIsBook := by
    dsimp only [L2.KOf]
    refine' L2.D1.rowF KX G ?a ?l ?c ?k
    (case a => k_is)
    (case l => k_is)
    (case c => k_is)
    (case k => k_is)
  have f4 : L2.D1.RowF (L2.KOf KX) mg "ordered_turns" L2.D1.sOrdT := by
    dsimp only [L2.KOf]
    refine' L2.D1.rowF KX G ?a ?l ?c ?k
    (case a => k_is)
    (case l => k_is)
    (case c => k_is)
    (case k => k_is)
  have f5 : L2.D1.RowF (L2.KOf KX) mg "ordered_book" L2.D1.sOrdB := by
    dsimp only [L2.KOf]
    refine' L2.D1.rowF KX G ?a ?l ?c ?k
    (case a => k_is)
    (case l => k_is)
    (case c => k_is)
    (case k => k_is)
  have f6 : L2.D1.RowF (L2.KOf KX) mg "need_desk" L2.D1.sNeed := by
    dsimp only [L2.KOf]
    refine' L2.D1.rowF KX G ?a ?l ?c ?k
    (case a => k_is)
    (case l => k_is)
    (case c => k_is)
    (case k => k_is)
  have f7 : L2.D1.RowF (L2.KOf KX) mg "graph_of" L2.D1.sGraph := by
    dsimp only [L2.KOf]
    refine' L2.D1.rowF KX G ?a ?l ?c ?k
    (case a => k_is)
    (case l => k_is)
    (case c => k_is)
    (case k => k_is)
  have f8 : L2.D1.RowF (L2.KOf KX) mg "book_with" L2.D2.sBookWith := by
    dsimp only [L2.KOf]
    refine' L2.D1.rowF KX G ?a ?l ?c ?k
    (case a => k_is)
    (case l => k_is)
    (case c => k_is)
    (case k => k_is)
  have f9 : L2.D1.RowF (L2.KOf KX) mg "states_of" L2.D2.sStates := by
    dsimp only [L2.KOf]
    refine' L2.D1.rowF KX G ?a ?l ?c ?k
    (case a => k_is)
    (case l => k_is)
    (case c => k_is)
    (case k => k_is)
  have f10 : L2.D1.RowF (L2.KOf KX) mg "kind_of" L2.D2.sKind := by
    dsimp only [L2.KOf]
    refine' L2.D1.rowF KX G ?a ?l ?c ?k
    (case a => k_is)
    (case l => k_is)
    (case c => k_is)
    (case k => k_is)
  have f11 : L2.D1.RowF (L2.KOf KX) mg "turns_of" L2.D2.sTurnsOf := by
    dsimp only [L2.KOf]
    refine' L2.D1.rowF KX G ?a ?l ?c ?k
    (case a => k_is)
    (case l => k_is)
    (case c => k_is)
    (case k => k_is)
  have f12 : L2.D1.RowF (L2.KOf KX) mg "words_of" L2.D2.sWordsOf := by
    dsimp only [L2.KOf]
    refine' L2.D1.rowF KX G ?a ?l ?c ?k
    (case a => k_is)
    (case l => k_is)
    (case c => k_is)
    (case k => k_is)
  have f13 : L2.D1.RowF (L2.KOf KX) mg "turned" L2.D1.sTurned := by
    dsimp only [L2.KOf]
    refine' L2.D1.rowF KX G ?a ?l ?c ?k
    (case a => k_is)
    (case l => k_is)
    (case c => k_is)
    (case k => k_is)
  have f14 : L2.D1.RowF (L2.KOf KX) mg "_law_purse" L2.D1.sPurse := by
    dsimp only [L2.KOf]
    refine' L2.D1.rowF KX G ?a ?l ?c ?k
    (case a => k_is)
    (case l => k_is)
    (case c => k_is)
    (case k => k_is)
  have f15 : L2.D1.RowF (L2.KOf KX) mg "_law_mixed" L2.D1.sMixed := by
    dsimp only [L2.KOf]
    refine' L2.D1.rowF KX G ?a ?l ?c ?k
    (case a => k_is)
    (case l => k_is)
    (case c => k_is)
    (case k => k_is)
  have f16 : L2.D1.RowF (L2.KOf KX) mg "_law_draw" L2.D1.sDraw := by
    dsimp only [L2.KOf]
    refine' L2.D1.rowF KX G ?a ?l ?c ?k
    (case a => k_is)
    (case l => k_is)
    (case c => k_is)
    (case k => k_is)
  have f17 : L2.D1.RowF (L2.KOf KX) mg "_law_purses" L2.D1.sPurses := by
    dsimp only [L2.KOf]
    refine' L2.D1.rowF KX G ?a ?l ?c ?k
    (case a => k_is)
    (case l => k_is)
    (case c => k_is)
    (case k => k_is)
  have f18 : L2.D1.RowF (L2.KOf KX) mg "_law_one_of" L2.D1.sOneOf := by
    dsimp only [L2.KOf]
    refine' L2.D1.rowF KX G ?a ?l ?c ?k
    (case a => k_is)
    (case l => k_is)
    (case c => k_is)
    (case k => k_is)
  have f19 : L2.D1.RowF (L2.KOf KX) mg "_law_shuffled" L2.D1.sShuf := by
    dsimp only [L2.KOf]
    refine' L2.D1.rowF KX G ?a ?l ?c ?k
    (case a => k_is)
    (case l => k_is)
    (case c => k_is)
    (case k => k_is)
  have f20 : L2.D1.RowF (L2.KOf KX) mg "_law_exact" L2.D1.sExact := by
    dsimp only [L2.KOf]
    refine' L2.D1.rowF KX G ?a ?l ?c ?k
    (case a => k_is)
    (case l => k_is)
    (case c => k_is)
    (case k => k_is)
  have f21 : L2.D1.RowF (L2.KOf KX) mg "_law_word" L2.D1.sWord := by
    dsimp only [L2.KOf]
    refine' L2.D1.rowF KX G ?a ?l ?c ?k
    (case a => k_is)
    (case l => k_is)
    (case c => k_is)
    (case k => k_is)
  have f22 : L2.D1.RowF (L2.KOf KX) mg "_law_words" L2.D1.sWords := by
    dsimp only [L2.KOf]
    refine' L2.D1.rowF KX G ?a ?l ?c ?k
    (case a => k_is)
    (case l => k_is)
    (case c => k_is)
    (case k => k_is)
  have f23 : L2.D1.RowF (L2.KOf KX) mg "_law_pool" L2.D1.sPool := by
    dsimp only [L2.KOf]
    refine' L2.D1.rowF KX G ?a ?l ?c ?k
    (case a => k_is)
    (case l => k_is)
    (case c => k_is)
    (case k => k_is)
  have f24 : L2.D1.RowF (L2.KOf KX) mg "_law_turns" L2.D1.sTurns := by
    dsimp only [L2.KOf]
    refine' L2.D1.rowF KX G ?a ?l ?c ?k
    (case a => k_is)
    (case l => k_is)
    (case c => k_is)
    (case k => k_is)
  have f25 : L2.D1.RowF (L2.KOf KX) mg "_law_world" L2.D1.sWorld := by
    dsimp only [L2.KOf]
    refine' L2.D1.rowF KX G ?a ?l ?c ?k
    (case a => k_is)
    (case l => k_is)
    (case c => k_is)
    (case k => k_is)
  have f26 : L2.D1.RowF (L2.KOf KX) mg "_law_shape" L2.D1.sShape := by
    dsimp only [L2.KOf]
    refine' L2.D1.rowF KX G ?a ?l ?c ?k
    (case a => k_is)
    (case l => k_is)
    (case c => k_is)
    (case k => k_is)
  have f27 : L2.D1.RowF (L2.KOf KX) mg "_law_desk" L2.D1.sLDesk := by
    dsimp only [L2.KOf]
    refine' L2.D1.rowF KX G ?a ?l ?c ?k
    (case a => k_is)
    (case l => k_is)
    (case c => k_is)
    (case k => k_is)
  have f28 : L2.D1.RowF (L2.KOf KX) mg "_law_turned" L2.D1.sLTurned := by
    dsimp only [L2.KOf]
    refine' L2.D1.rowF KX G ?a ?l ?c ?k
    (case a => k_is)
    (case l => k_is)
    (case c => k_is)
    (case k => k_is)
  have f29 : L2.D1.RowF (L2.KOf KX) mg "_law_changed_row" L2.D1.sChRow := by
    dsimp only [L2.KOf]
    refine' L2.D1.rowF KX G ?a ?l ?c ?k
    (case a => k_is)
    (case l => k_is)
    (case c => k_is)
    (case k => k_is)
  have f30 : L2.D1.RowF (L2.KOf KX) mg "_law_newer" L2.D1.sNewer := by
    dsimp only [L2.KOf]
    refine' L2.D1.rowF KX G ?a ?l ?c ?k
    (case a => k_is)
    (case l => k_is)
    (case c => k_is)
    (case k => k_is)
  have f31 : L2.D1.RowF (L2.KOf KX) mg "_law_said_fewer" L2.D1.sSaid := by
    dsimp only [L2.KOf]
    refine' L2.D1.rowF KX G ?a ?l ?c ?k
    (case a => k_is)
    (case l => k_is)
    (case c => k_is)
    (case k => k_is)
  have f32 : L2.D1.RowF (L2.KOf KX) mg "_law_row_of" L2.D1.sRowOf := by
    dsimp only [L2.KOf]
    refine' L2.D1.rowF KX G ?a ?l ?c ?k
    (case a => k_is)
    (case l => k_is)
    (case c => k_is)
    (case k => k_is)
  have f33 : L2.D1.RowF (L2.KOf KX) mg "_law_row_ordered" L2.D1.sRowOrd := by
    dsimp only [L2.KOf]
    refine' L2.D1.rowF KX G ?a ?l ?c ?k
    (case a => k_is)
    (case l => k_is)
    (case c => k_is)
    (case k => k_is)
  have f34 : L2.D1.RowF (L2.KOf KX) mg "_law_ordered" L2.D1.sOrdered := by
    dsimp only [L2.KOf]
    refine' L2.D1.rowF KX G ?a ?l ?c ?k
    (case a => k_is)
    (case l => k_is)
    (case c => k_is)
    (case k => k_is)
  have f35 : L2.D1.RowF (L2.KOf KX) mg "_law_mixed_up" L2.D1.sMixed2 := by
    dsimp only [L2.KOf]
    refine' L2.D1.rowF KX G ?a ?l ?c ?k
    (case a => k_is)
    (case l => k_is)
    (case c => k_is)
    (case k => k_is)
  have f36 : L2.D1.RowF (L2.KOf KX) mg "_law_all_words" L2.D1.sAllW := by
    dsimp only [L2.KOf]
    refine' L2.D1.rowF KX G ?a ?l ?c ?k
    (case a => k_is)
    (case l => k_is)
    (case c => k_is)
    (case k => k_is)
  have f37 : L2.D1.RowF (L2.KOf KX) mg "_law_desk_right" L2.D1.sDeskR := by
    dsimp only [L2.KOf]
    refine' L2.D1.rowF KX G ?a ?l ?c ?k
    (case a => k_is)
    (case l => k_is)
    (case c => k_is)
    (case k => k_is)
  have f38 : L2.D1.RowF (L2.KOf KX) mg "_law_spoilt" L2.D1.sSpoilt := by
    dsimp only [L2.KOf]
    refine' L2.D1.rowF KX G ?a ?l ?c ?k
    (case a => k_is)
    (case l => k_is)
    (case c => k_is)
    (case k => k_is)
  have f39 : L2.D1.RowF (L2.KOf KX) mg "_law_lent_right" L2.D1.sLent := by
    dsimp only [L2.KOf]
    refine' L2.D1.rowF KX G ?a ?l ?c ?k
    (case a => k_is)
    (case l => k_is)
    (case c => k_is)
    (case k => k_is)
  have f40 : L2.D1.RowF (L2.KOf KX) mg "_law_grown_right" L2.D1.sGrown := by
    dsimp only [L2.KOf]
    refine' L2.D1.rowF KX G ?a ?l ?c ?k
    (case a => k_is)
    (case l => k_is)
    (case c => k_is)
    (case k => k_is)
  have f41 : L2.D1.RowF (L2.KOf KX) mg "_law_others" L2.D1.sOthers := by
    dsimp only [L2.KOf]
    refine' L2.D1.rowF KX G ?a ?l ?c ?k
    (case a => k_is)
    (case l => k_is)
    (case c => k_is)
    (case k => k_is)
  have f42 : L2.D1.RowF (L2.KOf KX) mg "_law_compared_right" L2.D1.sCompR := by
    dsimp only [L2.KOf]
    refine' L2.D1.rowF KX G ?a ?l ?c ?k
    (case a => k_is)
    (case l => k_is)
    (case c => k_is)
    (case k => k_is)
  have f43 : L2.D1.RowF (L2.KOf KX) mg "law" L2.D1.sLaw := by
    dsimp only [L2.KOf]
    refine' L2.D1.rowF KX G ?a ?l ?c ?k
    (case a => k_is)
    (case l => k_is)
    (case c => k_is)
    (case k => k_is)
  have dr : ∃ C, L2.D1.DeskRow (L2.KOf KX) mg C := by
    dsimp only [L2.KOf]
    refine' L2.D1.deskRow KX G ?aC ?pg ?hd ?po ?sa ?nB ?nS ?ca ?gs ?ss ?mo ?mk ?kp ?m0 ?m1 ?m2 ?m3
    (case aC => k_is)
    (case pg => k_is)
    (case hd => k_is)
    (case po => k_is)
    (case sa => k_is)
    (case nB => k_is)
    (case nS => k_is)
    (case ca => k_is)
    (case gs => k_is)
    (case ss => k_is)
    (case mo => k_is)
    (case mk => k_is)
    (case kp => k_is)
    (case m0 => refine' L2.D1.rowM KX ?a ?i ?l ?c ?k; (case a => k_is); (case i => k_is); (case l => k_is); (case c => k_is); (case k => k_is))
    (case m1 => refine' L2.D1.rowM KX ?a ?i ?l ?c ?k; (case a => k_is); (case i => k_is); (case l => k_is); (case c => k_is); (case k => k_is))
    (case m2 => refine' L2.D1.rowM KX ?a ?i ?l ?c ?k; (case a => k_is); (case i => k_is); (case l => k_is); (case c => k_is); (case k => k_is))
    (case m3 => refine' L2.D1.rowM KX ?a ?i ?l ?c ?k; (case a => k_is); (case i => k_is); (case l => k_is); (case c => k_is); (case k => k_is))
  have nf : ∀ C f, mg "Desk" = some (.ref C) → PySem.W.findIn (L2.KOf KX) (.ref C) "__eq__" = some (some (.ref f)) → L2.D2.NeF (L2.KOf KX) C f := by
    dsimp only [L2.KOf]
    refine' L2.D1.neRow KX G ?aC ?a1 ?l ?lN ?hk ?e1 ?e2 ?lI ?tI
    (case aC => k_is)
    (case a1 => k_is)
    (case l => k_is)
    (case lN => k_is)
    (case e1 => k_is)
    (case e2 => k_is)
    (case lI => k_is)
    (case tI => rfl)
    (case hk => repeat (first | exact True.intro | refine And.intro (Exists.intro _ (Exists.intro _ rfl)) ?_))
  have U : L2.D1.TuT (L2.KOf KX) w mg := by
    dsimp only [L2.KOf]
    refine' L2.D1.tuRow KX G ?aT ?l ?lit ?low ?u1 ?u2 ?u3
    (case aT => k_is)
    (case l => k_is)
    (case u1 => k_is)
    (case u2 => k_is)
    (case u3 => k_is)
    (case low => rfl)
    (case lit => repeat (first | exact True.intro | refine And.intro (Exists.intro _ (Exists.intro _ (And.intro rfl rfl))) ?_))
  have T : L2.D1.Free3 mg := ⟨⟨⟨PySem.W.mg_none_of KX G (by k_is), PySem.W.mg_none_of KX G (by k_is), PySem.W.mg_none_of KX G (by k_is), PySem.W.mg_none_of KX G (by k_is), PySem.W.mg_none_of KX G (by k_is), PySem.W.mg_none_of KX G (by k_is), PySem.W.mg_none_of KX G (by k_is), PySem.W.mg_none_of KX G (by k_is), PySem.W.mg_none_of KX G (by k_is)⟩, PySem.W.mg_none_of KX G (by k_is), PySem.W.mg_none_of KX G (by k_is), PySem.W.mg_none_of KX G (by k_is), PySem.W.mg_none_of KX G (by k_is), PySem.W.mg_none_of KX G (by k_is), PySem.W.mg_none_of KX G (by k_is), PySem.W.mg_none_of KX G (by k_is)⟩, ⟨_, PySem.W.mg_of KX G (by k_is)⟩, ⟨_, PySem.W.mg_of KX G (by k_is)⟩⟩
  have mr : mg "repr" = none := PySem.W.mg_none_of KX G (by k_is)
  have no : ∀ C, mg "Desk" = some (.ref C) → L2.Gd.NoK (L2.KOf KX) C := by
    dsimp only [L2.KOf]
    refine' L2.D1.noRow KX G ?aC ?k0 ?s0 ?b0 ?k1 ?s1 ?b1 ?k2 ?s2 ?b2 ?k3 ?s3 ?b3 ?k4 ?s4 ?b4 ?k5 ?s5 ?b5 ?k6 ?s6 ?b6
    (case aC => k_is)
    (case s0 => k_is)
    (case b0 => k_is)
    (case s1 => k_is)
    (case b1 => k_is)
    (case s2 => k_is)
    (case b2 => k_is)
    (case s3 => k_is)
    (case b3 => k_is)
    (case s4 => k_is)
    (case b4 => k_is)
    (case s5 => k_is)
    (case b5 => k_is)
    (case s6 => k_is)
    (case b6 => k_is)
    (case k0 => kit_is)
    (case k1 => kit_is)
    (case k2 => kit_is)
    (case k3 => kit_is)
    (case k4 => kit_is)
    (case k5 => kit_is)
    (case k6 => kit_is)
  exact L2.D1.law_of hmg T mr no dr nf U f0 f1 f2 f3 f4 f5 f6 f7 f8 f9 f10 f11 f12 f13 f14 f15 f16 f17 f18 f19 f20 f21 f22 f23 f24 f25 f26 f27 f28 f29 f30 f31 f32 f33 f34 f35 f36 f37 f38 f39 f40 f41 f42 f43)
